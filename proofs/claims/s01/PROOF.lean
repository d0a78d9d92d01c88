import PyProof.Rows.All
import Wide.All
import OpenK.AllK
import Wide.FinOn
import PyProof.EqAt
import PyProof.EqKinds
import PyProof.TupleCall
import Open.SpecLaws
import KE.OsHead
import KE.OsGo
import HandS.ForSpec
import HandS.Comp
import HandS.Wide
import HandS.Dict
import HandS.More
import HandS.Zip
import HandS.CallLocal
import HandS.SetFor
import PySem.Challenge.RW_wallmarks_s01_answers
set_option Elab.async false
set_option maxRecDepth 100000
set_option maxHeartbeats 4000000
/-! ### Abstract data: what a value stands for, while the heap only grows -/
namespace WM
open PySem PySem.Spec PyProof.Rows L2
/-- what a value may stand for -/
inductive D where
  | non
  | bl (b : Bool)
  | int (i : Int)
  | ref (a : Addr)
  | lst (ds : List D)
  | obj (c : Nat) (fs : List (Str × D))
mutual
/-- the value v stands for d in the heap H; T tells the classes' places -/
inductive Is (T : Nat → Addr) (H : Hp) : D → V → Prop
  | non : Is T H .non .non
  | bl (b : Bool) : Is T H (.bl b) (.bl b)
  | int (i : Int) : Is T H (.int i) (.int i)
  | ref (a : Addr) : Is T H (.ref a) (.ref a)
  | lst {a : Addr} {ds : List D} {vs : List V} : H a = some (.lst vs) → IsL T H ds vs → Is T H (.lst ds) (.ref a)
  | obj {c : Nat} {a dx : Addr} {fs : List (Str × D)} {vs : List (Str × V)} : H a = some (.ins (T c) dx vs) → IsF T H fs vs → Is T H (.obj c fs) (.ref a)
inductive IsL (T : Nat → Addr) (H : Hp) : List D → List V → Prop
  | nil : IsL T H [] []
  | cons {d : D} {v : V} {ds : List D} {vs : List V} : Is T H d v → IsL T H ds vs → IsL T H (d :: ds) (v :: vs)
inductive IsF (T : Nat → Addr) (H : Hp) : List (Str × D) → List (Str × V) → Prop
  | nil : IsF T H [] []
  | cons {f : Str} {d : D} {v : V} {ds : List (Str × D)} {vs : List (Str × V)} : Is T H d v → IsF T H ds vs → IsF T H ((f, d) :: ds) ((f, v) :: vs)
end
theorem same_new {H : Hp} {p : Addr} {o : HO} (h : H p = none) : Same H (upd H p o) := fun b u z => by
  rw [upd_ne (ne_of_none z h)]
  exact z
section
variable {T : Nat → Addr} {H H' : Hp}
mutual
theorem Is.mono (s : Same H H') : ∀ {d : D} {v : V}, Is T H d v → Is T H' d v
  | _, _, .non => .non
  | _, _, .bl b => .bl b
  | _, _, .int i => .int i
  | _, _, .ref a => .ref a
  | _, _, .lst h l => .lst (s _ _ h) (IsL.mono s l)
  | _, _, .obj h l => .obj (s _ _ h) (IsF.mono s l)
theorem IsL.mono (s : Same H H') : ∀ {ds : List D} {vs : List V}, IsL T H ds vs → IsL T H' ds vs
  | _, _, .nil => .nil
  | _, _, .cons h l => .cons (Is.mono s h) (IsL.mono s l)
theorem IsF.mono (s : Same H H') : ∀ {ds : List (Str × D)} {vs : List (Str × V)}, IsF T H ds vs → IsF T H' ds vs
  | _, _, .nil => .nil
  | _, _, .cons h l => .cons (Is.mono s h) (IsF.mono s l)
end
theorem IsL.length : ∀ {ds : List D} {vs : List V}, IsL T H ds vs → vs.length = ds.length
  | _, _, .nil => rfl
  | _, _, .cons _ l => congrArg (· + 1) (IsL.length l)
theorem IsL.get : ∀ {ds : List D} {vs : List V}, IsL T H ds vs → ∀ {i : Nat} {d : D}, ds[i]? = some d → ∃ v, vs[i]? = some v ∧ Is T H d v
  | _, _, .nil, i, d, h => by simp at h
  | _, _, .cons h _, 0, d, e => by
    have e' : _ = d := Option.some.inj e
    subst e'
    exact ⟨_, rfl, h⟩
  | _, _, .cons _ l, i + 1, d, e => IsL.get l (i := i) e
theorem IsL.of : ∀ {ds : List D} {vs : List V}, IsL T H ds vs → ∀ {i : Nat} {v : V}, vs[i]? = some v → ∃ d, ds[i]? = some d ∧ Is T H d v
  | _, _, .nil, i, d, h => by simp at h
  | _, _, .cons h _, 0, d, e => by
    have e' : _ = d := Option.some.inj e
    subst e'
    exact ⟨_, rfl, h⟩
  | _, _, .cons _ l, i + 1, d, e => IsL.of l (i := i) e
theorem IsL.app : ∀ {ds es : List D} {vs us : List V}, IsL T H ds vs → IsL T H es us → IsL T H (ds ++ es) (vs ++ us)
  | _, _, _, _, .nil, m => m
  | _, _, _, _, .cons h l, m => .cons h (IsL.app l m)
theorem IsL.drop : ∀ {ds : List D} {vs : List V} (n : Nat), IsL T H ds vs → IsL T H (ds.drop n) (vs.drop n)
  | _, _, 0, l => by
    rw [List.drop_zero, List.drop_zero]
    exact l
  | _, _, n + 1, .nil => by
    rw [List.drop_nil, List.drop_nil]
    exact .nil
  | _, _, n + 1, .cons _ l => IsL.drop n l
theorem IsL.take : ∀ {ds : List D} {vs : List V} (n : Nat), IsL T H ds vs → IsL T H (ds.take n) (vs.take n)
  | _, _, 0, l => by
    rw [List.take_zero, List.take_zero]
    exact .nil
  | _, _, n + 1, .nil => by
    rw [List.take_nil, List.take_nil]
    exact .nil
  | _, _, n + 1, .cons h l => .cons h (IsL.take n l)
theorem IsL.erase : ∀ {ds : List D} {vs : List V} (n : Nat), IsL T H ds vs → IsL T H (ds.eraseIdx n) (vs.eraseIdx n)
  | _, _, _, .nil => .nil
  | _, _, 0, .cons _ l => l
  | _, _, n + 1, .cons h l => .cons h (IsL.erase n l)
theorem IsF.some : ∀ {ds : List (Str × D)} {vs : List (Str × V)}, IsF T H ds vs → ∀ {f : Str} {d : D}, ds.lookup f = some d → ∃ v, vs.lookup f = some v ∧ Is T H d v
  | _, _, .nil, f, d, h => by simp at h
  | _, _, .cons (f := g) h l, f, d, e => by
    unfold List.lookup at e ⊢
    cases q : f == g with
    | true =>
      rw [q] at e
      have e' : _ = d := Option.some.inj e
      subst e'
      exact ⟨_, rfl, h⟩
    | false =>
      rw [q] at e
      exact IsF.some l e
theorem IsF.none : ∀ {ds : List (Str × D)} {vs : List (Str × V)}, IsF T H ds vs → ∀ {f : Str}, ds.lookup f = none → vs.lookup f = none
  | _, _, .nil, f, h => rfl
  | _, _, .cons (f := g) h l, f, e => by
    unfold List.lookup at e ⊢
    cases q : f == g with
    | true =>
      rw [q] at e
      cases e
    | false =>
      rw [q] at e
      exact IsF.none l e
/-- a list of whole numbers -/
def dInts (l : List Int) : D := .lst (l.map D.int)
theorem IsL.ints : ∀ {l : List Int} {vs : List V}, IsL T H (l.map D.int) vs → vs = l.map V.int
  | [], _, .nil => rfl
  | _ :: _, _, .cons h l => by
    cases h
    rw [IsL.ints l]
    rfl
theorem IsL.mkInts : ∀ (l : List Int), IsL T H (l.map D.int) (l.map V.int)
  | [] => .nil
  | i :: l => .cons (.int i) (IsL.mkInts l)
/-- the slots: a slot of which nothing is known may hold anything -/
inductive IsE (T : Nat → Addr) (H : Hp) : List (Option D) → List (Option V) → Prop
  | nil : IsE T H [] []
  | any {o : Option V} {ρ : List (Option D)} {σ : List (Option V)} : IsE T H ρ σ → IsE T H (.none :: ρ) (o :: σ)
  | cons {d : D} {v : V} {ρ : List (Option D)} {σ : List (Option V)} : Is T H d v → IsE T H ρ σ → IsE T H (.some d :: ρ) (.some v :: σ)
theorem IsE.mono (s : Same H H') : ∀ {ρ : List (Option D)} {σ : List (Option V)}, IsE T H ρ σ → IsE T H' ρ σ
  | _, _, .nil => .nil
  | _, _, .any l => .any (IsE.mono s l)
  | _, _, .cons h l => .cons (h.mono s) (IsE.mono s l)
theorem IsE.get : ∀ {ρ : List (Option D)} {σ : List (Option V)}, IsE T H ρ σ → ∀ {i : Nat} {d : D}, ρ[i]? = .some (.some d) → ∃ v, σ[i]? = .some (.some v) ∧ Is T H d v
  | _, _, .nil, i, d, h => by simp at h
  | _, _, .any _, 0, d, e => by simp at e
  | _, _, .cons h _, 0, d, e => by
    have e' : _ = d := Option.some.inj (Option.some.inj e)
    subst e'
    exact ⟨_, rfl, h⟩
  | _, _, .any l, i + 1, d, e => IsE.get l (i := i) e
  | _, _, .cons _ l, i + 1, d, e => IsE.get l (i := i) e
theorem IsE.set : ∀ {ρ : List (Option D)} {σ : List (Option V)}, IsE T H ρ σ → ∀ (i : Nat) {d : D} {v : V}, Is T H d v → IsE T H (ρ.set i (.some d)) (σ.set i (.some v))
  | _, _, .nil, _, _, _, _ => .nil
  | _, _, .any l, 0, _, _, h => .cons h l
  | _, _, .cons _ l, 0, _, _, h => .cons h l
  | _, _, .any l, i + 1, _, _, h => .any (IsE.set l i h)
  | _, _, .cons g l, i + 1, _, _, h => .cons g (IsE.set l i h)
theorem IsE.wipe1 : ∀ {ρ : List (Option D)} {σ : List (Option V)}, IsE T H ρ σ → ∀ (i : Nat), IsE T H (ρ.set i .none) (σ.set i .none)
  | _, _, .nil, _ => .nil
  | _, _, .any l, 0 => .any l
  | _, _, .cons _ l, 0 => .any l
  | _, _, .any l, i + 1 => .any (IsE.wipe1 l i)
  | _, _, .cons g l, i + 1 => .cons g (IsE.wipe1 l i)
theorem IsE.nones : ∀ (n : Nat), IsE T H (List.replicate n .none) (List.replicate n .none)
  | 0 => .nil
  | n + 1 => .any (IsE.nones n)
theorem IsE.start (n : Nat) : ∀ {ds : List D} {vs : List V}, IsL T H ds vs → IsE T H (ds.map .some ++ List.replicate n .none) (vs.map .some ++ List.replicate n .none)
  | _, _, .nil => IsE.nones n
  | _, _, .cons h l => .cons h (IsE.start n l)
end
theorem isE_length {T : Nat → Addr} {H : Hp} : ∀ {ρ : List (Option D)} {σ : L2.St}, IsE T H ρ σ → σ.length = ρ.length
  | _, _, .nil => rfl
  | _, _, .any l => congrArg (· + 1) (isE_length l)
  | _, _, .cons _ l => congrArg (· + 1) (isE_length l)
/-! ### What a reading comes to -/
section
variable (T : Nat → Addr)
def EvD (te : TE) (ρ : List (Option D)) (d : D) : Prop := ∀ (σ : L2.St) (H : Hp), IsE T H ρ σ → ∀ Q : VK, (∀ v H', Same H H' → Is T H' d v → Q v H') → te σ H Q
/-- new: no object that was there -/
def Fresh (H : Hp) (v : V) : Prop := ∀ p, v = .ref p → H p = none
theorem Fresh.back {H H' : Hp} {v : V} (h : Fresh H' v) (s : Same H H') : Fresh H v := fun p e => s.free (h p e)
/-- as EvD, and it is new -/
def EvN (te : TE) (ρ : List (Option D)) (d : D) : Prop := ∀ (σ : L2.St) (H : Hp), IsE T H ρ σ → ∀ Q : VK, (∀ v H', Same H H' → Is T H' d v → Fresh H v → Q v H') → te σ H Q
def EvT (tt : TT) (ρ : List (Option D)) (b : Bool) : Prop := ∀ (σ : L2.St) (H : Hp), IsE T H ρ σ → ∀ Q : Bool → Hp → Prop, (∀ H', Same H H' → Q b H') → tt σ H Q
def EvA (ta : TA) (ρ : List (Option D)) (ds : List D) : Prop := ∀ (σ : L2.St) (H : Hp), IsE T H ρ σ → ∀ Q : List V → Hp → Prop, (∀ vs H', Same H H' → IsL T H' ds vs → Q vs H') → ta σ H Q
def EvO (to : TO) (ρ : List (Option D)) (o : Option Int) : Prop := ∀ (σ : L2.St) (H : Hp), IsE T H ρ σ → ∀ Q : Option Int → Hp → Prop, (∀ H', Same H H' → Q o H') → to σ H Q
/-- a statement: it goes on with slots of which P is true, or hands back something of which R is true -/
def EvG (n : Bool) (ts : TS) (ρ : List (Option D)) (P : List (Option D) → Prop) (R : D → Prop) : Prop := ∀ (σ : L2.St) (H : Hp), IsE T H ρ σ → ∀ Dn : Ends,
  (∀ ρ' σ' H', Same H H' → P ρ' → IsE T H' ρ' σ' → Dn.nx σ' H') → (∀ d v H', Same H H' → R d → Is T H' d v → (n = true → Fresh H v) → Dn.rt v H') → ts Dn σ H
/-- the promise of a def that changes nothing: R ties what is handed in to what is handed back -/
def spR (n : Bool) (R : List D → D → Prop) : Sp := fun vs H Q _ => ∃ ds r, IsL T H ds vs ∧ R ds r ∧ ∀ v H', Same H H' → Is T H' r v → (n = true → Fresh H v) → Q v H'
/-- the promise of an __init__ -/
def spI (c : Nat) (R : List D → List (Str × D) → Prop) : Sp := fun vs H Q _ => ∃ (p dx : Addr) (us : List V) (H0 : Hp) (ds : List D) (fs : List (Str × D)), vs = .ref p :: us ∧ H p = some (.ins (T c) dx []) ∧ H0 p = none ∧ Same H0 H ∧
  IsL T H0 ds us ∧ R ds fs ∧ ∀ (H' : Hp) (ws : List (Str × V)), H' p = some (.ins (T c) dx ws) → IsF T H' fs ws → (∀ b o, H b = some o → b ≠ p → H' b = some o) → Q .non H'
end
section
variable {T : Nat → Addr} {K : PySem.W.Frag} {ρ : List (Option D)} {ta tb tc te to : TE} {d e r : D} {i j : Int}
theorem ev_var {n : Nat} (h : ρ[n]? = some (some d)) : EvD T (tVar n) ρ d := fun σ H E Q q => by
  obtain ⟨v, hv, hi⟩ := E.get h
  exact ⟨v, hv, q v H (Same.refl H) hi⟩
theorem ev_int : EvD T (tC (.int i)) ρ (.int i) := fun _ H _ _ q => q _ H (Same.refl H) (.int i)
theorem ev_bl {b : Bool} : EvD T (tC (.bl b)) ρ (.bl b) := fun _ H _ _ q => q _ H (Same.refl H) (.bl b)
theorem ev_ref {a : Addr} : EvD T (tC (.ref a)) ρ (.ref a) := fun _ H _ _ q => q _ H (Same.refl H) (.ref a)
theorem ev_non : EvD T (tC .non) ρ .non := fun _ H _ _ q => q _ H (Same.refl H) .non
theorem ev_2 {rr : R2} (ha : EvD T ta ρ d) (hb : EvD T tb ρ e) (hr : ∀ (x y : V) (H : Hp), Is T H d x → Is T H e y → ∀ Q : VK, (∀ v H', Same H H' → Is T H' r v → Q v H') → rr x y H Q) : EvD T (tOp rr ta tb) ρ r := fun σ H E Q q =>
  ha σ H E _ fun x H1 s1 hx => hb σ H1 (E.mono s1) _ fun y H2 s2 hy => hr x y H2 (hx.mono s2) hy Q fun v H3 s3 hv => q v H3 ((s1.trans s2).trans s3) hv
theorem ev_i0 {f : Int → Int → Int} (ha : EvD T ta ρ (.int i)) (hb : EvD T tb ρ (.int j)) : EvD T (tOp (rI0 fun i j => .int (f i j)) ta tb) ρ (.int (f i j)) :=
  ev_2 ha hb fun x y H hx hy Q q => by
    cases hx
    cases hy
    exact ⟨i, j, rfl, rfl, q _ H (Same.refl H) (.int _)⟩
theorem ev_b0 {f : Int → Int → Bool} (ha : EvD T ta ρ (.int i)) (hb : EvD T tb ρ (.int j)) : EvD T (tOp (rI0 fun i j => .bl (f i j)) ta tb) ρ (.bl (f i j)) :=
  ev_2 ha hb fun x y H hx hy Q q => by
    cases hx
    cases hy
    exact ⟨i, j, rfl, rfl, q _ H (Same.refl H) (.bl _)⟩
theorem ev_ic {C : Int → Int → Prop} {f : Int → Int → Int} (ha : EvD T ta ρ (.int i)) (hb : EvD T tb ρ (.int j)) (hc : C i j) : EvD T (tOp (rI C fun i j => .int (f i j)) ta tb) ρ (.int (f i j)) :=
  ev_2 ha hb fun x y H hx hy Q q => by
    cases hx
    cases hy
    exact ⟨i, j, rfl, rfl, hc, q _ H (Same.refl H) (.int _)⟩
theorem ev_eqi (ha : EvD T ta ρ (.int i)) (hb : EvD T tb ρ (.int j)) : EvD T (tOp rEq ta tb) ρ (.bl (decide (i = j))) :=
  ev_2 ha hb fun x y H hx hy Q q => by
    cases hx
    cases hy
    have e1 : decide (V.int i = V.int j) = decide (i = j) := by simp only [V.int.injEq]
    exact ⟨rfl, by rw [e1]; exact q _ H (Same.refl H) (.bl _)⟩
theorem ev_nei (ha : EvD T ta ρ (.int i)) (hb : EvD T tb ρ (.int j)) : EvD T (tOp rNe ta tb) ρ (.bl (!decide (i = j))) :=
  ev_2 ha hb fun x y H hx hy Q q => by
    cases hx
    cases hy
    have e1 : decide (V.int i = V.int j) = decide (i = j) := by simp only [V.int.injEq]
    exact ⟨rfl, by rw [e1]; exact q _ H (Same.refl H) (.bl _)⟩
theorem ev_neg (ha : EvD T ta ρ (.int i)) : EvD T (tUn (rU fun i => .int (-i)) ta) ρ (.int (-i)) := fun σ H E Q q => ha σ H E _ fun x H1 s1 hx => by
  cases hx
  exact ⟨i, rfl, q _ H1 s1 (.int _)⟩
theorem ev_chain {k : Int} {f g : Int → Int → Bool} (ha : EvD T ta ρ (.int i)) (hb : EvD T tb ρ (.int j)) (hc : EvD T tc ρ (.int k)) :
    EvD T (tChain (rI0 fun i j => .bl (f i j)) (rI0 fun i j => .bl (g i j)) ta tb tc) ρ (.bl (f i j && g j k)) := fun σ H E Q q =>
  ha σ H E _ fun x H1 s1 hx => hb σ H1 (E.mono s1) _ fun y H2 s2 hy => by
    cases hx
    cases hy
    refine ⟨i, j, rfl, rfl, f i j, rfl, ?_⟩
    cases h : f i j with
    | false =>
      rw [if_neg Bool.false_ne_true]
      rw [h] at q
      exact q _ H2 (s1.trans s2) (.bl _)
    | true =>
      rw [if_pos rfl]
      refine hc σ H2 (E.mono (s1.trans s2)) _ fun z H3 s3 hz => ?_
      cases hz
      rw [h] at q
      exact ⟨j, k, rfl, rfl, q _ H3 ((s1.trans s2).trans s3) (.bl _)⟩
theorem ev_fld {c : Nat} {fs : List (Str × D)} {f : Str} (h : EvD T te ρ (.obj c fs)) (hc : Cls K (T c)) (hn : NoAttr K (T c) f) (hl : fs.lookup f = some d) : EvD T (tFld K te f) ρ d := fun σ H E Q q => h σ H E _ fun x H1 s1 hx => by
  cases hx with
  | obj ha hf =>
    obtain ⟨v, lv, iv⟩ := hf.some hl
    exact ⟨_, _, _, _, v, rfl, ha, hc, hn, lv, q v H1 s1 iv⟩
theorem ea_nil : EvA T tNil ρ [] := fun _ H _ _ q => q _ H (Same.refl H) .nil
theorem ea_cons {tr : TA} {ds : List D} (h : EvD T ta ρ d) (hr : EvA T tr ρ ds) : EvA T (tCons ta tr) ρ (d :: ds) := fun σ H E _ q =>
  h σ H E _ fun x H1 s1 hx => hr σ H1 (E.mono s1) _ fun vs H2 s2 hv => q _ H2 (s1.trans s2) (.cons (hx.mono s2) hv)
theorem ev_call {n : Bool} {sp : Sp} {R : List D → D → Prop} {E : XK} {tt : TA} {ds : List D} (hsp : sp = spR T n R) (h : EvA T tt ρ ds) (hr : R ds r) : EvD T (tCall sp [] E tt) ρ r := fun σ H e Q q =>
  h σ H e _ fun vs H1 s1 hv => by
    rw [hsp, List.append_nil]
    exact ⟨ds, r, hv, hr, fun v H2 s2 hr _ => q v H2 (s1.trans s2) hr⟩
theorem en_call {sp : Sp} {R : List D → D → Prop} {E : XK} {tt : TA} {ds : List D} (hsp : sp = spR T true R) (h : EvA T tt ρ ds) (hr : R ds r) : EvN T (tCall sp [] E tt) ρ r := fun σ H e Q q =>
  h σ H e _ fun vs H1 s1 hv => by
    rw [hsp, List.append_nil]
    exact ⟨ds, r, hv, hr, fun v H2 s2 hr fr => q v H2 (s1.trans s2) hr ((fr rfl).back s1)⟩
theorem EvN.toD (h : EvN T te ρ d) : EvD T te ρ d := fun σ H E Q q => h σ H E Q fun v H1 s1 hv _ => q v H1 s1 hv
theorem ev_meth {n : Bool} {c : Nat} {fs : List (Str × D)} {m : Str} {R : List D → D → Prop} {E : XK} {tt : TA} {ds : List D} (ho : EvD T to ρ (.obj c fs)) (h : EvA T tt ρ ds) (hr : R (.obj c fs :: ds) r) (hl : fs.lookup m = none) :
    EvD T (tMeth (T c) m (spR T n R) [] E to tt) ρ r := fun σ H e Q q => ho σ H e _ fun x H1 s1 hx => by
  have hx' := hx
  cases hx with
  | obj ha hf =>
    refine ⟨_, _, _, rfl, ha, hf.none hl, h σ H1 (e.mono s1) _ fun vs H2 s2 hv => ?_⟩
    rw [List.append_nil]
    exact ⟨_, r, .cons (hx'.mono s2) hv, hr, fun v H3 s3 hr _ => q v H3 ((s1.trans s2).trans s3) hr⟩
theorem ev_make {c : Nat} {fs : List (Str × D)} {R : List D → List (Str × D) → Prop} {E : XK} {tt : TA} {ds : List D} (h : EvA T tt ρ ds) (hr : R ds fs) : EvD T (tMake (T c) (spI T c R) [] E tt) ρ (.obj c fs) := fun σ H e Q q =>
  h σ H e _ fun vs H1 s1 hv x dx nx nd ne => by
    rw [List.append_nil]
    have s2 : Same H1 (upd H1 dx (.own x)) := fun b o z => by
      rw [upd_ne (ne_of_none z nd)]
      exact z
    have n2 : upd H1 dx (.own x) x = none := by
      rw [upd_ne ne.symm]
      exact nx
    have s3 : Same (upd H1 dx (.own x)) (upd (upd H1 dx (.own x)) x (.ins (T c) dx [])) := fun b o z => by
      rw [upd_ne (ne_of_none z n2)]
      exact z
    refine ⟨x, dx, vs, _, ds, fs, rfl, upd_same, n2, s3, hv.mono s2, hr, fun H' ws hp hf kp => ⟨rfl, ?_⟩⟩
    refine q _ H' (s1.trans fun b o z => kp b o (s3 b o (s2 b o z)) (ne_of_none (s2 b o z) n2)) (.obj hp hf)
theorem en_lst {tt : TA} {ds : List D} (h : EvA T tt ρ ds) (hl : ds.length ≤ 10000) : EvN T (tLst tt) ρ (.lst ds) := fun σ H e Q q => h σ H e _ fun vs H1 s1 hv => by
  refine ⟨Nat.le_trans (Nat.le_of_eq hv.length) (Nat.le_trans hl (by decide)), fun p hp => ?_⟩
  have s2 : Same H1 (upd H1 p (.lst vs)) := fun b o z => by
    rw [upd_ne (ne_of_none z hp)]
    exact z
  refine q _ _ (s1.trans s2) (.lst upd_same (hv.mono s2)) fun b e => ?_
  cases e
  exact s1.free hp
theorem ev_lst {tt : TA} {ds : List D} (h : EvA T tt ρ ds) (hl : ds.length ≤ 10000) : EvD T (tLst tt) ρ (.lst ds) := (en_lst h hl).toD
theorem en_cat {ds es : List D} (ha : EvD T ta ρ (.lst ds)) (hb : EvD T tb ρ (.lst es)) (hl : ds.length + es.length ≤ 10000) : EvN T (tOp rCat ta tb) ρ (.lst (ds ++ es)) := fun σ H E Q q =>
  ha σ H E _ fun x H1 s1 hx => hb σ H1 (E.mono s1) _ fun y H2 s2 hy => by
    cases hx.mono s2 with
    | lst h1 l1 =>
      cases hy with
      | lst h2 l2 =>
        refine ⟨_, _, _, _, rfl, rfl, h1, h2, ?_, fun p hp => ?_⟩
        · rw [l1.length, l2.length]
          exact Nat.le_trans hl (by decide)
        · refine q _ _ ((s1.trans s2).trans (same_new hp)) (.lst upd_same ((l1.app l2).mono (same_new hp))) fun b e => ?_
          cases e
          exact (s1.trans s2).free hp
theorem ev_cat {ds es : List D} (ha : EvD T ta ρ (.lst ds)) (hb : EvD T tb ρ (.lst es)) (hl : ds.length + es.length ≤ 10000) : EvD T (tOp rCat ta tb) ρ (.lst (ds ++ es)) := (en_cat ha hb hl).toD
theorem ev_ixl {ds : List D} {n : Nat} (ha : EvD T ta ρ (.lst ds)) (hb : EvD T tb ρ (.int i)) (hi : i = (n : Int)) (hd : ds[n]? = some d) : EvD T (tOp (rIxL K) ta tb) ρ d :=
  ev_2 ha hb fun x y H hx hy Q q => by
    cases hx with
    | lst h1 l1 =>
      cases hy
      obtain ⟨v, hv, iv⟩ := l1.get hd
      exact ⟨_, _, i, v, rfl, rfl, SqL.of h1, at_of hi hv, q v H (Same.refl H) iv⟩
theorem eo_none : EvO T tNoPart ρ none := fun _ H _ _ q => q H (Same.refl H)
theorem eo_some (h : EvD T te ρ (.int i)) : EvO T (tPart te) ρ (some i) := fun σ H E _ q => h σ H E _ fun x H1 s1 hx => by
  cases hx
  exact ⟨i, rfl, q H1 s1⟩
def cutD (ds : List D) (lo hi : Option Int) : List D := (ds.drop (HT.sIx ds.length 0 lo)).take (HT.sIx ds.length ds.length hi - HT.sIx ds.length 0 lo)
theorem ev_sl {ds : List D} {tl th : TO} {lo hi : Option Int} (h : EvD T te ρ (.lst ds)) (h1 : EvO T tl ρ lo) (h2 : EvO T th ρ hi) : EvD T (tSl (rSlL K) te tl th) ρ (.lst (cutD ds lo hi)) := fun σ H E Q q =>
  h σ H E _ fun x H1 s1 hx => h1 σ H1 (E.mono s1) _ fun H2 s2 => h2 σ H2 (E.mono (s1.trans s2)) _ fun H3 s3 => by
    cases hx.mono (s2.trans s3) with
    | lst ha hl =>
      refine ⟨_, _, rfl, SqL.of ha, fun p hp => ?_⟩
      refine q _ _ (((s1.trans s2).trans s3).trans (same_new hp)) (.lst upd_same ?_)
      unfold cutD cutV
      rw [hl.length]
      exact ((hl.mono (same_new hp)).drop _).take _
theorem ev_cb {rr : List V → Hp → VK → Prop} {tt : TA} {ds : List D} (h : EvA T tt ρ ds) (hr : ∀ (vs : List V) (H : Hp), IsL T H ds vs → ∀ Q : VK, (∀ v H', Same H H' → Is T H' r v → Q v H') → rr vs H Q) : EvD T (tCB rr tt) ρ r := fun σ H E Q q =>
  h σ H E _ fun vs H1 s1 hv => hr vs H1 hv Q fun v H2 s2 hr => q v H2 (s1.trans s2) hr
theorem ev_len {ds : List D} (ha : EvD T ta ρ (.lst ds)) : EvD T (tCB (fun xs H Q => ∃ p ys, xs = [V.ref p] ∧ (SqL K H p ys ∨ SqT K H p ys) ∧ Q (.int ys.length) H) (tCons ta tNil)) ρ (.int ds.length) :=
  ev_cb (ea_cons ha ea_nil) fun vs H hv Q q => by
    cases hv with
    | cons h1 h2 =>
      cases h2
      cases h1 with
      | lst h l =>
        refine ⟨_, _, rfl, .inl (SqL.of h), ?_⟩
        rw [l.length]
        exact q _ H (Same.refl H) (.int _)
theorem ev_abs (ha : EvD T ta ρ (.int i)) : EvD T (tCB (fun xs H Q => ∃ i, xs = [V.int i] ∧ Q (.int (if i < 0 then -i else i)) H) (tCons ta tNil)) ρ (.int i.natAbs) :=
  ev_cb (ea_cons ha ea_nil) fun vs H hv Q q => by
    cases hv with
    | cons h1 h2 =>
      cases h2
      cases h1
      refine ⟨i, rfl, ?_⟩
      have e1 : (if i < 0 then -i else i) = (i.natAbs : Int) := by
        split <;> omega
      rw [e1]
      exact q _ H (Same.refl H) (.int _)
theorem et_test {b : Bool} (h : EvD T te ρ (.bl b)) : EvT T (tTest te) ρ b := fun σ H E _ q => h σ H E _ fun x H1 s1 hx => by
  cases hx
  exact ⟨b, rfl, q H1 s1⟩
theorem et_b {b : Bool} (h : EvD T te ρ (.bl b)) : EvT T (tB te) ρ b := fun σ H E _ q => h σ H E _ fun x H1 s1 hx => by
  cases hx
  exact ⟨b, rfl, q H1 s1⟩
theorem et_not {t : TT} {b : Bool} (h : EvT T t ρ b) : EvT T (tNot t) ρ (!b) := fun σ H E _ q => h σ H E _ fun H1 s1 => q H1 s1
theorem et_or {t u : TT} {a b : Bool} (h1 : EvT T t ρ a) (h2 : a = false → EvT T u ρ b) : EvT T (tOr t u) ρ (a || b) := fun σ H E Q q => h1 σ H E _ fun H1 s1 => by
  cases a with
  | true => exact (if_pos rfl).mpr (q H1 s1)
  | false => exact (if_neg Bool.false_ne_true).mpr (h2 rfl σ H1 (E.mono s1) Q fun H2 s2 => q H2 (s1.trans s2))
theorem et_and {t u : TT} {a b : Bool} (h1 : EvT T t ρ a) (h2 : a = true → EvT T u ρ b) : EvT T (tAnd t u) ρ (a && b) := fun σ H E Q q => h1 σ H E _ fun H1 s1 => by
  cases a with
  | false => exact (if_neg Bool.false_ne_true).mpr (q H1 s1)
  | true => exact (if_pos rfl).mpr (h2 rfl σ H1 (E.mono s1) Q fun H2 s2 => q H2 (s1.trans s2))
theorem ev_andV {a b : Bool} (h1 : EvD T ta ρ (.bl a)) (h2 : a = true → EvD T tb ρ (.bl b)) : EvD T (tAndV ta tb) ρ (.bl (a && b)) := fun σ H E Q q => h1 σ H E _ fun x H1 s1 hx => by
  cases hx
  refine ⟨a, rfl, ?_⟩
  cases a with
  | false => exact (if_neg Bool.false_ne_true).mpr (q _ H1 s1 (.bl _))
  | true => exact (if_pos rfl).mpr (h2 rfl σ H1 (E.mono s1) Q fun v H2 s2 hv => q v H2 (s1.trans s2) hv)
theorem ev_orV {a b : Bool} (h1 : EvD T ta ρ (.bl a)) (h2 : a = false → EvD T tb ρ (.bl b)) : EvD T (tOrV ta tb) ρ (.bl (a || b)) := fun σ H E Q q => h1 σ H E _ fun x H1 s1 hx => by
  cases hx
  refine ⟨a, rfl, ?_⟩
  cases a with
  | true => exact (if_pos rfl).mpr (q _ H1 s1 (.bl _))
  | false => exact (if_neg Bool.false_ne_true).mpr (h2 rfl σ H1 (E.mono s1) Q fun v H2 s2 hv => q v H2 (s1.trans s2) hv)
theorem ev_notV {a : Bool} (h1 : EvD T ta ρ (.bl a)) : EvD T (tNotV ta) ρ (.bl (!a)) := fun σ H E Q q => h1 σ H E _ fun x H1 s1 hx => by
  cases hx
  exact ⟨a, rfl, q _ H1 s1 (.bl _)⟩
theorem ev_ife {t : TT} {b : Bool} (h : EvT T t ρ b) (h1 : b = true → EvD T ta ρ d) (h2 : b = false → EvD T tb ρ d) : EvD T (tIf t ta tb) ρ d := fun σ H E Q q => h σ H E _ fun H1 s1 => by
  cases b with
  | true => exact (if_pos rfl).mpr (h1 rfl σ H1 (E.mono s1) Q fun v H2 s2 hv => q v H2 (s1.trans s2) hv)
  | false => exact (if_neg Bool.false_ne_true).mpr (h2 rfl σ H1 (E.mono s1) Q fun v H2 s2 hv => q v H2 (s1.trans s2) hv)
theorem EvD.is (h : EvD T te ρ d) (q : d = e) : EvD T te ρ e := q ▸ h
theorem EvT.is {t : TT} {a b : Bool} (h : EvT T t ρ a) (q : a = b) : EvT T t ρ b := q ▸ h
end
/-! ### statements -/
section
variable {T : Nat → Addr} {K : PySem.W.Frag} {ρ : List (Option D)} {te : TE} {d : D} {t u : TS} {P P' : List (Option D) → Prop} {R : D → Prop} {n : Bool}
theorem g_seq (h : EvG T n t ρ P R) (h2 : ∀ ρ', P ρ' → EvG T n u ρ' P' R) : EvG T n (tSeq t u) ρ P' R := fun σ H E Dn nx q =>
  h σ H E _ (fun ρ' σ' H1 s1 hp E1 => h2 ρ' hp σ' H1 E1 Dn (fun ρ2 σ2 H2 s2 => nx ρ2 σ2 H2 (s1.trans s2)) (fun d v H2 s2 hr hv fr => q d v H2 (s1.trans s2) hr hv fun z => (fr z).back s1)) q
theorem g_asg {k : Nat} (h : EvD T te ρ d) (hp : P (ρ.set k (some d))) : EvG T n (tAsg te (gName k)) ρ P R := fun σ H E Dn nx _ => h σ H E _ fun v H1 s1 hv => nx _ _ H1 s1 hp ((E.mono s1).set k hv)
theorem g_set {k : Nat} (h : EvD T te ρ d) (h2 : EvG T n u (ρ.set k (some d)) P R) : EvG T n (tSeq (tAsg te (gName k)) u) ρ P R := g_seq (P := fun ρ' => ρ' = ρ.set k (some d)) (g_asg h rfl) fun ρ' e => by
  subst e
  exact h2
theorem g_ret (h : EvD T te ρ d) (hr : R d) : EvG T false (tRet te) ρ P R := fun σ H E _ _ q => h σ H E _ fun v H1 s1 hv => q d v H1 s1 hr hv fun z => Bool.noConfusion z
theorem g_retN (h : EvN T te ρ d) (hr : R d) : EvG T n (tRet te) ρ P R := fun σ H E _ _ q => h σ H E _ fun v H1 s1 hv fr => q d v H1 s1 hr hv fun _ => fr
theorem g_if {c : TT} {b : Bool} (h : EvT T c ρ b) (h1 : b = true → EvG T n t ρ P R) (h2 : b = false → EvG T n u ρ P R) : EvG T n (tIfS c t u) ρ P R := fun σ H E Dn nx q => h σ H E _ fun H1 s1 => by
  cases b with
  | true => exact (if_pos rfl).mpr (h1 rfl σ H1 (E.mono s1) Dn (fun ρ' σ' H2 s2 => nx ρ' σ' H2 (s1.trans s2)) fun d v H2 s2 hr hv fr => q d v H2 (s1.trans s2) hr hv fun z => (fr z).back s1)
  | false => exact (if_neg Bool.false_ne_true).mpr (h2 rfl σ H1 (E.mono s1) Dn (fun ρ' σ' H2 s2 => nx ρ' σ' H2 (s1.trans s2)) fun d v H2 s2 hr hv fr => q d v H2 (s1.trans s2) hr hv fun z => (fr z).back s1)
theorem g_next (hp : P ρ) : EvG T n tNext ρ P R := fun σ H E _ nx _ => nx ρ σ H (Same.refl H) hp E
/-- if c: (return) ahead of what follows -/
theorem g_guard {c : TT} {b : Bool} (h : EvT T c ρ b) (h1 : b = true → EvG T n t ρ (fun _ => False) R) (h2 : b = false → EvG T n u ρ P R) : EvG T n (tSeq (tIfS c t tNext) u) ρ P R := by
  refine g_seq (P := fun ρ' => b = false ∧ ρ' = ρ) (g_if h (fun z σ H E Dn n q => h1 z σ H E Dn (fun _ _ _ _ f => f.elim) q) fun z => g_next ⟨z, rfl⟩) fun ρ' e => ?_
  rw [e.2]
  exact h2 e.1
theorem g_drop (h : EvD T te ρ d) (hp : P ρ) : EvG T n (tDrop te) ρ P R := fun σ H E Dn nx _ => h σ H E _ fun v H1 s1 _ => nx ρ σ H1 s1 hp (E.mono s1)
theorem EvG.imp (h : EvG T n t ρ P R) (hp : ∀ ρ', P ρ' → P' ρ') : EvG T n t ρ P' R := fun σ H E Dn nx q => h σ H E Dn (fun ρ' σ' H' s p => nx ρ' σ' H' s (hp ρ' p)) q
/-- a while: an invariant of the slots, a number that falls -/
theorem g_while {c : TT} {tb : TS} (I : List (Option D) → Prop) (mu : List (Option D) → Nat) (h0 : I ρ)
    (hs : ∀ ρ, I ρ → ∃ b, EvT T c ρ b ∧ (b = true → EvG T n tb ρ (fun ρ' => I ρ' ∧ mu ρ' < mu ρ) R) ∧ (b = false → P ρ)) : EvG T n (tWhile c tb) ρ P R := fun σ H E Dn nx q => by
  refine ⟨fun m σ' H' => ∃ ρ', I ρ' ∧ mu ρ' = m ∧ IsE T H' ρ' σ' ∧ Same H H', ⟨_, ρ, h0, rfl, E, Same.refl H⟩, ?_⟩
  rintro m σ' H' ⟨ρ', hi, rfl, E', s'⟩
  obtain ⟨b, hc, ht, hf⟩ := hs ρ' hi
  refine hc σ' H' E' _ fun H1 s1 => ?_
  cases b with
  | true =>
    refine (if_pos rfl).mpr ⟨fun σ2 H2 => ∃ ρ2, I ρ2 ∧ mu ρ2 < mu ρ' ∧ IsE T H2 ρ2 σ2 ∧ Same H H2, ?_, ?_⟩
    · rintro σ2 H2 ⟨ρ2, h2, l2, E2, s2⟩
      exact ⟨_, l2, ρ2, h2, rfl, E2, s2⟩
    · exact ht rfl σ' H1 (E'.mono s1) _ (fun ρ2 σ2 H2 s2 p2 E2 => ⟨ρ2, p2.1, p2.2, E2, (s'.trans s1).trans s2⟩) fun d v H2 s2 hr hv fr => q d v H2 ((s'.trans s1).trans s2) hr hv fun z => (fr z).back (s'.trans s1)
  | false => exact (if_neg Bool.false_ne_true).mpr (nx ρ' σ' H1 (s'.trans s1) (hf rfl) (E'.mono s1))
/-- a for over a list -/
theorem g_for {tl : TE} {ds : List D} {k : Nat} {tb : TS} (I : Nat → List (Option D) → Prop) (hl : EvD T tl ρ (.lst ds)) (h0 : I 0 ρ)
    (hs : ∀ i d ρ, ds[i]? = some d → I i ρ → EvG T n tb (ρ.set k (some d)) (I (i + 1)) R) (hd : ∀ ρ, I ds.length ρ → P ρ) : EvG T n (tFor (iList K tl) (gName k) tb) ρ P R := fun σ H E Dn nx q =>
  hl σ H E _ fun x H1 s1 hx => by
    cases hx with
    | lst ha hv =>
      rename_i a vs
      refine ⟨a, rfl, ⟨_, SqL.of ha⟩, for_list (K := K) (a := a) (xs := vs) (fun i σ' H' => ∃ ρ', I i ρ' ∧ IsE T H' ρ' σ' ∧ Same H1 H') ⟨ρ, h0, E.mono s1, Same.refl H1⟩ (fun i σ' H' _ ⟨_, _, _, s2⟩ => SqL.of (s2 _ _ ha)) ?_ ?_⟩
      · rintro i x σ' H' hi ⟨ρ', hI, E', s'⟩
        obtain ⟨d, hd', hx⟩ := hv.of hi
        exact hs i d ρ' hd' hI _ H' (E'.set k (hx.mono s')) _ (fun ρ2 σ2 H2 s2 p2 E2 => ⟨ρ2, p2, E2, s'.trans s2⟩) fun d v H2 s2 hr hv fr => q d v H2 ((s1.trans s').trans s2) hr hv fun z => (fr z).back (s1.trans s')
      · rintro σ' H' ⟨ρ', hI, E', s'⟩
        rw [hv.length] at hI
        exact nx ρ' σ' H' (s1.trans s') (hd ρ' hI) E'
/-- [e for x in xs], whole numbers -/
theorem ev_lc {tl : TE} {ds : List D} {k : Nat} {f : D → Int} (hl : EvD T tl ρ (.lst ds)) (hz : ds.length ≤ 10000) (hs : ∀ d, d ∈ ds → EvD T te ((ρ.set k none).set k (some d)) (.int (f d))) :
    EvD T (tLc (iList K tl) (gName k) tYes te [k]) ρ (dInts (ds.map f)) := fun σ H E Q q => hl σ H E _ fun x H1 s1 hx => by
  cases hx with
  | lst ha hv =>
    rename_i a vs
    refine ⟨a, rfl, ⟨_, SqL.of ha⟩, fun Dd nD => ?_⟩
    refine lc_list (K := K) (a := a) (xs := vs) (Qd := Q (.ref Dd)) (fun i H' => i ≤ ds.length ∧ H' Dd = some (.lst (((ds.take i).map f).map V.int)) ∧ Same H1 H') ⟨Nat.zero_le _, upd_same, same_new nD⟩ (fun i H' _ p => SqL.of (p.2.2 _ _ ha)) ?_ ?_
    · rintro i x H' hi ⟨hi0, hD, s'⟩
      obtain ⟨d, hd', hx⟩ := hv.of hi
      have hlt : i < ds.length := (List.getElem?_eq_some_iff.mp hd').1
      have E1 : IsE T H' ((ρ.set k none).set k (some d)) ((σ.set k none).set k (some x)) := IsE.set (((E.mono (s1.trans s')).wipe1 k)) k (hx.mono s')
      refine ⟨?_, ?_⟩
      · show ((σ.set k none).set k (some x)).set k none = σ.set k none
        rw [List.set_set, List.set_set]
      · unfold tYes
        refine iteT ?_
        refine hs d (List.mem_of_getElem? hd') _ H' E1 _ fun v H2 s2 hv2 => ?_
        cases hv2
        refine ⟨_, s2 _ _ hD, ?_, hlt, ?_, fun b o z => ?_⟩
        · rw [List.length_map, List.length_map, List.length_take]
          exact Nat.lt_of_le_of_lt (Nat.min_le_right _ _) (Nat.lt_of_le_of_lt hz (by decide))
        · rw [upd_same, List.take_add_one, hd', List.map_append, List.map_append]
          rfl
        · rw [upd_ne (ne_of_none z nD)]
          exact s2 b o (s' b o z)
    · rintro H' ⟨_, hD, s'⟩
      refine q _ H' (s1.trans s') ?_
      rw [hv.length, List.take_length] at hD
      exact .lst hD (IsL.mkInts _)
/-- what holds no list: it stands where a list is changed -/
def Flat : D → Prop
  | .lst _ => False
  | .obj _ fs => ∀ p, p ∈ fs → ∃ i, p.2 = D.int i
  | _ => True
theorem isF_keep {T : Nat → Addr} {H H' : Hp} : ∀ {fs : List (Str × D)} {vs : List (Str × V)}, IsF T H fs vs → (∀ p, p ∈ fs → ∃ i, p.2 = D.int i) → IsF T H' fs vs
  | _, _, .nil, _ => .nil
  | _, _, .cons (f := f) (d := d) h l, g => by
    obtain ⟨i, e⟩ := g (f, d) List.mem_cons_self
    have e' : d = .int i := e
    subst e'
    cases h
    exact .cons (.int i) (isF_keep l fun p hp => g p (List.mem_cons_of_mem _ hp))
theorem is_keep {T : Nat → Addr} {H H' : Hp} {p : Addr} {xs : List V} (hp : H p = some (.lst xs)) (k : ∀ b o, H b = some o → b ≠ p → H' b = some o) {d : D} {v : V} (f : Flat d) (h : Is T H d v) : Is T H' d v := by
  cases h with
  | non => exact .non
  | bl b => exact .bl b
  | int i => exact .int i
  | ref a => exact .ref a
  | lst _ _ => exact f.elim
  | obj h1 h2 => exact .obj (k _ _ h1 (ne_of h1 hp (by intro z; cases z))) (isF_keep h2 f)
theorem isL_keep {T : Nat → Addr} {H H' : Hp} {p : Addr} {xs : List V} (hp : H p = some (.lst xs)) (k : ∀ b o, H b = some o → b ≠ p → H' b = some o) : ∀ {ds : List D} {vs : List V}, IsL T H ds vs → (∀ d, d ∈ ds → Flat d) → IsL T H' ds vs
  | _, _, .nil, _ => .nil
  | _, _, .cons h l, g => .cons (is_keep hp k (g _ List.mem_cons_self) h) (isL_keep hp k l fun d hd => g d (List.mem_cons_of_mem _ hd))
/-- [e for x in xs], what is told may be any that holds no list -/
theorem en_lcD {tl : TE} {ds : List D} {k : Nat} {f : D → D} (hl : EvD T tl ρ (.lst ds)) (hz : ds.length ≤ 10000) (hs : ∀ d, d ∈ ds → Flat (f d) ∧ EvD T te ((ρ.set k none).set k (some d)) (f d)) :
    EvN T (tLc (iList K tl) (gName k) tYes te [k]) ρ (.lst (ds.map f)) := fun σ H E Q q => hl σ H E _ fun x H1 s1 hx => by
  cases hx with
  | lst ha hv =>
    rename_i a vs
    refine ⟨a, rfl, ⟨_, SqL.of ha⟩, fun Dd nD => ?_⟩
    refine lc_list (K := K) (a := a) (xs := vs) (Qd := Q (.ref Dd)) (fun i H' => i ≤ ds.length ∧ (∃ us, H' Dd = some (.lst us) ∧ IsL T H' ((ds.take i).map f) us) ∧ Same H1 H') ⟨Nat.zero_le _, ⟨[], upd_same, .nil⟩, same_new nD⟩ (fun i H' _ p => SqL.of (p.2.2 _ _ ha)) ?_ ?_
    · rintro i x H' hi ⟨hi0, ⟨us, hD, hu⟩, s'⟩
      obtain ⟨d, hd', hx⟩ := hv.of hi
      have hlt : i < ds.length := (List.getElem?_eq_some_iff.mp hd').1
      have E1 : IsE T H' ((ρ.set k none).set k (some d)) ((σ.set k none).set k (some x)) := IsE.set (((E.mono (s1.trans s')).wipe1 k)) k (hx.mono s')
      refine ⟨?_, ?_⟩
      · show ((σ.set k none).set k (some x)).set k none = σ.set k none
        rw [List.set_set, List.set_set]
      · unfold tYes
        refine iteT ?_
        obtain ⟨fl, hev⟩ := hs d (List.mem_of_getElem? hd')
        refine hev _ H' E1 _ fun v H2 s2 hv2 => ?_
        have hul : us.length = i := by
          rw [hu.length, List.length_map, List.length_take]
          omega
        have hfl : ∀ e, e ∈ (ds.take (i + 1)).map f → Flat e := fun e he => by
          obtain ⟨e', he', rfl⟩ := List.mem_map.mp he
          exact (hs e' (List.mem_of_mem_take he')).1
        refine ⟨us, s2 _ _ hD, ?_, hlt, ⟨us ++ [v], upd_same, ?_⟩, fun b o z => ?_⟩
        · rw [hul]
          exact Nat.lt_of_lt_of_le hlt (Nat.le_trans hz (by decide))
        · have e : (ds.take (i + 1)).map f = (ds.take i).map f ++ [f d] := by
            rw [List.take_add_one, hd', List.map_append]
            rfl
          rw [e] at hfl ⊢
          exact isL_keep (s2 _ _ hD) (fun b o z hb => by rw [upd_ne hb]; exact z) ((hu.mono s2).app (.cons hv2 .nil)) hfl
        · rw [upd_ne (ne_of_none z nD)]
          exact s2 b o (s' b o z)
    · rintro H' ⟨_, ⟨us, hD, hu⟩, s'⟩
      rw [hv.length, List.take_length] at hu
      refine q _ H' (s1.trans s') (.lst hD hu) fun b e => ?_
      cases e
      exact s1.free nD
theorem ev_lcD {tl : TE} {ds : List D} {k : Nat} {f : D → D} (hl : EvD T tl ρ (.lst ds)) (hz : ds.length ≤ 10000) (hs : ∀ d, d ∈ ds → Flat (f d) ∧ EvD T te ((ρ.set k none).set k (some d)) (f d)) :
    EvD T (tLc (iList K tl) (gName k) tYes te [k]) ρ (.lst (ds.map f)) := (en_lcD hl hz hs).toD
/-- the same over a tuple that the module keeps -/
theorem en_lcT {tl : TE} {a : Addr} {xs : List V} {ds es : List D} {k : Nat} (hl : EvD T tl ρ (.ref a)) (hq : ∀ H, SqT K H a xs) (hv : ∀ H, IsL T H ds xs) (hz : ds.length ≤ 10000) (hlen : es.length = ds.length) (hs : ∀ (i : Nat) d e, ds[i]? = some d → es[i]? = some e → Flat e ∧ EvD T te ((ρ.set k none).set k (some d)) e) :
    EvN T (tLc (iTup K tl) (gName k) tYes te [k]) ρ (.lst es) := fun σ H E Q q => hl σ H E _ fun x H1 s1 hx => by
  cases hx
  refine ⟨a, rfl, ⟨_, hq _⟩, fun Dd nD => ?_⟩
  refine lc_tup (K := K) (a := a) (xs := xs) (Qd := Q (.ref Dd)) (fun i H' => i ≤ ds.length ∧ (∃ us, H' Dd = some (.lst us) ∧ IsL T H' (es.take i) us) ∧ Same H1 H') ⟨Nat.zero_le _, ⟨[], upd_same, .nil⟩, same_new nD⟩ (fun i H' _ p => hq _) ?_ ?_
  · rintro i x H' hi ⟨hi0, ⟨us, hD, hu⟩, s'⟩
    obtain ⟨d, hd', hx⟩ := (hv H').of hi
    have hlt : i < ds.length := (List.getElem?_eq_some_iff.mp hd').1
    have E1 : IsE T H' ((ρ.set k none).set k (some d)) ((σ.set k none).set k (some x)) := IsE.set (((E.mono (s1.trans s')).wipe1 k)) k hx
    refine ⟨?_, ?_⟩
    · show ((σ.set k none).set k (some x)).set k none = σ.set k none
      rw [List.set_set, List.set_set]
    · unfold tYes
      refine iteT ?_
      have he : es[i]? = some (es[i]'(by omega)) := List.getElem?_eq_getElem (by omega)
      obtain ⟨fl, hev⟩ := hs i d _ hd' he
      refine hev _ H' E1 _ fun v H2 s2 hv2 => ?_
      have hul : us.length = i := by
        rw [hu.length, List.length_take]
        omega
      have hfl : ∀ e, e ∈ es.take (i + 1) → Flat e := fun e he => by
        obtain ⟨j, hj, e'⟩ := List.getElem_of_mem (List.mem_of_mem_take he)
        exact (hs j (ds[j]'(by omega)) e (List.getElem?_eq_getElem (by omega)) (by rw [List.getElem?_eq_getElem hj, e'])).1
      refine ⟨us, s2 _ _ hD, ?_, hlt, ⟨us ++ [v], upd_same, ?_⟩, fun b o z => ?_⟩
      · rw [hul]
        exact Nat.lt_of_lt_of_le hlt (Nat.le_trans hz (by decide))
      · have e : es.take (i + 1) = es.take i ++ [es[i]'(by omega)] := by
          rw [List.take_add_one, he]
          rfl
        rw [e] at hfl ⊢
        exact isL_keep (s2 _ _ hD) (fun b o z hb => by rw [upd_ne hb]; exact z) ((hu.mono s2).app (.cons hv2 .nil)) hfl
      · rw [upd_ne (ne_of_none z nD)]
        exact s2 b o (s' b o z)
  · rintro H' ⟨_, ⟨us, hD, hu⟩, s'⟩
    rw [(hv H').length, ← hlen, List.take_length] at hu
    refine q _ H' (s1.trans s') (.lst hD hu) fun b e => ?_
    cases e
    exact s1.free nD
/-! all, any, max, count, is not None -/
theorem IsL.bls {T : Nat → Addr} {H : Hp} : ∀ {l : List Bool} {vs : List V}, IsL T H (l.map D.bl) vs → vs = l.map V.bl
  | [], _, .nil => rfl
  | _ :: _, _, .cons h l => by
    cases h
    rw [IsL.bls l]
    rfl
theorem ev_all {ta : TE} {bs : List Bool} (h : EvD T ta ρ (.lst (bs.map D.bl))) : EvD T (tCB (rAll K) (tCons ta tNil)) ρ (.bl (bs.all id)) :=
  ev_cb (ea_cons h ea_nil) fun vs H hv Q q => by
    cases hv with
    | cons h1 h2 =>
      cases h2
      cases h1 with
      | lst ha hl =>
        have e := hl.bls
        subst e
        exact ⟨_, bs, rfl, SqL.of ha, q _ H (Same.refl H) (.bl _)⟩
theorem ev_any {ta : TE} {bs : List Bool} (h : EvD T ta ρ (.lst (bs.map D.bl))) : EvD T (tCB (rAny K) (tCons ta tNil)) ρ (.bl (bs.any id)) :=
  ev_cb (ea_cons h ea_nil) fun vs H hv Q q => by
    cases hv with
    | cons h1 h2 =>
      cases h2
      cases h1 with
      | lst ha hl =>
        have e := hl.bls
        subst e
        exact ⟨_, bs, rfl, SqL.of ha, q _ H (Same.refl H) (.bl _)⟩
theorem ev_max {ta : TE} {ns : List Int} {m : Int} (h : EvD T ta ρ (dInts ns)) (hm : m ∈ ns) (hle : ∀ y, y ∈ ns → y ≤ m) : EvD T (tCB (rMax K) (tCons ta tNil)) ρ (.int m) :=
  ev_cb (ea_cons h ea_nil) fun vs H hv Q q => by
    cases hv with
    | cons h1 h2 =>
      cases h2
      cases h1 with
      | lst ha hl =>
        have e := hl.ints
        subst e
        refine ⟨_, ns, rfl, SqL.of ha, List.length_pos_of_mem hm, fun m' h1 h2 => ?_⟩
        have e : m' = m := Int.le_antisymm (hle _ h1) (h2 _ hm)
        subst e
        exact q _ H (Same.refl H) (.int _)
theorem ev_cnt {ta tb : TE} {ns : List Int} {k : Int} (h : EvD T ta ρ (dInts ns)) (hk : EvD T tb ρ (.int k)) : EvD T (tBM K "list" (rCntI K) ta (tCons tb tNil)) ρ (.int (ns.count k : Nat)) := fun σ H E Q q =>
  h σ H E _ fun x H1 s1 hx => by
    cases hx with
    | lst ha hl =>
      have e := hl.ints
      subst e
      refine ⟨.inl ⟨rfl, _, SqL.of ha⟩, ?_⟩
      refine hk σ H1 (E.mono s1) _ fun y H2 s2 hy => ?_
      cases hy
      exact ⟨_, ns, k, rfl, rfl, SqL.of (s2 _ _ ha), q _ H2 (s1.trans s2) (.int _)⟩
def isNon : D → Bool
  | .non => true
  | _ => false
theorem ev_notN {ta : TE} (h : EvD T ta ρ d) : EvD T (tOp (fun x y H Q => y = .non ∧ Q (.bl (!decide (x = .non))) H) ta (tC .non)) ρ (.bl (!isNon d)) := fun σ H E Q q =>
  h σ H E _ fun x H1 s1 hx => by
    refine ⟨rfl, ?_⟩
    have e : decide (x = V.non) = isNon d := by
      cases hx <;> first | rfl | exact decide_eq_false (by intro z; cases z)
    rw [e]
    exact q _ H1 s1 (.bl _)
end
/-! ### a def that changes nothing -/
section
variable {P : Program} {w : World} {K : PySem.W.Frag} {mg : Str → Option Value} {base : Heap} {T : Nat → Addr}
theorem ok_pure {x qual : Str} {st : Stmt} {f : Addr} {fd : FuncData} {N ps : List Str} {k : Nat} {R : List D → D → Prop} {n : Bool} (F : Fun K x qual st f fd) (S : FnScope N ps (defScope st)) (len : ∀ ds r, R ds r → ds.length = ps.length)
    (hbody : ∀ (cdv : Value) (A : Around) (outer : List Env) (s : Shared) (H : Hp) (E : XK), Room k (A.deeper (envOfC qual (defScope st) s.heap.objs.size f cdv)) →
      ∃ t, PSs (cxOf CX0 P w K mg base N qual (defScope st) f cdv A outer s H E).nox (defBody st) t ∧ ∀ ds r, R ds r → EvG T n t (ds.map some ++ List.replicate (N.length - ps.length) none) (fun _ => False) (fun d => d = r)) :
    FnOk P w K mg base CX0 (k + 1) f fd ps (spR T n R) := by
  refine F.ok S (fun vs H Q E h => ?_) (fun cdv A outer s H vs Q E hr h => ?_)
  · obtain ⟨ds, r, hl, hR, _⟩ := h
    rw [hl.length, len ds r hR]
  · obtain ⟨ds, r, hl, hR, q⟩ := h
    obtain ⟨t, ht, hb⟩ := hbody cdv A outer s H E hr
    refine ⟨t, ht, hb ds r hR _ H ?_ _ (fun _ _ _ _ f => f.elim) fun d v H' s' e hv fr => ?_⟩
    · unfold L2.start
      rw [hl.length, len ds r hR]
      exact IsE.start _ hl
    · subst e
      exact q v H' s' hv fr
end
end WM

namespace WM
open PySem PySem.Spec PyProof.Rows L2
/-! ### a def as its callers see it -/
structure Fd (P : Program) (w : World) (K : PySem.W.Frag) (mg : Str → Option Value) (base : Heap) (x : Str) (k : Nat) (ps : List Str) (sp : Sp) (f : Addr) (fd : FuncData) : Prop where
  G : FnOk P w K mg base CX0 k f fd ps sp
  m : mg x = some (.ref f)
  kp : PySem.W.keepIn K (.ref f) = true
  b : Binds K fd ps []
structure Md (P : Program) (w : World) (K : PySem.W.Frag) (mg : Str → Option Value) (base : Heap) (C : Addr) (x : Str) (k : Nat) (ps : List Str) (sp : Sp) (f : Addr) (fd : FuncData) : Prop where
  G : FnOk P w K mg base CX0 k f fd ps sp
  mt : Meth K C x f
  b : Binds K fd ps []
structure Mkd (P : Program) (w : World) (K : PySem.W.Frag) (mg : Str → Option Value) (base : Heap) (x : Str) (C : Addr) (k : Nat) (ps : List Str) (sp : Sp) (f : Addr) (fd : FuncData) : Prop where
  G : FnOk P w K mg base CX0 k f fd ps sp
  M : Mk K C f
  m : mg x = some (.ref C)
  b : Binds K fd ps []
theorem lkD_here {k : Str} {v : D} {r : List (Str × D)} : List.lookup k ((k, v) :: r) = some v := by
  unfold List.lookup
  rw [beq_self_eq_true k]
theorem lkD_past {k g : Str} {v : D} {r : List (Str × D)} (h : (k == g) = false) : List.lookup k ((g, v) :: r) = List.lookup k r := by
  rw [List.lookup, h]
theorem pe_globI {X : Cx} {x : Str} {i : Int} {pos : Pos} (hg : Gl X x) (h : ∃ t, X.mg x = some (.int i t)) (hd : (x == ("__debug__" : Str)) = false := by decide) : PE X (.Name x pos) (tC (.int i)) := by
  obtain ⟨t, h⟩ := h
  exact pe_glob hg h ⟨t, rfl⟩ hd
/-- // by any number but 0 -/
def CDivV (_ j : Int) : Prop := j ≠ 0 ∧ j.natAbs.log2 < 9000
theorem op_fdivV {X : Cx} : OpR X (binaryOp .FloorDiv) (rI CDivV fun i j => .int (i.fdiv j)) :=
  opI fun _ _ _ _ _ _ _ hc q => floordiv_int hc.1 q (Or.inl (PyProof.noPylong_of_log2 hc.2))
theorem ev_iff {T : Nat → Addr} {ρ : List (Option D)} {ta tb : TE} {t : TT} {b : Bool} {d e : D} (h : EvT T t ρ b) (h1 : b = true → EvD T ta ρ d) (h2 : b = false → EvD T tb ρ e) : EvD T (tIf t ta tb) ρ (if b = true then d else e) := by
  refine ev_ife h (fun q => ?_) fun q => ?_
  · rw [if_pos q]
    exact h1 q
  · rw [q, if_neg Bool.false_ne_true]
    exact h2 q
/-- the orders of four that the module keeps -/
structure Ords (K : PySem.W.Frag) (mg : Str → Option Value) : Prop where
  ex : ∃ (sO o0 o1 o2 o3 o4 o5 : Addr), mg "SIX_ORDERS" = some (.ref sO) ∧ (∀ H, SqT K H sO [.ref o0, .ref o1, .ref o2, .ref o3, .ref o4, .ref o5]) ∧ (∀ H, SqT K H o0 (([0, 1, 2, 3] : List Int).map V.int)) ∧ (∀ H, SqT K H o1 (([0, 1, 3, 2] : List Int).map V.int)) ∧
    (∀ H, SqT K H o2 (([0, 2, 1, 3] : List Int).map V.int)) ∧ (∀ H, SqT K H o3 (([0, 2, 3, 1] : List Int).map V.int)) ∧ (∀ H, SqT K H o4 (([0, 3, 1, 2] : List Int).map V.int)) ∧ (∀ H, SqT K H o5 (([0, 3, 2, 1] : List Int).map V.int))
def top (i : Nat) : Stmt := PySem.Challenge.pw_wallmarks_s01_answers.main.body.getD i (.Pass ⟨0, 0, 0, 0⟩)
abbrev s_Point_init : Stmt := inClass (top 1) 0
theorem sc_Point_init : FnScope ["self", "above", "below"] ["self", "above", "below"] (defScope s_Point_init) := ⟨rfl, rfl, rfl, by decide +kernel, rfl, by decide +kernel, by decide +kernel⟩
abbrev s_Point_is_beyond_all : Stmt := inClass (top 1) 1
theorem sc_Point_is_beyond_all : FnScope ["self"] ["self"] (defScope s_Point_is_beyond_all) := ⟨rfl, rfl, rfl, by decide +kernel, rfl, by decide +kernel, by decide +kernel⟩
abbrev s_Point_is_at : Stmt := inClass (top 1) 2
theorem sc_Point_is_at : FnScope ["self", "place"] ["self", "place"] (defScope s_Point_is_at) := ⟨rfl, rfl, rfl, by decide +kernel, rfl, by decide +kernel, by decide +kernel⟩
abbrev s_Point_moved_back : Stmt := inClass (top 1) 3
theorem sc_Point_moved_back : FnScope ["self", "distance"] ["self", "distance"] (defScope s_Point_moved_back) := ⟨rfl, rfl, rfl, by decide +kernel, rfl, by decide +kernel, by decide +kernel⟩
abbrev s_point_at : Stmt := top 2
theorem sc_point_at : FnScope ["place"] ["place"] (defScope s_point_at) := ⟨rfl, rfl, rfl, by decide +kernel, rfl, by decide +kernel, by decide +kernel⟩
abbrev s_point_beyond_all : Stmt := top 3
theorem sc_point_beyond_all : FnScope [] [] (defScope s_point_beyond_all) := ⟨rfl, rfl, rfl, by decide +kernel, rfl, by decide +kernel, by decide +kernel⟩
abbrev s_excess : Stmt := top 4
theorem sc_excess : FnScope ["more", "less"] ["more", "less"] (defScope s_excess) := ⟨rfl, rfl, rfl, by decide +kernel, rfl, by decide +kernel, by decide +kernel⟩
abbrev s_difference : Stmt := top 5
theorem sc_difference : FnScope ["more", "less"] ["more", "less"] (defScope s_difference) := ⟨rfl, rfl, rfl, by decide +kernel, rfl, by decide +kernel, by decide +kernel⟩
abbrev s_middle_point : Stmt := top 6
theorem sc_middle_point : FnScope ["first", "second", "above"] ["first", "second"] (defScope s_middle_point) := ⟨rfl, rfl, rfl, by decide +kernel, rfl, by decide +kernel, by decide +kernel⟩
abbrev s_common_divisor : Stmt := top 7
theorem sc_common_divisor : FnScope ["first", "second", "larger", "smaller", "rest"] ["first", "second"] (defScope s_common_divisor) := ⟨rfl, rfl, rfl, by decide +kernel, rfl, by decide +kernel, by decide +kernel⟩
abbrev s_fraction : Stmt := top 8
theorem sc_fraction : FnScope ["point", "divisor"] ["point"] (defScope s_fraction) := ⟨rfl, rfl, rfl, by decide +kernel, rfl, by decide +kernel, by decide +kernel⟩
abbrev s_double_ratio : Stmt := top 11
theorem sc_double_ratio : FnScope ["four", "a", "b", "c", "d"] ["four"] (defScope s_double_ratio) := ⟨rfl, rfl, rfl, by decide +kernel, rfl, by decide +kernel, by decide +kernel⟩
abbrev s_in_order : Stmt := top 12
theorem sc_in_order : FnScope ["four", "order", "k"] ["four", "order"] (defScope s_in_order) := ⟨rfl, rfl, rfl, by decide +kernel, rfl, by decide +kernel, by decide +kernel⟩
abbrev s_six_ratios : Stmt := top 13
theorem sc_six_ratios : FnScope ["four", "order"] ["four"] (defScope s_six_ratios) := ⟨rfl, rfl, rfl, by decide +kernel, rfl, by decide +kernel, by decide +kernel⟩
abbrev s_fourth_point : Stmt := top 14
theorem sc_fourth_point : FnScope ["three", "ratio", "a", "b", "c", "with_b", "with_a"] ["three", "ratio"] (defScope s_fourth_point) := ⟨rfl, rfl, rfl, by decide +kernel, rfl, by decide +kernel, by decide +kernel⟩
abbrev s_View_init : Stmt := inClass (top 16) 0
theorem sc_View_init : FnScope ["self", "a", "b", "c", "d"] ["self", "a", "b", "c", "d"] (defScope s_View_init) := ⟨rfl, rfl, rfl, by decide +kernel, rfl, by decide +kernel, by decide +kernel⟩
abbrev s_View_image : Stmt := inClass (top 16) 1
theorem sc_View_image : FnScope ["self", "point", "above", "below"] ["self", "point"] (defScope s_View_image) := ⟨rfl, rfl, rfl, by decide +kernel, rfl, by decide +kernel, by decide +kernel⟩
abbrev s_View_turned_round : Stmt := inClass (top 16) 2
theorem sc_View_turned_round : FnScope ["self"] ["self"] (defScope s_View_turned_round) := ⟨rfl, rfl, rfl, by decide +kernel, rfl, by decide +kernel, by decide +kernel⟩
abbrev s_View_after : Stmt := inClass (top 16) 3
theorem sc_View_after : FnScope ["self", "inner"] ["self", "inner"] (defScope s_View_after) := ⟨rfl, rfl, rfl, by decide +kernel, rfl, by decide +kernel, by decide +kernel⟩
abbrev s_view_to_standard : Stmt := top 17
theorem sc_view_to_standard : FnScope ["places", "first", "second", "third", "above", "below"] ["places"] (defScope s_view_to_standard) := ⟨rfl, rfl, rfl, by decide +kernel, rfl, by decide +kernel, by decide +kernel⟩
abbrev s_view_of_three : Stmt := top 18
theorem sc_view_of_three : FnScope ["sources", "targets"] ["sources", "targets"] (defScope s_view_of_three) := ⟨rfl, rfl, rfl, by decide +kernel, rfl, by decide +kernel, by decide +kernel⟩
abbrev s_Mark_init : Stmt := inClass (top 21) 0
theorem sc_Mark_init : FnScope ["self", "t", "m"] ["self", "t", "m"] (defScope s_Mark_init) := ⟨rfl, rfl, rfl, by decide +kernel, rfl, by decide +kernel, by decide +kernel⟩
abbrev s_Session_init : Stmt := inClass (top 22) 0
theorem sc_Session_init : FnScope ["self"] ["self"] (defScope s_Session_init) := ⟨rfl, rfl, rfl, by decide +kernel, rfl, by decide +kernel, by decide +kernel⟩
abbrev s_Session_start : Stmt := inClass (top 22) 1
theorem sc_Session_start : FnScope ["self"] ["self"] (defScope s_Session_start) := ⟨rfl, rfl, rfl, by decide +kernel, rfl, by decide +kernel, by decide +kernel⟩
abbrev s_Session_has_mark : Stmt := inClass (top 22) 2
theorem sc_Session_has_mark : FnScope ["self", "i"] ["self", "i"] (defScope s_Session_has_mark) := ⟨rfl, rfl, rfl, by decide +kernel, rfl, by decide +kernel, by decide +kernel⟩
abbrev s_Session_first_seen : Stmt := inClass (top 22) 3
theorem sc_Session_first_seen : FnScope ["self", "mark"] ["self"] (defScope s_Session_first_seen) := ⟨rfl, rfl, rfl, by decide +kernel, rfl, by decide +kernel, by decide +kernel⟩
abbrev s_Session_first_true : Stmt := inClass (top 22) 4
theorem sc_Session_first_true : FnScope ["self", "mark"] ["self"] (defScope s_Session_first_true) := ⟨rfl, rfl, rfl, by decide +kernel, rfl, by decide +kernel, by decide +kernel⟩
abbrev s_Session_is_ready : Stmt := inClass (top 22) 5
theorem sc_Session_is_ready : FnScope ["self"] ["self"] (defScope s_Session_is_ready) := ⟨rfl, rfl, rfl, by decide +kernel, rfl, by decide +kernel, by decide +kernel⟩
abbrev s_Session_view : Stmt := inClass (top 22) 6
theorem sc_Session_view : FnScope ["self"] ["self"] (defScope s_Session_view) := ⟨rfl, rfl, rfl, by decide +kernel, rfl, by decide +kernel, by decide +kernel⟩
abbrev s_Session_true_points : Stmt := inClass (top 22) 7
theorem sc_Session_true_points : FnScope ["self", "places", "back", "place"] ["self", "places"] (defScope s_Session_true_points) := ⟨rfl, rfl, rfl, by decide +kernel, rfl, by decide +kernel, by decide +kernel⟩
abbrev s_makes_a_view : Stmt := top 23
theorem sc_makes_a_view : FnScope ["places"] ["places"] (defScope s_makes_a_view) := ⟨rfl, rfl, rfl, by decide +kernel, rfl, by decide +kernel, by decide +kernel⟩
abbrev s_in_range : Stmt := top 37
theorem sc_in_range : FnScope ["places", "place"] ["places"] (defScope s_in_range) := ⟨rfl, rfl, rfl, by decide +kernel, rfl, by decide +kernel, by decide +kernel⟩
abbrev s_most_alike : Stmt := top 38
theorem sc_most_alike : FnScope ["places", "place"] ["places"] (defScope s_most_alike) := ⟨rfl, rfl, rfl, by decide +kernel, rfl, by decide +kernel, by decide +kernel⟩
abbrev s_have_double_ratio : Stmt := top 39
theorem sc_have_double_ratio : FnScope ["places"] ["places"] (defScope s_have_double_ratio) := ⟨rfl, rfl, rfl, by decide +kernel, rfl, by decide +kernel, by decide +kernel⟩
abbrev s_told : Stmt := top 40
theorem sc_told : FnScope ["point", "refusal"] ["point", "refusal"] (defScope s_told) := ⟨rfl, rfl, rfl, by decide +kernel, rfl, by decide +kernel, by decide +kernel⟩
abbrev s_answer_start : Stmt := top 41
theorem sc_answer_start : FnScope ["session", "numbers"] ["session", "numbers"] (defScope s_answer_start) := ⟨rfl, rfl, rfl, by decide +kernel, rfl, by decide +kernel, by decide +kernel⟩
abbrev s_answer_mark : Stmt := top 42
theorem sc_answer_mark : FnScope ["session", "numbers"] ["session", "numbers"] (defScope s_answer_mark) := ⟨rfl, rfl, rfl, by decide +kernel, rfl, by decide +kernel, by decide +kernel⟩
abbrev s_answer_unmark : Stmt := top 43
theorem sc_answer_unmark : FnScope ["session", "numbers", "i"] ["session", "numbers"] (defScope s_answer_unmark) := ⟨rfl, rfl, rfl, by decide +kernel, rfl, by decide +kernel, by decide +kernel⟩
abbrev s_answer_ready : Stmt := top 44
theorem sc_answer_ready : FnScope ["session", "numbers"] ["session", "numbers"] (defScope s_answer_ready) := ⟨rfl, rfl, rfl, by decide +kernel, rfl, by decide +kernel, by decide +kernel⟩
abbrev s_answer_truth : Stmt := top 45
theorem sc_answer_truth : FnScope ["session", "numbers"] ["session", "numbers"] (defScope s_answer_truth) := ⟨rfl, rfl, rfl, by decide +kernel, rfl, by decide +kernel, by decide +kernel⟩
abbrev s_answer_seen : Stmt := top 46
theorem sc_answer_seen : FnScope ["session", "numbers"] ["session", "numbers"] (defScope s_answer_seen) := ⟨rfl, rfl, rfl, by decide +kernel, rfl, by decide +kernel, by decide +kernel⟩
abbrev s_answer_off : Stmt := top 47
theorem sc_answer_off : FnScope ["session", "numbers", "i", "mark"] ["session", "numbers"] (defScope s_answer_off) := ⟨rfl, rfl, rfl, by decide +kernel, rfl, by decide +kernel, by decide +kernel⟩
abbrev s_answer_fits : Stmt := top 48
theorem sc_answer_fits : FnScope ["session", "numbers", "view", "mark"] ["session", "numbers"] (defScope s_answer_fits) := ⟨rfl, rfl, rfl, by decide +kernel, rfl, by decide +kernel, by decide +kernel⟩
abbrev s_answer_end : Stmt := top 49
theorem sc_answer_end : FnScope ["session", "numbers"] ["session", "numbers"] (defScope s_answer_end) := ⟨rfl, rfl, rfl, by decide +kernel, rfl, by decide +kernel, by decide +kernel⟩
abbrev s_answer_origin : Stmt := top 50
theorem sc_answer_origin : FnScope ["session", "numbers"] ["session", "numbers"] (defScope s_answer_origin) := ⟨rfl, rfl, rfl, by decide +kernel, rfl, by decide +kernel, by decide +kernel⟩
abbrev s_refusal_of_couple : Stmt := top 51
theorem sc_refusal_of_couple : FnScope ["session", "places", "point"] ["session", "places"] (defScope s_refusal_of_couple) := ⟨rfl, rfl, rfl, by decide +kernel, rfl, by decide +kernel, by decide +kernel⟩
abbrev s_answer_between : Stmt := top 52
theorem sc_answer_between : FnScope ["session", "numbers", "refusal", "couple"] ["session", "numbers"] (defScope s_answer_between) := ⟨rfl, rfl, rfl, by decide +kernel, rfl, by decide +kernel, by decide +kernel⟩
abbrev s_answer_middle : Stmt := top 53
theorem sc_answer_middle : FnScope ["session", "numbers", "refusal", "couple"] ["session", "numbers"] (defScope s_answer_middle) := ⟨rfl, rfl, rfl, by decide +kernel, rfl, by decide +kernel, by decide +kernel⟩
abbrev s_answer_double : Stmt := top 54
theorem sc_answer_double : FnScope ["session", "numbers", "place"] ["session", "numbers"] (defScope s_answer_double) := ⟨rfl, rfl, rfl, by decide +kernel, rfl, by decide +kernel, by decide +kernel⟩
abbrev s_answer_six : Stmt := top 55
theorem sc_answer_six : FnScope ["session", "numbers", "answered", "ratio", "place"] ["session", "numbers"] (defScope s_answer_six) := ⟨rfl, rfl, rfl, by decide +kernel, rfl, by decide +kernel, by decide +kernel⟩
abbrev s_answer_fourth : Stmt := top 56
theorem sc_answer_fourth : FnScope ["session", "numbers", "three", "p", "q"] ["session", "numbers"] (defScope s_answer_fourth) := ⟨rfl, rfl, rfl, by decide +kernel, rfl, by decide +kernel, by decide +kernel⟩
abbrev s_answer_even : Stmt := top 57
theorem sc_answer_even : FnScope ["session", "numbers"] ["session", "numbers"] (defScope s_answer_even) := ⟨rfl, rfl, rfl, by decide +kernel, rfl, by decide +kernel, by decide +kernel⟩
abbrev s_answer_keeps : Stmt := top 58
theorem sc_answer_keeps : FnScope ["session", "numbers"] ["session", "numbers"] (defScope s_answer_keeps) := ⟨rfl, rfl, rfl, by decide +kernel, rfl, by decide +kernel, by decide +kernel⟩
abbrev s_answer_state : Stmt := top 59
theorem sc_answer_state : FnScope ["session", "numbers", "answered", "mark"] ["session", "numbers"] (defScope s_answer_state) := ⟨rfl, rfl, rfl, by decide +kernel, rfl, by decide +kernel, by decide +kernel⟩
abbrev s_answer : Stmt := top 61
theorem sc_answer : FnScope ["session", "call", "numbers"] ["session", "call", "numbers"] (defScope s_answer) := ⟨rfl, rfl, rfl, by decide +kernel, rfl, by decide +kernel, by decide +kernel⟩
abbrev s_answers : Stmt := top 64
theorem sc_answers : FnScope ["calls", "session", "given", "place", "call", "behind", "answered"] ["calls"] (defScope s_answers) := ⟨rfl, rfl, rfl, by decide +kernel, rfl, by decide +kernel, by decide +kernel⟩
structure Tx (K : PySem.W.Frag) (mg : Str → Option Value) (T : Nat → Addr) : Prop where
  c_Point : Cls K (T 0)
  n_Point_above : NoAttr K (T 0) "above"
  n_Point_below : NoAttr K (T 0) "below"
  c_View : Cls K (T 1)
  n_View_a : NoAttr K (T 1) "a"
  n_View_b : NoAttr K (T 1) "b"
  n_View_c : NoAttr K (T 1) "c"
  n_View_d : NoAttr K (T 1) "d"
  c_Mark : Cls K (T 2)
  n_Mark_t : NoAttr K (T 2) "t"
  n_Mark_m : NoAttr K (T 2) "m"
  c_Session : Cls K (T 3)
  n_Session_started : NoAttr K (T 3) "started"
  n_Session_marks : NoAttr K (T 3) "marks"
  g_MARKS_OF_A_VIEW : ∃ t, mg "MARKS_OF_A_VIEW" = some (.int 3 t)
  g_NO_SUCH_MARK : ∃ t, mg "NO_SUCH_MARK" = some (.int (-2) t)
  g_BEYOND_ALL : ∃ t, mg "BEYOND_ALL" = some (.int (-6) t)
  g_NOT_STARTED : ∃ t, mg "NOT_STARTED" = some (.int (-11) t)
  g_NOT_READY : ∃ t, mg "NOT_READY" = some (.int (-16) t)
  g_ALIKE : ∃ t, mg "ALIKE" = some (.int (-17) t)
  g_OUT_OF_RANGE : ∃ t, mg "OUT_OF_RANGE" = some (.int (-22) t)
  g_TOO_MANY_MARKS : ∃ t, mg "TOO_MANY_MARKS" = some (.int (-28) t)
  g_LEADS_BEYOND_ALL : ∃ t, mg "LEADS_BEYOND_ALL" = some (.int (-33) t)
  g_FARTHEST : ∃ t, mg "FARTHEST" = some (.int 1000 t)
  g_MOST_MARKS : ∃ t, mg "MOST_MARKS" = some (.int 8 t)
  g_START : ∃ t, mg "START" = some (.int 0 t)
  g_EVENLY_PARTED : ∃ t, mg "EVENLY_PARTED" = some (.int (-1) t)
  b_len : mg "len" = none
  b_abs : mg "abs" = none
  b_set : mg "set" = none
  b_all : mg "all" = none
  b_any : mg "any" = none
  b_max : mg "max" = none
  so : Ords K mg
theorem lk_Point_above {x0 x1 : D} : List.lookup ("above" : Str) ([("above", x0), ("below", x1)] : List (Str × D)) = some x0 := lkD_here
theorem lk_Point_below {x0 x1 : D} : List.lookup ("below" : Str) ([("above", x0), ("below", x1)] : List (Str × D)) = some x1 := (lkD_past (by decide +kernel)).trans (lkD_here)
theorem nk_Point_is_beyond_all {x0 x1 : D} : List.lookup ("is_beyond_all" : Str) ([("above", x0), ("below", x1)] : List (Str × D)) = none := (lkD_past (by decide +kernel)).trans ((lkD_past (by decide +kernel)).trans (rfl))
theorem nk_Point_is_at {x0 x1 : D} : List.lookup ("is_at" : Str) ([("above", x0), ("below", x1)] : List (Str × D)) = none := (lkD_past (by decide +kernel)).trans ((lkD_past (by decide +kernel)).trans (rfl))
theorem nk_Point_moved_back {x0 x1 : D} : List.lookup ("moved_back" : Str) ([("above", x0), ("below", x1)] : List (Str × D)) = none := (lkD_past (by decide +kernel)).trans ((lkD_past (by decide +kernel)).trans (rfl))
theorem lk_View_a {x0 x1 x2 x3 : D} : List.lookup ("a" : Str) ([("a", x0), ("b", x1), ("c", x2), ("d", x3)] : List (Str × D)) = some x0 := lkD_here
theorem lk_View_b {x0 x1 x2 x3 : D} : List.lookup ("b" : Str) ([("a", x0), ("b", x1), ("c", x2), ("d", x3)] : List (Str × D)) = some x1 := (lkD_past (by decide +kernel)).trans (lkD_here)
theorem lk_View_c {x0 x1 x2 x3 : D} : List.lookup ("c" : Str) ([("a", x0), ("b", x1), ("c", x2), ("d", x3)] : List (Str × D)) = some x2 := (lkD_past (by decide +kernel)).trans ((lkD_past (by decide +kernel)).trans (lkD_here))
theorem lk_View_d {x0 x1 x2 x3 : D} : List.lookup ("d" : Str) ([("a", x0), ("b", x1), ("c", x2), ("d", x3)] : List (Str × D)) = some x3 := (lkD_past (by decide +kernel)).trans ((lkD_past (by decide +kernel)).trans ((lkD_past (by decide +kernel)).trans (lkD_here)))
theorem nk_View_image {x0 x1 x2 x3 : D} : List.lookup ("image" : Str) ([("a", x0), ("b", x1), ("c", x2), ("d", x3)] : List (Str × D)) = none := (lkD_past (by decide +kernel)).trans ((lkD_past (by decide +kernel)).trans ((lkD_past (by decide +kernel)).trans ((lkD_past (by decide +kernel)).trans (rfl))))
theorem nk_View_turned_round {x0 x1 x2 x3 : D} : List.lookup ("turned_round" : Str) ([("a", x0), ("b", x1), ("c", x2), ("d", x3)] : List (Str × D)) = none := (lkD_past (by decide +kernel)).trans ((lkD_past (by decide +kernel)).trans ((lkD_past (by decide +kernel)).trans ((lkD_past (by decide +kernel)).trans (rfl))))
theorem nk_View_after {x0 x1 x2 x3 : D} : List.lookup ("after" : Str) ([("a", x0), ("b", x1), ("c", x2), ("d", x3)] : List (Str × D)) = none := (lkD_past (by decide +kernel)).trans ((lkD_past (by decide +kernel)).trans ((lkD_past (by decide +kernel)).trans ((lkD_past (by decide +kernel)).trans (rfl))))
theorem lk_Mark_t {x0 x1 : D} : List.lookup ("t" : Str) ([("t", x0), ("m", x1)] : List (Str × D)) = some x0 := lkD_here
theorem lk_Mark_m {x0 x1 : D} : List.lookup ("m" : Str) ([("t", x0), ("m", x1)] : List (Str × D)) = some x1 := (lkD_past (by decide +kernel)).trans (lkD_here)
theorem lk_Session_started {x0 x1 : D} : List.lookup ("started" : Str) ([("started", x0), ("marks", x1)] : List (Str × D)) = some x0 := lkD_here
theorem lk_Session_marks {x0 x1 : D} : List.lookup ("marks" : Str) ([("started", x0), ("marks", x1)] : List (Str × D)) = some x1 := (lkD_past (by decide +kernel)).trans (lkD_here)
theorem nk_Session_start {x0 x1 : D} : List.lookup ("start" : Str) ([("started", x0), ("marks", x1)] : List (Str × D)) = none := (lkD_past (by decide +kernel)).trans ((lkD_past (by decide +kernel)).trans (rfl))
theorem nk_Session_has_mark {x0 x1 : D} : List.lookup ("has_mark" : Str) ([("started", x0), ("marks", x1)] : List (Str × D)) = none := (lkD_past (by decide +kernel)).trans ((lkD_past (by decide +kernel)).trans (rfl))
theorem nk_Session_first_seen {x0 x1 : D} : List.lookup ("first_seen" : Str) ([("started", x0), ("marks", x1)] : List (Str × D)) = none := (lkD_past (by decide +kernel)).trans ((lkD_past (by decide +kernel)).trans (rfl))
theorem nk_Session_first_true {x0 x1 : D} : List.lookup ("first_true" : Str) ([("started", x0), ("marks", x1)] : List (Str × D)) = none := (lkD_past (by decide +kernel)).trans ((lkD_past (by decide +kernel)).trans (rfl))
theorem nk_Session_is_ready {x0 x1 : D} : List.lookup ("is_ready" : Str) ([("started", x0), ("marks", x1)] : List (Str × D)) = none := (lkD_past (by decide +kernel)).trans ((lkD_past (by decide +kernel)).trans (rfl))
theorem nk_Session_view {x0 x1 : D} : List.lookup ("view" : Str) ([("started", x0), ("marks", x1)] : List (Str × D)) = none := (lkD_past (by decide +kernel)).trans ((lkD_past (by decide +kernel)).trans (rfl))
theorem nk_Session_true_points {x0 x1 : D} : List.lookup ("true_points" : Str) ([("started", x0), ("marks", x1)] : List (Str × D)) = none := (lkD_past (by decide +kernel)).trans ((lkD_past (by decide +kernel)).trans (rfl))
end WM

namespace WM
open PySem PySem.Spec PyProof.Rows L2
/-! ### len(set(xs)), some of xs alike -/
def differing (ns : List Int) : Nat := (PyProof.Rows.firstMet (fun i => ns.getD i 0) ns.length).length
def tLenSet (K : PySem.W.Frag) (ta : TE) : TE := fun σ H Q => ta σ H fun x H1 => ∃ (l : Addr) (ns : List Int), x = .ref l ∧ SqL K H1 l (ns.map V.int) ∧ ns.length ≤ 4000 ∧ Q (.int (differing ns)) H1
theorem met_le (f : Nat → Int) : ∀ n, (PyProof.Rows.firstMet f n).length ≤ n
  | 0 => Nat.le_refl 0
  | n + 1 => by
    have ih := met_le f n
    rw [PyProof.Rows.firstMet_succ]
    unfold PyProof.Rows.step_dedup
    split
    · omega
    · rw [List.length_append]
      show _ + 1 ≤ n + 1
      omega
theorem pe_lenset {X : Cx} {a : Expr} {ta : TE} {p p2 q pos : Pos} (hg : Gl X "len") (hm : X.mg "len" = none) (hg2 : Gl X "set") (hm2 : X.mg "set" = none) (ha : PE X a ta)
    (hc : X.calm = true := by rfl) (na : starEach [a] X.env = (false, eval a X.env) :: starEach [] X.env := by rfl) :
    PE X (.Call (.Name "len" p) [.Call (.Name "set" p2) [a] [] q] [] pos) (tLenSet X.K ta) := by
  constructor
  intro pins s σ H Q I h
  refine Call_ (ld_blt (x := "len") I hg hm boot_len ?_)
  refine PyProof.Rows.callWith_builtin1 (PyProof.Rows.args_cons ?first rfl) rfl rfl
  refine Call_ (ld_blt (x := "set") I hg2 hm2 boot_set ?_)
  refine PyProof.Rows.callWith_type1 (PyProof.Rows.args_cons (thn (ha.run pins s σ H _ I h) fun v s1 z => PyProof.Rows.args_nil ?second) na) na rfl
  obtain ⟨x, H1, I1, r1, l, ns, rfl, hq, hl, q1⟩ := z
  cases r1
  obtain ⟨its, r, pl, hz⟩ := I1.list hq
  have hn0 : its.toArray.size = ns.length := by
    rw [List.size_toArray, ← r.length]
    exact List.length_map V.int
  have hb := met_le (fun i => ns.getD i 0) ns.length
  refine call_set_list (I1.ok.hd hc) pl.isList (by simpa using RZ.intsAre_vals r) (by unfold scanBound; omega) fun h' tk hS hk => PyProof.Rows.args_nil ?_
  rw [hn0] at hS
  obtain ⟨o, es, ep, t, ho, hex, hd, _, _, _, hf, hn⟩ := hS
  have I2 : Inv X pins σ H1 { s1 with heap := h', toks := tk } := by
    apply I1.kept
    intro b o e
    exact hk b o (Heap.lt_size e) e
  refine call_len_set ho hex hd hf (by rw [hn]; omega) ⟨.int (differing ns), H1, I2.tok _, ⟨_, by unfold differing; rw [hn]⟩, q1⟩
theorem ev_lenset {T : Nat → Addr} {K : PySem.W.Frag} {ρ : List (Option D)} {ta : TE} {ns : List Int} (h : EvD T ta ρ (dInts ns)) (hl : ns.length ≤ 4000) : EvD T (tLenSet K ta) ρ (.int (differing ns)) := fun σ H E Q q => h σ H E _ fun x H1 s1 hx => by
  cases hx with
  | lst ha hv =>
    have e := hv.ints
    subst e
    exact ⟨_, ns, rfl, SqL.of ha, hl, q _ H1 s1 (.int _)⟩
/-- three numbers are all different just if the set has three -/
theorem differing3 (a b c : Int) : (differing [a, b, c] = 3) ↔ (a ≠ b ∧ a ≠ c ∧ b ≠ c) := by
  unfold differing
  show (PyProof.Rows.firstMet (fun i => [a, b, c].getD i 0) 3).length = 3 ↔ _
  rw [PyProof.Rows.firstMet_succ, PyProof.Rows.firstMet_succ, PyProof.Rows.firstMet_succ]
  show (PyProof.Rows.step_dedup (PyProof.Rows.step_dedup (PyProof.Rows.step_dedup [] a) b) c).length = 3 ↔ _
  simp only [PyProof.Rows.step_dedup]
  by_cases h1 : a = b
  · subst h1
    by_cases h2 : a = c
    · subst h2
      simp
    · simp [h2]
  · by_cases h2 : a = c
    · subst h2
      simp [h1]
    · by_cases h3 : b = c
      · subst h3
        simp [h1]
      · simp [h1, h2, h3]
theorem differing_less {ns : List Int} (h : ns.length < 3) : differing ns ≠ 3 := by
  have := met_le (fun i => ns.getD i 0) ns.length
  unfold differing
  omega
end WM

/-! ### The mathematics: plain Lean -/
namespace WM
/-- bounds -/
def Bd (n : Nat) (i : Int) : Prop := i.natAbs < 2 ^ n
theorem Bd.mono {m n : Nat} {i : Int} (h : Bd m i) (l : m ≤ n) : Bd n i := Nat.lt_of_lt_of_le h (Nat.pow_le_pow_right (by decide) l)
theorem Bd.mul {m n : Nat} {i j : Int} (h : Bd m i) (g : Bd n j) : Bd (m + n) (i * j) := by
  unfold Bd at *
  rw [Int.natAbs_mul, Nat.pow_add]
  exact Nat.mul_lt_mul'' h g
theorem Bd.add {n : Nat} {i j : Int} (h : Bd n i) (g : Bd n j) : Bd (n + 1) (i + j) := by
  unfold Bd at *
  rw [Nat.pow_succ]
  omega
theorem Bd.sub {n : Nat} {i j : Int} (h : Bd n i) (g : Bd n j) : Bd (n + 1) (i - j) := by
  unfold Bd at *
  rw [Nat.pow_succ]
  omega
theorem Bd.neg {n : Nat} {i : Int} (h : Bd n i) : Bd n (-i) := by
  unfold Bd at *
  omega
theorem Bd.small {i : Int} (h0 : 0 ≤ i) (h1 : i ≤ 1000) : Bd 10 i := by
  unfold Bd
  omega
/-- a view: t to (a t + b) by (c t + d) -/
abbrev V4 := Int × Int × Int × Int
def std (p0 p1 p2 : Int) : V4 := (p1 - p2, -p0 * (p1 - p2), p1 - p0, -p2 * (p1 - p0))
def inv (v : V4) : V4 := (v.2.2.2, -v.2.1, -v.2.2.1, v.1)
def after (o i : V4) : V4 := (o.1 * i.1 + o.2.1 * i.2.2.1, o.1 * i.2.1 + o.2.1 * i.2.2.2, o.2.2.1 * i.1 + o.2.2.2 * i.2.2.1, o.2.2.1 * i.2.1 + o.2.2.2 * i.2.2.2)
def image (v : V4) (p : Int × Int) : Int × Int := (v.1 * p.1 + v.2.1 * p.2, v.2.2.1 * p.1 + v.2.2.2 * p.2)
def BV (n : Nat) (v : V4) : Prop := Bd n v.1 ∧ Bd n v.2.1 ∧ Bd n v.2.2.1 ∧ Bd n v.2.2.2
theorem BV.mono {m n : Nat} {v : V4} (h : BV m v) (l : m ≤ n) : BV n v := ⟨h.1.mono l, h.2.1.mono l, h.2.2.1.mono l, h.2.2.2.mono l⟩
theorem BV.inv {n : Nat} {v : V4} (h : BV n v) : BV n (inv v) := ⟨h.2.2.2, h.2.1.neg, h.2.2.1.neg, h.1⟩
theorem BV.after {m n : Nat} {v u : V4} (h : BV m v) (g : BV n u) : BV (m + n + 1) (after v u) :=
  ⟨(h.1.mul g.1).add (h.2.1.mul g.2.2.1), (h.1.mul g.2.1).add (h.2.1.mul g.2.2.2), (h.2.2.1.mul g.1).add (h.2.2.2.mul g.2.2.1), (h.2.2.1.mul g.2.1).add (h.2.2.2.mul g.2.2.2)⟩
theorem BV.image {m n : Nat} {v : V4} {p : Int × Int} (h : BV m v) (h1 : Bd n p.1) (h2 : Bd n p.2) : Bd (m + n + 1) (image v p).1 ∧ Bd (m + n + 1) (image v p).2 :=
  ⟨(h.1.mul h1).add (h.2.1.mul h2), (h.2.2.1.mul h1).add (h.2.2.2.mul h2)⟩
theorem std_bd {p0 p1 p2 : Int} (h0 : Bd 10 p0) (h1 : Bd 10 p1) (h2 : Bd 10 p2) : BV 21 (std p0 p1 p2) :=
  ⟨(h1.sub h2).mono (by decide), (h0.neg.mul (h1.sub h2)).mono (by decide), (h1.sub h0).mono (by decide), (h2.neg.mul (h1.sub h0)).mono (by decide)⟩
theorem image_view (s0 s1 s2 t0 t1 t2 x y : Int) : image (after (inv (std t0 t1 t2)) (std s0 s1 s2)) (x, y) =
    Kqy2.view (Kqy2.pt s0, Kqy2.pt s1, Kqy2.pt s2) (Kqy2.pt t0, Kqy2.pt t1, Kqy2.pt t2) (x, y) := by
  simp only [image, after, inv, std, Kqy2.view, Kqy2.pt, Kqy2.together, Kqy2.weighed, Kqy2.parts, Kqy2.det, Kqy2.times, Kqy2.plus, Prod.mk.injEq]
  constructor <;> grind
theorem inv_v3 (s0 s1 s2 t0 t1 t2 : Int) : inv (after (inv (std t0 t1 t2)) (std s0 s1 s2)) = after (inv (std s0 s1 s2)) (std t0 t1 t2) := by
  simp only [after, inv, std, Prod.mk.injEq]
  refine ⟨?_, ?_, ?_, ?_⟩ <;> grind
/-- a fraction, as the program reckons it -/
def frc (x y : Int) : List Int := let g : Int := Nat.gcd x.natAbs y.natAbs
  let d := if y < 0 then -g else g
  [x.fdiv d, y.fdiv d]
theorem fdiv_neg_dvd {x g : Int} (hg : g ≠ 0) (h : g ∣ x) : x.fdiv (-g) = -(x / g) := by
  obtain ⟨k, rfl⟩ := h
  rw [Int.mul_ediv_cancel_left k hg]
  have e : g * k = (-g) * (-k) := by rw [Int.neg_mul_neg]
  rw [e, Int.mul_fdiv_cancel_left (-k) (by omega)]
theorem fdiv_dvd {x g : Int} (hg : g ≠ 0) (h : g ∣ x) : x.fdiv g = x / g := by
  obtain ⟨k, rfl⟩ := h
  rw [Int.mul_ediv_cancel_left k hg, Int.mul_fdiv_cancel_left k hg]
theorem gcd_pos {x y : Int} (hy : y ≠ 0) : (Nat.gcd x.natAbs y.natAbs : Int) ≠ 0 := by
  have h : 0 < Nat.gcd x.natAbs y.natAbs := Nat.gcd_pos_of_pos_right _ (by omega)
  omega
theorem gcd_le {x y : Int} (hy : y ≠ 0) : Nat.gcd x.natAbs y.natAbs ≤ y.natAbs := Nat.gcd_le_right _ (by omega)
theorem frc_frac {x y : Int} (hy : y ≠ 0) : frc x y = Kqy2.frac x y := by
  have h0 := gcd_pos (x := x) hy
  have d1 : (Nat.gcd x.natAbs y.natAbs : Int) ∣ x := Int.ofNat_dvd_left.mpr (Nat.gcd_dvd_left _ _)
  have d2 : (Nat.gcd x.natAbs y.natAbs : Int) ∣ y := Int.ofNat_dvd_left.mpr (Nat.gcd_dvd_right _ _)
  unfold frc Kqy2.frac
  simp only
  rw [if_neg h0]
  by_cases h : y < 0
  · rw [if_pos h, if_pos h, fdiv_neg_dvd h0 d1, fdiv_neg_dvd h0 d2]
  · rw [if_neg h, if_neg h, fdiv_dvd h0 d1, fdiv_dvd h0 d2]
/-- one turn of Euclid's way -/
theorem gcd_turn {a b : Nat} : Nat.gcd b (a % b) = Nat.gcd a b := by
  rw [Nat.gcd_comm a b, Nat.gcd_rec b a, Nat.gcd_comm]
theorem small_bd {t : Int} (h : Kqy2.small t = true) : Bd 10 t := by
  unfold Kqy2.small at h
  rw [Bool.and_eq_true, decide_eq_true_iff, decide_eq_true_iff] at h
  exact Bd.small h.1 h.2
theorem all_bd {ns : List Int} (h : Kqy2.all ns = true) : ∀ t ∈ ns, Bd 10 t := fun t ht => small_bd (List.all_eq_true.mp h t ht)
theorem one_bd (n : Nat) : Bd (n + 1) 1 := by
  unfold Bd
  have : 0 < 2 ^ n := Nat.pow_pos (by decide)
  rw [Nat.pow_succ]
  show 1 < 2 ^ n * 2
  omega
theorem zero_bd (n : Nat) : Bd n 0 := Nat.pow_pos (by decide)
end WM

/-! ### How many are alike: plain Lean -/
namespace WM
/-- how many are the same, at most -/
def mostAlike (ns : List Int) : Nat := ((ns.map fun k => ns.count k).max?).getD 0
theorem most_is {ns : List Int} (h : ns ≠ []) : (∃ k, k ∈ ns ∧ ns.count k = mostAlike ns) ∧ ∀ k, k ∈ ns → ns.count k ≤ mostAlike ns := by
  unfold mostAlike
  cases e : (ns.map fun k => ns.count k).max? with
  | none =>
    have z := List.max?_eq_none_iff.mp e
    exact absurd (List.map_eq_nil_iff.mp z) h
  | some m =>
    obtain ⟨h1, h2⟩ := List.max?_eq_some_iff.mp e
    obtain ⟨k, hk, hm⟩ := List.mem_map.mp h1
    refine ⟨⟨k, hk, hm⟩, fun j hj => ?_⟩
    exact h2 _ (List.mem_map.mpr ⟨j, hj, rfl⟩)
theorem most_lt {ns : List Int} (h : ns ≠ []) (m : Nat) : mostAlike ns < m ↔ ∀ k, k ∈ ns → ns.count k < m := by
  obtain ⟨⟨k, hk, e⟩, h2⟩ := most_is h
  constructor
  · intro z j hj
    exact Nat.lt_of_le_of_lt (h2 j hj) z
  · intro z
    rw [← e]
    exact z k hk
/-- 1 if they are the same, else 0 -/
def same1 (a b : Int) : Nat := if a = b then 1 else 0
theorem count4 (a b c d k : Int) : [a, b, c, d].count k = same1 a k + same1 b k + same1 c k + same1 d k := by
  unfold same1
  simp only [List.count_cons, List.count_nil, beq_iff_eq]
  omega
theorem count3 (a b c k : Int) : [a, b, c].count k = same1 a k + same1 b k + same1 c k := by
  unfold same1
  simp only [List.count_cons, List.count_nil, beq_iff_eq]
  omega
theorem most_lt4 (a b c d : Int) (m : Nat) : mostAlike [a, b, c, d] < m ↔ (1 + same1 b a + same1 c a + same1 d a < m ∧ same1 a b + 1 + same1 c b + same1 d b < m ∧ same1 a c + same1 b c + 1 + same1 d c < m ∧ same1 a d + same1 b d + same1 c d + 1 < m) := by
  have e : ∀ x, same1 x x = 1 := fun x => if_pos rfl
  rw [most_lt (by simp)]
  simp only [List.mem_cons, List.not_mem_nil, or_false, forall_eq_or_imp, forall_eq, count4, e]
theorem most_lt3 (a b c : Int) (m : Nat) : mostAlike [a, b, c] < m ↔ (1 + same1 b a + same1 c a < m ∧ same1 a b + 1 + same1 c b < m ∧ same1 a c + same1 b c + 1 < m) := by
  have e : ∀ x, same1 x x = 1 := fun x => if_pos rfl
  rw [most_lt (by simp)]
  simp only [List.mem_cons, List.not_mem_nil, or_false, forall_eq_or_imp, forall_eq, count3, e]
theorem same_cases (a b : Int) : (a = b ∧ same1 a b = 1 ∧ same1 b a = 1) ∨ (a ≠ b ∧ same1 a b = 0 ∧ same1 b a = 0) := by
  by_cases h : a = b
  · exact .inl ⟨h, if_pos h, if_pos h.symm⟩
  · exact .inr ⟨h, if_neg h, if_neg fun z => h z.symm⟩
theorem okFour_iff (a b c d : Int) : Kqy2.okFour a b c d = true ↔ ¬ ((a = b ∧ b = c) ∨ (a = b ∧ b = d) ∨ (a = c ∧ c = d) ∨ (b = c ∧ c = d)) := by
  unfold Kqy2.okFour
  simp only [Bool.not_eq_true', Bool.or_eq_false_iff, Bool.and_eq_false_iff, beq_eq_false_iff_ne, ne_eq]
  omega
theorem most_four (a b c d : Int) : decide ((mostAlike [a, b, c, d] : Int) < 3) = Kqy2.okFour a b c d := by
  have h : ((mostAlike [a, b, c, d] : Int) < 3) ↔ mostAlike [a, b, c, d] < 3 := by omega
  rw [Bool.eq_iff_iff, decide_eq_true_iff, h, most_lt4, okFour_iff]
  have h1 := same_cases a b
  have h2 := same_cases a c
  have h3 := same_cases a d
  have h4 := same_cases b c
  have h5 := same_cases b d
  have h6 := same_cases c d
  omega
theorem most_three1 (a b c : Int) : 1 < mostAlike [a, b, c] ↔ (a = b ∨ a = c ∨ b = c) := by
  have h : (1 < mostAlike [a, b, c]) ↔ ¬ mostAlike [a, b, c] < 2 := by omega
  rw [h, most_lt3]
  have h1 := same_cases a b
  have h2 := same_cases a c
  have h4 := same_cases b c
  omega
theorem most_four1 (a b c d : Int) : 1 < mostAlike [a, b, c, d] ↔ (a = b ∨ a = c ∨ a = d ∨ b = c ∨ b = d ∨ c = d) := by
  have h : (1 < mostAlike [a, b, c, d]) ↔ ¬ mostAlike [a, b, c, d] < 2 := by omega
  rw [h, most_lt4]
  have h1 := same_cases a b
  have h2 := same_cases a c
  have h3 := same_cases a d
  have h4 := same_cases b c
  have h5 := same_cases b d
  have h6 := same_cases c d
  omega
end WM

namespace WM
open PySem PySem.Spec PyProof.Rows L2
/-! ### the data -/
abbrev fPt (x y : Int) : List (Str × D) := [("above", .int x), ("below", .int y)]
abbrev fVw (v : V4) : List (Str × D) := [("a", .int v.1), ("b", .int v.2.1), ("c", .int v.2.2.1), ("d", .int v.2.2.2)]
abbrev fMk (t m : Int) : List (Str × D) := [("t", .int t), ("m", .int m)]
abbrev dPt (x y : Int) : D := .obj 0 (fPt x y)
/-- a point by its pair -/
abbrev dP (p : Int × Int) : D := dPt p.1 p.2
theorem flat_pt (x y : Int) : Flat (dPt x y) := fun p hp => by
  rcases List.mem_cons.mp hp with rfl | hp
  · exact ⟨_, rfl⟩
  · rcases List.mem_cons.mp hp with rfl | hp
    · exact ⟨_, rfl⟩
    · cases hp
theorem dPt_eq {x y a b : Int} (h : x = a) (g : y = b) : dPt x y = dPt a b := by
  subst h
  subst g
  rfl
/-- a point of which both numbers are bounded -/
def BP (p : Int × Int) : Prop := Bd 500 p.1 ∧ Bd 500 p.2
abbrev dVw (v : V4) : D := .obj 1 (fVw v)
abbrev dMk (t m : Int) : D := .obj 2 (fMk t m)
abbrev dMs (l : List Kqy2.Mark) : D := .lst (l.map fun p => dMk p.t p.m)
abbrev fSe (b : Bool) (l : List Kqy2.Mark) : List (Str × D) := [("started", .bl b), ("marks", dMs l)]
abbrev dSe (b : Bool) (l : List Kqy2.Mark) : D := .obj 3 (fSe b l)
/-! ### what each def promises -/
def R_Point_init (ds : List D) (r : List (Str × D)) : Prop := ∃ (x : Int) (y : Int), ds = [.int x, .int y] ∧ r = fPt x y
theorem r_Point_init {x : Int} {y : Int}  : R_Point_init [.int x, .int y] (fPt x y) := ⟨_, _, rfl, rfl⟩
def R_View_init (ds : List D) (r : List (Str × D)) : Prop := ∃ (a : Int) (b : Int) (c : Int) (d : Int), ds = [.int a, .int b, .int c, .int d] ∧ r = fVw (a, b, c, d)
theorem r_View_init {a : Int} {b : Int} {c : Int} {d : Int}  : R_View_init [.int a, .int b, .int c, .int d] (fVw (a, b, c, d)) := ⟨_, _, _, _, rfl, rfl⟩
def R_Mark_init (ds : List D) (r : List (Str × D)) : Prop := ∃ (t : Int) (m : Int), ds = [.int t, .int m] ∧ r = fMk t m
theorem r_Mark_init {t : Int} {m : Int}  : R_Mark_init [.int t, .int m] (fMk t m) := ⟨_, _, rfl, rfl⟩
def R_Point_is_beyond_all (ds : List D) (r : D) : Prop := ∃ (x : Int) (y : Int), ds = [dPt x y] ∧ r = .bl (decide (y = 0))
theorem r_Point_is_beyond_all {x : Int} {y : Int}  : R_Point_is_beyond_all [dPt x y] (.bl (decide (y = 0))) := ⟨_, _, rfl, rfl⟩
def R_Point_is_at (ds : List D) (r : D) : Prop := ∃ (x : Int) (y : Int) (p : Int), ds = [dPt x y, .int p] ∧ (Bd 4000 y) ∧ (Bd 4000 p) ∧ r = .bl (decide (x = p * y))
theorem r_Point_is_at {x : Int} {y : Int} {p : Int} (h0 : Bd 4000 y) (h1 : Bd 4000 p) : R_Point_is_at [dPt x y, .int p] (.bl (decide (x = p * y))) := ⟨_, _, _, rfl, h0, h1, rfl⟩
def R_Point_moved_back (ds : List D) (r : D) : Prop := ∃ (x : Int) (y : Int) (p : Int), ds = [dPt x y, .int p] ∧ (Bd 4000 y) ∧ (Bd 4000 p) ∧ r = dPt (x - p * y) y
theorem r_Point_moved_back {x : Int} {y : Int} {p : Int} (h0 : Bd 4000 y) (h1 : Bd 4000 p) : R_Point_moved_back [dPt x y, .int p] (dPt (x - p * y) y) := ⟨_, _, _, rfl, h0, h1, rfl⟩
def R_point_at (ds : List D) (r : D) : Prop := ∃ (p : Int), ds = [.int p] ∧ r = dPt p 1
theorem r_point_at {p : Int}  : R_point_at [.int p] (dPt p 1) := ⟨_, rfl, rfl⟩
def R_point_beyond_all (ds : List D) (r : D) : Prop := ds = [] ∧ r = dPt 1 0
theorem r_point_beyond_all   : R_point_beyond_all [] (dPt 1 0) := ⟨rfl, rfl⟩
def R_excess (ds : List D) (r : D) : Prop := ∃ (p : Int × Int) (q : Int × Int), ds = [dP p, dP q] ∧ (BP p) ∧ (BP q) ∧ r = .int (Kqy2.det p q)
theorem r_excess {p : Int × Int} {q : Int × Int} (h0 : BP p) (h1 : BP q) : R_excess [dP p, dP q] (.int (Kqy2.det p q)) := ⟨_, _, rfl, h0, h1, rfl⟩
def R_difference (ds : List D) (r : D) : Prop := ∃ (p : Int × Int) (q : Int × Int), ds = [dP p, dP q] ∧ (BP p) ∧ (BP q) ∧ r = dPt (Kqy2.det p q) (p.2 * q.2)
theorem r_difference {p : Int × Int} {q : Int × Int} (h0 : BP p) (h1 : BP q) : R_difference [dP p, dP q] (dPt (Kqy2.det p q) (p.2 * q.2)) := ⟨_, _, rfl, h0, h1, rfl⟩
def R_middle_point (ds : List D) (r : D) : Prop := ∃ (p : Int × Int) (q : Int × Int), ds = [dP p, dP q] ∧ (BP p) ∧ (BP q) ∧ r = dPt (p.1 * q.2 + q.1 * p.2) (2 * (p.2 * q.2))
theorem r_middle_point {p : Int × Int} {q : Int × Int} (h0 : BP p) (h1 : BP q) : R_middle_point [dP p, dP q] (dPt (p.1 * q.2 + q.1 * p.2) (2 * (p.2 * q.2))) := ⟨_, _, rfl, h0, h1, rfl⟩
def R_double_ratio (ds : List D) (r : D) : Prop := ∃ (a : Int × Int) (b : Int × Int) (c : Int × Int) (d : Int × Int), ds = [.lst [dP a, dP b, dP c, dP d]] ∧ (BP a) ∧ (BP b) ∧ (BP c) ∧ (BP d) ∧ r = dP (Kqy2.double a b c d)
theorem r_double_ratio {a : Int × Int} {b : Int × Int} {c : Int × Int} {d : Int × Int} (h0 : BP a) (h1 : BP b) (h2 : BP c) (h3 : BP d) : R_double_ratio [.lst [dP a, dP b, dP c, dP d]] (dP (Kqy2.double a b c d)) := ⟨_, _, _, _, rfl, h0, h1, h2, h3, rfl⟩
def R_fourth_point (ds : List D) (r : D) : Prop := ∃ (a : Int) (b : Int) (c : Int) (p : Int) (q : Int), ds = [dInts [a, b, c], dPt p q] ∧ (Bd 10 a ∧ Bd 10 b ∧ Bd 10 c) ∧ (Bd 10 p ∧ Bd 10 q) ∧ r = dP (Kqy2.fourth (Kqy2.pt a) (Kqy2.pt b) (Kqy2.pt c) p q)
theorem r_fourth_point {a : Int} {b : Int} {c : Int} {p : Int} {q : Int} (h0 : Bd 10 a ∧ Bd 10 b ∧ Bd 10 c) (h1 : Bd 10 p ∧ Bd 10 q) : R_fourth_point [dInts [a, b, c], dPt p q] (dP (Kqy2.fourth (Kqy2.pt a) (Kqy2.pt b) (Kqy2.pt c) p q)) := ⟨_, _, _, _, _, rfl, h0, h1, rfl⟩
def R_common_divisor (ds : List D) (r : D) : Prop := ∃ (x : Int) (y : Int), ds = [.int x, .int y] ∧ r = .int (Nat.gcd x.natAbs y.natAbs)
theorem r_common_divisor {x : Int} {y : Int}  : R_common_divisor [.int x, .int y] (.int (Nat.gcd x.natAbs y.natAbs)) := ⟨_, _, rfl, rfl⟩
def R_fraction (ds : List D) (r : D) : Prop := ∃ (x : Int) (y : Int), ds = [dPt x y] ∧ (y ≠ 0) ∧ (Bd 4000 y) ∧ r = dInts (Kqy2.frac x y)
theorem r_fraction {x : Int} {y : Int} (h0 : y ≠ 0) (h1 : Bd 4000 y) : R_fraction [dPt x y] (dInts (Kqy2.frac x y)) := ⟨_, _, rfl, h0, h1, rfl⟩
def R_View_image (ds : List D) (r : D) : Prop := ∃ (v : V4) (x : Int) (y : Int), ds = [dVw v, dPt x y] ∧ (BV 4000 v) ∧ (Bd 4000 x) ∧ (Bd 4000 y) ∧ r = dPt (image v (x, y)).1 (image v (x, y)).2
theorem r_View_image {v : V4} {x : Int} {y : Int} (h0 : BV 4000 v) (h1 : Bd 4000 x) (h2 : Bd 4000 y) : R_View_image [dVw v, dPt x y] (dPt (image v (x, y)).1 (image v (x, y)).2) := ⟨_, _, _, rfl, h0, h1, h2, rfl⟩
def R_View_turned_round (ds : List D) (r : D) : Prop := ∃ (v : V4), ds = [dVw v] ∧ r = dVw (inv v)
theorem r_View_turned_round {v : V4}  : R_View_turned_round [dVw v] (dVw (inv v)) := ⟨_, rfl, rfl⟩
def R_View_after (ds : List D) (r : D) : Prop := ∃ (v : V4) (u : V4), ds = [dVw v, dVw u] ∧ (BV 4000 v) ∧ (BV 4000 u) ∧ r = dVw (after v u)
theorem r_View_after {v : V4} {u : V4} (h0 : BV 4000 v) (h1 : BV 4000 u) : R_View_after [dVw v, dVw u] (dVw (after v u)) := ⟨_, _, rfl, h0, h1, rfl⟩
def R_view_to_standard (ds : List D) (r : D) : Prop := ∃ (x : Int) (y : Int) (z : Int), ds = [dInts [x, y, z]] ∧ (Bd 10 x) ∧ (Bd 10 y) ∧ (Bd 10 z) ∧ r = dVw (std x y z)
theorem r_view_to_standard {x : Int} {y : Int} {z : Int} (h0 : Bd 10 x) (h1 : Bd 10 y) (h2 : Bd 10 z) : R_view_to_standard [dInts [x, y, z]] (dVw (std x y z)) := ⟨_, _, _, rfl, h0, h1, h2, rfl⟩
def R_view_of_three (ds : List D) (r : D) : Prop := ∃ (x : Int) (y : Int) (z : Int) (a : Int) (b : Int) (c : Int), ds = [dInts [x, y, z], dInts [a, b, c]] ∧ (Bd 10 x ∧ Bd 10 y ∧ Bd 10 z) ∧ (Bd 10 a ∧ Bd 10 b ∧ Bd 10 c) ∧ r = dVw (after (inv (std a b c)) (std x y z))
theorem r_view_of_three {x : Int} {y : Int} {z : Int} {a : Int} {b : Int} {c : Int} (h0 : Bd 10 x ∧ Bd 10 y ∧ Bd 10 z) (h1 : Bd 10 a ∧ Bd 10 b ∧ Bd 10 c) : R_view_of_three [dInts [x, y, z], dInts [a, b, c]] (dVw (after (inv (std a b c)) (std x y z))) := ⟨_, _, _, _, _, _, rfl, h0, h1, rfl⟩
section
variable {P : Program} {w : World} {K : PySem.W.Frag} {mg : Str → Option Value} {base : Heap} {T : Nat → Addr}
theorem bd_mul {i j : Int} (h : Bd 4000 i) (g : Bd 4000 j) : CMulW i j := wide_mul h g (by decide) (by decide) (by decide)
theorem ok_Point_is_beyond_all {f : Addr} {fd : FuncData}  (F : Fun K "is_beyond_all" "Point.is_beyond_all" s_Point_is_beyond_all f fd) (X : Tx K mg T)  :
    FnOk P w K mg base CX0 1 f fd ["self"] (spR T false R_Point_is_beyond_all) := by
  refine ok_pure F sc_Point_is_beyond_all (fun ds r h => ?_) (fun cdv A outer s H E hr => ⟨_, (pss_one (ps_ret (pe_cmpR op_eq (pe_fld (pv 0) rfl) pe_int (nomark _)))), fun ds r h => ?_⟩)
  · obtain ⟨_, _, rfl, _⟩ := h
    rfl
  · obtain ⟨x, y, rfl, rfl⟩ := h
    refine g_ret (ev_eqi (ev_fld (ev_var rfl) X.c_Point X.n_Point_below lk_Point_below) ev_int) ?_
    rfl
theorem ok_Point_is_at {f : Addr} {fd : FuncData}  (F : Fun K "is_at" "Point.is_at" s_Point_is_at f fd) (X : Tx K mg T)  :
    FnOk P w K mg base CX0 1 f fd ["self", "place"] (spR T false R_Point_is_at) := by
  refine ok_pure F sc_Point_is_at (fun ds r h => ?_) (fun cdv A outer s H E hr => ⟨_, (pss_one (ps_ret (pe_cmpR op_eq (pe_fld (pv 0) rfl) (pe_op op_mulW (pv 1) (pe_fld (pv 0) rfl)) (nomark _)))), fun ds r h => ?_⟩)
  · obtain ⟨_, _, _, rfl, _⟩ := h
    rfl
  · obtain ⟨x, y, p, rfl, h0, h1, rfl⟩ := h
    refine g_ret (ev_eqi (ev_fld (ev_var rfl) X.c_Point X.n_Point_above lk_Point_above) (ev_ic (ev_var rfl) (ev_fld (ev_var rfl) X.c_Point X.n_Point_below lk_Point_below) ?_)) ?_
    · exact bd_mul h1 h0
    · rfl
theorem ok_Point_moved_back {f : Addr} {fd : FuncData} {f_Point_init : Addr} {fd_Point_init : FuncData} (F : Fun K "moved_back" "Point.moved_back" s_Point_moved_back f fd) (X : Tx K mg T) (h_Point_init : Mkd P w K mg base "Point" (T 0) 1 ["self", "above", "below"] (spI T 0 R_Point_init) f_Point_init fd_Point_init) :
    FnOk P w K mg base CX0 3 f fd ["self", "distance"] (spR T false R_Point_moved_back) := by
  refine ok_pure F sc_Point_moved_back (fun ds r h => ?_) (fun cdv A outer s H E hr => ⟨_, (pss_one (ps_ret (pe_make h_Point_init.M h_Point_init.G (hr.mono (by decide)) rfl h_Point_init.m h_Point_init.b .nil pass0 (pa_cons (pe_op op_sub (pe_fld (pv 0) rfl) (pe_op op_mulW (pv 1) (pe_fld (pv 0) rfl))) (pa_cons (pe_fld (pv 0) rfl) pa_nil))))), fun ds r h => ?_⟩)
  · obtain ⟨_, _, _, rfl, _⟩ := h
    rfl
  · obtain ⟨x, y, p, rfl, h0, h1, rfl⟩ := h
    refine g_ret (ev_make (ea_cons (ev_i0 (ev_fld (ev_var rfl) X.c_Point X.n_Point_above lk_Point_above) (ev_ic (ev_var rfl) (ev_fld (ev_var rfl) X.c_Point X.n_Point_below lk_Point_below) ?_)) (ea_cons (ev_fld (ev_var rfl) X.c_Point X.n_Point_below lk_Point_below) ea_nil)) (r_Point_init)) ?_
    · exact bd_mul h1 h0
    · rfl
theorem ok_point_at {f : Addr} {fd : FuncData} {f_Point_init : Addr} {fd_Point_init : FuncData} (F : Fun K "point_at" "point_at" s_point_at f fd) (X : Tx K mg T) (h_Point_init : Mkd P w K mg base "Point" (T 0) 1 ["self", "above", "below"] (spI T 0 R_Point_init) f_Point_init fd_Point_init) :
    FnOk P w K mg base CX0 3 f fd ["place"] (spR T false R_point_at) := by
  refine ok_pure F sc_point_at (fun ds r h => ?_) (fun cdv A outer s H E hr => ⟨_, (pss_one (ps_ret (pe_make h_Point_init.M h_Point_init.G (hr.mono (by decide)) rfl h_Point_init.m h_Point_init.b .nil pass0 (pa_cons (pv 0) (pa_cons pe_int pa_nil))))), fun ds r h => ?_⟩)
  · obtain ⟨_, rfl, _⟩ := h
    rfl
  · obtain ⟨p, rfl, rfl⟩ := h
    refine g_ret (ev_make (ea_cons (ev_var rfl) (ea_cons ev_int ea_nil)) (r_Point_init)) ?_
    rfl
theorem ok_point_beyond_all {f : Addr} {fd : FuncData} {f_Point_init : Addr} {fd_Point_init : FuncData} (F : Fun K "point_beyond_all" "point_beyond_all" s_point_beyond_all f fd) (X : Tx K mg T) (h_Point_init : Mkd P w K mg base "Point" (T 0) 1 ["self", "above", "below"] (spI T 0 R_Point_init) f_Point_init fd_Point_init) :
    FnOk P w K mg base CX0 3 f fd [] (spR T false R_point_beyond_all) := by
  refine ok_pure F sc_point_beyond_all (fun ds r h => ?_) (fun cdv A outer s H E hr => ⟨_, (pss_one (ps_ret (pe_make h_Point_init.M h_Point_init.G (hr.mono (by decide)) rfl h_Point_init.m h_Point_init.b .nil pass0 (pa_cons pe_int (pa_cons pe_int pa_nil))))), fun ds r h => ?_⟩)
  · obtain ⟨rfl, _⟩ := h
    rfl
  · obtain ⟨rfl, rfl⟩ := h
    refine g_ret (ev_make (ea_cons ev_int (ea_cons ev_int ea_nil)) (r_Point_init)) ?_
    rfl
theorem ok_View_image {f : Addr} {fd : FuncData} {f_Point_init : Addr} {fd_Point_init : FuncData} (F : Fun K "image" "View.image" s_View_image f fd) (X : Tx K mg T) (h_Point_init : Mkd P w K mg base "Point" (T 0) 1 ["self", "above", "below"] (spI T 0 R_Point_init) f_Point_init fd_Point_init) :
    FnOk P w K mg base CX0 3 f fd ["self", "point"] (spR T false R_View_image) := by
  refine ok_pure F sc_View_image (fun ds r h => ?_) (fun cdv A outer s H E hr => ⟨_, (pss_cons (ps_set (i := 2) sc_View_image.nd rfl (Or.inl rfl) (pe_op op_add (pe_op op_mulW (pe_fld (pv 0) rfl) (pe_fld (pv 1) rfl)) (pe_op op_mulW (pe_fld (pv 0) rfl) (pe_fld (pv 1) rfl)))) (pss_cons (ps_set (i := 3) sc_View_image.nd rfl (Or.inl rfl) (pe_op op_add (pe_op op_mulW (pe_fld (pv 0) rfl) (pe_fld (pv 1) rfl)) (pe_op op_mulW (pe_fld (pv 0) rfl) (pe_fld (pv 1) rfl)))) (pss_one (ps_ret (pe_make h_Point_init.M h_Point_init.G (hr.mono (by decide)) rfl h_Point_init.m h_Point_init.b .nil pass0 (pa_cons (pv 2) (pa_cons (pv 3) pa_nil))))))), fun ds r h => ?_⟩)
  · obtain ⟨_, _, _, rfl, _⟩ := h
    rfl
  · obtain ⟨v, x, y, rfl, h0, h1, h2, rfl⟩ := h
    refine g_set (ev_i0 (ev_ic (ev_fld (ev_var rfl) X.c_View X.n_View_a lk_View_a) (ev_fld (ev_var rfl) X.c_Point X.n_Point_above lk_Point_above) ?_) (ev_ic (ev_fld (ev_var rfl) X.c_View X.n_View_b lk_View_b) (ev_fld (ev_var rfl) X.c_Point X.n_Point_below lk_Point_below) ?_)) ?_
    rotate_left 2
    refine g_set (ev_i0 (ev_ic (ev_fld (ev_var rfl) X.c_View X.n_View_c lk_View_c) (ev_fld (ev_var rfl) X.c_Point X.n_Point_above lk_Point_above) ?_) (ev_ic (ev_fld (ev_var rfl) X.c_View X.n_View_d lk_View_d) (ev_fld (ev_var rfl) X.c_Point X.n_Point_below lk_Point_below) ?_)) ?_
    rotate_left 2
    refine g_ret (ev_make (ea_cons (ev_var rfl) (ea_cons (ev_var rfl) ea_nil)) (r_Point_init)) ?_
    · rfl
    · exact bd_mul h0.1 h1
    · exact bd_mul h0.2.1 h2
    · exact bd_mul h0.2.2.1 h1
    · exact bd_mul h0.2.2.2 h2
theorem ok_View_turned_round {f : Addr} {fd : FuncData} {f_View_init : Addr} {fd_View_init : FuncData} (F : Fun K "turned_round" "View.turned_round" s_View_turned_round f fd) (X : Tx K mg T) (h_View_init : Mkd P w K mg base "View" (T 1) 1 ["self", "a", "b", "c", "d"] (spI T 1 R_View_init) f_View_init fd_View_init) :
    FnOk P w K mg base CX0 3 f fd ["self"] (spR T false R_View_turned_round) := by
  refine ok_pure F sc_View_turned_round (fun ds r h => ?_) (fun cdv A outer s H E hr => ⟨_, (pss_one (ps_ret (pe_make h_View_init.M h_View_init.G (hr.mono (by decide)) rfl h_View_init.m h_View_init.b .nil pass0 (pa_cons (pe_fld (pv 0) rfl) (pa_cons (pe_un un_neg (pe_fld (pv 0) rfl)) (pa_cons (pe_un un_neg (pe_fld (pv 0) rfl)) (pa_cons (pe_fld (pv 0) rfl) pa_nil))))))), fun ds r h => ?_⟩)
  · obtain ⟨_, rfl, _⟩ := h
    rfl
  · obtain ⟨v, rfl, rfl⟩ := h
    refine g_ret (ev_make (ea_cons (ev_fld (ev_var rfl) X.c_View X.n_View_d lk_View_d) (ea_cons (ev_neg (ev_fld (ev_var rfl) X.c_View X.n_View_b lk_View_b)) (ea_cons (ev_neg (ev_fld (ev_var rfl) X.c_View X.n_View_c lk_View_c)) (ea_cons (ev_fld (ev_var rfl) X.c_View X.n_View_a lk_View_a) ea_nil)))) (r_View_init)) ?_
    rfl
theorem ok_View_after {f : Addr} {fd : FuncData} {f_View_init : Addr} {fd_View_init : FuncData} (F : Fun K "after" "View.after" s_View_after f fd) (X : Tx K mg T) (h_View_init : Mkd P w K mg base "View" (T 1) 1 ["self", "a", "b", "c", "d"] (spI T 1 R_View_init) f_View_init fd_View_init) :
    FnOk P w K mg base CX0 3 f fd ["self", "inner"] (spR T false R_View_after) := by
  refine ok_pure F sc_View_after (fun ds r h => ?_) (fun cdv A outer s H E hr => ⟨_, (pss_one (ps_ret (pe_make h_View_init.M h_View_init.G (hr.mono (by decide)) rfl h_View_init.m h_View_init.b .nil pass0 (pa_cons (pe_op op_add (pe_op op_mulW (pe_fld (pv 0) rfl) (pe_fld (pv 1) rfl)) (pe_op op_mulW (pe_fld (pv 0) rfl) (pe_fld (pv 1) rfl))) (pa_cons (pe_op op_add (pe_op op_mulW (pe_fld (pv 0) rfl) (pe_fld (pv 1) rfl)) (pe_op op_mulW (pe_fld (pv 0) rfl) (pe_fld (pv 1) rfl))) (pa_cons (pe_op op_add (pe_op op_mulW (pe_fld (pv 0) rfl) (pe_fld (pv 1) rfl)) (pe_op op_mulW (pe_fld (pv 0) rfl) (pe_fld (pv 1) rfl))) (pa_cons (pe_op op_add (pe_op op_mulW (pe_fld (pv 0) rfl) (pe_fld (pv 1) rfl)) (pe_op op_mulW (pe_fld (pv 0) rfl) (pe_fld (pv 1) rfl))) pa_nil))))))), fun ds r h => ?_⟩)
  · obtain ⟨_, _, rfl, _⟩ := h
    rfl
  · obtain ⟨v, u, rfl, h0, h1, rfl⟩ := h
    refine g_ret (ev_make (ea_cons (ev_i0 (ev_ic (ev_fld (ev_var rfl) X.c_View X.n_View_a lk_View_a) (ev_fld (ev_var rfl) X.c_View X.n_View_a lk_View_a) ?_) (ev_ic (ev_fld (ev_var rfl) X.c_View X.n_View_b lk_View_b) (ev_fld (ev_var rfl) X.c_View X.n_View_c lk_View_c) ?_)) (ea_cons (ev_i0 (ev_ic (ev_fld (ev_var rfl) X.c_View X.n_View_a lk_View_a) (ev_fld (ev_var rfl) X.c_View X.n_View_b lk_View_b) ?_) (ev_ic (ev_fld (ev_var rfl) X.c_View X.n_View_b lk_View_b) (ev_fld (ev_var rfl) X.c_View X.n_View_d lk_View_d) ?_)) (ea_cons (ev_i0 (ev_ic (ev_fld (ev_var rfl) X.c_View X.n_View_c lk_View_c) (ev_fld (ev_var rfl) X.c_View X.n_View_a lk_View_a) ?_) (ev_ic (ev_fld (ev_var rfl) X.c_View X.n_View_d lk_View_d) (ev_fld (ev_var rfl) X.c_View X.n_View_c lk_View_c) ?_)) (ea_cons (ev_i0 (ev_ic (ev_fld (ev_var rfl) X.c_View X.n_View_c lk_View_c) (ev_fld (ev_var rfl) X.c_View X.n_View_b lk_View_b) ?_) (ev_ic (ev_fld (ev_var rfl) X.c_View X.n_View_d lk_View_d) (ev_fld (ev_var rfl) X.c_View X.n_View_d lk_View_d) ?_)) ea_nil)))) (r_View_init)) ?_
    · exact bd_mul h0.1 h1.1
    · exact bd_mul h0.2.1 h1.2.2.1
    · exact bd_mul h0.1 h1.2.1
    · exact bd_mul h0.2.1 h1.2.2.2
    · exact bd_mul h0.2.2.1 h1.1
    · exact bd_mul h0.2.2.2 h1.2.2.1
    · exact bd_mul h0.2.2.1 h1.2.1
    · exact bd_mul h0.2.2.2 h1.2.2.2
    · rfl
theorem ok_view_to_standard {f : Addr} {fd : FuncData} {f_View_init : Addr} {fd_View_init : FuncData} (F : Fun K "view_to_standard" "view_to_standard" s_view_to_standard f fd) (X : Tx K mg T) (h_View_init : Mkd P w K mg base "View" (T 1) 1 ["self", "a", "b", "c", "d"] (spI T 1 R_View_init) f_View_init fd_View_init) :
    FnOk P w K mg base CX0 3 f fd ["places"] (spR T false R_view_to_standard) := by
  refine ok_pure F sc_view_to_standard (fun ds r h => ?_) (fun cdv A outer s H E hr => ⟨_, (pss_cons (ps_set (i := 1) sc_view_to_standard.nd rfl (Or.inl rfl) (pe_ix ix_list (pv 0) pe_int (fun _ _ => rfl))) (pss_cons (ps_set (i := 2) sc_view_to_standard.nd rfl (Or.inl rfl) (pe_ix ix_list (pv 0) pe_int (fun _ _ => rfl))) (pss_cons (ps_set (i := 3) sc_view_to_standard.nd rfl (Or.inl rfl) (pe_ix ix_list (pv 0) pe_int (fun _ _ => rfl))) (pss_cons (ps_set (i := 4) sc_view_to_standard.nd rfl (Or.inl rfl) (pe_op op_sub (pv 2) (pv 3))) (pss_cons (ps_set (i := 5) sc_view_to_standard.nd rfl (Or.inl rfl) (pe_op op_sub (pv 2) (pv 1))) (pss_one (ps_ret (pe_make h_View_init.M h_View_init.G (hr.mono (by decide)) rfl h_View_init.m h_View_init.b .nil pass0 (pa_cons (pv 4) (pa_cons (pe_op op_mulW (pe_un un_neg (pv 1)) (pv 4)) (pa_cons (pv 5) (pa_cons (pe_op op_mulW (pe_un un_neg (pv 3)) (pv 5)) pa_nil)))))))))))), fun ds r h => ?_⟩)
  · obtain ⟨_, _, _, rfl, _⟩ := h
    rfl
  · obtain ⟨x, y, z, rfl, h0, h1, h2, rfl⟩ := h
    refine g_set (ev_ixl (n := 0) (ev_var rfl) ev_int rfl rfl) ?_
    refine g_set (ev_ixl (n := 1) (ev_var rfl) ev_int rfl rfl) ?_
    refine g_set (ev_ixl (n := 2) (ev_var rfl) ev_int rfl rfl) ?_
    refine g_set (ev_i0 (ev_var rfl) (ev_var rfl)) ?_
    refine g_set (ev_i0 (ev_var rfl) (ev_var rfl)) ?_
    refine g_ret (ev_make (ea_cons (ev_var rfl) (ea_cons (ev_ic (ev_neg (ev_var rfl)) (ev_var rfl) ?_) (ea_cons (ev_var rfl) (ea_cons (ev_ic (ev_neg (ev_var rfl)) (ev_var rfl) ?_) ea_nil)))) (r_View_init)) ?_
    · exact bd_mul (h0.neg.mono (by decide)) ((h1.sub h2).mono (by decide))
    · exact bd_mul (h2.neg.mono (by decide)) ((h1.sub h0).mono (by decide))
    · rfl
theorem ok_view_of_three {f : Addr} {fd : FuncData} {f_View_after : Addr} {fd_View_after : FuncData} {f_View_turned_round : Addr} {fd_View_turned_round : FuncData} {f_view_to_standard : Addr} {fd_view_to_standard : FuncData} (F : Fun K "view_of_three" "view_of_three" s_view_of_three f fd) (X : Tx K mg T) (h_View_after : Md P w K mg base (T 1) "after" 3 ["self", "inner"] (spR T false R_View_after) f_View_after fd_View_after) (h_View_turned_round : Md P w K mg base (T 1) "turned_round" 3 ["self"] (spR T false R_View_turned_round) f_View_turned_round fd_View_turned_round) (h_view_to_standard : Fd P w K mg base "view_to_standard" 3 ["places"] (spR T false R_view_to_standard) f_view_to_standard fd_view_to_standard) :
    FnOk P w K mg base CX0 4 f fd ["sources", "targets"] (spR T false R_view_of_three) := by
  refine ok_pure F sc_view_of_three (fun ds r h => ?_) (fun cdv A outer s H E hr => ⟨_, (pss_one (ps_ret (pe_meth (pe_meth0 (pe_call h_view_to_standard.G (hr.mono (by decide)) rfl h_view_to_standard.m h_view_to_standard.kp h_view_to_standard.b .nil pass0 (pa_cons (pv 1) pa_nil)) X.c_View h_View_turned_round.mt h_View_turned_round.G (hr.mono (by decide)) h_View_turned_round.b .nil pass0) X.c_View h_View_after.mt h_View_after.G (hr.mono (by decide)) h_View_after.b .nil pass0 (pa_cons (pe_call h_view_to_standard.G (hr.mono (by decide)) rfl h_view_to_standard.m h_view_to_standard.kp h_view_to_standard.b .nil pass0 (pa_cons (pv 0) pa_nil)) pa_nil)))), fun ds r h => ?_⟩)
  · obtain ⟨_, _, _, _, _, _, rfl, _⟩ := h
    rfl
  · obtain ⟨x, y, z, a, b, c, rfl, h0, h1, rfl⟩ := h
    refine g_ret (ev_meth (ev_meth (ev_call rfl (ea_cons (ev_var rfl) ea_nil) (r_view_to_standard ?_ ?_ ?_)) ea_nil (r_View_turned_round) nk_View_turned_round) (ea_cons (ev_call rfl (ea_cons (ev_var rfl) ea_nil) (r_view_to_standard ?_ ?_ ?_)) ea_nil) (r_View_after ?_ ?_) nk_View_after) ?_
    · exact h1.1
    · exact h1.2.1
    · exact h1.2.2
    · exact h0.1
    · exact h0.2.1
    · exact h0.2.2
    · exact (std_bd h1.1 h1.2.1 h1.2.2).inv.mono (by decide)
    · exact (std_bd h0.1 h0.2.1 h0.2.2).mono (by decide)
    · rfl
theorem bp_mul {p q : Int × Int} (h : BP p) (g : BP q) : CMulW p.1 q.2 ∧ CMulW q.1 p.2 ∧ CMulW p.2 q.2 := ⟨bd_mul (h.1.mono (by decide)) (g.2.mono (by decide)), bd_mul (g.1.mono (by decide)) (h.2.mono (by decide)), bd_mul (h.2.mono (by decide)) (g.2.mono (by decide))⟩
theorem det_bd {p q : Int × Int} (h : BP p) (g : BP q) : Bd 1001 (Kqy2.det p q) := (h.1.mul g.2).sub (g.1.mul h.2)
theorem double_bd {a b c d : Int × Int} (ha : BP a) (hb : BP b) (hc : BP c) (hd : BP d) : Bd 2002 (Kqy2.double a b c d).1 ∧ Bd 2002 (Kqy2.double a b c d).2 := ⟨(det_bd ha hc).mul (det_bd hb hd), (det_bd ha hd).mul (det_bd hb hc)⟩
theorem ok_excess {f : Addr} {fd : FuncData}  (F : Fun K "excess" "excess" s_excess f fd) (X : Tx K mg T)  :
    FnOk P w K mg base CX0 1 f fd ["more", "less"] (spR T false R_excess) := by
  refine ok_pure F sc_excess (fun ds r h => ?_) (fun cdv A outer s H E hr => ⟨_, (pss_one (ps_ret (pe_op op_sub (pe_op op_mulW (pe_fld (pv 0) rfl) (pe_fld (pv 1) rfl)) (pe_op op_mulW (pe_fld (pv 1) rfl) (pe_fld (pv 0) rfl))))), fun ds r h => ?_⟩)
  · obtain ⟨_, _, rfl, _⟩ := h
    rfl
  · obtain ⟨p, q, rfl, h0, h1, rfl⟩ := h
    refine g_ret (ev_i0 (ev_ic (ev_fld (ev_var rfl) X.c_Point X.n_Point_above lk_Point_above) (ev_fld (ev_var rfl) X.c_Point X.n_Point_below lk_Point_below) ?_) (ev_ic (ev_fld (ev_var rfl) X.c_Point X.n_Point_above lk_Point_above) (ev_fld (ev_var rfl) X.c_Point X.n_Point_below lk_Point_below) ?_)) ?_
    · exact (bp_mul h0 h1).1
    · exact (bp_mul h0 h1).2.1
    · rfl
theorem ok_difference {f : Addr} {fd : FuncData} {f_Point_init : Addr} {fd_Point_init : FuncData} {f_excess : Addr} {fd_excess : FuncData} (F : Fun K "difference" "difference" s_difference f fd) (X : Tx K mg T) (h_Point_init : Mkd P w K mg base "Point" (T 0) 1 ["self", "above", "below"] (spI T 0 R_Point_init) f_Point_init fd_Point_init) (h_excess : Fd P w K mg base "excess" 1 ["more", "less"] (spR T false R_excess) f_excess fd_excess) :
    FnOk P w K mg base CX0 3 f fd ["more", "less"] (spR T false R_difference) := by
  refine ok_pure F sc_difference (fun ds r h => ?_) (fun cdv A outer s H E hr => ⟨_, (pss_one (ps_ret (pe_make h_Point_init.M h_Point_init.G (hr.mono (by decide)) rfl h_Point_init.m h_Point_init.b .nil pass0 (pa_cons (pe_call h_excess.G (hr.mono (by decide)) rfl h_excess.m h_excess.kp h_excess.b .nil pass0 (pa_cons (pv 0) (pa_cons (pv 1) pa_nil))) (pa_cons (pe_op op_mulW (pe_fld (pv 0) rfl) (pe_fld (pv 1) rfl)) pa_nil))))), fun ds r h => ?_⟩)
  · obtain ⟨_, _, rfl, _⟩ := h
    rfl
  · obtain ⟨p, q, rfl, h0, h1, rfl⟩ := h
    refine g_ret (ev_make (ea_cons (ev_call rfl (ea_cons (ev_var rfl) (ea_cons (ev_var rfl) ea_nil)) (r_excess ?_ ?_)) (ea_cons (ev_ic (ev_fld (ev_var rfl) X.c_Point X.n_Point_below lk_Point_below) (ev_fld (ev_var rfl) X.c_Point X.n_Point_below lk_Point_below) ?_) ea_nil)) (r_Point_init)) ?_
    · exact h0
    · exact h1
    · exact (bp_mul h0 h1).2.2
    · rfl
theorem two_bd (n : Nat) : Bd (n + 2) 2 := by
  unfold Bd
  have : 0 < 2 ^ n := Nat.pow_pos (by decide)
  rw [Nat.pow_succ, Nat.pow_succ]
  show 2 < 2 ^ n * 2 * 2
  omega
theorem ok_middle_point {f : Addr} {fd : FuncData} {f_Point_init : Addr} {fd_Point_init : FuncData} (F : Fun K "middle_point" "middle_point" s_middle_point f fd) (X : Tx K mg T) (h_Point_init : Mkd P w K mg base "Point" (T 0) 1 ["self", "above", "below"] (spI T 0 R_Point_init) f_Point_init fd_Point_init) :
    FnOk P w K mg base CX0 3 f fd ["first", "second"] (spR T false R_middle_point) := by
  refine ok_pure F sc_middle_point (fun ds r h => ?_) (fun cdv A outer s H E hr => ⟨_, (pss_cons (ps_set (i := 2) sc_middle_point.nd rfl (Or.inl rfl) (pe_op op_add (pe_op op_mulW (pe_fld (pv 0) rfl) (pe_fld (pv 1) rfl)) (pe_op op_mulW (pe_fld (pv 1) rfl) (pe_fld (pv 0) rfl)))) (pss_one (ps_ret (pe_make h_Point_init.M h_Point_init.G (hr.mono (by decide)) rfl h_Point_init.m h_Point_init.b .nil pass0 (pa_cons (pv 2) (pa_cons (pe_op op_mulW (pe_op op_mulW pe_int (pe_fld (pv 0) rfl)) (pe_fld (pv 1) rfl)) pa_nil)))))), fun ds r h => ?_⟩)
  · obtain ⟨_, _, rfl, _⟩ := h
    rfl
  · obtain ⟨p, q, rfl, h0, h1, rfl⟩ := h
    refine g_set (ev_i0 (ev_ic (ev_fld (ev_var rfl) X.c_Point X.n_Point_above lk_Point_above) (ev_fld (ev_var rfl) X.c_Point X.n_Point_below lk_Point_below) ?_) (ev_ic (ev_fld (ev_var rfl) X.c_Point X.n_Point_above lk_Point_above) (ev_fld (ev_var rfl) X.c_Point X.n_Point_below lk_Point_below) ?_)) ?_
    rotate_left 2
    refine g_ret (ev_make (ea_cons (ev_var rfl) (ea_cons (ev_ic (ev_ic ev_int (ev_fld (ev_var rfl) X.c_Point X.n_Point_below lk_Point_below) ?_) (ev_fld (ev_var rfl) X.c_Point X.n_Point_below lk_Point_below) ?_) ea_nil)) (r_Point_init)) ?_
    · exact bd_mul (two_bd 3998) (h0.2.mono (by decide))
    · exact bd_mul (((two_bd 0).mul h0.2).mono (by decide)) (h1.2.mono (by decide))
    · exact dPt_eq rfl (Int.mul_assoc _ _ _)
    · exact (bp_mul h0 h1).1
    · exact (bp_mul h1 h0).1
theorem det_swap (p q : Int × Int) : Kqy2.det p q = -Kqy2.det q p := by
  unfold Kqy2.det
  omega
theorem double_eq (a b c d : Int × Int) : (Kqy2.det c a * Kqy2.det d b, Kqy2.det d a * Kqy2.det c b) = Kqy2.double a b c d := by
  unfold Kqy2.double
  rw [det_swap c a, det_swap d b, det_swap d a, det_swap c b, Int.neg_mul_neg, Int.neg_mul_neg]
theorem ok_double_ratio {f : Addr} {fd : FuncData} {f_Point_init : Addr} {fd_Point_init : FuncData} {f_excess : Addr} {fd_excess : FuncData} (F : Fun K "double_ratio" "double_ratio" s_double_ratio f fd) (X : Tx K mg T) (h_Point_init : Mkd P w K mg base "Point" (T 0) 1 ["self", "above", "below"] (spI T 0 R_Point_init) f_Point_init fd_Point_init) (h_excess : Fd P w K mg base "excess" 1 ["more", "less"] (spR T false R_excess) f_excess fd_excess) :
    FnOk P w K mg base CX0 3 f fd ["four"] (spR T false R_double_ratio) := by
  refine ok_pure F sc_double_ratio (fun ds r h => ?_) (fun cdv A outer s H E hr => ⟨_, (pss_cons (ps_set (i := 1) sc_double_ratio.nd rfl (Or.inl rfl) (pe_ix ix_list (pv 0) pe_int (fun _ _ => rfl))) (pss_cons (ps_set (i := 2) sc_double_ratio.nd rfl (Or.inl rfl) (pe_ix ix_list (pv 0) pe_int (fun _ _ => rfl))) (pss_cons (ps_set (i := 3) sc_double_ratio.nd rfl (Or.inl rfl) (pe_ix ix_list (pv 0) pe_int (fun _ _ => rfl))) (pss_cons (ps_set (i := 4) sc_double_ratio.nd rfl (Or.inl rfl) (pe_ix ix_list (pv 0) pe_int (fun _ _ => rfl))) (pss_one (ps_ret (pe_make h_Point_init.M h_Point_init.G (hr.mono (by decide)) rfl h_Point_init.m h_Point_init.b .nil pass0 (pa_cons (pe_op op_mulW (pe_call h_excess.G (hr.mono (by decide)) rfl h_excess.m h_excess.kp h_excess.b .nil pass0 (pa_cons (pv 3) (pa_cons (pv 1) pa_nil))) (pe_call h_excess.G (hr.mono (by decide)) rfl h_excess.m h_excess.kp h_excess.b .nil pass0 (pa_cons (pv 4) (pa_cons (pv 2) pa_nil)))) (pa_cons (pe_op op_mulW (pe_call h_excess.G (hr.mono (by decide)) rfl h_excess.m h_excess.kp h_excess.b .nil pass0 (pa_cons (pv 4) (pa_cons (pv 1) pa_nil))) (pe_call h_excess.G (hr.mono (by decide)) rfl h_excess.m h_excess.kp h_excess.b .nil pass0 (pa_cons (pv 3) (pa_cons (pv 2) pa_nil)))) pa_nil))))))))), fun ds r h => ?_⟩)
  · obtain ⟨_, _, _, _, rfl, _⟩ := h
    rfl
  · obtain ⟨a, b, c, d, rfl, h0, h1, h2, h3, rfl⟩ := h
    refine g_set (ev_ixl (n := 0) (ev_var rfl) ev_int rfl rfl) ?_
    refine g_set (ev_ixl (n := 1) (ev_var rfl) ev_int rfl rfl) ?_
    refine g_set (ev_ixl (n := 2) (ev_var rfl) ev_int rfl rfl) ?_
    refine g_set (ev_ixl (n := 3) (ev_var rfl) ev_int rfl rfl) ?_
    refine g_ret (ev_make (ea_cons (ev_ic (ev_call rfl (ea_cons (ev_var rfl) (ea_cons (ev_var rfl) ea_nil)) (r_excess ?_ ?_)) (ev_call rfl (ea_cons (ev_var rfl) (ea_cons (ev_var rfl) ea_nil)) (r_excess ?_ ?_)) ?_) (ea_cons (ev_ic (ev_call rfl (ea_cons (ev_var rfl) (ea_cons (ev_var rfl) ea_nil)) (r_excess ?_ ?_)) (ev_call rfl (ea_cons (ev_var rfl) (ea_cons (ev_var rfl) ea_nil)) (r_excess ?_ ?_)) ?_) ea_nil)) (r_Point_init)) ?_
    · exact h2
    · exact h0
    · exact h3
    · exact h1
    · exact bd_mul ((det_bd h2 h0).mono (by decide)) ((det_bd h3 h1).mono (by decide))
    · exact h3
    · exact h0
    · exact h2
    · exact h1
    · exact bd_mul ((det_bd h3 h0).mono (by decide)) ((det_bd h2 h1).mono (by decide))
    · rw [← double_eq]
theorem fourth_eq (a b c p q : Int) : ((c - a) * q * b - (c - b) * p * a, (c - a) * q - (c - b) * p) = Kqy2.fourth (Kqy2.pt a) (Kqy2.pt b) (Kqy2.pt c) p q := by
  simp only [Kqy2.fourth, Kqy2.pt, Kqy2.det, Kqy2.times, Kqy2.plus, Prod.mk.injEq]
  constructor <;> grind
theorem fourth_bd {a b c p q : Int} (h0 : Bd 10 a ∧ Bd 10 b ∧ Bd 10 c) (h1 : Bd 10 p ∧ Bd 10 q) : Bd 100 (Kqy2.fourth (Kqy2.pt a) (Kqy2.pt b) (Kqy2.pt c) p q).2 := by
  rw [← fourth_eq]
  exact (((h0.2.2.sub h0.1).mul h1.2).sub ((h0.2.2.sub h0.2.1).mul h1.1)).mono (by decide)
theorem ok_fourth_point {f : Addr} {fd : FuncData} {f_Point_init : Addr} {fd_Point_init : FuncData} (F : Fun K "fourth_point" "fourth_point" s_fourth_point f fd) (X : Tx K mg T) (h_Point_init : Mkd P w K mg base "Point" (T 0) 1 ["self", "above", "below"] (spI T 0 R_Point_init) f_Point_init fd_Point_init) :
    FnOk P w K mg base CX0 3 f fd ["three", "ratio"] (spR T false R_fourth_point) := by
  refine ok_pure F sc_fourth_point (fun ds r h => ?_) (fun cdv A outer s H E hr => ⟨_, (pss_cons (ps_set (i := 2) sc_fourth_point.nd rfl (Or.inl rfl) (pe_ix ix_list (pv 0) pe_int (fun _ _ => rfl))) (pss_cons (ps_set (i := 3) sc_fourth_point.nd rfl (Or.inl rfl) (pe_ix ix_list (pv 0) pe_int (fun _ _ => rfl))) (pss_cons (ps_set (i := 4) sc_fourth_point.nd rfl (Or.inl rfl) (pe_ix ix_list (pv 0) pe_int (fun _ _ => rfl))) (pss_cons (ps_set (i := 5) sc_fourth_point.nd rfl (Or.inl rfl) (pe_op op_mulW (pe_op op_sub (pv 4) (pv 2)) (pe_fld (pv 1) rfl))) (pss_cons (ps_set (i := 6) sc_fourth_point.nd rfl (Or.inl rfl) (pe_op op_mulW (pe_op op_sub (pv 4) (pv 3)) (pe_fld (pv 1) rfl))) (pss_one (ps_ret (pe_make h_Point_init.M h_Point_init.G (hr.mono (by decide)) rfl h_Point_init.m h_Point_init.b .nil pass0 (pa_cons (pe_op op_sub (pe_op op_mulW (pv 5) (pv 3)) (pe_op op_mulW (pv 6) (pv 2))) (pa_cons (pe_op op_sub (pv 5) (pv 6)) pa_nil)))))))))), fun ds r h => ?_⟩)
  · obtain ⟨_, _, _, _, _, rfl, _⟩ := h
    rfl
  · obtain ⟨a, b, c, p, q, rfl, h0, h1, rfl⟩ := h
    refine g_set (ev_ixl (n := 0) (ev_var rfl) ev_int rfl rfl) ?_
    refine g_set (ev_ixl (n := 1) (ev_var rfl) ev_int rfl rfl) ?_
    refine g_set (ev_ixl (n := 2) (ev_var rfl) ev_int rfl rfl) ?_
    refine g_set (ev_ic (ev_i0 (ev_var rfl) (ev_var rfl)) (ev_fld (ev_var rfl) X.c_Point X.n_Point_below lk_Point_below) ?_) ?_
    rotate_left 1
    refine g_set (ev_ic (ev_i0 (ev_var rfl) (ev_var rfl)) (ev_fld (ev_var rfl) X.c_Point X.n_Point_above lk_Point_above) ?_) ?_
    rotate_left 1
    refine g_ret (ev_make (ea_cons (ev_i0 (ev_ic (ev_var rfl) (ev_var rfl) ?_) (ev_ic (ev_var rfl) (ev_var rfl) ?_)) (ea_cons (ev_i0 (ev_var rfl) (ev_var rfl)) ea_nil)) (r_Point_init)) ?_
    · exact bd_mul (((h0.2.2.sub h0.1).mul h1.2).mono (by decide)) (h0.2.1.mono (by decide))
    · exact bd_mul (((h0.2.2.sub h0.2.1).mul h1.1).mono (by decide)) (h0.1.mono (by decide))
    · rw [← fourth_eq]
    · exact bd_mul ((h0.2.2.sub h0.1).mono (by decide)) (h1.2.mono (by decide))
    · exact bd_mul ((h0.2.2.sub h0.2.1).mono (by decide)) (h1.1.mono (by decide))
end
end WM

/-! ### What the second stage's calls are due, in one form: plain Lean -/
namespace WM
open Kqy2 in
/-- a place or a ratio as it is told: k where what is below is 0 -/
def toldAs (p : Int × Int) (k : Int) : List Int := if p.2 = 0 then [k] else 0 :: frac p.1 p.2
theorem told_place (p : Kqy2.Pt) (k : Int) : Kqy2Neutral.tell (Kqy2.orElse (Kqy2.place p) k) = toldAs p k := by
  unfold Kqy2.place toldAs
  split <;> rfl
theorem told_ratio (p : Int × Int) (k : Int) : Kqy2Neutral.tell (Kqy2.orElse (Kqy2.ratio p) k) = toldAs p k := by
  unfold Kqy2.ratio toldAs
  split <;> rfl
abbrev due (l : List Kqy2.Mark) (c : Kqy2.Call) : List Int := Kqy2Neutral.tell (Kqy2.step (some l) c).2
theorem tell_ite {c : Prop} [Decidable c] (a b : Kqy2.Ans) : Kqy2Neutral.tell (if c then a else b) = if c then Kqy2Neutral.tell a else Kqy2Neutral.tell b := by
  split <;> rfl
theorem else_eq {c : Prop} [Decidable c] {a x y : List Int} (h : x = y) : (if c then a else x) = if c then a else y := by
  rw [h]
theorem due_origin (l : List Kqy2.Mark) : due l .origin = if Kqy2.ready l = false then [-16] else toldAs (Kqy2.truth l (1, 0)) (-33) := by
  rw [← told_place]
  exact tell_ite _ _
theorem due_between (l : List Kqy2.Mark) (t u : Int) : due l (.between t u) = if Kqy2.all [t, u] = false then [-22] else if Kqy2.ready l = false then [-16] else
    if (Kqy2.truth l (Kqy2.pt t)).2 = 0 ∨ (Kqy2.truth l (Kqy2.pt u)).2 = 0 then [-6] else 0 :: Kqy2.frac ((Kqy2.truth l (Kqy2.pt u)).1 * (Kqy2.truth l (Kqy2.pt t)).2 - (Kqy2.truth l (Kqy2.pt t)).1 * (Kqy2.truth l (Kqy2.pt u)).2) ((Kqy2.truth l (Kqy2.pt t)).2 * (Kqy2.truth l (Kqy2.pt u)).2) := by
  refine (tell_ite _ _).trans ?_
  refine else_eq ?_
  refine (tell_ite _ _).trans ?_
  refine else_eq ?_
  exact tell_ite _ _
theorem due_middle (l : List Kqy2.Mark) (t u : Int) : due l (.middle t u) = if Kqy2.all [t, u] = false then [-22] else if Kqy2.ready l = false then [-16] else
    if (Kqy2.truth l (Kqy2.pt t)).2 = 0 ∨ (Kqy2.truth l (Kqy2.pt u)).2 = 0 then [-6] else
      toldAs (Kqy2.seen l ((Kqy2.truth l (Kqy2.pt t)).1 * (Kqy2.truth l (Kqy2.pt u)).2 + (Kqy2.truth l (Kqy2.pt u)).1 * (Kqy2.truth l (Kqy2.pt t)).2, 2 * ((Kqy2.truth l (Kqy2.pt t)).2 * (Kqy2.truth l (Kqy2.pt u)).2))) (-33) := by
  rw [← told_place]
  refine (tell_ite _ _).trans ?_
  refine else_eq ?_
  refine (tell_ite _ _).trans ?_
  refine else_eq ?_
  exact tell_ite _ _
theorem due_double (l : List Kqy2.Mark) (a b c d : Int) : due l (.double a b c d) = if Kqy2.all [a, b, c, d] = false ∨ Kqy2.okFour a b c d = false then [-22] else toldAs (Kqy2.double (Kqy2.pt a) (Kqy2.pt b) (Kqy2.pt c) (Kqy2.pt d)) (-6) := by
  rw [← told_ratio]
  exact tell_ite _ _
theorem due_keeps (l : List Kqy2.Mark) (a b c d : Int) : due l (.keeps a b c d) = if Kqy2.all [a, b, c, d] = false ∨ Kqy2.okFour a b c d = false then [-22] else if Kqy2.ready l = false then [-16] else
    toldAs (Kqy2.double (Kqy2.truth l (Kqy2.pt a)) (Kqy2.truth l (Kqy2.pt b)) (Kqy2.truth l (Kqy2.pt c)) (Kqy2.truth l (Kqy2.pt d))) (-6) := by
  rw [← told_ratio]
  refine (tell_ite _ _).trans ?_
  refine else_eq ?_
  exact tell_ite _ _
theorem due_six (l : List Kqy2.Mark) (a b c d : Int) : due l (.six a b c d) = if Kqy2.all [a, b, c, d] = false then [-22] else if a = b ∨ a = c ∨ a = d ∨ b = c ∨ b = d ∨ c = d then [-17] else
    0 :: ((((((Kqy2.frac (Kqy2.double (Kqy2.pt a) (Kqy2.pt b) (Kqy2.pt c) (Kqy2.pt d)).1 (Kqy2.double (Kqy2.pt a) (Kqy2.pt b) (Kqy2.pt c) (Kqy2.pt d)).2
      ++ Kqy2.frac (Kqy2.double (Kqy2.pt a) (Kqy2.pt b) (Kqy2.pt d) (Kqy2.pt c)).1 (Kqy2.double (Kqy2.pt a) (Kqy2.pt b) (Kqy2.pt d) (Kqy2.pt c)).2)
      ++ Kqy2.frac (Kqy2.double (Kqy2.pt a) (Kqy2.pt c) (Kqy2.pt b) (Kqy2.pt d)).1 (Kqy2.double (Kqy2.pt a) (Kqy2.pt c) (Kqy2.pt b) (Kqy2.pt d)).2)
      ++ Kqy2.frac (Kqy2.double (Kqy2.pt a) (Kqy2.pt c) (Kqy2.pt d) (Kqy2.pt b)).1 (Kqy2.double (Kqy2.pt a) (Kqy2.pt c) (Kqy2.pt d) (Kqy2.pt b)).2)
      ++ Kqy2.frac (Kqy2.double (Kqy2.pt a) (Kqy2.pt d) (Kqy2.pt b) (Kqy2.pt c)).1 (Kqy2.double (Kqy2.pt a) (Kqy2.pt d) (Kqy2.pt b) (Kqy2.pt c)).2)
      ++ Kqy2.frac (Kqy2.double (Kqy2.pt a) (Kqy2.pt d) (Kqy2.pt c) (Kqy2.pt b)).1 (Kqy2.double (Kqy2.pt a) (Kqy2.pt d) (Kqy2.pt c) (Kqy2.pt b)).2)) := by
  refine (tell_ite _ _).trans ?_
  refine else_eq ?_
  exact tell_ite _ _
theorem due_fourth (l : List Kqy2.Mark) (a b c p q : Int) : due l (.fourth a b c p q) = if Kqy2.all [a, b, c, p, q] = false ∨ (p = 0 ∧ q = 0) then [-22] else if a = b ∨ a = c ∨ b = c then [-17] else toldAs (Kqy2.fourth (Kqy2.pt a) (Kqy2.pt b) (Kqy2.pt c) p q) (-6) := by
  rw [← told_place]
  refine (tell_ite _ _).trans ?_
  refine else_eq ?_
  exact tell_ite _ _
theorem due_even (l : List Kqy2.Mark) (a b c : Int) : due l (.even a b c) = if Kqy2.all [a, b, c] = false then [-22] else if a = b ∨ a = c ∨ b = c then [-17] else toldAs (Kqy2.fourth (Kqy2.pt a) (Kqy2.pt b) (Kqy2.pt c) (-1) 1) (-6) := by
  rw [← told_place]
  refine (tell_ite _ _).trans ?_
  refine else_eq ?_
  exact tell_ite _ _
theorem due_state (l : List Kqy2.Mark) : due l .state = (l.length : Int) :: l.flatMap fun m => [m.t, m.m] := rfl
theorem callOf10 {ns : List Int} {x : Kqy2.Call} (h : Kqy2Neutral.callOf [10 :: ns] = some x) : ∃ a b, ns = [a, b] ∧ x = .between a b := by
  match ns, h with
  | [a, b], h => exact ⟨a, b, rfl, (Option.some.inj h).symm⟩
  | [], h => cases h
  | [_], h => cases h
  | _ :: _ :: _ :: _, h => cases h
theorem callOf11 {ns : List Int} {x : Kqy2.Call} (h : Kqy2Neutral.callOf [11 :: ns] = some x) : ∃ a b, ns = [a, b] ∧ x = .middle a b := by
  match ns, h with
  | [a, b], h => exact ⟨a, b, rfl, (Option.some.inj h).symm⟩
  | [], h => cases h
  | [_], h => cases h
  | _ :: _ :: _ :: _, h => cases h
theorem callOf12 {ns : List Int} {x : Kqy2.Call} (h : Kqy2Neutral.callOf [12 :: ns] = some x) : ∃ a b c d, ns = [a, b, c, d] ∧ x = .double a b c d := by
  match ns, h with
  | [a, b, c, d], h => exact ⟨a, b, c, d, rfl, (Option.some.inj h).symm⟩
  | [], h => cases h
  | [_], h => cases h
  | [_, _], h => cases h
  | [_, _, _], h => cases h
  | _ :: _ :: _ :: _ :: _ :: _, h => cases h
theorem callOf13 {ns : List Int} {x : Kqy2.Call} (h : Kqy2Neutral.callOf [13 :: ns] = some x) : ∃ a b c d, ns = [a, b, c, d] ∧ x = .six a b c d := by
  match ns, h with
  | [a, b, c, d], h => exact ⟨a, b, c, d, rfl, (Option.some.inj h).symm⟩
  | [], h => cases h
  | [_], h => cases h
  | [_, _], h => cases h
  | [_, _, _], h => cases h
  | _ :: _ :: _ :: _ :: _ :: _, h => cases h
theorem callOf14 {ns : List Int} {x : Kqy2.Call} (h : Kqy2Neutral.callOf [14 :: ns] = some x) : ∃ a b c d e, ns = [a, b, c, d, e] ∧ x = .fourth a b c d e := by
  match ns, h with
  | [a, b, c, d, e], h => exact ⟨a, b, c, d, e, rfl, (Option.some.inj h).symm⟩
  | [], h => cases h
  | [_], h => cases h
  | [_, _], h => cases h
  | [_, _, _], h => cases h
  | [_, _, _, _], h => cases h
  | _ :: _ :: _ :: _ :: _ :: _ :: _, h => cases h
theorem callOf15 {ns : List Int} {x : Kqy2.Call} (h : Kqy2Neutral.callOf [15 :: ns] = some x) : ∃ a b c, ns = [a, b, c] ∧ x = .even a b c := by
  match ns, h with
  | [a, b, c], h => exact ⟨a, b, c, rfl, (Option.some.inj h).symm⟩
  | [], h => cases h
  | [_], h => cases h
  | [_, _], h => cases h
  | _ :: _ :: _ :: _ :: _, h => cases h
theorem callOf16 {ns : List Int} {x : Kqy2.Call} (h : Kqy2Neutral.callOf [16 :: ns] = some x) : ∃ a b c d, ns = [a, b, c, d] ∧ x = .keeps a b c d := by
  match ns, h with
  | [a, b, c, d], h => exact ⟨a, b, c, d, rfl, (Option.some.inj h).symm⟩
  | [], h => cases h
  | [_], h => cases h
  | [_, _], h => cases h
  | [_, _, _], h => cases h
  | _ :: _ :: _ :: _ :: _ :: _, h => cases h
theorem callOf9 {ns : List Int} {x : Kqy2.Call} (h : Kqy2Neutral.callOf [9 :: ns] = some x) : ns = [] ∧ x = .origin := by
  match ns, h with
  | [], h => exact ⟨rfl, (Option.some.inj h).symm⟩
  | _ :: _, h => cases h
theorem callOf17 {ns : List Int} {x : Kqy2.Call} (h : Kqy2Neutral.callOf [17 :: ns] = some x) : ns = [] ∧ x = .state := by
  match ns, h with
  | [], h => exact ⟨rfl, (Option.some.inj h).symm⟩
  | _ :: _, h => cases h
/-! the same point, told by other numbers: what is told doesn't hang on the factor -/
theorem gcd_mul_left (k x y : Int) : Nat.gcd (k * x).natAbs (k * y).natAbs = k.natAbs * Nat.gcd x.natAbs y.natAbs := by
  rw [Int.natAbs_mul, Int.natAbs_mul, Nat.gcd_mul_left]
theorem frac_neg {x y : Int} (hy : y ≠ 0) : Kqy2.frac (-x) (-y) = Kqy2.frac x y := by
  have hg : (Nat.gcd x.natAbs y.natAbs : Int) ≠ 0 := by
    have h : 0 < Nat.gcd x.natAbs y.natAbs := Nat.gcd_pos_of_pos_right _ (by omega)
    omega
  have d1 : (Nat.gcd x.natAbs y.natAbs : Int) ∣ x := Int.ofNat_dvd_left.mpr (Nat.gcd_dvd_left _ _)
  have d2 : (Nat.gcd x.natAbs y.natAbs : Int) ∣ y := Int.ofNat_dvd_left.mpr (Nat.gcd_dvd_right _ _)
  unfold Kqy2.frac
  simp only [Int.natAbs_neg]
  rw [if_neg hg, if_neg hg, Int.neg_ediv_of_dvd d1, Int.neg_ediv_of_dvd d2]
  by_cases h : y < 0
  · rw [if_neg (by omega), if_pos h]
  · rw [if_pos (by omega), if_neg h, Int.neg_neg, Int.neg_neg]
theorem frac_pos {k x y : Int} (hk : 0 < k) (hy : y ≠ 0) : Kqy2.frac (k * x) (k * y) = Kqy2.frac x y := by
  have hg : (Nat.gcd x.natAbs y.natAbs : Int) ≠ 0 := by
    have h : 0 < Nat.gcd x.natAbs y.natAbs := Nat.gcd_pos_of_pos_right _ (by omega)
    omega
  have e : ((Nat.gcd (k * x).natAbs (k * y).natAbs : Nat) : Int) = k * (Nat.gcd x.natAbs y.natAbs : Int) := by
    rw [gcd_mul_left, Int.natCast_mul]
    congr 1
    omega
  unfold Kqy2.frac
  simp only [e]
  rw [if_neg (Int.mul_ne_zero (by omega) hg), if_neg hg, Int.mul_ediv_mul_of_pos x _ hk, Int.mul_ediv_mul_of_pos y _ hk]
  by_cases h : y < 0
  · rw [if_pos (Int.mul_neg_of_pos_of_neg hk h), if_pos h]
  · rw [if_neg (by have := Int.mul_nonneg (by omega : 0 ≤ k) (by omega : 0 ≤ y); omega), if_neg h]
theorem frac_mul {k x y : Int} (hk : k ≠ 0) (hy : y ≠ 0) : Kqy2.frac (k * x) (k * y) = Kqy2.frac x y := by
  by_cases h : 0 < k
  · exact frac_pos h hy
  · have e1 : k * x = -((-k) * x) := by rw [Int.neg_mul, Int.neg_neg]
    have e2 : k * y = -((-k) * y) := by rw [Int.neg_mul, Int.neg_neg]
    rw [e1, e2, frac_neg (Int.mul_ne_zero (by omega) hy), frac_pos (by omega) hy]
theorem told_mul {k : Int} (hk : k ≠ 0) (x y r : Int) : toldAs (k * x, k * y) r = toldAs (x, y) r := by
  unfold toldAs
  by_cases h : y = 0
  · subst h
    rw [if_pos (Int.mul_zero k), if_pos rfl]
  · rw [if_neg (Int.mul_ne_zero hk h), if_neg h, frac_mul hk h]
/-- two pairs that are one point -/
theorem frac_cross {x y a b : Int} (hy : y ≠ 0) (hb : b ≠ 0) (h : x * b = a * y) : Kqy2.frac x y = Kqy2.frac a b := by
  rw [← frac_mul hb hy, ← frac_mul (k := y) hy hb, Int.mul_comm b x, h, Int.mul_comm a y, Int.mul_comm b y]
end WM

namespace WM
open PySem PySem.Spec PyProof.Rows L2
/-! ### fractions -/
section
variable {P : Program} {w : World} {K : PySem.W.Frag} {mg : Str → Option Value} {base : Heap} {T : Nat → Addr}
theorem ok_common_divisor {f : Addr} {fd : FuncData}  (F : Fun K "common_divisor" "common_divisor" s_common_divisor f fd) (X : Tx K mg T)  :
    FnOk P w K mg base CX0 1 f fd ["first", "second"] (spR T false R_common_divisor) := by
  refine ok_pure F sc_common_divisor (fun ds r h => ?_) (fun cdv A outer s H E hr => ⟨_, (pss_cons (ps_set (i := 2) sc_common_divisor.nd rfl (Or.inl rfl) (pe_callB call_abs (by rfl) X.b_abs (by decide +kernel) (pa_cons (pv 0) pa_nil))) (pss_cons (ps_set (i := 3) sc_common_divisor.nd rfl (Or.inl rfl) (pe_callB call_abs (by rfl) X.b_abs (by decide +kernel) (pa_cons (pv 1) pa_nil))) (pss_cons (ps_while PassesOwn.never (pt_cmpR op_ne (pv 3) pe_int (nomark _)) (pss_cons (ps_set (i := 4) sc_common_divisor.nd rfl (Or.inl rfl) (pe_op op_mod (pv 2) (pv 3))) (pss_cons (ps_set (i := 2) sc_common_divisor.nd rfl (Or.inl rfl) (pv 3)) (pss_one (ps_set (i := 3) sc_common_divisor.nd rfl (Or.inl rfl) (pv 4)))))) (pss_one (ps_ret (pv 2)))))), fun ds r h => ?_⟩)
  · obtain ⟨_, _, rfl, _⟩ := h
    rfl
  · obtain ⟨x, y, rfl, rfl⟩ := h
    refine g_set (ev_abs (ev_var rfl)) ?_
    refine g_set (ev_abs (ev_var rfl)) ?_
    refine g_seq (P := fun ρ' => ∃ o, ρ' = [some (.int x), some (.int y), some (.int (Nat.gcd x.natAbs y.natAbs)), some (.int 0), o]) (g_while (fun ρ' => ∃ (a b : Nat) (o : Option D), ρ' = [some (.int x), some (.int y), some (.int a), some (.int b), o] ∧ Nat.gcd a b = Nat.gcd x.natAbs y.natAbs)
      (fun ρ' => match ρ' with
        | [_, _, _, some (.int b), _] => b.toNat
        | _ => 0) ⟨_, _, _, rfl, rfl⟩ ?_) ?_
    · rintro ρ ⟨a, b, o, rfl, hg⟩
      refine ⟨_, et_test (ev_nei (ev_var rfl) ev_int), fun hb => ?_, fun hb => ?_⟩
      · have hb0 : b ≠ 0 := by
          intro z
          subst z
          simp at hb
        refine g_set (ev_ic (ev_var rfl) (ev_var rfl) ?_) ?_
        · show (0 : Int) < b
          omega
        refine g_set (ev_var rfl) ?_
        refine g_asg (ev_var rfl) ⟨⟨b, a % b, _, rfl, gcd_turn.trans hg⟩, ?_⟩
        show ((a : Int) % (b : Int)).toNat < (b : Int).toNat
        have := Int.emod_lt_of_pos (a : Int) (show (0 : Int) < b by omega)
        have := Int.emod_nonneg (a : Int) (show (b : Int) ≠ 0 by omega)
        omega
      · have hb0 : b = 0 := by simpa using hb
        subst hb0
        rw [Nat.gcd_zero_right] at hg
        subst hg
        exact ⟨o, rfl⟩
    · rintro ρ' ⟨o, rfl⟩
      exact g_ret (ev_var rfl) rfl
theorem ok_fraction {f : Addr} {fd : FuncData} {f_common_divisor : Addr} {fd_common_divisor : FuncData} (F : Fun K "fraction" "fraction" s_fraction f fd) (X : Tx K mg T) (h_common_divisor : Fd P w K mg base "common_divisor" 1 ["first", "second"] (spR T false R_common_divisor) f_common_divisor fd_common_divisor) :
    FnOk P w K mg base CX0 2 f fd ["point"] (spR T true R_fraction) := by
  refine ok_pure F sc_fraction (fun ds r h => ?_) (fun cdv A outer s H E hr => ⟨_, (pss_cons (ps_set (i := 1) sc_fraction.nd rfl (Or.inl rfl) (pe_call h_common_divisor.G (hr.mono (by decide)) rfl h_common_divisor.m h_common_divisor.kp h_common_divisor.b .nil pass0 (pa_cons (pe_fld (pv 0) rfl) (pa_cons (pe_fld (pv 0) rfl) pa_nil)))) (pss_cons (ps_if (pt_cmpR op_lt (pe_fld (pv 0) rfl) pe_int (nomark _)) (pss_one (ps_set (i := 1) sc_fraction.nd rfl (Or.inl rfl) (pe_un un_neg (pv 1)))) pss_nil) (pss_one (ps_ret (pe_lst (pa_cons (pe_op op_fdivV (pe_fld (pv 0) rfl) (pv 1)) (pa_cons (pe_op op_fdivV (pe_fld (pv 0) rfl) (pv 1)) pa_nil))))))), fun ds r h => ?_⟩)
  · obtain ⟨_, _, rfl, _⟩ := h
    rfl
  · obtain ⟨x, y, rfl, h0, h1, rfl⟩ := h
    refine g_set (ev_call rfl (ea_cons (ev_fld (ev_var rfl) X.c_Point X.n_Point_above lk_Point_above) (ea_cons (ev_fld (ev_var rfl) X.c_Point X.n_Point_below lk_Point_below) ea_nil)) r_common_divisor) ?_
    refine g_seq (P := fun ρ' => ρ' = [some (dPt x y), some (.int (if y < 0 then -(Nat.gcd x.natAbs y.natAbs : Int) else Nat.gcd x.natAbs y.natAbs))]) (g_if (et_test (ev_b0 (ev_fld (ev_var rfl) X.c_Point X.n_Point_below lk_Point_below) ev_int)) (fun hb => g_asg (ev_neg (ev_var rfl)) ?_) fun hb => g_next ?_) ?_
    · rw [if_pos (of_decide_eq_true hb)]
      rfl
    · rw [if_neg (of_decide_eq_false hb)]
      rfl
    · rintro ρ' rfl
      have g0 := gcd_pos (x := x) h0
      have g1 := gcd_le (x := x) h0
      have hd : CDivV x (if y < 0 then -(Nat.gcd x.natAbs y.natAbs : Int) else Nat.gcd x.natAbs y.natAbs) := by
        have h2 : (if y < 0 then -(Nat.gcd x.natAbs y.natAbs : Int) else Nat.gcd x.natAbs y.natAbs).natAbs < 2 ^ 4000 := Nat.lt_of_le_of_lt (by split <;> omega) h1
        refine ⟨?_, Nat.lt_trans (PySem.Flt.log2_lt_of (by decide) h2) (by decide)⟩
        split <;> omega
      refine g_retN (en_lst (ea_cons (ev_ic (ev_fld (ev_var rfl) X.c_Point X.n_Point_above lk_Point_above) (ev_var rfl) hd) (ea_cons (ev_ic (ev_fld (ev_var rfl) X.c_Point X.n_Point_below lk_Point_below) (ev_var rfl) hd) ea_nil)) (Nat.le_of_ble_eq_true rfl)) ?_
      rw [← frc_frac h0]
      rfl
def R_told (ds : List D) (r : D) : Prop := ∃ (x : Int) (y : Int) (k : Int), ds = [dPt x y, .int k] ∧ (Bd 4000 y) ∧ r = dInts (toldAs (x, y) k)
theorem r_told {x : Int} {y : Int} {k : Int} (h0 : Bd 4000 y) : R_told [dPt x y, .int k] (dInts (toldAs (x, y) k)) := ⟨_, _, _, rfl, h0, rfl⟩
theorem frac_len (x y : Int) : (Kqy2.frac x y).length = 2 := by
  unfold Kqy2.frac
  simp only
  split
  · rfl
  · split <;> rfl
theorem ok_told {f : Addr} {fd : FuncData} {f_Point_is_beyond_all : Addr} {fd_Point_is_beyond_all : FuncData} {f_fraction : Addr} {fd_fraction : FuncData} (F : Fun K "told" "told" s_told f fd) (X : Tx K mg T) (h_Point_is_beyond_all : Md P w K mg base (T 0) "is_beyond_all" 1 ["self"] (spR T false R_Point_is_beyond_all) f_Point_is_beyond_all fd_Point_is_beyond_all) (h_fraction : Fd P w K mg base "fraction" 2 ["point"] (spR T true R_fraction) f_fraction fd_fraction) :
    FnOk P w K mg base CX0 3 f fd ["point", "refusal"] (spR T true R_told) := by
  refine ok_pure F sc_told (fun ds r h => ?_) (fun cdv A outer s H E hr => ⟨_, (pss_cons (ps_if (pt_val (pe_meth0 (pv 0) X.c_Point h_Point_is_beyond_all.mt h_Point_is_beyond_all.G (hr.mono (by decide)) h_Point_is_beyond_all.b .nil pass0)) (pss_one (ps_ret (pe_lst (pa_cons (pv 1) pa_nil)))) pss_nil) (pss_one (ps_ret (pe_op op_cat (pe_lst (pa_cons pe_int pa_nil)) (pe_call h_fraction.G (hr.mono (by decide)) rfl h_fraction.m h_fraction.kp h_fraction.b .nil pass0 (pa_cons (pv 0) pa_nil)))))), fun ds r h => ?_⟩)
  · obtain ⟨_, _, _, rfl, _⟩ := h
    rfl
  · obtain ⟨x, y, k, rfl, h0, rfl⟩ := h
    refine g_guard (et_b (ev_meth (ev_var rfl) ea_nil (r_Point_is_beyond_all) nk_Point_is_beyond_all)) (fun hb => ?_) (fun hb => ?_)
    · unfold toldAs
      rw [if_pos (of_decide_eq_true hb)]
      exact g_retN (en_lst (ea_cons (ev_var rfl) ea_nil) (Nat.le_of_ble_eq_true rfl)) rfl
    have hy : y ≠ 0 := of_decide_eq_false hb
    refine g_retN (en_cat (ev_lst (ea_cons ev_int ea_nil) (Nat.le_of_ble_eq_true rfl)) (ev_call rfl (ea_cons (ev_var rfl) ea_nil) (r_fraction hy h0)) ?_) ?_
    · rw [List.length_map, frac_len]
      decide
    · unfold toldAs
      rw [if_neg hy]
      rfl
/-- a number in a list of them -/
def numD : D → Int
  | .int k => k
  | _ => 0
theorem map_num {β : Type} (ns : List Int) (f : Int → β) : (ns.map D.int).map (fun d => f (numD d)) = ns.map f := by
  rw [List.map_map]
  rfl
theorem mem_num {ns : List Int} {d : D} (h : d ∈ ns.map D.int) : ∃ k, k ∈ ns ∧ d = .int k := by
  obtain ⟨k, hk, rfl⟩ := List.mem_map.mp h
  exact ⟨k, hk, rfl⟩
def R_in_range (ds : List D) (r : D) : Prop := ∃ (ns : List Int), ds = [dInts ns] ∧ (ns.length ≤ 100) ∧ r = .bl (Kqy2.all ns)
theorem r_in_range {ns : List Int} (h0 : ns.length ≤ 100) : R_in_range [dInts ns] (.bl (Kqy2.all ns)) := ⟨_, rfl, h0, rfl⟩
theorem all_small (ns : List Int) : (ns.map Kqy2.small).all id = Kqy2.all ns := by
  unfold Kqy2.all
  rw [List.all_map]
  rfl
theorem ok_in_range {f : Addr} {fd : FuncData}  (F : Fun K "in_range" "in_range" s_in_range f fd) (X : Tx K mg T)  :
    FnOk P w K mg base CX0 1 f fd ["places"] (spR T false R_in_range) := by
  refine ok_pure F sc_in_range (fun ds r h => ?_) (fun cdv A outer s H E hr => ⟨_, (pss_one (ps_ret (pe_callB (cr_all rfl) (by rfl) X.b_all (by decide +kernel) (pa_cons (pe_lc (own := [("place", 1)]) (g := gName 1) (tt := tYes) (te := (tChain (rI0 fun i j => .bl (decide (i ≤ j))) (rI0 fun i j => .bl (decide (i ≤ j))) (tC (.int 0)) (tVar 1) (tC (.int 1000)))) rfl sc_in_range.nd (pi_list (pv 0)) (blkOk_by (N := ["places", "place"]) (sc := defScope s_in_range) (by decide +kernel)) (fun _ _ _ _ _ => pg_name (i := 1) sc_in_range.nd rfl (Or.inl rfl)) (fun _ _ _ _ _ => pts_nil) (fun _ _ _ _ _ => by exact (pe_chain op_le op_le pe_int (pv 1) (pe_globI rfl X.g_FARTHEST)))) pa_nil)))), fun ds r h => ?_⟩)
  · obtain ⟨_, rfl, _⟩ := h
    rfl
  · obtain ⟨ns, rfl, h0, rfl⟩ := h
    refine g_ret (ev_all (bs := ns.map Kqy2.small) (EvD.is (ev_lcD (f := fun d => .bl (Kqy2.small (numD d))) (ev_var rfl) ?_ fun d hd => ?_) ?_)) ?_
    · rw [List.length_map]
      omega
    · obtain ⟨k, _, rfl⟩ := mem_num hd
      exact ⟨trivial, ev_chain ev_int (ev_var rfl) ev_int⟩
    · rw [map_num ns fun k => D.bl (Kqy2.small k), List.map_map]
      rfl
    · rw [all_small]
def R_most_alike (ds : List D) (r : D) : Prop := ∃ (ns : List Int), ds = [dInts ns] ∧ (ns ≠ []) ∧ (ns.length ≤ 100) ∧ r = .int (mostAlike ns)
theorem r_most_alike {ns : List Int} (h0 : ns ≠ []) (h1 : ns.length ≤ 100) : R_most_alike [dInts ns] (.int (mostAlike ns)) := ⟨_, rfl, h0, h1, rfl⟩
theorem ok_most_alike {f : Addr} {fd : FuncData}  (F : Fun K "most_alike" "most_alike" s_most_alike f fd) (X : Tx K mg T)  :
    FnOk P w K mg base CX0 1 f fd ["places"] (spR T false R_most_alike) := by
  refine ok_pure F sc_most_alike (fun ds r h => ?_) (fun cdv A outer s H E hr => ⟨_, (pss_one (ps_ret (pe_callB (cr_max rfl) (by rfl) X.b_max (by decide +kernel) (pa_cons (pe_lc (own := [("place", 1)]) (g := gName 1) (tt := tYes) (te := (tBM K "list" (rCntI K) (tVar 0) (tCons (tVar 1) tNil))) rfl sc_most_alike.nd (pi_list (pv 0)) (blkOk_by (N := ["places", "place"]) (sc := defScope s_most_alike) (by decide +kernel)) (fun _ _ _ _ _ => pg_name (i := 1) sc_most_alike.nd rfl (Or.inl rfl)) (fun _ _ _ _ _ => pts_nil) (fun _ _ _ _ _ => by exact (pe_bm PySem.F.plainAttrs_list PySem.F.slot_list_count PySem.F.type_list_count mt_lcount (pv 0) (pa_cons (pv 1) pa_nil)))) pa_nil)))), fun ds r h => ?_⟩)
  · obtain ⟨_, rfl, _⟩ := h
    rfl
  · obtain ⟨ns, rfl, h0, h1, rfl⟩ := h
    obtain ⟨⟨k, hk, e⟩, h2⟩ := most_is h0
    refine g_ret (ev_max (m := mostAlike ns) (ev_lc (f := fun d => ns.count (numD d)) (ev_var rfl) ?_ fun d hd => ?_) ?_ ?_) rfl
    · rw [List.length_map]
      omega
    · obtain ⟨j, _, rfl⟩ := mem_num hd
      exact ev_cnt (ev_var rfl) (ev_var rfl)
    · rw [map_num ns fun k => (ns.count k : Int)]
      exact List.mem_map.mpr ⟨k, hk, by rw [e]⟩
    · intro y hy
      rw [map_num ns fun k => (ns.count k : Int)] at hy
      obtain ⟨j, hj, rfl⟩ := List.mem_map.mp hy
      exact Int.ofNat_le.mpr (h2 j hj)
def R_have_double_ratio (ds : List D) (r : D) : Prop := ∃ (a : Int) (b : Int) (c : Int) (d : Int), ds = [dInts [a, b, c, d]] ∧ r = .bl (Kqy2.all [a, b, c, d] && Kqy2.okFour a b c d)
theorem r_have_double_ratio {a : Int} {b : Int} {c : Int} {d : Int}  : R_have_double_ratio [dInts [a, b, c, d]] (.bl (Kqy2.all [a, b, c, d] && Kqy2.okFour a b c d)) := ⟨_, _, _, _, rfl, rfl⟩
theorem ok_have_double_ratio {f : Addr} {fd : FuncData} {f_most_alike : Addr} {fd_most_alike : FuncData} {f_in_range : Addr} {fd_in_range : FuncData} (F : Fun K "have_double_ratio" "have_double_ratio" s_have_double_ratio f fd) (X : Tx K mg T) (h_most_alike : Fd P w K mg base "most_alike" 1 ["places"] (spR T false R_most_alike) f_most_alike fd_most_alike) (h_in_range : Fd P w K mg base "in_range" 1 ["places"] (spR T false R_in_range) f_in_range fd_in_range) :
    FnOk P w K mg base CX0 2 f fd ["places"] (spR T false R_have_double_ratio) := by
  refine ok_pure F sc_have_double_ratio (fun ds r h => ?_) (fun cdv A outer s H E hr => ⟨_, (pss_one (ps_ret (pe_and (pe_call h_in_range.G (hr.mono (by decide)) rfl h_in_range.m h_in_range.kp h_in_range.b .nil pass0 (pa_cons (pv 0) pa_nil)) (pe_one (pe_cmpR op_lt (pe_call h_most_alike.G (hr.mono (by decide)) rfl h_most_alike.m h_most_alike.kp h_most_alike.b .nil pass0 (pa_cons (pv 0) pa_nil)) pe_int (nomark _)))))), fun ds r h => ?_⟩)
  · obtain ⟨_, _, _, _, rfl, _⟩ := h
    rfl
  · obtain ⟨a, b, c, d, rfl, rfl⟩ := h
    refine g_ret (ev_andV (ev_call rfl (ea_cons (ev_var rfl) ea_nil) (r_in_range ?_)) (fun _ => (ev_b0 (ev_call rfl (ea_cons (ev_var rfl) ea_nil) (r_most_alike ?_ ?_)) ev_int))) ?_
    · exact Nat.le_of_ble_eq_true rfl
    · simp
    · exact Nat.le_of_ble_eq_true rfl
    · rw [most_four]
/-! ### four in another order -/
def R_in_order (K : PySem.W.Frag) (ds : List D) (r : D) : Prop := ∃ (a b c d : Int × Int) (o : Addr) (i j k l : Int) (p q u v : Int × Int), ds = [.lst [dP a, dP b, dP c, dP d], .ref o] ∧ (∀ H, SqT K H o ([i, j, k, l].map V.int)) ∧
  (∀ n ∈ [i, j, k, l], 0 ≤ n ∧ n < 4) ∧ [p, q, u, v] = [i, j, k, l].map (fun n => [a, b, c, d].getD n.toNat (0, 0)) ∧ r = .lst [dP p, dP q, dP u, dP v]
theorem ok_in_order {f : Addr} {fd : FuncData}  (F : Fun K "in_order" "in_order" s_in_order f fd) (X : Tx K mg T)  :
    FnOk P w K mg base CX0 1 f fd ["four", "order"] (spR T false (R_in_order K)) := by
  refine ok_pure F sc_in_order (fun ds r h => ?_) (fun cdv A outer s H E hr => ⟨_, (pss_one (ps_ret (pe_lc (own := [("k", 2)]) (g := gName 2) (tt := tYes) (te := (tOp (rIxL K) (tVar 0) (tVar 2))) rfl sc_in_order.nd (pi_tup (pv 1)) (blkOk_by (N := ["four", "order", "k"]) (sc := defScope s_in_order) (by decide +kernel)) (fun _ _ _ _ _ => pg_name (i := 2) sc_in_order.nd rfl (Or.inl rfl)) (fun _ _ _ _ _ => pts_nil) (fun _ _ _ _ _ => by exact (pe_ix ix_list (pv 0) (pv 2) (fun _ _ => rfl)))))), fun ds r h => ?_⟩)
  · obtain ⟨a, b, c, d, o, i, j, k, l, p, q, u, v, rfl, _⟩ := h
    rfl
  · obtain ⟨a, b, c, d, o, i, j, k, l, p, q, u, v, rfl, hT, hn, he, rfl⟩ := h
    refine g_ret (EvN.toD (en_lcT (K := K) (es := [dP p, dP q, dP u, dP v]) (ev_var rfl) hT (fun H => IsL.mkInts _) (Nat.le_of_ble_eq_true rfl) rfl fun n e e' hd hd' => ?_)) rfl
    have hm0 := List.mem_of_getElem? hd
    obtain ⟨m, hm, rfl⟩ := mem_num hm0
    obtain ⟨m0, m4⟩ := hn m hm
    have hx : e' = dP ([a, b, c, d].getD m.toNat (0, 0)) := by
      have e1 : [dP p, dP q, dP u, dP v] = [i, j, k, l].map (fun n => dP ([a, b, c, d].getD n.toNat (0, 0))) := by
        have := congrArg (List.map dP) he
        rw [List.map_map] at this
        exact this
      rw [e1, List.getElem?_map] at hd'
      rw [List.getElem?_map] at hd
      cases hq : [i, j, k, l][n]? with
      | none =>
        rw [hq] at hd
        cases hd
      | some y =>
        rw [hq] at hd hd'
        have ey : y = m := by
          have := Option.some.inj hd
          exact D.int.inj this
        rw [← ey]
        exact (Option.some.inj hd').symm
    subst hx
    refine ⟨flat_pt _ _, ?_⟩
    refine ev_ixl (n := m.toNat) (ev_var rfl) (ev_var rfl) (Int.toNat_of_nonneg m0).symm ?_
    have hx : m = 0 ∨ m = 1 ∨ m = 2 ∨ m = 3 := by omega
    rcases hx with rfl | rfl | rfl | rfl <;> rfl
def R_six_ratios (ds : List D) (r : D) : Prop := ∃ (a : Int × Int) (b : Int × Int) (c : Int × Int) (d : Int × Int), ds = [.lst [dP a, dP b, dP c, dP d]] ∧ (BP a) ∧ (BP b) ∧ (BP c) ∧ (BP d) ∧ r = .lst [dP (Kqy2.double a b c d), dP (Kqy2.double a b d c), dP (Kqy2.double a c b d), dP (Kqy2.double a c d b), dP (Kqy2.double a d b c), dP (Kqy2.double a d c b)]
theorem r_six_ratios {a : Int × Int} {b : Int × Int} {c : Int × Int} {d : Int × Int} (h0 : BP a) (h1 : BP b) (h2 : BP c) (h3 : BP d) : R_six_ratios [.lst [dP a, dP b, dP c, dP d]] (.lst [dP (Kqy2.double a b c d), dP (Kqy2.double a b d c), dP (Kqy2.double a c b d), dP (Kqy2.double a c d b), dP (Kqy2.double a d b c), dP (Kqy2.double a d c b)]) := ⟨_, _, _, _, rfl, h0, h1, h2, h3, rfl⟩
theorem ok_six_ratios {f : Addr} {fd : FuncData} {f_double_ratio : Addr} {fd_double_ratio : FuncData} {f_in_order : Addr} {fd_in_order : FuncData} (F : Fun K "six_ratios" "six_ratios" s_six_ratios f fd) (X : Tx K mg T) (h_double_ratio : Fd P w K mg base "double_ratio" 3 ["four"] (spR T false R_double_ratio) f_double_ratio fd_double_ratio) (h_in_order : Fd P w K mg base "in_order" 1 ["four", "order"] (spR T false (R_in_order K)) f_in_order fd_in_order) :
    FnOk P w K mg base CX0 4 f fd ["four"] (spR T true R_six_ratios) := by
  obtain ⟨sO, o0, o1, o2, o3, o4, o5, hO, hS, t0, t1, t2, t3, t4, t5⟩ := X.so.ex
  refine ok_pure F sc_six_ratios (fun ds r h => ?_) (fun cdv A outer s H E hr => ⟨_, (pss_one (ps_ret (pe_lc (own := [("order", 1)]) (g := gName 1) (tt := tYes) (te := (tCall (spR T false R_double_ratio) [] (fun _ _ _ => False) (tCons (tCall (spR T false (R_in_order K)) [] (fun _ _ _ => False) (tCons (tVar 0) (tCons (tVar 1) tNil))) tNil))) rfl sc_six_ratios.nd (pi_tup (pe_glob (v := .ref sO) rfl hO rfl)) (blkOk_by (N := ["four", "order"]) (sc := defScope s_six_ratios) (by decide +kernel)) (fun _ _ _ _ _ => pg_name (i := 1) sc_six_ratios.nd rfl (Or.inl rfl)) (fun _ _ _ _ _ => pts_nil) (fun _ _ _ _ _ => by exact (pe_call h_double_ratio.G (hr.mono (by decide)) rfl h_double_ratio.m h_double_ratio.kp h_double_ratio.b .nil pass0 (pa_cons (pe_call h_in_order.G (hr.mono (by decide)) rfl h_in_order.m h_in_order.kp h_in_order.b .nil pass0 (pa_cons (pv 0) (pa_cons (pv 1) pa_nil))) pa_nil)))))), fun ds r h => ?_⟩)
  · obtain ⟨a, b, c, d, rfl, _⟩ := h
    rfl
  · obtain ⟨a, b, c, d, rfl, h0, h1, h2, h3, rfl⟩ := h
    refine g_retN (en_lcT (K := K) (es := [dP (Kqy2.double a b c d), dP (Kqy2.double a b d c), dP (Kqy2.double a c b d), dP (Kqy2.double a c d b), dP (Kqy2.double a d b c), dP (Kqy2.double a d c b)]) (ds := [.ref o0, .ref o1, .ref o2, .ref o3, .ref o4, .ref o5]) (a := sO) ev_ref hS
      (fun H => .cons (.ref _) (.cons (.ref _) (.cons (.ref _) (.cons (.ref _) (.cons (.ref _) (.cons (.ref _) .nil)))))) (Nat.le_of_ble_eq_true rfl) rfl fun n e e' hd hd' => ?_) rfl
    match n, hd, hd' with
    | 0, hd, hd' =>
      obtain rfl := Option.some.inj hd
      obtain rfl := Option.some.inj hd'
      exact ⟨flat_pt _ _, ev_call rfl (ea_cons (ev_call rfl (ea_cons (ev_var rfl) (ea_cons (ev_var rfl) ea_nil)) ⟨a, b, c, d, o0, 0, 1, 2, 3, a, b, c, d, rfl, t0, by decide, rfl, rfl⟩) ea_nil) (r_double_ratio h0 h1 h2 h3)⟩
    | 1, hd, hd' =>
      obtain rfl := Option.some.inj hd
      obtain rfl := Option.some.inj hd'
      exact ⟨flat_pt _ _, ev_call rfl (ea_cons (ev_call rfl (ea_cons (ev_var rfl) (ea_cons (ev_var rfl) ea_nil)) ⟨a, b, c, d, o1, 0, 1, 3, 2, a, b, d, c, rfl, t1, by decide, rfl, rfl⟩) ea_nil) (r_double_ratio h0 h1 h3 h2)⟩
    | 2, hd, hd' =>
      obtain rfl := Option.some.inj hd
      obtain rfl := Option.some.inj hd'
      exact ⟨flat_pt _ _, ev_call rfl (ea_cons (ev_call rfl (ea_cons (ev_var rfl) (ea_cons (ev_var rfl) ea_nil)) ⟨a, b, c, d, o2, 0, 2, 1, 3, a, c, b, d, rfl, t2, by decide, rfl, rfl⟩) ea_nil) (r_double_ratio h0 h2 h1 h3)⟩
    | 3, hd, hd' =>
      obtain rfl := Option.some.inj hd
      obtain rfl := Option.some.inj hd'
      exact ⟨flat_pt _ _, ev_call rfl (ea_cons (ev_call rfl (ea_cons (ev_var rfl) (ea_cons (ev_var rfl) ea_nil)) ⟨a, b, c, d, o3, 0, 2, 3, 1, a, c, d, b, rfl, t3, by decide, rfl, rfl⟩) ea_nil) (r_double_ratio h0 h2 h3 h1)⟩
    | 4, hd, hd' =>
      obtain rfl := Option.some.inj hd
      obtain rfl := Option.some.inj hd'
      exact ⟨flat_pt _ _, ev_call rfl (ea_cons (ev_call rfl (ea_cons (ev_var rfl) (ea_cons (ev_var rfl) ea_nil)) ⟨a, b, c, d, o4, 0, 3, 1, 2, a, d, b, c, rfl, t4, by decide, rfl, rfl⟩) ea_nil) (r_double_ratio h0 h3 h1 h2)⟩
    | 5, hd, hd' =>
      obtain rfl := Option.some.inj hd
      obtain rfl := Option.some.inj hd'
      exact ⟨flat_pt _ _, ev_call rfl (ea_cons (ev_call rfl (ea_cons (ev_var rfl) (ea_cons (ev_var rfl) ea_nil)) ⟨a, b, c, d, o5, 0, 3, 2, 1, a, d, c, b, rfl, t5, by decide, rfl, rfl⟩) ea_nil) (r_double_ratio h0 h3 h2 h1)⟩
    | n + 6, hd, hd' => cases hd
end
end WM

namespace WM
open PySem PySem.Spec PyProof.Rows L2
/-! ### the marks -/
/-- marks as they are let in -/
def Okm (l : List Kqy2.Mark) : Prop := l.length ≤ 8 ∧ ∀ m, m ∈ l → (0 ≤ m.t ∧ m.t ≤ 1000) ∧ (0 ≤ m.m ∧ m.m ≤ 1000)
def v3 : List Kqy2.Mark → V4
  | a :: b :: c :: _ => after (inv (std a.t b.t c.t)) (std a.m b.m c.m)
  | _ => (0, 0, 0, 0)
theorem ready_len {l : List Kqy2.Mark} (h : Kqy2.ready l = true) : ∃ a b c r, l = a :: b :: c :: r := by
  match l, h with
  | [], h => exact absurd h (by decide)
  | [a], h => simp [Kqy2.ready, Kqy2.good, Kqy2.three, Kqy2.det, Kqy2.pt] at h
  | [a, b], h => simp [Kqy2.ready, Kqy2.good, Kqy2.three, Kqy2.det, Kqy2.pt] at h
  | a :: b :: c :: r, _ => exact ⟨a, b, c, r, rfl⟩
theorem good3 (a b c : Int) : Kqy2.good (Kqy2.pt a, Kqy2.pt b, Kqy2.pt c) = decide ((differing [a, b, c] : Int) = 3) := by
  have h : ((differing [a, b, c] : Int) = 3) ↔ (a ≠ b ∧ a ≠ c ∧ b ≠ c) := by
    rw [← differing3]
    omega
  rw [Bool.eq_iff_iff, decide_eq_true_iff, h]
  simp only [Kqy2.good, Kqy2.det, Kqy2.pt, Bool.and_eq_true, bne_iff_ne]
  omega
theorem ready_eq (l : List Kqy2.Mark) : (decide ((differing ((l.take 3).map Kqy2.Mark.t) : Int) = 3) && decide ((differing ((l.take 3).map Kqy2.Mark.m) : Int) = 3)) = Kqy2.ready l := by
  match l with
  | a :: b :: c :: r =>
    show _ = (Kqy2.good (Kqy2.pt a.t, Kqy2.pt b.t, Kqy2.pt c.t) && Kqy2.good (Kqy2.pt a.m, Kqy2.pt b.m, Kqy2.pt c.m))
    rw [good3, good3]
    rfl
  | [] =>
    have h : differing ((([] : List Kqy2.Mark).take 3).map Kqy2.Mark.t) ≠ 3 := differing_less (by simp)
    rw [decide_eq_false (by omega)]
    rfl
  | [a] =>
    have h : differing ((([a] : List Kqy2.Mark).take 3).map Kqy2.Mark.t) ≠ 3 := differing_less (by simp)
    rw [decide_eq_false (by omega)]
    simp [Kqy2.ready, Kqy2.good, Kqy2.three, Kqy2.det, Kqy2.pt]
  | [a, b] =>
    have h : differing ((([a, b] : List Kqy2.Mark).take 3).map Kqy2.Mark.t) ≠ 3 := differing_less (by simp)
    rw [decide_eq_false (by omega)]
    simp [Kqy2.ready, Kqy2.good, Kqy2.three, Kqy2.det, Kqy2.pt]
theorem seen_eq {l : List Kqy2.Mark} (h : Kqy2.ready l = true) (p : Int × Int) : image (v3 l) p = Kqy2.seen l p := by
  obtain ⟨a, b, c, r, rfl⟩ := ready_len h
  exact image_view a.m b.m c.m a.t b.t c.t p.1 p.2
theorem truth_eq {l : List Kqy2.Mark} (h : Kqy2.ready l = true) (p : Int × Int) : image (inv (v3 l)) p = Kqy2.truth l p := by
  obtain ⟨a, b, c, r, rfl⟩ := ready_len h
  show image (inv (after (inv (std a.t b.t c.t)) (std a.m b.m c.m))) p = _
  rw [inv_v3]
  exact image_view a.t b.t c.t a.m b.m c.m p.1 p.2
theorem v3_bd {l : List Kqy2.Mark} (h : Kqy2.ready l = true) (ok : Okm l) : BV 43 (v3 l) := by
  obtain ⟨a, b, c, r, rfl⟩ := ready_len h
  have ha := ok.2 a (by simp)
  have hb := ok.2 b (by simp)
  have hc := ok.2 c (by simp)
  exact (std_bd (Bd.small ha.1.1 ha.1.2) (Bd.small hb.1.1 hb.1.2) (Bd.small hc.1.1 hc.1.2)).inv.after (std_bd (Bd.small ha.2.1 ha.2.2) (Bd.small hb.2.1 hb.2.2) (Bd.small hc.2.1 hc.2.2))
theorem tell_place (p : Kqy2.Pt) (k : Int) : (if p.2 = 0 then [k] else 0 :: Kqy2.frac p.1 p.2) = Kqy2Neutral.tell (Kqy2.orElse (Kqy2.place p) k) := by
  unfold Kqy2.place
  split <;> rfl
/-- the first number of a mark as data -/
def fst1 : D → Int
  | .obj _ ((_, .int t) :: _) => t
  | _ => 0
def snd1 : D → Int
  | .obj _ (_ :: (_, .int t) :: _) => t
  | _ => 0
theorem cut3 (l : List Kqy2.Mark) : cutD (l.map fun p => dMk p.t p.m) none (some 3) = (l.take 3).map fun p => dMk p.t p.m := by
  unfold cutD
  rw [HT.sIx_none, List.drop_zero, List.length_map]
  show List.take (min 3 l.length - 0) _ = _
  rw [List.map_take, Nat.sub_zero]
  by_cases h : 3 ≤ l.length
  · rw [Nat.min_eq_left h]
  · rw [Nat.min_eq_right (by omega), List.take_of_length_le (by simp), List.take_of_length_le (by simp; omega)]
theorem cut_t (l : List Kqy2.Mark) : (cutD (l.map fun p => dMk p.t p.m) none (some 3)).map fst1 = (l.take 3).map Kqy2.Mark.t := by
  rw [cut3, List.map_map]
  rfl
theorem cut_m (l : List Kqy2.Mark) : (cutD (l.map fun p => dMk p.t p.m) none (some 3)).map snd1 = (l.take 3).map Kqy2.Mark.m := by
  rw [cut3, List.map_map]
  rfl
theorem cut_mem {l : List Kqy2.Mark} {d : D} (h : d ∈ cutD (l.map fun p => dMk p.t p.m) none (some 3)) : ∃ p : Kqy2.Mark, d = dMk p.t p.m := by
  rw [cut3] at h
  obtain ⟨p, _, rfl⟩ := List.mem_map.mp h
  exact ⟨p, rfl⟩
section
variable {P : Program} {w : World} {K : PySem.W.Frag} {mg : Str → Option Value} {base : Heap} {T : Nat → Addr}
def R_Session_first_seen (ds : List D) (r : D) : Prop := ∃ (b : Bool) (l : List Kqy2.Mark), ds = [dSe b l] ∧ r = dInts ((l.take 3).map Kqy2.Mark.t)
theorem r_Session_first_seen {b : Bool} {l : List Kqy2.Mark}  : R_Session_first_seen [dSe b l] (dInts ((l.take 3).map Kqy2.Mark.t)) := ⟨_, _, rfl, rfl⟩
def R_Session_first_true (ds : List D) (r : D) : Prop := ∃ (b : Bool) (l : List Kqy2.Mark), ds = [dSe b l] ∧ r = dInts ((l.take 3).map Kqy2.Mark.m)
theorem r_Session_first_true {b : Bool} {l : List Kqy2.Mark}  : R_Session_first_true [dSe b l] (dInts ((l.take 3).map Kqy2.Mark.m)) := ⟨_, _, rfl, rfl⟩
theorem ok_Session_first_seen {f : Addr} {fd : FuncData}  (F : Fun K "first_seen" "Session.first_seen" s_Session_first_seen f fd) (X : Tx K mg T)  :
    FnOk P w K mg base CX0 1 f fd ["self"] (spR T false R_Session_first_seen) := by
  refine ok_pure F sc_Session_first_seen (fun ds r h => ?_) (fun cdv A outer s H E hr => ⟨_, (pss_one (ps_ret (pe_lc (own := [("mark", 1)]) (g := gName 1) (tt := tYes) (te := (tFld K (tVar 1) "t")) rfl sc_Session_first_seen.nd (pi_list (pe_slice sl_list (pe_fld (pv 0) rfl) po_none (po_some (pe_globI rfl X.g_MARKS_OF_A_VIEW)))) (blkOk_by (N := ["self", "mark"]) (sc := defScope s_Session_first_seen) (by decide +kernel)) (fun _ _ _ _ _ => pg_name (i := 1) sc_Session_first_seen.nd rfl (Or.inl rfl)) (fun _ _ _ _ _ => pts_nil) (fun _ _ _ _ _ => by exact (pe_fld (pv 1) rfl))))), fun ds r h => ?_⟩)
  · obtain ⟨_, _, rfl, _⟩ := h
    rfl
  · obtain ⟨b, l, rfl, rfl⟩ := h
    refine g_ret (ev_lc (f := fst1) (ev_sl (ev_fld (ev_var rfl) X.c_Session X.n_Session_marks lk_Session_marks) eo_none (eo_some ev_int)) ?_ ?_) ?_
    · rw [cut3, List.length_map, List.length_take]
      omega
    · intro d hd
      obtain ⟨p, rfl⟩ := cut_mem hd
      exact ev_fld (ev_var rfl) X.c_Mark X.n_Mark_t lk_Mark_t
    · rw [cut_t]
theorem ok_Session_first_true {f : Addr} {fd : FuncData}  (F : Fun K "first_true" "Session.first_true" s_Session_first_true f fd) (X : Tx K mg T)  :
    FnOk P w K mg base CX0 1 f fd ["self"] (spR T false R_Session_first_true) := by
  refine ok_pure F sc_Session_first_true (fun ds r h => ?_) (fun cdv A outer s H E hr => ⟨_, (pss_one (ps_ret (pe_lc (own := [("mark", 1)]) (g := gName 1) (tt := tYes) (te := (tFld K (tVar 1) "m")) rfl sc_Session_first_true.nd (pi_list (pe_slice sl_list (pe_fld (pv 0) rfl) po_none (po_some (pe_globI rfl X.g_MARKS_OF_A_VIEW)))) (blkOk_by (N := ["self", "mark"]) (sc := defScope s_Session_first_true) (by decide +kernel)) (fun _ _ _ _ _ => pg_name (i := 1) sc_Session_first_true.nd rfl (Or.inl rfl)) (fun _ _ _ _ _ => pts_nil) (fun _ _ _ _ _ => by exact (pe_fld (pv 1) rfl))))), fun ds r h => ?_⟩)
  · obtain ⟨_, _, rfl, _⟩ := h
    rfl
  · obtain ⟨b, l, rfl, rfl⟩ := h
    refine g_ret (ev_lc (f := snd1) (ev_sl (ev_fld (ev_var rfl) X.c_Session X.n_Session_marks lk_Session_marks) eo_none (eo_some ev_int)) ?_ ?_) ?_
    · rw [cut3, List.length_map, List.length_take]
      omega
    · intro d hd
      obtain ⟨p, rfl⟩ := cut_mem hd
      exact ev_fld (ev_var rfl) X.c_Mark X.n_Mark_m lk_Mark_m
    · rw [cut_m]
def R_makes_a_view (ds : List D) (r : D) : Prop := ∃ (ns : List Int), ds = [dInts ns] ∧ (ns.length ≤ 4000) ∧ r = .bl (decide ((differing ns : Int) = 3))
theorem r_makes_a_view {ns : List Int} (h0 : ns.length ≤ 4000) : R_makes_a_view [dInts ns] (.bl (decide ((differing ns : Int) = 3))) := ⟨_, rfl, h0, rfl⟩
theorem ok_makes_a_view {f : Addr} {fd : FuncData}  (F : Fun K "makes_a_view" "makes_a_view" s_makes_a_view f fd) (X : Tx K mg T)  :
    FnOk P w K mg base CX0 1 f fd ["places"] (spR T false R_makes_a_view) := by
  refine ok_pure F sc_makes_a_view (fun ds r h => ?_) (fun cdv A outer s H E hr => ⟨_, (pss_one (ps_ret (pe_cmpR op_eq (pe_lenset (by rfl) X.b_len (by rfl) X.b_set (pv 0)) (pe_globI rfl X.g_MARKS_OF_A_VIEW) (nomark _)))), fun ds r h => ?_⟩)
  · obtain ⟨_, rfl, _⟩ := h
    rfl
  · obtain ⟨ns, rfl, h0, rfl⟩ := h
    refine g_ret (ev_eqi (ev_lenset (ev_var rfl) ?_) ev_int) ?_
    · exact h0
    · rfl
def R_Session_is_ready (ds : List D) (r : D) : Prop := ∃ (b : Bool) (l : List Kqy2.Mark), ds = [dSe b l] ∧ r = .bl (Kqy2.ready l)
theorem r_Session_is_ready {b : Bool} {l : List Kqy2.Mark}  : R_Session_is_ready [dSe b l] (.bl (Kqy2.ready l)) := ⟨_, _, rfl, rfl⟩
theorem ok_Session_is_ready {f : Addr} {fd : FuncData} {f_makes_a_view : Addr} {fd_makes_a_view : FuncData} {f_Session_first_true : Addr} {fd_Session_first_true : FuncData} {f_Session_first_seen : Addr} {fd_Session_first_seen : FuncData} (F : Fun K "is_ready" "Session.is_ready" s_Session_is_ready f fd) (X : Tx K mg T) (h_makes_a_view : Fd P w K mg base "makes_a_view" 1 ["places"] (spR T false R_makes_a_view) f_makes_a_view fd_makes_a_view) (h_Session_first_true : Md P w K mg base (T 3) "first_true" 1 ["self"] (spR T false R_Session_first_true) f_Session_first_true fd_Session_first_true) (h_Session_first_seen : Md P w K mg base (T 3) "first_seen" 1 ["self"] (spR T false R_Session_first_seen) f_Session_first_seen fd_Session_first_seen) :
    FnOk P w K mg base CX0 2 f fd ["self"] (spR T false R_Session_is_ready) := by
  refine ok_pure F sc_Session_is_ready (fun ds r h => ?_) (fun cdv A outer s H E hr => ⟨_, (pss_one (ps_ret (pe_and (pe_call h_makes_a_view.G (hr.mono (by decide)) rfl h_makes_a_view.m h_makes_a_view.kp h_makes_a_view.b .nil pass0 (pa_cons (pe_meth0 (pv 0) X.c_Session h_Session_first_seen.mt h_Session_first_seen.G (hr.mono (by decide)) h_Session_first_seen.b .nil pass0) pa_nil)) (pe_one (pe_call h_makes_a_view.G (hr.mono (by decide)) rfl h_makes_a_view.m h_makes_a_view.kp h_makes_a_view.b .nil pass0 (pa_cons (pe_meth0 (pv 0) X.c_Session h_Session_first_true.mt h_Session_first_true.G (hr.mono (by decide)) h_Session_first_true.b .nil pass0) pa_nil)))))), fun ds r h => ?_⟩)
  · obtain ⟨_, _, rfl, _⟩ := h
    rfl
  · obtain ⟨b, l, rfl, rfl⟩ := h
    refine g_ret (ev_andV (ev_call rfl (ea_cons (ev_meth (ev_var rfl) ea_nil (r_Session_first_seen) nk_Session_first_seen) ea_nil) (r_makes_a_view ?_)) (fun _ => (ev_call rfl (ea_cons (ev_meth (ev_var rfl) ea_nil (r_Session_first_true) nk_Session_first_true) ea_nil) (r_makes_a_view ?_)))) ?_
    · simp
      omega
    · simp
      omega
    · rw [ready_eq]
def R_Session_view (ds : List D) (r : D) : Prop := ∃ (b : Bool) (l : List Kqy2.Mark), ds = [dSe b l] ∧ (Kqy2.ready l = true) ∧ (Okm l) ∧ r = dVw (v3 l)
theorem r_Session_view {b : Bool} {l : List Kqy2.Mark} (h0 : Kqy2.ready l = true) (h1 : Okm l) : R_Session_view [dSe b l] (dVw (v3 l)) := ⟨_, _, rfl, h0, h1, rfl⟩
theorem ok_Session_view {f : Addr} {fd : FuncData} {f_view_of_three : Addr} {fd_view_of_three : FuncData} {f_Session_first_seen : Addr} {fd_Session_first_seen : FuncData} {f_Session_first_true : Addr} {fd_Session_first_true : FuncData} (F : Fun K "view" "Session.view" s_Session_view f fd) (X : Tx K mg T) (h_view_of_three : Fd P w K mg base "view_of_three" 4 ["sources", "targets"] (spR T false R_view_of_three) f_view_of_three fd_view_of_three) (h_Session_first_seen : Md P w K mg base (T 3) "first_seen" 1 ["self"] (spR T false R_Session_first_seen) f_Session_first_seen fd_Session_first_seen) (h_Session_first_true : Md P w K mg base (T 3) "first_true" 1 ["self"] (spR T false R_Session_first_true) f_Session_first_true fd_Session_first_true) :
    FnOk P w K mg base CX0 5 f fd ["self"] (spR T false R_Session_view) := by
  refine ok_pure F sc_Session_view (fun ds r h => ?_) (fun cdv A outer s H E hr => ⟨_, (pss_one (ps_ret (pe_call h_view_of_three.G (hr.mono (by decide)) rfl h_view_of_three.m h_view_of_three.kp h_view_of_three.b .nil pass0 (pa_cons (pe_meth0 (pv 0) X.c_Session h_Session_first_true.mt h_Session_first_true.G (hr.mono (by decide)) h_Session_first_true.b .nil pass0) (pa_cons (pe_meth0 (pv 0) X.c_Session h_Session_first_seen.mt h_Session_first_seen.G (hr.mono (by decide)) h_Session_first_seen.b .nil pass0) pa_nil))))), fun ds r h => ?_⟩)
  · obtain ⟨_, _, rfl, _⟩ := h
    rfl
  · obtain ⟨b, l, rfl, h0, h1, rfl⟩ := h
    obtain ⟨a, c, e, r, rfl⟩ := ready_len h0
    have ha := h1.2 a (by simp)
    have hc := h1.2 c (by simp)
    have he := h1.2 e (by simp)
    refine g_ret (ev_call rfl (ea_cons (ev_meth (ev_var rfl) ea_nil (r_Session_first_true) nk_Session_first_true) (ea_cons (ev_meth (ev_var rfl) ea_nil (r_Session_first_seen) nk_Session_first_seen) ea_nil)) (r_view_of_three (x := a.m) (y := c.m) (z := e.m) (a := a.t) (b := c.t) (c := e.t) ?_ ?_)) ?_
    · exact ⟨Bd.small ha.2.1 ha.2.2, Bd.small hc.2.1 hc.2.2, Bd.small he.2.1 he.2.2⟩
    · exact ⟨Bd.small ha.1.1 ha.1.2, Bd.small hc.1.1 hc.1.2, Bd.small he.1.1 he.1.2⟩
    · rfl
def R_Session_has_mark (ds : List D) (r : D) : Prop := ∃ (b : Bool) (l : List Kqy2.Mark) (i : Int), ds = [dSe b l, .int i] ∧ r = .bl (decide (0 ≤ i) && decide (i < (l.length : Int)))
theorem r_Session_has_mark {b : Bool} {l : List Kqy2.Mark} {i : Int}  : R_Session_has_mark [dSe b l, .int i] (.bl (decide (0 ≤ i) && decide (i < (l.length : Int)))) := ⟨_, _, _, rfl, rfl⟩
theorem ok_Session_has_mark {f : Addr} {fd : FuncData}  (F : Fun K "has_mark" "Session.has_mark" s_Session_has_mark f fd) (X : Tx K mg T)  :
    FnOk P w K mg base CX0 1 f fd ["self", "i"] (spR T false R_Session_has_mark) := by
  refine ok_pure F sc_Session_has_mark (fun ds r h => ?_) (fun cdv A outer s H E hr => ⟨_, (pss_one (ps_ret (pe_chain op_le op_lt pe_int (pv 1) (pe_callB call_len_seq (by rfl) X.b_len PySem.boot_len (pa_cons (pe_fld (pv 0) rfl) pa_nil))))), fun ds r h => ?_⟩)
  · obtain ⟨_, _, _, rfl, _⟩ := h
    rfl
  · obtain ⟨b, l, i, rfl, rfl⟩ := h
    refine g_ret (ev_chain ev_int (ev_var rfl) (ev_len (ev_fld (ev_var rfl) X.c_Session X.n_Session_marks lk_Session_marks))) ?_
    rw [List.length_map]
theorem truth_bd {l : List Kqy2.Mark} {t : Int} (h : Kqy2.ready l = true) (ok : Okm l) (ht : Bd 10 t) : BP (Kqy2.truth l (Kqy2.pt t)) := by
  rw [← truth_eq h]
  have b := (v3_bd h ok).inv.image (p := (t, 1)) (n := 10) ht (one_bd 9)
  exact ⟨b.1.mono (by decide), b.2.mono (by decide)⟩
def R_Session_true_points (ds : List D) (r : D) : Prop := ∃ (b : Bool) (l : List Kqy2.Mark) (ns : List Int), ds = [dSe b l, dInts ns] ∧ (Kqy2.ready l = true) ∧ (Okm l) ∧ (ns.length ≤ 100) ∧ (∀ t ∈ ns, Bd 10 t) ∧ r = .lst (ns.map fun t => dP (Kqy2.truth l (Kqy2.pt t)))
theorem r_Session_true_points {b : Bool} {l : List Kqy2.Mark} {ns : List Int} (h0 : Kqy2.ready l = true) (h1 : Okm l) (h2 : ns.length ≤ 100) (h3 : ∀ t ∈ ns, Bd 10 t) : R_Session_true_points [dSe b l, dInts ns] (.lst (ns.map fun t => dP (Kqy2.truth l (Kqy2.pt t)))) := ⟨_, _, _, rfl, h0, h1, h2, h3, rfl⟩
theorem ok_Session_true_points {f : Addr} {fd : FuncData} {f_View_turned_round : Addr} {fd_View_turned_round : FuncData} {f_Session_view : Addr} {fd_Session_view : FuncData} {f_View_image : Addr} {fd_View_image : FuncData} {f_point_at : Addr} {fd_point_at : FuncData} (F : Fun K "true_points" "Session.true_points" s_Session_true_points f fd) (X : Tx K mg T) (h_View_turned_round : Md P w K mg base (T 1) "turned_round" 3 ["self"] (spR T false R_View_turned_round) f_View_turned_round fd_View_turned_round) (h_Session_view : Md P w K mg base (T 3) "view" 5 ["self"] (spR T false R_Session_view) f_Session_view fd_Session_view) (h_View_image : Md P w K mg base (T 1) "image" 3 ["self", "point"] (spR T false R_View_image) f_View_image fd_View_image) (h_point_at : Fd P w K mg base "point_at" 3 ["place"] (spR T false R_point_at) f_point_at fd_point_at) :
    FnOk P w K mg base CX0 6 f fd ["self", "places"] (spR T false R_Session_true_points) := by
  refine ok_pure F sc_Session_true_points (fun ds r h => ?_) (fun cdv A outer s H E hr => ⟨_, (pss_cons (ps_set (i := 2) sc_Session_true_points.nd rfl (Or.inr rfl) (pe_meth0 (pe_meth0 (pv 0) X.c_Session h_Session_view.mt h_Session_view.G (hr.mono (by decide)) h_Session_view.b .nil pass0) X.c_View h_View_turned_round.mt h_View_turned_round.G (hr.mono (by decide)) h_View_turned_round.b .nil pass0)) (pss_one (ps_ret (pe_lc (own := [("place", 3)]) (g := gName 3) (tt := tYes) (te := (tMeth (T 1) "image" (spR T false R_View_image) [] (fun _ _ _ => False) (tVar 2) (tCons (tCall (spR T false R_point_at) [] (fun _ _ _ => False) (tCons (tVar 3) tNil)) tNil))) rfl sc_Session_true_points.nd (pi_list (pv 1)) (blkOk_by (N := ["self", "places", "back", "place"]) (sc := defScope s_Session_true_points) (by decide +kernel)) (fun _ _ _ _ _ => pg_name (i := 3) sc_Session_true_points.nd rfl (Or.inl rfl)) (fun _ _ _ _ _ => pts_nil) (fun _ _ _ _ _ => by exact (pe_meth (pv 2) X.c_View h_View_image.mt h_View_image.G (hr.mono (by decide)) h_View_image.b .nil pass0 (pa_cons (pe_call h_point_at.G (hr.mono (by decide)) rfl h_point_at.m h_point_at.kp h_point_at.b .nil pass0 (pa_cons (pv 3) pa_nil)) pa_nil))))))), fun ds r h => ?_⟩)
  · obtain ⟨_, _, _, rfl, _⟩ := h
    rfl
  · obtain ⟨b, l, ns, rfl, h0, h1, h2, h3, rfl⟩ := h
    have bv := (v3_bd h0 h1).inv
    refine g_set (ev_meth (ev_meth (ev_var rfl) ea_nil (r_Session_view h0 h1) nk_Session_view) ea_nil r_View_turned_round nk_View_turned_round) ?_
    refine g_ret (ev_lcD (f := fun d => dP (Kqy2.truth l (Kqy2.pt (numD d)))) (ev_var rfl) ?_ fun d hd => ⟨flat_pt _ _, ?_⟩) ?_
    · rw [List.length_map]
      omega
    · obtain ⟨t, ht, rfl⟩ := mem_num hd
      refine EvD.is (ev_meth (ev_var rfl) (ea_cons (ev_call rfl (ea_cons (ev_var rfl) ea_nil) r_point_at) ea_nil) (r_View_image (bv.mono (by decide)) ((h3 t ht).mono (by decide)) ((one_bd 9).mono (by decide))) nk_View_image) ?_
      rw [truth_eq h0]
      rfl
    · rw [map_num ns fun t => dP (Kqy2.truth l (Kqy2.pt t))]
end
end WM

namespace WM
open PySem PySem.Spec PyProof.Rows L2
/-! ### the calls that change nothing -/
section
variable {P : Program} {w : World} {K : PySem.W.Frag} {mg : Str → Option Value} {base : Heap} {T : Nat → Addr}
theorem tr_of {b : Bool} (h : ¬ b = false) : b = true := by
  cases b with
  | false => exact absurd rfl h
  | true => rfl
theorem not_true {b : Bool} (h : (!b) = true) : b = false := by
  cases b with
  | false => rfl
  | true => cases h
theorem not_false {b : Bool} (h : (!b) = false) : b = true := by
  cases b with
  | true => rfl
  | false => cases h
def R_answer_ready (ds : List D) (r : D) : Prop := ∃ (l : List Kqy2.Mark) (ns : List Int), ds = [dSe true l, dInts ns] ∧ r = dInts (due l .ready)
theorem r_answer_ready {l : List Kqy2.Mark} {ns : List Int}  : R_answer_ready [dSe true l, dInts ns] (dInts (due l .ready)) := ⟨_, _, rfl, rfl⟩
theorem ok_answer_ready {f : Addr} {fd : FuncData} {f_Session_is_ready : Addr} {fd_Session_is_ready : FuncData} (F : Fun K "answer_ready" "answer_ready" s_answer_ready f fd) (X : Tx K mg T) (h_Session_is_ready : Md P w K mg base (T 3) "is_ready" 2 ["self"] (spR T false R_Session_is_ready) f_Session_is_ready fd_Session_is_ready) :
    FnOk P w K mg base CX0 3 f fd ["session", "numbers"] (spR T true R_answer_ready) := by
  refine ok_pure F sc_answer_ready (fun ds r h => ?_) (fun cdv A outer s H E hr => ⟨_, (pss_one (ps_ret (pe_lst (pa_cons (pe_ifExp (pt_val (pe_meth0 (pv 0) X.c_Session h_Session_is_ready.mt h_Session_is_ready.G (hr.mono (by decide)) h_Session_is_ready.b .nil pass0)) pe_int pe_int) pa_nil)))), fun ds r h => ?_⟩)
  · obtain ⟨_, _, rfl, _⟩ := h
    rfl
  · obtain ⟨l, ns, rfl, rfl⟩ := h
    refine g_retN (en_lst (ea_cons (ev_iff (et_b (ev_meth (ev_var rfl) ea_nil (r_Session_is_ready) nk_Session_is_ready)) (fun _ => ev_int) (fun _ => ev_int)) ea_nil) (Nat.le_of_ble_eq_true rfl)) ?_
    show D.lst [if Kqy2.ready l = true then D.int 1 else D.int 0] = D.lst [D.int (if Kqy2.ready l = true then 1 else 0)]
    split <;> rfl
def R_answer_truth (ds : List D) (r : D) : Prop := ∃ (l : List Kqy2.Mark) (t : Int), ds = [dSe true l, dInts [t]] ∧ (Okm l) ∧ r = dInts (due l (.truth t))
theorem r_answer_truth {l : List Kqy2.Mark} {t : Int} (h0 : Okm l) : R_answer_truth [dSe true l, dInts [t]] (dInts (due l (.truth t))) := ⟨_, _, rfl, h0, rfl⟩
def R_answer_seen (ds : List D) (r : D) : Prop := ∃ (l : List Kqy2.Mark) (t : Int), ds = [dSe true l, dInts [t]] ∧ (Okm l) ∧ r = dInts (due l (.seen t))
theorem r_answer_seen {l : List Kqy2.Mark} {t : Int} (h0 : Okm l) : R_answer_seen [dSe true l, dInts [t]] (dInts (due l (.seen t))) := ⟨_, _, rfl, h0, rfl⟩
theorem step_truth (l : List Kqy2.Mark) (t : Int) : due l (.truth t) = if Kqy2.all [t] = false then [-22] else if Kqy2.ready l = false then [-16] else toldAs (Kqy2.truth l (Kqy2.pt t)) (-6) := by
  rw [← told_place, show Kqy2.all [t] = Kqy2.small t from Bool.and_true _]
  exact (tell_ite _ _).trans (else_eq (tell_ite _ _))
theorem step_seen (l : List Kqy2.Mark) (t : Int) : due l (.seen t) = if Kqy2.all [t] = false then [-22] else if Kqy2.ready l = false then [-16] else toldAs (Kqy2.seen l (Kqy2.pt t)) (-6) := by
  rw [← told_place, show Kqy2.all [t] = Kqy2.small t from Bool.and_true _]
  exact (tell_ite _ _).trans (else_eq (tell_ite _ _))
theorem ok_answer_truth {f : Addr} {fd : FuncData} {f_in_range : Addr} {fd_in_range : FuncData} {f_Session_is_ready : Addr} {fd_Session_is_ready : FuncData} {f_told : Addr} {fd_told : FuncData} {f_Session_true_points : Addr} {fd_Session_true_points : FuncData} (F : Fun K "answer_truth" "answer_truth" s_answer_truth f fd) (X : Tx K mg T) (h_in_range : Fd P w K mg base "in_range" 1 ["places"] (spR T false R_in_range) f_in_range fd_in_range) (h_Session_is_ready : Md P w K mg base (T 3) "is_ready" 2 ["self"] (spR T false R_Session_is_ready) f_Session_is_ready fd_Session_is_ready) (h_told : Fd P w K mg base "told" 3 ["point", "refusal"] (spR T true R_told) f_told fd_told) (h_Session_true_points : Md P w K mg base (T 3) "true_points" 6 ["self", "places"] (spR T false R_Session_true_points) f_Session_true_points fd_Session_true_points) :
    FnOk P w K mg base CX0 7 f fd ["session", "numbers"] (spR T true R_answer_truth) := by
  refine ok_pure F sc_answer_truth (fun ds r h => ?_) (fun cdv A outer s H E hr => ⟨_, (pss_cons (ps_if (pt_not (pt_val (pe_call h_in_range.G (hr.mono (by decide)) rfl h_in_range.m h_in_range.kp h_in_range.b .nil pass0 (pa_cons (pv 1) pa_nil)))) (pss_one (ps_ret (pe_lst (pa_cons (pe_globI rfl X.g_OUT_OF_RANGE) pa_nil)))) pss_nil) (pss_cons (ps_if (pt_not (pt_val (pe_meth0 (pv 0) X.c_Session h_Session_is_ready.mt h_Session_is_ready.G (hr.mono (by decide)) h_Session_is_ready.b .nil pass0))) (pss_one (ps_ret (pe_lst (pa_cons (pe_globI rfl X.g_NOT_READY) pa_nil)))) pss_nil) (pss_one (ps_ret (pe_call h_told.G (hr.mono (by decide)) rfl h_told.m h_told.kp h_told.b .nil pass0 (pa_cons (pe_ix ix_list (pe_meth (pv 0) X.c_Session h_Session_true_points.mt h_Session_true_points.G (hr.mono (by decide)) h_Session_true_points.b .nil pass0 (pa_cons (pv 1) pa_nil)) pe_int (fun _ _ => rfl)) (pa_cons (pe_globI rfl X.g_BEYOND_ALL) pa_nil))))))), fun ds r h => ?_⟩)
  · obtain ⟨_, _, rfl, _⟩ := h
    rfl
  · obtain ⟨l, t, rfl, h0, rfl⟩ := h
    rw [step_truth]
    refine g_guard (et_not (et_b (ev_call rfl (ea_cons (ev_var rfl) ea_nil) (r_in_range (Nat.le_of_ble_eq_true rfl))))) (fun hb1 => ?_) (fun hb1 => ?_)
    · rw [if_pos (not_true hb1)]
      exact g_retN (en_lst (ea_cons ev_int ea_nil) (Nat.le_of_ble_eq_true rfl)) rfl
    have hs := not_false hb1
    rw [hs, if_neg (by decide)]
    refine g_guard (et_not (et_b (ev_meth (ev_var rfl) ea_nil (r_Session_is_ready) nk_Session_is_ready))) (fun hb2 => ?_) (fun hb2 => ?_)
    · rw [if_pos (not_true hb2)]
      exact g_retN (en_lst (ea_cons ev_int ea_nil) (Nat.le_of_ble_eq_true rfl)) rfl
    have hr := not_false hb2
    rw [hr, if_neg (by decide)]
    have bt := truth_bd hr h0 (all_bd hs t (by simp))
    exact g_retN (en_call rfl (ea_cons (ev_ixl (n := 0) (ev_meth (ev_var rfl) (ea_cons (ev_var rfl) ea_nil) (r_Session_true_points hr h0 (Nat.le_of_ble_eq_true rfl) (all_bd hs)) nk_Session_true_points) ev_int rfl rfl) (ea_cons ev_int ea_nil)) (r_told (bt.2.mono (by decide)))) rfl
theorem ok_answer_seen {f : Addr} {fd : FuncData} {f_in_range : Addr} {fd_in_range : FuncData} {f_Session_is_ready : Addr} {fd_Session_is_ready : FuncData} {f_told : Addr} {fd_told : FuncData} {f_View_image : Addr} {fd_View_image : FuncData} {f_Session_view : Addr} {fd_Session_view : FuncData} {f_point_at : Addr} {fd_point_at : FuncData} (F : Fun K "answer_seen" "answer_seen" s_answer_seen f fd) (X : Tx K mg T) (h_in_range : Fd P w K mg base "in_range" 1 ["places"] (spR T false R_in_range) f_in_range fd_in_range) (h_Session_is_ready : Md P w K mg base (T 3) "is_ready" 2 ["self"] (spR T false R_Session_is_ready) f_Session_is_ready fd_Session_is_ready) (h_told : Fd P w K mg base "told" 3 ["point", "refusal"] (spR T true R_told) f_told fd_told) (h_View_image : Md P w K mg base (T 1) "image" 3 ["self", "point"] (spR T false R_View_image) f_View_image fd_View_image) (h_Session_view : Md P w K mg base (T 3) "view" 5 ["self"] (spR T false R_Session_view) f_Session_view fd_Session_view) (h_point_at : Fd P w K mg base "point_at" 3 ["place"] (spR T false R_point_at) f_point_at fd_point_at) :
    FnOk P w K mg base CX0 6 f fd ["session", "numbers"] (spR T true R_answer_seen) := by
  refine ok_pure F sc_answer_seen (fun ds r h => ?_) (fun cdv A outer s H E hr => ⟨_, (pss_cons (ps_if (pt_not (pt_val (pe_call h_in_range.G (hr.mono (by decide)) rfl h_in_range.m h_in_range.kp h_in_range.b .nil pass0 (pa_cons (pv 1) pa_nil)))) (pss_one (ps_ret (pe_lst (pa_cons (pe_globI rfl X.g_OUT_OF_RANGE) pa_nil)))) pss_nil) (pss_cons (ps_if (pt_not (pt_val (pe_meth0 (pv 0) X.c_Session h_Session_is_ready.mt h_Session_is_ready.G (hr.mono (by decide)) h_Session_is_ready.b .nil pass0))) (pss_one (ps_ret (pe_lst (pa_cons (pe_globI rfl X.g_NOT_READY) pa_nil)))) pss_nil) (pss_one (ps_ret (pe_call h_told.G (hr.mono (by decide)) rfl h_told.m h_told.kp h_told.b .nil pass0 (pa_cons (pe_meth (pe_meth0 (pv 0) X.c_Session h_Session_view.mt h_Session_view.G (hr.mono (by decide)) h_Session_view.b .nil pass0) X.c_View h_View_image.mt h_View_image.G (hr.mono (by decide)) h_View_image.b .nil pass0 (pa_cons (pe_call h_point_at.G (hr.mono (by decide)) rfl h_point_at.m h_point_at.kp h_point_at.b .nil pass0 (pa_cons (pe_ix ix_list (pv 1) pe_int (fun _ _ => rfl)) pa_nil)) pa_nil)) (pa_cons (pe_globI rfl X.g_BEYOND_ALL) pa_nil))))))), fun ds r h => ?_⟩)
  · obtain ⟨_, _, rfl, _⟩ := h
    rfl
  · obtain ⟨l, t, rfl, h0, rfl⟩ := h
    rw [step_seen]
    refine g_guard (et_not (et_b (ev_call rfl (ea_cons (ev_var rfl) ea_nil) (r_in_range (Nat.le_of_ble_eq_true rfl))))) (fun hb1 => ?_) (fun hb1 => ?_)
    · rw [if_pos (not_true hb1)]
      exact g_retN (en_lst (ea_cons ev_int ea_nil) (Nat.le_of_ble_eq_true rfl)) rfl
    have hs := not_false hb1
    rw [hs, if_neg (by decide)]
    refine g_guard (et_not (et_b (ev_meth (ev_var rfl) ea_nil (r_Session_is_ready) nk_Session_is_ready))) (fun hb2 => ?_) (fun hb2 => ?_)
    · rw [if_pos (not_true hb2)]
      exact g_retN (en_lst (ea_cons ev_int ea_nil) (Nat.le_of_ble_eq_true rfl)) rfl
    have hr := not_false hb2
    rw [hr, if_neg (by decide)]
    have bv := v3_bd hr h0
    have b0 := all_bd hs t (by simp)
    have bi := bv.image (p := (t, 1)) (n := 10) b0 (one_bd 9)
    refine g_retN (en_call rfl (ea_cons (ev_meth (ev_meth (ev_var rfl) ea_nil (r_Session_view hr h0) nk_Session_view) (ea_cons (ev_call rfl (ea_cons (ev_ixl (n := 0) (ev_var rfl) ev_int rfl rfl) ea_nil) (r_point_at)) ea_nil)
      (r_View_image (bv.mono (by decide)) (b0.mono (by decide)) ((one_bd 9).mono (by decide))) nk_View_image) (ea_cons ev_int ea_nil)) (r_told (bi.2.mono (by decide)))) ?_
    rw [seen_eq hr]
    rfl
def R_answer_end (ds : List D) (r : D) : Prop := ∃ (l : List Kqy2.Mark) (ns : List Int), ds = [dSe true l, dInts ns] ∧ (Okm l) ∧ r = dInts (due l .end_)
theorem r_answer_end {l : List Kqy2.Mark} {ns : List Int} (h0 : Okm l) : R_answer_end [dSe true l, dInts ns] (dInts (due l .end_)) := ⟨_, _, rfl, h0, rfl⟩
theorem step_end (l : List Kqy2.Mark) : due l .end_ = if Kqy2.ready l = false then [-16] else toldAs (Kqy2.seen l (1, 0)) (-33) := by
  rw [← told_place]
  exact tell_ite _ _
theorem ok_answer_end {f : Addr} {fd : FuncData} {f_Session_is_ready : Addr} {fd_Session_is_ready : FuncData} {f_told : Addr} {fd_told : FuncData} {f_View_image : Addr} {fd_View_image : FuncData} {f_Session_view : Addr} {fd_Session_view : FuncData} {f_point_beyond_all : Addr} {fd_point_beyond_all : FuncData} (F : Fun K "answer_end" "answer_end" s_answer_end f fd) (X : Tx K mg T) (h_Session_is_ready : Md P w K mg base (T 3) "is_ready" 2 ["self"] (spR T false R_Session_is_ready) f_Session_is_ready fd_Session_is_ready) (h_told : Fd P w K mg base "told" 3 ["point", "refusal"] (spR T true R_told) f_told fd_told) (h_View_image : Md P w K mg base (T 1) "image" 3 ["self", "point"] (spR T false R_View_image) f_View_image fd_View_image) (h_Session_view : Md P w K mg base (T 3) "view" 5 ["self"] (spR T false R_Session_view) f_Session_view fd_Session_view) (h_point_beyond_all : Fd P w K mg base "point_beyond_all" 3 [] (spR T false R_point_beyond_all) f_point_beyond_all fd_point_beyond_all) :
    FnOk P w K mg base CX0 6 f fd ["session", "numbers"] (spR T true R_answer_end) := by
  refine ok_pure F sc_answer_end (fun ds r h => ?_) (fun cdv A outer s H E hr => ⟨_, (pss_cons (ps_if (pt_not (pt_val (pe_meth0 (pv 0) X.c_Session h_Session_is_ready.mt h_Session_is_ready.G (hr.mono (by decide)) h_Session_is_ready.b .nil pass0))) (pss_one (ps_ret (pe_lst (pa_cons (pe_globI rfl X.g_NOT_READY) pa_nil)))) pss_nil) (pss_one (ps_ret (pe_call h_told.G (hr.mono (by decide)) rfl h_told.m h_told.kp h_told.b .nil pass0 (pa_cons (pe_meth (pe_meth0 (pv 0) X.c_Session h_Session_view.mt h_Session_view.G (hr.mono (by decide)) h_Session_view.b .nil pass0) X.c_View h_View_image.mt h_View_image.G (hr.mono (by decide)) h_View_image.b .nil pass0 (pa_cons (pe_call0 h_point_beyond_all.G (hr.mono (by decide)) rfl h_point_beyond_all.m h_point_beyond_all.kp h_point_beyond_all.b .nil pass0) pa_nil)) (pa_cons (pe_globI rfl X.g_LEADS_BEYOND_ALL) pa_nil)))))), fun ds r h => ?_⟩)
  · obtain ⟨_, _, rfl, _⟩ := h
    rfl
  · obtain ⟨l, ns, rfl, h0, rfl⟩ := h
    rw [step_end]
    refine g_guard (et_not (et_b (ev_meth (ev_var rfl) ea_nil (r_Session_is_ready) nk_Session_is_ready))) (fun hb2 => ?_) (fun hb2 => ?_)
    · rw [if_pos (not_true hb2)]
      exact g_retN (en_lst (ea_cons ev_int ea_nil) (Nat.le_of_ble_eq_true rfl)) rfl
    have hr := not_false hb2
    rw [hr, if_neg (by decide)]
    have bv := v3_bd hr h0
    have bi := bv.image (p := (1, 0)) (n := 10) (one_bd 9) (zero_bd 10)
    refine g_retN (en_call rfl (ea_cons (ev_meth (ev_meth (ev_var rfl) ea_nil (r_Session_view hr h0) nk_Session_view) (ea_cons (ev_call rfl ea_nil (r_point_beyond_all)) ea_nil)
      (r_View_image (bv.mono (by decide)) ((one_bd 9).mono (by decide)) (zero_bd 4000)) nk_View_image) (ea_cons ev_int ea_nil)) (r_told (bi.2.mono (by decide)))) ?_
    rw [seen_eq hr]
def R_answer_off (ds : List D) (r : D) : Prop := ∃ (l : List Kqy2.Mark) (i : Int), ds = [dSe true l, dInts [i]] ∧ (Okm l) ∧ (0 ≤ i) ∧ r = dInts (due l (.off i.toNat))
theorem r_answer_off {l : List Kqy2.Mark} {i : Int} (h0 : Okm l) (h1 : 0 ≤ i) : R_answer_off [dSe true l, dInts [i]] (dInts (due l (.off i.toNat))) := ⟨_, _, rfl, h0, h1, rfl⟩
theorem step_off_none {l : List Kqy2.Mark} {n : Nat} (h : l.length ≤ n) : due l (.off n) = [-2] := by
  show Kqy2Neutral.tell (match l[n]? with | none => _ | some k => _) = _
  rw [List.getElem?_eq_none h]
  rfl
theorem step_off {l : List Kqy2.Mark} {n : Nat} {k : Kqy2.Mark} (h : l[n]? = some k) : due l (.off n) = if Kqy2.ready l = false then [-16] else toldAs ((Kqy2.seen l (Kqy2.pt k.m)).1 - k.t * (Kqy2.seen l (Kqy2.pt k.m)).2, (Kqy2.seen l (Kqy2.pt k.m)).2) (-6) := by
  show Kqy2Neutral.tell (match l[n]? with | none => _ | some k => _) = _
  rw [h]
  show Kqy2Neutral.tell (if Kqy2.ready l = false then _ else if _ then _ else _) = _
  split
  · rfl
  · unfold toldAs
    split <;> rfl
theorem ok_answer_off {f : Addr} {fd : FuncData} {f_Session_has_mark : Addr} {fd_Session_has_mark : FuncData} {f_Session_is_ready : Addr} {fd_Session_is_ready : FuncData} {f_told : Addr} {fd_told : FuncData} {f_Point_moved_back : Addr} {fd_Point_moved_back : FuncData} {f_View_image : Addr} {fd_View_image : FuncData} {f_Session_view : Addr} {fd_Session_view : FuncData} {f_point_at : Addr} {fd_point_at : FuncData} (F : Fun K "answer_off" "answer_off" s_answer_off f fd) (X : Tx K mg T) (h_Session_has_mark : Md P w K mg base (T 3) "has_mark" 1 ["self", "i"] (spR T false R_Session_has_mark) f_Session_has_mark fd_Session_has_mark) (h_Session_is_ready : Md P w K mg base (T 3) "is_ready" 2 ["self"] (spR T false R_Session_is_ready) f_Session_is_ready fd_Session_is_ready) (h_told : Fd P w K mg base "told" 3 ["point", "refusal"] (spR T true R_told) f_told fd_told) (h_Point_moved_back : Md P w K mg base (T 0) "moved_back" 3 ["self", "distance"] (spR T false R_Point_moved_back) f_Point_moved_back fd_Point_moved_back) (h_View_image : Md P w K mg base (T 1) "image" 3 ["self", "point"] (spR T false R_View_image) f_View_image fd_View_image) (h_Session_view : Md P w K mg base (T 3) "view" 5 ["self"] (spR T false R_Session_view) f_Session_view fd_Session_view) (h_point_at : Fd P w K mg base "point_at" 3 ["place"] (spR T false R_point_at) f_point_at fd_point_at) :
    FnOk P w K mg base CX0 6 f fd ["session", "numbers"] (spR T true R_answer_off) := by
  refine ok_pure F sc_answer_off (fun ds r h => ?_) (fun cdv A outer s H E hr => ⟨_, (pss_cons (ps_set (i := 2) sc_answer_off.nd rfl (Or.inl rfl) (pe_ix ix_list (pv 1) pe_int (fun _ _ => rfl))) (pss_cons (ps_if (pt_not (pt_val (pe_meth (pv 0) X.c_Session h_Session_has_mark.mt h_Session_has_mark.G (hr.mono (by decide)) h_Session_has_mark.b .nil pass0 (pa_cons (pv 2) pa_nil)))) (pss_one (ps_ret (pe_lst (pa_cons (pe_globI rfl X.g_NO_SUCH_MARK) pa_nil)))) pss_nil) (pss_cons (ps_if (pt_not (pt_val (pe_meth0 (pv 0) X.c_Session h_Session_is_ready.mt h_Session_is_ready.G (hr.mono (by decide)) h_Session_is_ready.b .nil pass0))) (pss_one (ps_ret (pe_lst (pa_cons (pe_globI rfl X.g_NOT_READY) pa_nil)))) pss_nil) (pss_cons (ps_set (i := 3) sc_answer_off.nd rfl (Or.inl rfl) (pe_ix ix_list (pe_fld (pv 0) rfl) (pv 2) (fun _ _ => rfl))) (pss_one (ps_ret (pe_call h_told.G (hr.mono (by decide)) rfl h_told.m h_told.kp h_told.b .nil pass0 (pa_cons (pe_meth (pe_meth (pe_meth0 (pv 0) X.c_Session h_Session_view.mt h_Session_view.G (hr.mono (by decide)) h_Session_view.b .nil pass0) X.c_View h_View_image.mt h_View_image.G (hr.mono (by decide)) h_View_image.b .nil pass0 (pa_cons (pe_call h_point_at.G (hr.mono (by decide)) rfl h_point_at.m h_point_at.kp h_point_at.b .nil pass0 (pa_cons (pe_fld (pv 3) rfl) pa_nil)) pa_nil)) X.c_Point h_Point_moved_back.mt h_Point_moved_back.G (hr.mono (by decide)) h_Point_moved_back.b .nil pass0 (pa_cons (pe_fld (pv 3) rfl) pa_nil)) (pa_cons (pe_globI rfl X.g_BEYOND_ALL) pa_nil))))))))), fun ds r h => ?_⟩)
  · obtain ⟨_, _, rfl, _⟩ := h
    rfl
  · obtain ⟨l, i, rfl, h0, h1, rfl⟩ := h
    refine g_set (ev_ixl (n := 0) (ev_var rfl) ev_int rfl rfl) ?_
    refine g_guard (et_not (et_b (ev_meth (ev_var rfl) (ea_cons (ev_var rfl) ea_nil) (r_Session_has_mark) nk_Session_has_mark))) (fun hb1 => ?_) (fun hb1 => ?_)
    · have hn := not_true hb1
      rw [step_off_none (by simp at hn; omega)]
      exact g_retN (en_lst (ea_cons ev_int ea_nil) (Nat.le_of_ble_eq_true rfl)) rfl
    have hi : i.toNat < l.length := by
      have hn := not_false hb1
      simp at hn
      omega
    rw [step_off (List.getElem?_eq_getElem hi)]
    refine g_guard (et_not (et_b (ev_meth (ev_var rfl) ea_nil (r_Session_is_ready) nk_Session_is_ready))) (fun hb2 => ?_) (fun hb2 => ?_)
    · rw [if_pos (not_true hb2)]
      exact g_retN (en_lst (ea_cons ev_int ea_nil) (Nat.le_of_ble_eq_true rfl)) rfl
    have hr := not_false hb2
    rw [hr, if_neg (by decide)]
    have hk := h0.2 l[i.toNat] (List.getElem_mem hi)
    refine g_set (d := dMk l[i.toNat].t l[i.toNat].m) (ev_ixl (n := i.toNat) (ev_fld (ev_var rfl) X.c_Session X.n_Session_marks lk_Session_marks) (ev_var rfl) (Int.toNat_of_nonneg h1).symm (by rw [List.getElem?_map, List.getElem?_eq_getElem hi]; rfl)) ?_
    have bv := v3_bd hr h0
    have bm := Bd.small hk.2.1 hk.2.2
    have bi := bv.image (p := (l[i.toNat].m, 1)) (n := 10) bm (one_bd 9)
    refine g_retN (en_call rfl (ea_cons (ev_meth (ev_meth (ev_meth (ev_var rfl) ea_nil (r_Session_view hr h0) nk_Session_view) (ea_cons (ev_call rfl (ea_cons (ev_fld (ev_var rfl) X.c_Mark X.n_Mark_m lk_Mark_m) ea_nil) (r_point_at)) ea_nil)
      (r_View_image (bv.mono (by decide)) (bm.mono (by decide)) ((one_bd 9).mono (by decide))) nk_View_image) (ea_cons (ev_fld (ev_var rfl) X.c_Mark X.n_Mark_t lk_Mark_t) ea_nil)
      (r_Point_moved_back (bi.2.mono (by decide)) ((Bd.small hk.1.1 hk.1.2).mono (by decide))) nk_Point_moved_back) (ea_cons ev_int ea_nil)) (r_told (bi.2.mono (by decide)))) ?_
    rw [seen_eq hr]
    rfl
def R_answer_fits (ds : List D) (r : D) : Prop := ∃ (l : List Kqy2.Mark) (ns : List Int), ds = [dSe true l, dInts ns] ∧ (Okm l) ∧ r = dInts (due l .fits)
theorem r_answer_fits {l : List Kqy2.Mark} {ns : List Int} (h0 : Okm l) : R_answer_fits [dSe true l, dInts ns] (dInts (due l .fits)) := ⟨_, _, rfl, h0, rfl⟩
def fitsAt (l : List Kqy2.Mark) (k : Kqy2.Mark) : Bool := Kqy2.alike (Kqy2.seen l (Kqy2.pt k.m)) (Kqy2.pt k.t)
theorem fitsAt_eq (l : List Kqy2.Mark) (k : Kqy2.Mark) : fitsAt l k = decide ((Kqy2.seen l (Kqy2.pt k.m)).1 = k.t * (Kqy2.seen l (Kqy2.pt k.m)).2) := by
  unfold fitsAt Kqy2.alike Kqy2.det Kqy2.pt
  rw [Bool.eq_iff_iff, decide_eq_true_iff, beq_iff_eq]
  simp only
  omega
theorem step_fits (l : List Kqy2.Mark) : due l .fits = if Kqy2.ready l = false then [-16] else [if l.all (fitsAt l) then 1 else 0] := by
  show Kqy2Neutral.tell (if Kqy2.ready l = false then _ else _) = _
  split <;> rfl
theorem all_of_take {α : Type} {p : α → Bool} {l : List α} (h : ∀ k, k ∈ l.take l.length → p k = true) : l.all p = true := by
  rw [List.take_length] at h
  exact List.all_eq_true.mpr h
theorem ok_answer_fits {f : Addr} {fd : FuncData} {f_Session_is_ready : Addr} {fd_Session_is_ready : FuncData} {f_Session_view : Addr} {fd_Session_view : FuncData} {f_Point_is_at : Addr} {fd_Point_is_at : FuncData} {f_View_image : Addr} {fd_View_image : FuncData} {f_point_at : Addr} {fd_point_at : FuncData} (F : Fun K "answer_fits" "answer_fits" s_answer_fits f fd) (X : Tx K mg T) (h_Session_is_ready : Md P w K mg base (T 3) "is_ready" 2 ["self"] (spR T false R_Session_is_ready) f_Session_is_ready fd_Session_is_ready) (h_Session_view : Md P w K mg base (T 3) "view" 5 ["self"] (spR T false R_Session_view) f_Session_view fd_Session_view) (h_Point_is_at : Md P w K mg base (T 0) "is_at" 1 ["self", "place"] (spR T false R_Point_is_at) f_Point_is_at fd_Point_is_at) (h_View_image : Md P w K mg base (T 1) "image" 3 ["self", "point"] (spR T false R_View_image) f_View_image fd_View_image) (h_point_at : Fd P w K mg base "point_at" 3 ["place"] (spR T false R_point_at) f_point_at fd_point_at) :
    FnOk P w K mg base CX0 6 f fd ["session", "numbers"] (spR T true R_answer_fits) := by
  refine ok_pure F sc_answer_fits (fun ds r h => ?_) (fun cdv A outer s H E hr => ⟨_, (pss_cons (ps_if (pt_not (pt_val (pe_meth0 (pv 0) X.c_Session h_Session_is_ready.mt h_Session_is_ready.G (hr.mono (by decide)) h_Session_is_ready.b .nil pass0))) (pss_one (ps_ret (pe_lst (pa_cons (pe_globI rfl X.g_NOT_READY) pa_nil)))) pss_nil) (pss_cons (ps_set (i := 2) sc_answer_fits.nd rfl (Or.inl rfl) (pe_meth0 (pv 0) X.c_Session h_Session_view.mt h_Session_view.G (hr.mono (by decide)) h_Session_view.b .nil pass0)) (pss_cons (ps_for PassesOwn.never rfl (pi_list (pe_fld (pv 0) rfl)) (pg_name (i := 3) sc_answer_fits.nd rfl (Or.inl rfl)) (pss_one (ps_if (pt_not (pt_val (pe_meth (pe_meth (pv 2) X.c_View h_View_image.mt h_View_image.G (hr.mono (by decide)) h_View_image.b .nil pass0 (pa_cons (pe_call h_point_at.G (hr.mono (by decide)) rfl h_point_at.m h_point_at.kp h_point_at.b .nil pass0 (pa_cons (pe_fld (pv 3) rfl) pa_nil)) pa_nil)) X.c_Point h_Point_is_at.mt h_Point_is_at.G (hr.mono (by decide)) h_Point_is_at.b .nil pass0 (pa_cons (pe_fld (pv 3) rfl) pa_nil)))) (pss_one (ps_ret (pe_lst (pa_cons pe_int pa_nil)))) pss_nil))) (pss_one (ps_ret (pe_lst (pa_cons pe_int pa_nil))))))), fun ds r h => ?_⟩)
  · obtain ⟨_, _, rfl, _⟩ := h
    rfl
  · obtain ⟨l, ns, rfl, h0, rfl⟩ := h
    rw [step_fits]
    refine g_guard (et_not (et_b (ev_meth (ev_var rfl) ea_nil (r_Session_is_ready) nk_Session_is_ready))) (fun hb2 => ?_) (fun hb2 => ?_)
    · rw [if_pos (not_true hb2)]
      exact g_retN (en_lst (ea_cons ev_int ea_nil) (Nat.le_of_ble_eq_true rfl)) rfl
    have hr := not_false hb2
    rw [hr, if_neg (by decide)]
    have bv := v3_bd hr h0
    refine g_set (ev_meth (ev_var rfl) ea_nil (r_Session_view hr h0) nk_Session_view) ?_
    refine g_seq (P := fun _ => l.all (fitsAt l) = true) (g_for (fun i ρ' => (∃ o, ρ' = [some (dSe true l), some (dInts ns), some (dVw (v3 l)), o]) ∧ ∀ k, k ∈ l.take i → fitsAt l k = true) (ev_fld (ev_var rfl) X.c_Session X.n_Session_marks lk_Session_marks) ⟨⟨_, rfl⟩, fun k hk => by simp at hk⟩ ?_ ?_) ?_
    · rintro i d ρ hd ⟨⟨o, rfl⟩, hall⟩
      rw [List.getElem?_map] at hd
      cases hk : l[i]? with
      | none =>
        rw [hk] at hd
        cases hd
      | some k =>
        rw [hk] at hd
        have e : dMk k.t k.m = d := Option.some.inj hd
        subst e
        have ok := h0.2 k (List.mem_of_getElem? hk)
        have bm := Bd.small ok.2.1 ok.2.2
        have bi := bv.image (p := (k.m, 1)) (n := 10) bm (one_bd 9)
        refine g_if (et_not (et_b (ev_meth (ev_meth (ev_var rfl) (ea_cons (ev_call rfl (ea_cons (ev_fld (ev_var rfl) X.c_Mark X.n_Mark_m lk_Mark_m) ea_nil) (r_point_at)) ea_nil)
          (r_View_image (bv.mono (by decide)) (bm.mono (by decide)) ((one_bd 9).mono (by decide))) nk_View_image) (ea_cons (ev_fld (ev_var rfl) X.c_Mark X.n_Mark_t lk_Mark_t) ea_nil)
          (r_Point_is_at (bi.2.mono (by decide)) ((Bd.small ok.1.1 ok.1.2).mono (by decide))) nk_Point_is_at))) (fun hb => ?_) (fun hb => ?_)
        · refine g_retN (en_lst (ea_cons ev_int ea_nil) (Nat.le_of_ble_eq_true rfl)) ?_
          have hf : fitsAt l k = false := by
            rw [fitsAt_eq, ← seen_eq hr]
            exact not_true hb
          have ha : l.all (fitsAt l) = false := by
            cases q : l.all (fitsAt l) with
            | false => rfl
            | true =>
              rw [List.all_eq_true.mp q k (List.mem_of_getElem? hk)] at hf
              cases hf
          rw [ha]
          rfl
        · refine g_next ⟨⟨_, rfl⟩, fun k' hk' => ?_⟩
          rw [List.take_add_one, hk] at hk'
          rcases List.mem_append.mp hk' with q | q
          · exact hall k' q
          · have e : k' = k := by simpa using q
            subst e
            rw [fitsAt_eq, ← seen_eq hr]
            exact not_false hb
    · rintro ρ ⟨_, hall⟩
      rw [List.length_map] at hall
      exact all_of_take hall
    · intro ρ' ha
      rw [ha]
      exact g_retN (en_lst (ea_cons ev_int ea_nil) (Nat.le_of_ble_eq_true rfl)) rfl
def R_answer_origin (ds : List D) (r : D) : Prop := ∃ (l : List Kqy2.Mark) (ns : List Int), ds = [dSe true l, dInts ns] ∧ (Okm l) ∧ r = dInts (due l .origin)
theorem r_answer_origin {l : List Kqy2.Mark} {ns : List Int} (h0 : Okm l) : R_answer_origin [dSe true l, dInts ns] (dInts (due l .origin)) := ⟨_, _, rfl, h0, rfl⟩
theorem ok_answer_origin {f : Addr} {fd : FuncData} {f_Session_is_ready : Addr} {fd_Session_is_ready : FuncData} {f_told : Addr} {fd_told : FuncData} {f_View_image : Addr} {fd_View_image : FuncData} {f_View_turned_round : Addr} {fd_View_turned_round : FuncData} {f_Session_view : Addr} {fd_Session_view : FuncData} {f_point_beyond_all : Addr} {fd_point_beyond_all : FuncData} (F : Fun K "answer_origin" "answer_origin" s_answer_origin f fd) (X : Tx K mg T) (h_Session_is_ready : Md P w K mg base (T 3) "is_ready" 2 ["self"] (spR T false R_Session_is_ready) f_Session_is_ready fd_Session_is_ready) (h_told : Fd P w K mg base "told" 3 ["point", "refusal"] (spR T true R_told) f_told fd_told) (h_View_image : Md P w K mg base (T 1) "image" 3 ["self", "point"] (spR T false R_View_image) f_View_image fd_View_image) (h_View_turned_round : Md P w K mg base (T 1) "turned_round" 3 ["self"] (spR T false R_View_turned_round) f_View_turned_round fd_View_turned_round) (h_Session_view : Md P w K mg base (T 3) "view" 5 ["self"] (spR T false R_Session_view) f_Session_view fd_Session_view) (h_point_beyond_all : Fd P w K mg base "point_beyond_all" 3 [] (spR T false R_point_beyond_all) f_point_beyond_all fd_point_beyond_all) :
    FnOk P w K mg base CX0 6 f fd ["session", "numbers"] (spR T true R_answer_origin) := by
  refine ok_pure F sc_answer_origin (fun ds r h => ?_) (fun cdv A outer s H E hr => ⟨_, (pss_cons (ps_if (pt_not (pt_val (pe_meth0 (pv 0) X.c_Session h_Session_is_ready.mt h_Session_is_ready.G (hr.mono (by decide)) h_Session_is_ready.b .nil pass0))) (pss_one (ps_ret (pe_lst (pa_cons (pe_globI rfl X.g_NOT_READY) pa_nil)))) pss_nil) (pss_one (ps_ret (pe_call h_told.G (hr.mono (by decide)) rfl h_told.m h_told.kp h_told.b .nil pass0 (pa_cons (pe_meth (pe_meth0 (pe_meth0 (pv 0) X.c_Session h_Session_view.mt h_Session_view.G (hr.mono (by decide)) h_Session_view.b .nil pass0) X.c_View h_View_turned_round.mt h_View_turned_round.G (hr.mono (by decide)) h_View_turned_round.b .nil pass0) X.c_View h_View_image.mt h_View_image.G (hr.mono (by decide)) h_View_image.b .nil pass0 (pa_cons (pe_call0 h_point_beyond_all.G (hr.mono (by decide)) rfl h_point_beyond_all.m h_point_beyond_all.kp h_point_beyond_all.b .nil pass0) pa_nil)) (pa_cons (pe_globI rfl X.g_LEADS_BEYOND_ALL) pa_nil)))))), fun ds r h => ?_⟩)
  · obtain ⟨_, _, rfl, _⟩ := h
    rfl
  · obtain ⟨l, ns, rfl, h0, rfl⟩ := h
    rw [due_origin]
    refine g_guard (et_not (et_b (ev_meth (ev_var rfl) ea_nil (r_Session_is_ready) nk_Session_is_ready))) (fun hb2 => ?_) (fun hb2 => ?_)
    · rw [if_pos (not_true hb2)]
      exact g_retN (en_lst (ea_cons ev_int ea_nil) (Nat.le_of_ble_eq_true rfl)) rfl
    have hr := not_false hb2
    rw [hr, if_neg (by decide)]
    have bv := (v3_bd hr h0).inv
    have bi := bv.image (p := (1, 0)) (n := 10) (one_bd 9) (zero_bd 10)
    refine g_retN (en_call rfl (ea_cons (ev_meth (ev_meth (ev_meth (ev_var rfl) ea_nil (r_Session_view hr h0) nk_Session_view) ea_nil r_View_turned_round nk_View_turned_round) (ea_cons (ev_call rfl ea_nil (r_point_beyond_all)) ea_nil)
      (r_View_image (bv.mono (by decide)) ((one_bd 9).mono (by decide)) (zero_bd 4000)) nk_View_image) (ea_cons ev_int ea_nil)) (r_told (bi.2.mono (by decide)))) ?_
    rw [truth_eq hr]
/-! ### two places in truth -/
def refD (l : List Kqy2.Mark) (t u : Int) : D := if Kqy2.all [t, u] = false then .int (-22) else if Kqy2.ready l = false then .int (-16) else if (Kqy2.truth l (Kqy2.pt t)).2 = 0 ∨ (Kqy2.truth l (Kqy2.pt u)).2 = 0 then .int (-6) else .non
theorem ref_cases (l : List Kqy2.Mark) (t u : Int) : (refD l t u = .non ∧ Kqy2.all [t, u] = true ∧ Kqy2.ready l = true ∧ (Kqy2.truth l (Kqy2.pt t)).2 ≠ 0 ∧ (Kqy2.truth l (Kqy2.pt u)).2 ≠ 0) ∨
    (∃ k, refD l t u = .int k ∧ ∀ x : List Int, (if Kqy2.all [t, u] = false then [-22] else if Kqy2.ready l = false then [-16] else if (Kqy2.truth l (Kqy2.pt t)).2 = 0 ∨ (Kqy2.truth l (Kqy2.pt u)).2 = 0 then [-6] else x) = [k]) := by
  unfold refD
  by_cases h1 : Kqy2.all [t, u] = false
  · exact .inr ⟨-22, if_pos h1, fun x => if_pos h1⟩
  · rw [if_neg h1]
    by_cases h2 : Kqy2.ready l = false
    · refine .inr ⟨-16, if_pos h2, fun x => ?_⟩
      rw [if_neg h1, if_pos h2]
    · rw [if_neg h2]
      by_cases h3 : (Kqy2.truth l (Kqy2.pt t)).2 = 0 ∨ (Kqy2.truth l (Kqy2.pt u)).2 = 0
      · refine .inr ⟨-6, if_pos h3, fun x => ?_⟩
        rw [if_neg h1, if_neg h2, if_pos h3]
      · refine .inl ⟨if_neg h3, tr_of h1, tr_of h2, fun z => h3 (.inl z), fun z => h3 (.inr z)⟩
/-- what is below in a point -/
def lowD : D → Int
  | .obj _ [_, (_, .int y)] => y
  | _ => 0
def R_refusal_of_couple (ds : List D) (r : D) : Prop := ∃ (l : List Kqy2.Mark) (t : Int) (u : Int), ds = [dSe true l, dInts [t, u]] ∧ (Okm l) ∧ r = refD l t u
theorem r_refusal_of_couple {l : List Kqy2.Mark} {t : Int} {u : Int} (h0 : Okm l) : R_refusal_of_couple [dSe true l, dInts [t, u]] (refD l t u) := ⟨_, _, _, rfl, h0, rfl⟩
theorem ok_refusal_of_couple {f : Addr} {fd : FuncData} {f_in_range : Addr} {fd_in_range : FuncData} {f_Session_is_ready : Addr} {fd_Session_is_ready : FuncData} {f_Session_true_points : Addr} {fd_Session_true_points : FuncData} {f_Point_is_beyond_all : Addr} {fd_Point_is_beyond_all : FuncData} (F : Fun K "refusal_of_couple" "refusal_of_couple" s_refusal_of_couple f fd) (X : Tx K mg T) (h_in_range : Fd P w K mg base "in_range" 1 ["places"] (spR T false R_in_range) f_in_range fd_in_range) (h_Session_is_ready : Md P w K mg base (T 3) "is_ready" 2 ["self"] (spR T false R_Session_is_ready) f_Session_is_ready fd_Session_is_ready) (h_Session_true_points : Md P w K mg base (T 3) "true_points" 6 ["self", "places"] (spR T false R_Session_true_points) f_Session_true_points fd_Session_true_points) (h_Point_is_beyond_all : Md P w K mg base (T 0) "is_beyond_all" 1 ["self"] (spR T false R_Point_is_beyond_all) f_Point_is_beyond_all fd_Point_is_beyond_all) :
    FnOk P w K mg base CX0 7 f fd ["session", "places"] (spR T false R_refusal_of_couple) := by
  refine ok_pure F sc_refusal_of_couple (fun ds r h => ?_) (fun cdv A outer s H E hr => ⟨_, (pss_cons (ps_if (pt_not (pt_val (pe_call h_in_range.G (hr.mono (by decide)) rfl h_in_range.m h_in_range.kp h_in_range.b .nil pass0 (pa_cons (pv 1) pa_nil)))) (pss_one (ps_ret (pe_globI rfl X.g_OUT_OF_RANGE))) pss_nil) (pss_cons (ps_if (pt_not (pt_val (pe_meth0 (pv 0) X.c_Session h_Session_is_ready.mt h_Session_is_ready.G (hr.mono (by decide)) h_Session_is_ready.b .nil pass0))) (pss_one (ps_ret (pe_globI rfl X.g_NOT_READY))) pss_nil) (pss_cons (ps_if (pt_val (pe_callB (cr_any rfl) (by rfl) X.b_any (by decide +kernel) (pa_cons (pe_lc (own := [("point", 2)]) (g := gName 2) (tt := tYes) (te := (tMeth (T 0) "is_beyond_all" (spR T false R_Point_is_beyond_all) [] (fun _ _ _ => False) (tVar 2) tNil)) rfl sc_refusal_of_couple.nd (pi_list (pe_meth (pv 0) X.c_Session h_Session_true_points.mt h_Session_true_points.G (hr.mono (by decide)) h_Session_true_points.b .nil pass0 (pa_cons (pv 1) pa_nil))) (blkOk_by (N := ["session", "places", "point"]) (sc := defScope s_refusal_of_couple) (by decide +kernel)) (fun _ _ _ _ _ => pg_name (i := 2) sc_refusal_of_couple.nd rfl (Or.inl rfl)) (fun _ _ _ _ _ => pts_nil) (fun _ _ _ _ _ => by exact (pe_meth0 (pv 2) X.c_Point h_Point_is_beyond_all.mt h_Point_is_beyond_all.G (hr.mono (by decide)) h_Point_is_beyond_all.b .nil pass0))) pa_nil))) (pss_one (ps_ret (pe_globI rfl X.g_BEYOND_ALL))) pss_nil) (pss_one (ps_ret pe_non))))), fun ds r h => ?_⟩)
  · obtain ⟨_, _, _, rfl, _⟩ := h
    rfl
  · obtain ⟨l, t, u, rfl, h0, rfl⟩ := h
    unfold refD
    refine g_guard (et_not (et_b (ev_call rfl (ea_cons (ev_var rfl) ea_nil) (r_in_range (Nat.le_of_ble_eq_true rfl))))) (fun hb1 => ?_) (fun hb1 => ?_)
    · rw [if_pos (not_true hb1)]
      exact g_ret ev_int rfl
    have ha := not_false hb1
    rw [ha, if_neg (by decide)]
    refine g_guard (et_not (et_b (ev_meth (ev_var rfl) ea_nil (r_Session_is_ready) nk_Session_is_ready))) (fun hb2 => ?_) (fun hb2 => ?_)
    · rw [if_pos (not_true hb2)]
      exact g_ret ev_int rfl
    have hr := not_false hb2
    rw [hr, if_neg (by decide)]
    refine g_guard (et_b (ev_any (bs := [decide ((Kqy2.truth l (Kqy2.pt t)).2 = 0), decide ((Kqy2.truth l (Kqy2.pt u)).2 = 0)]) (EvD.is (ev_lcD (f := fun d => .bl (decide (lowD d = 0))) (ev_meth (ev_var rfl) (ea_cons (ev_var rfl) ea_nil) (r_Session_true_points hr h0 (Nat.le_of_ble_eq_true rfl) (all_bd ha)) nk_Session_true_points) (Nat.le_of_ble_eq_true rfl) fun d hd => ?_) ?_))) (fun hb3 => ?_) (fun hb3 => ?_)
    · obtain ⟨s, _, rfl⟩ := List.mem_map.mp hd
      exact ⟨trivial, ev_meth (ev_var rfl) ea_nil r_Point_is_beyond_all nk_Point_is_beyond_all⟩
    · rfl
    · rw [if_pos (by simpa using hb3)]
      exact g_ret ev_int rfl
    · rw [if_neg (by simpa using hb3)]
      exact g_ret ev_non rfl
def R_answer_between (ds : List D) (r : D) : Prop := ∃ (l : List Kqy2.Mark) (t : Int) (u : Int), ds = [dSe true l, dInts [t, u]] ∧ (Okm l) ∧ r = dInts (due l (.between t u))
theorem r_answer_between {l : List Kqy2.Mark} {t : Int} {u : Int} (h0 : Okm l) : R_answer_between [dSe true l, dInts [t, u]] (dInts (due l (.between t u))) := ⟨_, _, _, rfl, h0, rfl⟩
theorem ok_answer_between {f : Addr} {fd : FuncData} {f_refusal_of_couple : Addr} {fd_refusal_of_couple : FuncData} {f_Session_true_points : Addr} {fd_Session_true_points : FuncData} {f_fraction : Addr} {fd_fraction : FuncData} {f_difference : Addr} {fd_difference : FuncData} (F : Fun K "answer_between" "answer_between" s_answer_between f fd) (X : Tx K mg T) (h_refusal_of_couple : Fd P w K mg base "refusal_of_couple" 7 ["session", "places"] (spR T false R_refusal_of_couple) f_refusal_of_couple fd_refusal_of_couple) (h_Session_true_points : Md P w K mg base (T 3) "true_points" 6 ["self", "places"] (spR T false R_Session_true_points) f_Session_true_points fd_Session_true_points) (h_fraction : Fd P w K mg base "fraction" 2 ["point"] (spR T true R_fraction) f_fraction fd_fraction) (h_difference : Fd P w K mg base "difference" 3 ["more", "less"] (spR T false R_difference) f_difference fd_difference) :
    FnOk P w K mg base CX0 8 f fd ["session", "numbers"] (spR T true R_answer_between) := by
  refine ok_pure F sc_answer_between (fun ds r h => ?_) (fun cdv A outer s H E hr => ⟨_, (pss_cons (ps_set (i := 2) sc_answer_between.nd rfl (Or.inl rfl) (pe_call h_refusal_of_couple.G (hr.mono (by decide)) rfl h_refusal_of_couple.m h_refusal_of_couple.kp h_refusal_of_couple.b .nil pass0 (pa_cons (pv 0) (pa_cons (pv 1) pa_nil)))) (pss_cons (ps_if (pt_cmpR op_notN (pv 2) pe_non (nomark _)) (pss_one (ps_ret (pe_lst (pa_cons (pv 2) pa_nil)))) pss_nil) (pss_cons (ps_set (i := 3) sc_answer_between.nd rfl (Or.inl rfl) (pe_meth (pv 0) X.c_Session h_Session_true_points.mt h_Session_true_points.G (hr.mono (by decide)) h_Session_true_points.b .nil pass0 (pa_cons (pv 1) pa_nil))) (pss_one (ps_ret (pe_op op_cat (pe_lst (pa_cons pe_int pa_nil)) (pe_call h_fraction.G (hr.mono (by decide)) rfl h_fraction.m h_fraction.kp h_fraction.b .nil pass0 (pa_cons (pe_call h_difference.G (hr.mono (by decide)) rfl h_difference.m h_difference.kp h_difference.b .nil pass0 (pa_cons (pe_ix ix_list (pv 3) pe_int (fun _ _ => rfl)) (pa_cons (pe_ix ix_list (pv 3) pe_int (fun _ _ => rfl)) pa_nil))) pa_nil)))))))), fun ds r h => ?_⟩)
  · obtain ⟨_, _, _, rfl, _⟩ := h
    rfl
  · obtain ⟨l, t, u, rfl, h0, rfl⟩ := h
    rw [due_between]
    refine g_set (ev_call rfl (ea_cons (ev_var rfl) (ea_cons (ev_var rfl) ea_nil)) (r_refusal_of_couple h0)) ?_
    refine g_guard (et_test (ev_notN (ev_var rfl))) (fun hb => ?_) (fun hb => ?_)
    · refine g_retN (en_lst (ea_cons (ev_var rfl) ea_nil) (Nat.le_of_ble_eq_true rfl)) ?_
      rcases ref_cases l t u with ⟨e, _⟩ | ⟨k, e, hk⟩
      · rw [e] at hb
        cases hb
      · rw [e, hk]
        rfl
    rcases ref_cases l t u with ⟨e, ha, hr, n1, n2⟩ | ⟨k, e, hk⟩
    rotate_left 1
    · rw [e] at hb
      cases hb
    have bt := truth_bd hr h0 (all_bd ha t (by simp))
    have bu := truth_bd hr h0 (all_bd ha u (by simp))
    rw [ha, if_neg (by decide), hr, if_neg (by decide), if_neg (fun z => z.elim n1 n2)]
    refine g_set (ev_meth (ev_var rfl) (ea_cons (ev_var rfl) ea_nil) (r_Session_true_points hr h0 (Nat.le_of_ble_eq_true rfl) (all_bd ha)) nk_Session_true_points) ?_
    refine g_retN (en_cat (ev_lst (ea_cons ev_int ea_nil) (Nat.le_of_ble_eq_true rfl)) (ev_call rfl (ea_cons (ev_call rfl (ea_cons (ev_ixl (n := 1) (ev_var rfl) ev_int rfl rfl) (ea_cons (ev_ixl (n := 0) (ev_var rfl) ev_int rfl rfl) ea_nil)) (r_difference bu bt)) ea_nil) (r_fraction (Int.mul_ne_zero n2 n1) ((bu.2.mul bt.2).mono (by decide)))) ?_) ?_
    · rw [List.length_map, frac_len]
      decide
    · rw [Int.mul_comm (Kqy2.truth l (Kqy2.pt t)).2]
      rfl
def R_answer_middle (ds : List D) (r : D) : Prop := ∃ (l : List Kqy2.Mark) (t : Int) (u : Int), ds = [dSe true l, dInts [t, u]] ∧ (Okm l) ∧ r = dInts (due l (.middle t u))
theorem r_answer_middle {l : List Kqy2.Mark} {t : Int} {u : Int} (h0 : Okm l) : R_answer_middle [dSe true l, dInts [t, u]] (dInts (due l (.middle t u))) := ⟨_, _, _, rfl, h0, rfl⟩
theorem ok_answer_middle {f : Addr} {fd : FuncData} {f_refusal_of_couple : Addr} {fd_refusal_of_couple : FuncData} {f_Session_true_points : Addr} {fd_Session_true_points : FuncData} {f_told : Addr} {fd_told : FuncData} {f_View_image : Addr} {fd_View_image : FuncData} {f_Session_view : Addr} {fd_Session_view : FuncData} {f_middle_point : Addr} {fd_middle_point : FuncData} (F : Fun K "answer_middle" "answer_middle" s_answer_middle f fd) (X : Tx K mg T) (h_refusal_of_couple : Fd P w K mg base "refusal_of_couple" 7 ["session", "places"] (spR T false R_refusal_of_couple) f_refusal_of_couple fd_refusal_of_couple) (h_Session_true_points : Md P w K mg base (T 3) "true_points" 6 ["self", "places"] (spR T false R_Session_true_points) f_Session_true_points fd_Session_true_points) (h_told : Fd P w K mg base "told" 3 ["point", "refusal"] (spR T true R_told) f_told fd_told) (h_View_image : Md P w K mg base (T 1) "image" 3 ["self", "point"] (spR T false R_View_image) f_View_image fd_View_image) (h_Session_view : Md P w K mg base (T 3) "view" 5 ["self"] (spR T false R_Session_view) f_Session_view fd_Session_view) (h_middle_point : Fd P w K mg base "middle_point" 3 ["first", "second"] (spR T false R_middle_point) f_middle_point fd_middle_point) :
    FnOk P w K mg base CX0 8 f fd ["session", "numbers"] (spR T true R_answer_middle) := by
  refine ok_pure F sc_answer_middle (fun ds r h => ?_) (fun cdv A outer s H E hr => ⟨_, (pss_cons (ps_set (i := 2) sc_answer_middle.nd rfl (Or.inl rfl) (pe_call h_refusal_of_couple.G (hr.mono (by decide)) rfl h_refusal_of_couple.m h_refusal_of_couple.kp h_refusal_of_couple.b .nil pass0 (pa_cons (pv 0) (pa_cons (pv 1) pa_nil)))) (pss_cons (ps_if (pt_cmpR op_notN (pv 2) pe_non (nomark _)) (pss_one (ps_ret (pe_lst (pa_cons (pv 2) pa_nil)))) pss_nil) (pss_cons (ps_set (i := 3) sc_answer_middle.nd rfl (Or.inl rfl) (pe_meth (pv 0) X.c_Session h_Session_true_points.mt h_Session_true_points.G (hr.mono (by decide)) h_Session_true_points.b .nil pass0 (pa_cons (pv 1) pa_nil))) (pss_one (ps_ret (pe_call h_told.G (hr.mono (by decide)) rfl h_told.m h_told.kp h_told.b .nil pass0 (pa_cons (pe_meth (pe_meth0 (pv 0) X.c_Session h_Session_view.mt h_Session_view.G (hr.mono (by decide)) h_Session_view.b .nil pass0) X.c_View h_View_image.mt h_View_image.G (hr.mono (by decide)) h_View_image.b .nil pass0 (pa_cons (pe_call h_middle_point.G (hr.mono (by decide)) rfl h_middle_point.m h_middle_point.kp h_middle_point.b .nil pass0 (pa_cons (pe_ix ix_list (pv 3) pe_int (fun _ _ => rfl)) (pa_cons (pe_ix ix_list (pv 3) pe_int (fun _ _ => rfl)) pa_nil))) pa_nil)) (pa_cons (pe_globI rfl X.g_LEADS_BEYOND_ALL) pa_nil)))))))), fun ds r h => ?_⟩)
  · obtain ⟨_, _, _, rfl, _⟩ := h
    rfl
  · obtain ⟨l, t, u, rfl, h0, rfl⟩ := h
    rw [due_middle]
    refine g_set (ev_call rfl (ea_cons (ev_var rfl) (ea_cons (ev_var rfl) ea_nil)) (r_refusal_of_couple h0)) ?_
    refine g_guard (et_test (ev_notN (ev_var rfl))) (fun hb => ?_) (fun hb => ?_)
    · refine g_retN (en_lst (ea_cons (ev_var rfl) ea_nil) (Nat.le_of_ble_eq_true rfl)) ?_
      rcases ref_cases l t u with ⟨e, _⟩ | ⟨k, e, hk⟩
      · rw [e] at hb
        cases hb
      · rw [e, hk]
        rfl
    rcases ref_cases l t u with ⟨e, ha, hr, n1, n2⟩ | ⟨k, e, hk⟩
    rotate_left 1
    · rw [e] at hb
      cases hb
    have bt := truth_bd hr h0 (all_bd ha t (by simp))
    have bu := truth_bd hr h0 (all_bd ha u (by simp))
    have bv := v3_bd hr h0
    rw [ha, if_neg (by decide), hr, if_neg (by decide), if_neg (fun z => z.elim n1 n2)]
    have c1 : Bd 1010 ((Kqy2.truth l (Kqy2.pt t)).1 * (Kqy2.truth l (Kqy2.pt u)).2 + (Kqy2.truth l (Kqy2.pt u)).1 * (Kqy2.truth l (Kqy2.pt t)).2) := ((bt.1.mul bu.2).add (bu.1.mul bt.2)).mono (by decide)
    have c2 : Bd 1010 (2 * ((Kqy2.truth l (Kqy2.pt t)).2 * (Kqy2.truth l (Kqy2.pt u)).2)) := ((two_bd 0).mul (bt.2.mul bu.2)).mono (by decide)
    have bi := bv.image (p := (_, _)) (n := 1010) c1 c2
    refine g_set (ev_meth (ev_var rfl) (ea_cons (ev_var rfl) ea_nil) (r_Session_true_points hr h0 (Nat.le_of_ble_eq_true rfl) (all_bd ha)) nk_Session_true_points) ?_
    refine g_retN (en_call rfl (ea_cons (ev_meth (ev_meth (ev_var rfl) ea_nil (r_Session_view hr h0) nk_Session_view) (ea_cons (ev_call rfl (ea_cons (ev_ixl (n := 0) (ev_var rfl) ev_int rfl rfl) (ea_cons (ev_ixl (n := 1) (ev_var rfl) ev_int rfl rfl) ea_nil)) (r_middle_point bt bu)) ea_nil)
      (r_View_image (bv.mono (by decide)) (c1.mono (by decide)) (c2.mono (by decide))) nk_View_image) (ea_cons ev_int ea_nil)) (r_told (bi.2.mono (by decide)))) ?_
    rw [seen_eq hr]
/-! ### double ratios -/
theorem no_four {a b c d : Int} (h : (!(Kqy2.all [a, b, c, d] && Kqy2.okFour a b c d)) = true) : Kqy2.all [a, b, c, d] = false ∨ Kqy2.okFour a b c d = false := by
  have := not_true h
  rw [Bool.and_eq_false_iff] at this
  exact this
theorem yes_four {a b c d : Int} (h : (!(Kqy2.all [a, b, c, d] && Kqy2.okFour a b c d)) = false) : Kqy2.all [a, b, c, d] = true ∧ Kqy2.okFour a b c d = true := by
  have := not_false h
  rw [Bool.and_eq_true] at this
  exact this
theorem pt_bd {t : Int} (h : Bd 10 t) : BP (Kqy2.pt t) := ⟨h.mono (by decide), (one_bd 9).mono (by decide)⟩
def R_answer_double (ds : List D) (r : D) : Prop := ∃ (l : List Kqy2.Mark) (a : Int) (b : Int) (c : Int) (d : Int), ds = [dSe true l, dInts [a, b, c, d]] ∧ r = dInts (due l (.double a b c d))
theorem r_answer_double {l : List Kqy2.Mark} {a : Int} {b : Int} {c : Int} {d : Int}  : R_answer_double [dSe true l, dInts [a, b, c, d]] (dInts (due l (.double a b c d))) := ⟨_, _, _, _, _, rfl, rfl⟩
theorem ok_answer_double {f : Addr} {fd : FuncData} {f_have_double_ratio : Addr} {fd_have_double_ratio : FuncData} {f_told : Addr} {fd_told : FuncData} {f_double_ratio : Addr} {fd_double_ratio : FuncData} {f_point_at : Addr} {fd_point_at : FuncData} (F : Fun K "answer_double" "answer_double" s_answer_double f fd) (X : Tx K mg T) (h_have_double_ratio : Fd P w K mg base "have_double_ratio" 2 ["places"] (spR T false R_have_double_ratio) f_have_double_ratio fd_have_double_ratio) (h_told : Fd P w K mg base "told" 3 ["point", "refusal"] (spR T true R_told) f_told fd_told) (h_double_ratio : Fd P w K mg base "double_ratio" 3 ["four"] (spR T false R_double_ratio) f_double_ratio fd_double_ratio) (h_point_at : Fd P w K mg base "point_at" 3 ["place"] (spR T false R_point_at) f_point_at fd_point_at) :
    FnOk P w K mg base CX0 4 f fd ["session", "numbers"] (spR T true R_answer_double) := by
  refine ok_pure F sc_answer_double (fun ds r h => ?_) (fun cdv A outer s H E hr => ⟨_, (pss_cons (ps_if (pt_not (pt_val (pe_call h_have_double_ratio.G (hr.mono (by decide)) rfl h_have_double_ratio.m h_have_double_ratio.kp h_have_double_ratio.b .nil pass0 (pa_cons (pv 1) pa_nil)))) (pss_one (ps_ret (pe_lst (pa_cons (pe_globI rfl X.g_OUT_OF_RANGE) pa_nil)))) pss_nil) (pss_one (ps_ret (pe_call h_told.G (hr.mono (by decide)) rfl h_told.m h_told.kp h_told.b .nil pass0 (pa_cons (pe_call h_double_ratio.G (hr.mono (by decide)) rfl h_double_ratio.m h_double_ratio.kp h_double_ratio.b .nil pass0 (pa_cons (pe_lc (own := [("place", 2)]) (g := gName 2) (tt := tYes) (te := (tCall (spR T false R_point_at) [] (fun _ _ _ => False) (tCons (tVar 2) tNil))) rfl sc_answer_double.nd (pi_list (pv 1)) (blkOk_by (N := ["session", "numbers", "place"]) (sc := defScope s_answer_double) (by decide +kernel)) (fun _ _ _ _ _ => pg_name (i := 2) sc_answer_double.nd rfl (Or.inl rfl)) (fun _ _ _ _ _ => pts_nil) (fun _ _ _ _ _ => by exact (pe_call h_point_at.G (hr.mono (by decide)) rfl h_point_at.m h_point_at.kp h_point_at.b .nil pass0 (pa_cons (pv 2) pa_nil)))) pa_nil)) (pa_cons (pe_globI rfl X.g_BEYOND_ALL) pa_nil)))))), fun ds r h => ?_⟩)
  · obtain ⟨_, _, _, _, _, rfl, _⟩ := h
    rfl
  · obtain ⟨l, a, b, c, d, rfl, rfl⟩ := h
    rw [due_double]
    refine g_guard (et_not (et_b (ev_call rfl (ea_cons (ev_var rfl) ea_nil) r_have_double_ratio))) (fun hb => ?_) (fun hb => ?_)
    · rw [if_pos (no_four hb)]
      exact g_retN (en_lst (ea_cons ev_int ea_nil) (Nat.le_of_ble_eq_true rfl)) rfl
    obtain ⟨ha, ho⟩ := yes_four hb
    rw [if_neg (by rw [ha, ho]; decide)]
    have ba := pt_bd (all_bd ha a (by simp))
    have bb := pt_bd (all_bd ha b (by simp))
    have bc := pt_bd (all_bd ha c (by simp))
    have bd := pt_bd (all_bd ha d (by simp))
    refine g_retN (en_call rfl (ea_cons (ev_call rfl (ea_cons (EvD.is (e := .lst [dP (Kqy2.pt a), dP (Kqy2.pt b), dP (Kqy2.pt c), dP (Kqy2.pt d)]) (ev_lcD (f := fun e => dP (Kqy2.pt (numD e))) (ev_var rfl) (Nat.le_of_ble_eq_true rfl) fun e he => ⟨flat_pt _ _, ?_⟩) rfl) ea_nil) (r_double_ratio ba bb bc bd)) (ea_cons ev_int ea_nil)) (r_told ((double_bd ba bb bc bd).2.mono (by decide)))) rfl
    obtain ⟨k, _, rfl⟩ := mem_num he
    exact ev_call rfl (ea_cons (ev_var rfl) ea_nil) r_point_at
def R_answer_keeps (ds : List D) (r : D) : Prop := ∃ (l : List Kqy2.Mark) (a : Int) (b : Int) (c : Int) (d : Int), ds = [dSe true l, dInts [a, b, c, d]] ∧ (Okm l) ∧ r = dInts (due l (.keeps a b c d))
theorem r_answer_keeps {l : List Kqy2.Mark} {a : Int} {b : Int} {c : Int} {d : Int} (h0 : Okm l) : R_answer_keeps [dSe true l, dInts [a, b, c, d]] (dInts (due l (.keeps a b c d))) := ⟨_, _, _, _, _, rfl, h0, rfl⟩
theorem ok_answer_keeps {f : Addr} {fd : FuncData} {f_have_double_ratio : Addr} {fd_have_double_ratio : FuncData} {f_Session_is_ready : Addr} {fd_Session_is_ready : FuncData} {f_told : Addr} {fd_told : FuncData} {f_double_ratio : Addr} {fd_double_ratio : FuncData} {f_Session_true_points : Addr} {fd_Session_true_points : FuncData} (F : Fun K "answer_keeps" "answer_keeps" s_answer_keeps f fd) (X : Tx K mg T) (h_have_double_ratio : Fd P w K mg base "have_double_ratio" 2 ["places"] (spR T false R_have_double_ratio) f_have_double_ratio fd_have_double_ratio) (h_Session_is_ready : Md P w K mg base (T 3) "is_ready" 2 ["self"] (spR T false R_Session_is_ready) f_Session_is_ready fd_Session_is_ready) (h_told : Fd P w K mg base "told" 3 ["point", "refusal"] (spR T true R_told) f_told fd_told) (h_double_ratio : Fd P w K mg base "double_ratio" 3 ["four"] (spR T false R_double_ratio) f_double_ratio fd_double_ratio) (h_Session_true_points : Md P w K mg base (T 3) "true_points" 6 ["self", "places"] (spR T false R_Session_true_points) f_Session_true_points fd_Session_true_points) :
    FnOk P w K mg base CX0 7 f fd ["session", "numbers"] (spR T true R_answer_keeps) := by
  refine ok_pure F sc_answer_keeps (fun ds r h => ?_) (fun cdv A outer s H E hr => ⟨_, (pss_cons (ps_if (pt_not (pt_val (pe_call h_have_double_ratio.G (hr.mono (by decide)) rfl h_have_double_ratio.m h_have_double_ratio.kp h_have_double_ratio.b .nil pass0 (pa_cons (pv 1) pa_nil)))) (pss_one (ps_ret (pe_lst (pa_cons (pe_globI rfl X.g_OUT_OF_RANGE) pa_nil)))) pss_nil) (pss_cons (ps_if (pt_not (pt_val (pe_meth0 (pv 0) X.c_Session h_Session_is_ready.mt h_Session_is_ready.G (hr.mono (by decide)) h_Session_is_ready.b .nil pass0))) (pss_one (ps_ret (pe_lst (pa_cons (pe_globI rfl X.g_NOT_READY) pa_nil)))) pss_nil) (pss_one (ps_ret (pe_call h_told.G (hr.mono (by decide)) rfl h_told.m h_told.kp h_told.b .nil pass0 (pa_cons (pe_call h_double_ratio.G (hr.mono (by decide)) rfl h_double_ratio.m h_double_ratio.kp h_double_ratio.b .nil pass0 (pa_cons (pe_meth (pv 0) X.c_Session h_Session_true_points.mt h_Session_true_points.G (hr.mono (by decide)) h_Session_true_points.b .nil pass0 (pa_cons (pv 1) pa_nil)) pa_nil)) (pa_cons (pe_globI rfl X.g_BEYOND_ALL) pa_nil))))))), fun ds r h => ?_⟩)
  · obtain ⟨_, _, _, _, _, rfl, _⟩ := h
    rfl
  · obtain ⟨l, a, b, c, d, rfl, h0, rfl⟩ := h
    rw [due_keeps]
    refine g_guard (et_not (et_b (ev_call rfl (ea_cons (ev_var rfl) ea_nil) r_have_double_ratio))) (fun hb => ?_) (fun hb => ?_)
    · rw [if_pos (no_four hb)]
      exact g_retN (en_lst (ea_cons ev_int ea_nil) (Nat.le_of_ble_eq_true rfl)) rfl
    obtain ⟨ha, ho⟩ := yes_four hb
    rw [if_neg (by rw [ha, ho]; decide)]
    refine g_guard (et_not (et_b (ev_meth (ev_var rfl) ea_nil (r_Session_is_ready) nk_Session_is_ready))) (fun hb2 => ?_) (fun hb2 => ?_)
    · rw [if_pos (not_true hb2)]
      exact g_retN (en_lst (ea_cons ev_int ea_nil) (Nat.le_of_ble_eq_true rfl)) rfl
    have hr := not_false hb2
    rw [hr, if_neg (by decide)]
    have ba := truth_bd hr h0 (all_bd ha a (by simp))
    have bb := truth_bd hr h0 (all_bd ha b (by simp))
    have bc := truth_bd hr h0 (all_bd ha c (by simp))
    have bd := truth_bd hr h0 (all_bd ha d (by simp))
    exact g_retN (en_call rfl (ea_cons (ev_call rfl (ea_cons (ev_meth (ev_var rfl) (ea_cons (ev_var rfl) ea_nil) (r_Session_true_points hr h0 (Nat.le_of_ble_eq_true rfl) (all_bd ha)) nk_Session_true_points) ea_nil) (r_double_ratio ba bb bc bd)) (ea_cons ev_int ea_nil)) (r_told ((double_bd ba bb bc bd).2.mono (by decide)))) rfl
def R_answer_fourth (ds : List D) (r : D) : Prop := ∃ (l : List Kqy2.Mark) (a : Int) (b : Int) (c : Int) (p : Int) (q : Int), ds = [dSe true l, dInts [a, b, c, p, q]] ∧ r = dInts (due l (.fourth a b c p q))
theorem r_answer_fourth {l : List Kqy2.Mark} {a : Int} {b : Int} {c : Int} {p : Int} {q : Int}  : R_answer_fourth [dSe true l, dInts [a, b, c, p, q]] (dInts (due l (.fourth a b c p q))) := ⟨_, _, _, _, _, _, rfl, rfl⟩
theorem ok_answer_fourth {f : Addr} {fd : FuncData} {f_in_range : Addr} {fd_in_range : FuncData} {f_most_alike : Addr} {fd_most_alike : FuncData} {f_told : Addr} {fd_told : FuncData} {f_fourth_point : Addr} {fd_fourth_point : FuncData} {f_Point_init : Addr} {fd_Point_init : FuncData} (F : Fun K "answer_fourth" "answer_fourth" s_answer_fourth f fd) (X : Tx K mg T) (h_in_range : Fd P w K mg base "in_range" 1 ["places"] (spR T false R_in_range) f_in_range fd_in_range) (h_most_alike : Fd P w K mg base "most_alike" 1 ["places"] (spR T false R_most_alike) f_most_alike fd_most_alike) (h_told : Fd P w K mg base "told" 3 ["point", "refusal"] (spR T true R_told) f_told fd_told) (h_fourth_point : Fd P w K mg base "fourth_point" 3 ["three", "ratio"] (spR T false R_fourth_point) f_fourth_point fd_fourth_point) (h_Point_init : Mkd P w K mg base "Point" (T 0) 1 ["self", "above", "below"] (spI T 0 R_Point_init) f_Point_init fd_Point_init) :
    FnOk P w K mg base CX0 4 f fd ["session", "numbers"] (spR T true R_answer_fourth) := by
  refine ok_pure F sc_answer_fourth (fun ds r h => ?_) (fun cdv A outer s H E hr => ⟨_, (pss_cons (ps_set (i := 2) sc_answer_fourth.nd rfl (Or.inl rfl) (pe_slice sl_list (pv 1) po_none (po_some pe_int))) (pss_cons (ps_set (i := 3) sc_answer_fourth.nd rfl (Or.inl rfl) (pe_ix ix_list (pv 1) pe_int (fun _ _ => rfl))) (pss_cons (ps_set (i := 4) sc_answer_fourth.nd rfl (Or.inl rfl) (pe_ix ix_list (pv 1) pe_int (fun _ _ => rfl))) (pss_cons (ps_if (PW.pt (pw_or (pt_not (pt_val (pe_call h_in_range.G (hr.mono (by decide)) rfl h_in_range.m h_in_range.kp h_in_range.b .nil pass0 (pa_cons (pv 1) pa_nil)))) (pw_or1 (PW.pt (pw_and (pt_cmpR op_eq (pv 3) pe_int (nomark _)) (pw_and1 (pt_cmpR op_eq (pv 4) pe_int (nomark _)))))))) (pss_one (ps_ret (pe_lst (pa_cons (pe_globI rfl X.g_OUT_OF_RANGE) pa_nil)))) pss_nil) (pss_cons (ps_if (pt_cmpR op_gt (pe_call h_most_alike.G (hr.mono (by decide)) rfl h_most_alike.m h_most_alike.kp h_most_alike.b .nil pass0 (pa_cons (pv 2) pa_nil)) pe_int (nomark _)) (pss_one (ps_ret (pe_lst (pa_cons (pe_globI rfl X.g_ALIKE) pa_nil)))) pss_nil) (pss_one (ps_ret (pe_call h_told.G (hr.mono (by decide)) rfl h_told.m h_told.kp h_told.b .nil pass0 (pa_cons (pe_call h_fourth_point.G (hr.mono (by decide)) rfl h_fourth_point.m h_fourth_point.kp h_fourth_point.b .nil pass0 (pa_cons (pv 2) (pa_cons (pe_make h_Point_init.M h_Point_init.G (hr.mono (by decide)) rfl h_Point_init.m h_Point_init.b .nil pass0 (pa_cons (pv 3) (pa_cons (pv 4) pa_nil))) pa_nil))) (pa_cons (pe_globI rfl X.g_BEYOND_ALL) pa_nil)))))))))), fun ds r h => ?_⟩)
  · obtain ⟨_, _, _, _, _, _, rfl, _⟩ := h
    rfl
  · obtain ⟨l, a, b, c, p, q, rfl, rfl⟩ := h
    rw [due_fourth]
    refine g_set (EvD.is (e := dInts [a, b, c]) (ev_sl (ev_var rfl) eo_none (eo_some ev_int)) rfl) ?_
    refine g_set (ev_ixl (n := 3) (ev_var rfl) ev_int rfl rfl) ?_
    refine g_set (ev_ixl (n := 4) (ev_var rfl) ev_int rfl rfl) ?_
    refine g_guard (et_or (et_not (et_b (ev_call rfl (ea_cons (ev_var rfl) ea_nil) (r_in_range (Nat.le_of_ble_eq_true rfl))))) (fun _ => (et_and (et_test (ev_eqi (ev_var rfl) ev_int)) (fun _ => (et_test (ev_eqi (ev_var rfl) ev_int)))))) (fun hb => ?_) (fun hb => ?_)
    · rw [if_pos (by simpa using hb)]
      exact g_retN (en_lst (ea_cons ev_int ea_nil) (Nat.le_of_ble_eq_true rfl)) rfl
    have hn : ¬ (Kqy2.all [a, b, c, p, q] = false ∨ (p = 0 ∧ q = 0)) := by simpa using hb
    have ha : Kqy2.all [a, b, c, p, q] = true := tr_of fun z => hn (.inl z)
    rw [if_neg hn]
    refine g_guard (et_test (ev_b0 (ev_call rfl (ea_cons (ev_var rfl) ea_nil) (r_most_alike (ns := [a, b, c]) (by simp) (Nat.le_of_ble_eq_true rfl))) ev_int)) (fun hb2 => ?_) (fun hb2 => ?_)
    · rw [if_pos ((most_three1 a b c).mp (Int.ofNat_lt.mp (of_decide_eq_true hb2)))]
      exact g_retN (en_lst (ea_cons ev_int ea_nil) (Nat.le_of_ble_eq_true rfl)) rfl
    rw [if_neg fun z => of_decide_eq_false hb2 (Int.ofNat_lt.mpr ((most_three1 a b c).mpr z))]
    have b3 : Bd 10 a ∧ Bd 10 b ∧ Bd 10 c := ⟨all_bd ha a (by simp), all_bd ha b (by simp), all_bd ha c (by simp)⟩
    have b2 : Bd 10 p ∧ Bd 10 q := ⟨all_bd ha p (by simp), all_bd ha q (by simp)⟩
    exact g_retN (en_call rfl (ea_cons (ev_call rfl (ea_cons (ev_var rfl) (ea_cons (ev_make (ea_cons (ev_var rfl) (ea_cons (ev_var rfl) ea_nil)) r_Point_init) ea_nil)) (r_fourth_point b3 b2)) (ea_cons ev_int ea_nil)) (r_told ((fourth_bd b3 b2).mono (by decide)))) rfl
def R_answer_even (ds : List D) (r : D) : Prop := ∃ (l : List Kqy2.Mark) (a : Int) (b : Int) (c : Int), ds = [dSe true l, dInts [a, b, c]] ∧ r = dInts (due l (.even a b c))
theorem r_answer_even {l : List Kqy2.Mark} {a : Int} {b : Int} {c : Int}  : R_answer_even [dSe true l, dInts [a, b, c]] (dInts (due l (.even a b c))) := ⟨_, _, _, _, rfl, rfl⟩
theorem ok_answer_even {f : Addr} {fd : FuncData} {f_in_range : Addr} {fd_in_range : FuncData} {f_most_alike : Addr} {fd_most_alike : FuncData} {f_told : Addr} {fd_told : FuncData} {f_fourth_point : Addr} {fd_fourth_point : FuncData} {f_point_at : Addr} {fd_point_at : FuncData} (F : Fun K "answer_even" "answer_even" s_answer_even f fd) (X : Tx K mg T) (h_in_range : Fd P w K mg base "in_range" 1 ["places"] (spR T false R_in_range) f_in_range fd_in_range) (h_most_alike : Fd P w K mg base "most_alike" 1 ["places"] (spR T false R_most_alike) f_most_alike fd_most_alike) (h_told : Fd P w K mg base "told" 3 ["point", "refusal"] (spR T true R_told) f_told fd_told) (h_fourth_point : Fd P w K mg base "fourth_point" 3 ["three", "ratio"] (spR T false R_fourth_point) f_fourth_point fd_fourth_point) (h_point_at : Fd P w K mg base "point_at" 3 ["place"] (spR T false R_point_at) f_point_at fd_point_at) :
    FnOk P w K mg base CX0 4 f fd ["session", "numbers"] (spR T true R_answer_even) := by
  refine ok_pure F sc_answer_even (fun ds r h => ?_) (fun cdv A outer s H E hr => ⟨_, (pss_cons (ps_if (pt_not (pt_val (pe_call h_in_range.G (hr.mono (by decide)) rfl h_in_range.m h_in_range.kp h_in_range.b .nil pass0 (pa_cons (pv 1) pa_nil)))) (pss_one (ps_ret (pe_lst (pa_cons (pe_globI rfl X.g_OUT_OF_RANGE) pa_nil)))) pss_nil) (pss_cons (ps_if (pt_cmpR op_gt (pe_call h_most_alike.G (hr.mono (by decide)) rfl h_most_alike.m h_most_alike.kp h_most_alike.b .nil pass0 (pa_cons (pv 1) pa_nil)) pe_int (nomark _)) (pss_one (ps_ret (pe_lst (pa_cons (pe_globI rfl X.g_ALIKE) pa_nil)))) pss_nil) (pss_one (ps_ret (pe_call h_told.G (hr.mono (by decide)) rfl h_told.m h_told.kp h_told.b .nil pass0 (pa_cons (pe_call h_fourth_point.G (hr.mono (by decide)) rfl h_fourth_point.m h_fourth_point.kp h_fourth_point.b .nil pass0 (pa_cons (pv 1) (pa_cons (pe_call h_point_at.G (hr.mono (by decide)) rfl h_point_at.m h_point_at.kp h_point_at.b .nil pass0 (pa_cons (pe_globI rfl X.g_EVENLY_PARTED) pa_nil)) pa_nil))) (pa_cons (pe_globI rfl X.g_BEYOND_ALL) pa_nil))))))), fun ds r h => ?_⟩)
  · obtain ⟨_, _, _, _, rfl, _⟩ := h
    rfl
  · obtain ⟨l, a, b, c, rfl, rfl⟩ := h
    rw [due_even]
    refine g_guard (et_not (et_b (ev_call rfl (ea_cons (ev_var rfl) ea_nil) (r_in_range (Nat.le_of_ble_eq_true rfl))))) (fun hb => ?_) (fun hb => ?_)
    · rw [if_pos (not_true hb)]
      exact g_retN (en_lst (ea_cons ev_int ea_nil) (Nat.le_of_ble_eq_true rfl)) rfl
    have ha := not_false hb
    rw [ha, if_neg (by decide)]
    refine g_guard (et_test (ev_b0 (ev_call rfl (ea_cons (ev_var rfl) ea_nil) (r_most_alike (ns := [a, b, c]) (by simp) (Nat.le_of_ble_eq_true rfl))) ev_int)) (fun hb2 => ?_) (fun hb2 => ?_)
    · rw [if_pos ((most_three1 a b c).mp (Int.ofNat_lt.mp (of_decide_eq_true hb2)))]
      exact g_retN (en_lst (ea_cons ev_int ea_nil) (Nat.le_of_ble_eq_true rfl)) rfl
    rw [if_neg fun z => of_decide_eq_false hb2 (Int.ofNat_lt.mpr ((most_three1 a b c).mpr z))]
    have b3 : Bd 10 a ∧ Bd 10 b ∧ Bd 10 c := ⟨all_bd ha a (by simp), all_bd ha b (by simp), all_bd ha c (by simp)⟩
    have b2 : Bd 10 (-1) ∧ Bd 10 1 := ⟨(one_bd 9).neg, one_bd 9⟩
    exact g_retN (en_call rfl (ea_cons (ev_call rfl (ea_cons (ev_var rfl) (ea_cons (ev_call rfl (ea_cons ev_int ea_nil) r_point_at) ea_nil)) (r_fourth_point b3 b2)) (ea_cons ev_int ea_nil)) (r_told ((fourth_bd b3 b2).mono (by decide)))) rfl
end
end WM

namespace WM
open PySem PySem.Spec PyProof.Rows L2
/-! ### a list of one's own, made longer in a for -/
section
variable {P : Program} {w : World} {K : PySem.W.Frag} {mg : Str → Option Value} {base : Heap} {T : Nat → Addr}
theorem isE_any {H : Hp} : ∀ (σ : L2.St), IsE T H (List.replicate σ.length none) σ
  | [] => .nil
  | _ :: σ => .any (isE_any σ)
theorem take_flat {α β : Type} {g : α → List β} {l : List α} {i : Nat} {d : α} (h : l[i]? = some d) : (l.take (i + 1)).flatMap g = (l.take i).flatMap g ++ g d := by
  rw [List.take_add_one, h, List.flatMap_append]
  show _ ++ [d].flatMap g = _
  rw [List.flatMap_cons, List.flatMap_nil, List.append_nil]
theorem flat_le {α β : Type} {g : α → List β} : ∀ (l : List α) (i : Nat), ((l.take i).flatMap g).length ≤ (l.flatMap g).length
  | [], _ => by
    rw [List.take_nil]
    exact Nat.le_refl _
  | _ :: _, 0 => Nat.zero_le _
  | a :: l, i + 1 => by
    rw [List.take_succ_cons, List.flatMap_cons, List.flatMap_cons, List.length_append, List.length_append]
    exact Nat.add_le_add_left (flat_le l i) _
theorem own_loop {σ : L2.St} {H : Hp} {p q : Addr} {vs : List V} {ds : List D} {out : List Int} {j k : Nat} {te : TE} {Dn : Ends} (hp : H p = some (.lst (out.map V.int))) (hq : H q = some (.lst vs)) (hne : q ≠ p) (hv : IsL T H ds vs) (hfl : ∀ d, d ∈ ds → Flat d)
    (hσ : σ[k]? = some (some (.ref p))) (hjk : j ≠ k) (g : D → List Int) (hg : ∀ d, d ∈ ds → EvN T te ((List.replicate σ.length none).set j (some d)) (dInts (g d))) (hsz : out.length + (ds.flatMap g).length ≤ 10000)
    (nx : ∀ σ' H', σ'[k]? = some (some (.ref p)) → H' p = some (.lst ((out ++ ds.flatMap g).map V.int)) → (∀ b o, H b = some o → b ≠ p → H' b = some o) → Dn.nx σ' H') :
    ∃ W : Nat → Nat → L2.St → Hp → Prop, (∃ m, W 0 m σ H) ∧ ∀ i m σ H, W i m σ H →
      ((Itl K q).stop i H ∧ Dn.nx σ H) ∨ ((Itl K q).go i H ∧ ∃ N : L2.St → Hp → Prop, (∀ σ' H', N σ' H' → ∃ m', m' < m ∧ W (i + 1) m' σ' H') ∧ ∀ x H', (Itl K q).yld i H x H' → gName j x σ H' fun σ2 H2 => tDrop (tBM K "list" rExtend (tVar k) (tCons te tNil)) { Dn with nx := N, ct := N, bk := Dn.nx } σ2 H2) := by
  refine for_list (K := K) (a := q) (xs := vs) (fun i σ' H' => σ'.length = σ.length ∧ σ'[k]? = some (some (.ref p)) ∧ H' p = some (.lst ((out ++ (ds.take i).flatMap g).map V.int)) ∧ ∀ b o, H b = some o → b ≠ p → H' b = some o) ⟨rfl, hσ, ?_, fun b o z _ => z⟩ (fun i σ' H' _ p' => SqL.of (p'.2.2.2 _ _ hq hne)) ?_ ?_
  · rw [List.take_zero, List.flatMap_nil, List.append_nil]
    exact hp
  · rintro i x σ' H' hi ⟨hl, hk, hp', kp⟩
    obtain ⟨d, hd, hx⟩ := hv.of hi
    have hm := List.mem_of_getElem? hd
    have hx' : Is T H' d x := is_keep hp kp (hfl d hm) hx
    have hk2 : (σ'.set j (some x))[k]? = some (some (.ref p)) := by
      rw [List.getElem?_set_ne hjk]
      exact hk
    have E : IsE T H' ((List.replicate σ.length none).set j (some d)) (σ'.set j (some x)) := by
      rw [← hl]
      exact (isE_any σ').set j hx'
    refine ⟨_, hk2, .inl ⟨rfl, _, SqL.of hp'⟩, ?_⟩
    refine hg d hm _ H' E _ fun v H2 s2 hv2 fr => ?_
    cases hv2 with
    | lst h1 h2 =>
      have e := h2.ints
      subst e
      have hlen := flat_le (g := g) ds (i + 1)
      rw [take_flat hd, List.length_append] at hlen
      refine ⟨p, _, _, _, rfl, rfl, s2 _ _ hp', h1, ?_, ?_, hk2, ?_, fun b o z hb => ?_⟩
      · simp only [List.length_map, List.length_append]
        exact Nat.le_trans (show _ ≤ 10000 by omega) (by decide)
      · rw [List.length_set]
        exact hl
      · rw [upd_same, take_flat hd, ← List.append_assoc, List.map_append (l₂ := g d)]
      · rw [upd_ne hb]
        exact s2 b o (kp b o z hb)
  · rintro σ' H' ⟨hl, hk, hp', kp⟩
    rw [hv.length, List.take_length] at hp'
    exact nx σ' H' hk hp' kp
theorem raw_setN {u : TS} {ρ : List (Option D)} {σ : L2.St} {H : Hp} {Dn : Ends} {te : TE} {d : D} {n : Nat} (h : EvN T te ρ d) (E : IsE T H ρ σ) (k : ∀ v H', Same H H' → Is T H' d v → Fresh H v → u Dn (σ.set n (some v)) H') : tSeq (tAsg te (gName n)) u Dn σ H := h σ H E _ k
/-- a for over a list that is made for it -/
theorem raw_for {u tb : TS} {ρ : List (Option D)} {σ : L2.St} {H : Hp} {Dn : Ends} {tl : TE} {ds : List D} {j : Nat} (h : EvN T tl ρ (.lst ds)) (E : IsE T H ρ σ) (k : ∀ q vs H', Same H H' → H' q = some (.lst vs) → IsL T H' ds vs → H q = none →
    ∃ W : Nat → Nat → L2.St → Hp → Prop, (∃ m, W 0 m σ H') ∧ ∀ i m σ H, W i m σ H →
      ((Itl K q).stop i H ∧ u Dn σ H) ∨ ((Itl K q).go i H ∧ ∃ N : L2.St → Hp → Prop, (∀ σ' H', N σ' H' → ∃ m', m' < m ∧ W (i + 1) m' σ' H') ∧ ∀ x H', (Itl K q).yld i H x H' → gName j x σ H' fun σ2 H2 => tb { { Dn with nx := u Dn } with nx := N, ct := N, bk := u Dn } σ2 H2)) : tSeq (tFor (iList K tl) (gName j) tb) u Dn σ H := h σ H E _ fun v H1 s1 hv fr => by
  cases hv with
  | lst h1 h2 => exact ⟨_, rfl, ⟨_, SqL.of h1⟩, k _ _ H1 s1 h1 h2 (fr _ rfl)⟩
/-! ### state -/
theorem flat_mk (t m : Int) : Flat (dMk t m) := fun p hp => by
  rcases List.mem_cons.mp hp with rfl | hp
  · exact ⟨_, rfl⟩
  · rcases List.mem_cons.mp hp with rfl | hp
    · exact ⟨_, rfl⟩
    · cases hp
/-- the two numbers of an object as data -/
def twoD (d : D) : List Int := [fst1 d, snd1 d]
theorem two_marks (l : List Kqy2.Mark) : (l.map fun p => dMk p.t p.m).flatMap twoD = l.flatMap fun m => [m.t, m.m] := by
  rw [List.flatMap_map]
  rfl
theorem two_len : ∀ (l : List Kqy2.Mark), (l.flatMap fun m => [m.t, m.m]).length = 2 * l.length
  | [] => rfl
  | a :: l => by
    rw [List.flatMap_cons, List.length_append, two_len l]
    show 2 + _ = 2 * (l.length + 1)
    omega
def R_answer_state (ds : List D) (r : D) : Prop := ∃ (l : List Kqy2.Mark) (ns : List Int), ds = [dSe true l, dInts ns] ∧ (Okm l) ∧ r = dInts (due l .state)
theorem r_answer_state {l : List Kqy2.Mark} {ns : List Int} (h0 : Okm l) : R_answer_state [dSe true l, dInts ns] (dInts (due l .state)) := ⟨_, _, rfl, h0, rfl⟩
theorem ok_answer_state {f : Addr} {fd : FuncData}  (F : Fun K "answer_state" "answer_state" s_answer_state f fd) (X : Tx K mg T)  :
    FnOk P w K mg base CX0 1 f fd ["session", "numbers"] (spR T true R_answer_state) := by
  refine ok_pure F sc_answer_state (fun ds r h => ?_) (fun cdv A outer s H E hr => ⟨_, (pss_cons (ps_set (i := 2) sc_answer_state.nd rfl (Or.inl rfl) (pe_lst (pa_cons (pe_callB call_len_seq (by rfl) X.b_len PySem.boot_len (pa_cons (pe_fld (pv 0) rfl) pa_nil)) pa_nil))) (pss_cons (ps_for PassesOwn.never rfl (pi_list (pe_fld (pv 0) rfl)) (pg_name (i := 3) sc_answer_state.nd rfl (Or.inl rfl)) (pss_one (ps_expr (pe_bm PySem.F.plainAttrs_list PySem.F.slot_list_extend PySem.F.type_list_extend mt_extend (pv 2) (pa_cons (pe_lst (pa_cons (pe_fld (pv 3) rfl) (pa_cons (pe_fld (pv 3) rfl) pa_nil))) pa_nil))))) (pss_one (ps_ret (pv 2))))), fun ds r h => ?_⟩)
  · obtain ⟨_, _, rfl, _⟩ := h
    rfl
  · obtain ⟨l, ns, rfl, h0, rfl⟩ := h
    intro σ H (E : IsE T H [some (dSe true l), some (dInts ns), none, none] σ) Dn _ q
    refine raw_setN (en_lst (ea_cons (ev_len (ev_fld (ev_var rfl) X.c_Session X.n_Session_marks lk_Session_marks)) ea_nil) (Nat.le_of_ble_eq_true rfl)) E fun v H1 s1 hv fr => ?_
    rw [List.length_map] at hv
    cases (show Is T H1 (dInts [(l.length : Int)]) v from hv) with
    | lst hp hL =>
      rename_i p us
      have e := hL.ints
      subst e
      have np : H p = none := fr p rfl
      obtain ⟨v0, hv0, i0⟩ := E.get (i := 0) rfl
      have hs0 : (σ.set 2 (some (V.ref p)))[0]? = some (some v0) := by
        rw [List.getElem?_set_ne (by decide)]
        exact hv0
      have hs2 : (σ.set 2 (some (V.ref p)))[2]? = some (some (.ref p)) := by
        rw [List.getElem?_set_self]
        rw [isE_length E]
        show 2 < 4
        decide
      cases i0 with
      | obj ha hf =>
        obtain ⟨w0, lw, iw⟩ := hf.some lk_Session_marks
        cases iw with
        | lst hla hm =>
          refine ⟨_, hs0, _, _, _, _, _, rfl, s1 _ _ ha, X.c_Session, X.n_Session_marks, lw, _, rfl, ⟨_, SqL.of (s1 _ _ hla)⟩, ?_⟩
          refine own_loop (ds := l.map fun p => dMk p.t p.m) (out := [(l.length : Int)]) (k := 2) (j := 3) hp (s1 _ _ hla) (ne_of_none hla np) (hm.mono s1) (fun d hd => ?_) hs2 (by decide) twoD (fun d hd => ?_) ?_ fun σ' H' hk hp' kp => ?_
          · obtain ⟨k, _, rfl⟩ := List.mem_map.mp hd
            exact flat_mk _ _
          · obtain ⟨k, _, rfl⟩ := List.mem_map.mp hd
            rw [List.length_set, isE_length E]
            exact en_lst (ea_cons (ev_fld (ev_var rfl) X.c_Mark X.n_Mark_t lk_Mark_t) (ea_cons (ev_fld (ev_var rfl) X.c_Mark X.n_Mark_m lk_Mark_m) ea_nil)) (Nat.le_of_ble_eq_true rfl)
          · rw [two_marks, two_len]
            have := h0.1
            show 1 + _ ≤ _
            omega
          · refine ⟨_, hk, ?_⟩
            rw [two_marks] at hp'
            exact q _ _ H' (fun b o z => kp b o (s1 b o z) (ne_of_none z np)) rfl (.lst hp' (IsL.mkInts _)) fun _ b e => by
              cases e
              exact np
/-! ### six -/
/-- a point's fraction -/
def fracD : D → List Int
  | .obj _ [(_, .int x), (_, .int y)] => Kqy2.frac x y
  | _ => []
theorem six_flat (p q r u v z : Int × Int) : [(0 : Int)] ++ List.flatMap fracD [dP p, dP q, dP r, dP u, dP v, dP z] = 0 :: (((((Kqy2.frac p.1 p.2 ++ Kqy2.frac q.1 q.2) ++ Kqy2.frac r.1 r.2) ++ Kqy2.frac u.1 u.2) ++ Kqy2.frac v.1 v.2) ++ Kqy2.frac z.1 z.2) := by
  simp only [List.flatMap_cons, List.flatMap_nil, fracD, List.append_nil, List.append_assoc, List.singleton_append]
theorem double_ne {a b c d : Int} (h : ¬ (a = b ∨ a = c ∨ a = d ∨ b = c ∨ b = d ∨ c = d)) : (Kqy2.double (Kqy2.pt a) (Kqy2.pt b) (Kqy2.pt c) (Kqy2.pt d)).2 ≠ 0 := by
  unfold Kqy2.double Kqy2.det Kqy2.pt
  simp only
  exact Int.mul_ne_zero (by omega) (by omega)
def R_answer_six (ds : List D) (r : D) : Prop := ∃ (l : List Kqy2.Mark) (a : Int) (b : Int) (c : Int) (d : Int), ds = [dSe true l, dInts [a, b, c, d]] ∧ r = dInts (due l (.six a b c d))
theorem r_answer_six {l : List Kqy2.Mark} {a : Int} {b : Int} {c : Int} {d : Int}  : R_answer_six [dSe true l, dInts [a, b, c, d]] (dInts (due l (.six a b c d))) := ⟨_, _, _, _, _, rfl, rfl⟩
theorem ok_answer_six {f : Addr} {fd : FuncData} {f_in_range : Addr} {fd_in_range : FuncData} {f_most_alike : Addr} {fd_most_alike : FuncData} {f_six_ratios : Addr} {fd_six_ratios : FuncData} {f_point_at : Addr} {fd_point_at : FuncData} {f_fraction : Addr} {fd_fraction : FuncData} (F : Fun K "answer_six" "answer_six" s_answer_six f fd) (X : Tx K mg T) (h_in_range : Fd P w K mg base "in_range" 1 ["places"] (spR T false R_in_range) f_in_range fd_in_range) (h_most_alike : Fd P w K mg base "most_alike" 1 ["places"] (spR T false R_most_alike) f_most_alike fd_most_alike) (h_six_ratios : Fd P w K mg base "six_ratios" 4 ["four"] (spR T true R_six_ratios) f_six_ratios fd_six_ratios) (h_point_at : Fd P w K mg base "point_at" 3 ["place"] (spR T false R_point_at) f_point_at fd_point_at) (h_fraction : Fd P w K mg base "fraction" 2 ["point"] (spR T true R_fraction) f_fraction fd_fraction) :
    FnOk P w K mg base CX0 5 f fd ["session", "numbers"] (spR T true R_answer_six) := by
  refine ok_pure F sc_answer_six (fun ds r h => ?_) (fun cdv A outer s H E hr => ⟨_, (pss_cons (ps_if (pt_not (pt_val (pe_call h_in_range.G (hr.mono (by decide)) rfl h_in_range.m h_in_range.kp h_in_range.b .nil pass0 (pa_cons (pv 1) pa_nil)))) (pss_one (ps_ret (pe_lst (pa_cons (pe_globI rfl X.g_OUT_OF_RANGE) pa_nil)))) pss_nil) (pss_cons (ps_if (pt_cmpR op_gt (pe_call h_most_alike.G (hr.mono (by decide)) rfl h_most_alike.m h_most_alike.kp h_most_alike.b .nil pass0 (pa_cons (pv 1) pa_nil)) pe_int (nomark _)) (pss_one (ps_ret (pe_lst (pa_cons (pe_globI rfl X.g_ALIKE) pa_nil)))) pss_nil) (pss_cons (ps_set (i := 2) sc_answer_six.nd rfl (Or.inl rfl) (pe_lst (pa_cons pe_int pa_nil))) (pss_cons (ps_for PassesOwn.never rfl (pi_list (pe_call h_six_ratios.G (hr.mono (by decide)) rfl h_six_ratios.m h_six_ratios.kp h_six_ratios.b .nil pass0 (pa_cons (pe_lc (own := [("place", 4)]) (g := gName 4) (tt := tYes) (te := (tCall (spR T false R_point_at) [] (fun _ _ _ => False) (tCons (tVar 4) tNil))) rfl sc_answer_six.nd (pi_list (pv 1)) (blkOk_by (N := ["session", "numbers", "answered", "ratio", "place"]) (sc := defScope s_answer_six) (by decide +kernel)) (fun _ _ _ _ _ => pg_name (i := 4) sc_answer_six.nd rfl (Or.inl rfl)) (fun _ _ _ _ _ => pts_nil) (fun _ _ _ _ _ => by exact (pe_call h_point_at.G (hr.mono (by decide)) rfl h_point_at.m h_point_at.kp h_point_at.b .nil pass0 (pa_cons (pv 4) pa_nil)))) pa_nil))) (pg_name (i := 3) sc_answer_six.nd rfl (Or.inl rfl)) (pss_one (ps_expr (pe_bm PySem.F.plainAttrs_list PySem.F.slot_list_extend PySem.F.type_list_extend mt_extend (pv 2) (pa_cons (pe_call h_fraction.G (hr.mono (by decide)) rfl h_fraction.m h_fraction.kp h_fraction.b .nil pass0 (pa_cons (pv 3) pa_nil)) pa_nil))))) (pss_one (ps_ret (pv 2))))))), fun ds r h => ?_⟩)
  · obtain ⟨_, _, _, _, _, rfl, _⟩ := h
    rfl
  · obtain ⟨l, a, b, c, d, rfl, rfl⟩ := h
    rw [due_six]
    refine g_guard (et_not (et_b (ev_call rfl (ea_cons (ev_var rfl) ea_nil) (r_in_range (Nat.le_of_ble_eq_true rfl))))) (fun hb => ?_) (fun hb => ?_)
    · rw [if_pos (not_true hb)]
      exact g_retN (en_lst (ea_cons ev_int ea_nil) (Nat.le_of_ble_eq_true rfl)) rfl
    have ha := not_false hb
    rw [ha, if_neg (by decide)]
    refine g_guard (et_test (ev_b0 (ev_call rfl (ea_cons (ev_var rfl) ea_nil) (r_most_alike (ns := [a, b, c, d]) (by simp) (Nat.le_of_ble_eq_true rfl))) ev_int)) (fun hb2 => ?_) (fun hb2 => ?_)
    · rw [if_pos ((most_four1 a b c d).mp (Int.ofNat_lt.mp (of_decide_eq_true hb2)))]
      exact g_retN (en_lst (ea_cons ev_int ea_nil) (Nat.le_of_ble_eq_true rfl)) rfl
    have hn : ¬ (a = b ∨ a = c ∨ a = d ∨ b = c ∨ b = d ∨ c = d) := fun z => of_decide_eq_false hb2 (Int.ofNat_lt.mpr ((most_four1 a b c d).mpr z))
    rw [if_neg hn]
    have ba := pt_bd (all_bd ha a (by simp))
    have bb := pt_bd (all_bd ha b (by simp))
    have bc := pt_bd (all_bd ha c (by simp))
    have bd := pt_bd (all_bd ha d (by simp))
    intro σ H (E : IsE T H [some (dSe true l), some (dInts [a, b, c, d]), none, none, none] σ) Dn _ q
    refine raw_setN (en_lst (ea_cons ev_int ea_nil) (Nat.le_of_ble_eq_true rfl)) E fun v H1 s1 hv fr => ?_
    have E1 := (E.mono s1).set 2 hv
    cases (show Is T H1 (dInts [0]) v from hv) with
    | lst hp hL =>
      rename_i p us
      have e := hL.ints
      subst e
      have np : H p = none := fr p rfl
      have hs2 : (σ.set 2 (some (V.ref p)))[2]? = some (some (.ref p)) := by
        rw [List.getElem?_set_self]
        rw [isE_length E]
        show 2 < 5
        decide
      refine raw_for (en_call rfl (ea_cons (EvD.is (e := .lst [dP (Kqy2.pt a), dP (Kqy2.pt b), dP (Kqy2.pt c), dP (Kqy2.pt d)]) (ev_lcD (f := fun e => dP (Kqy2.pt (numD e))) (ev_var rfl) (Nat.le_of_ble_eq_true rfl) fun e he => ⟨flat_pt _ _, ?_⟩) rfl) ea_nil) (r_six_ratios ba bb bc bd)) E1 fun q2 vs H2 s2 hq hm nq => ?_
      · obtain ⟨k, _, rfl⟩ := mem_num he
        exact ev_call rfl (ea_cons (ev_var rfl) ea_nil) r_point_at
      refine own_loop (K := K) (Dn := { Dn with nx := tRet (tVar 2) Dn }) (out := [0]) (k := 2) (j := 3) (s2 _ _ hp) hq (ne_of_none hp nq).symm hm (fun d hd => ?_) hs2 (by decide) fracD (fun d hd => ?_) ?_ fun σ' H' hk hp' kp => ?_
      · simp only [List.mem_cons, List.not_mem_nil, or_false] at hd
        rcases hd with rfl | rfl | rfl | rfl | rfl | rfl <;> exact flat_pt _ _
      · have hz : ∃ x : Int × Int, d = dP x ∧ x.2 ≠ 0 ∧ Bd 4000 x.2 := by
          simp only [List.mem_cons, List.not_mem_nil, or_false] at hd
          rcases hd with rfl | rfl | rfl | rfl | rfl | rfl
          · exact ⟨_, rfl, double_ne hn, (double_bd ba bb bc bd).2.mono (by decide)⟩
          · exact ⟨_, rfl, double_ne (by omega), (double_bd ba bb bd bc).2.mono (by decide)⟩
          · exact ⟨_, rfl, double_ne (by omega), (double_bd ba bc bb bd).2.mono (by decide)⟩
          · exact ⟨_, rfl, double_ne (by omega), (double_bd ba bc bd bb).2.mono (by decide)⟩
          · exact ⟨_, rfl, double_ne (by omega), (double_bd ba bd bb bc).2.mono (by decide)⟩
          · exact ⟨_, rfl, double_ne (by omega), (double_bd ba bd bc bb).2.mono (by decide)⟩
        obtain ⟨x, rfl, hx0, hx1⟩ := hz
        rw [List.length_set, isE_length E]
        exact en_call rfl (ea_cons (ev_var rfl) ea_nil) (r_fraction hx0 hx1)
      · simp only [List.flatMap_cons, List.flatMap_nil, List.length_append, List.length_cons, List.length_nil, fracD, frac_len]
        decide
      · refine ⟨_, hk, ?_⟩
        rw [six_flat] at hp'
        exact q _ _ H' (fun b o z => kp b o (s2 b o (s1 b o z)) (ne_of_none z np)) rfl (.lst hp' (IsL.mkInts _)) fun _ b e => by
          cases e
          exact np
end
end WM

namespace WM
open PySem PySem.Spec PyProof.Rows L2
/-! ### what is made, what is changed -/
theorem same_upd {H0 H : Hp} {p : Addr} {o : HO} (s : Same H0 H) (h : H0 p = none) : Same H0 (upd H p o) := fun b u z => by
  rw [upd_ne (ne_of_none z h)]
  exact s b u z
theorem isF_put {T : Nat → Addr} {H : Hp} {f : Str} {d : D} {v : V} (hd : Is T H d v) : ∀ {fs : List (Str × D)} {ws : List (Str × V)}, IsF T H fs ws → fs.lookup f = none → IsF T H (fs ++ [(f, d)]) (putF f v ws)
  | _, _, .nil, _ => .cons hd .nil
  | _, _, .cons (f := g) h l, e => by
    unfold List.lookup at e
    cases q : f == g with
    | true =>
      rw [q] at e
      cases e
    | false =>
      rw [q] at e
      have hne : ¬ g = f := fun z => by
        rw [z, beq_self_eq_true] at q
        cases q
      have e2 := isF_put hd l e
      unfold putF
      rw [if_neg hne]
      exact .cons h e2
section
variable {P : Program} {w : World} {K : PySem.W.Frag} {mg : Str → Option Value} {base : Heap} {T : Nat → Addr}
theorem ok_Point_init {f : Addr} {fd : FuncData}  (F : Fun K "__init__" "Point.__init__" s_Point_init f fd) (X : Tx K mg T)  :
    FnOk P w K mg base CX0 1 f fd ["self", "above", "below"] (spI T 0 R_Point_init) := by
  refine F.ok sc_Point_init (fun vs H Q E h => ?_) (fun cdv A outer s H vs Q E hr h => ?_)
  · obtain ⟨p, dx, us, H0, ds, fs, rfl, hp, n0, s0, hl, ⟨x, y, rfl, rfl⟩, k⟩ := h
    exact congrArg (· + 1) hl.length
  · obtain ⟨p, dx, us, H0, ds, fs, rfl, hp, n0, s0, hl, ⟨x, y, rfl, rfl⟩, k⟩ := h
    have e := (show IsL T H0 ([x, y].map D.int) us from hl).ints
    subst e
    refine ⟨_, (pss_cons (ps_fld (pv 0) (pv 1) rfl) (pss_one (ps_fld (pv 0) (pv 2) rfl))), ?_⟩
    refine ⟨_, rfl, _, rfl, p, T 0, dx, _, rfl, hp, X.c_Point, X.n_Point_above, (by show 0 < 1000; decide), ?_⟩
    refine ⟨_, rfl, _, rfl, p, T 0, dx, _, rfl, upd_same, X.c_Point, X.n_Point_below, (by show 1 < 1000; decide), ?_⟩
    refine k _ _ upd_same (isF_put (.int _) (isF_put (.int _) .nil rfl) ?_) fun b o e hb => by
      rw [upd_ne hb, upd_ne hb]
      exact e
    exact (lkD_past (by decide +kernel)).trans rfl
theorem ok_Mark_init {f : Addr} {fd : FuncData}  (F : Fun K "__init__" "Mark.__init__" s_Mark_init f fd) (X : Tx K mg T)  :
    FnOk P w K mg base CX0 1 f fd ["self", "t", "m"] (spI T 2 R_Mark_init) := by
  refine F.ok sc_Mark_init (fun vs H Q E h => ?_) (fun cdv A outer s H vs Q E hr h => ?_)
  · obtain ⟨p, dx, us, H0, ds, fs, rfl, hp, n0, s0, hl, ⟨x, y, rfl, rfl⟩, k⟩ := h
    exact congrArg (· + 1) hl.length
  · obtain ⟨p, dx, us, H0, ds, fs, rfl, hp, n0, s0, hl, ⟨x, y, rfl, rfl⟩, k⟩ := h
    have e := (show IsL T H0 ([x, y].map D.int) us from hl).ints
    subst e
    refine ⟨_, (pss_cons (ps_fld (pv 0) (pv 1) rfl) (pss_one (ps_fld (pv 0) (pv 2) rfl))), ?_⟩
    refine ⟨_, rfl, _, rfl, p, T 2, dx, _, rfl, hp, X.c_Mark, X.n_Mark_t, (by show 0 < 1000; decide), ?_⟩
    refine ⟨_, rfl, _, rfl, p, T 2, dx, _, rfl, upd_same, X.c_Mark, X.n_Mark_m, (by show 1 < 1000; decide), ?_⟩
    refine k _ _ upd_same (isF_put (.int _) (isF_put (.int _) .nil rfl) ?_) fun b o e hb => by
      rw [upd_ne hb, upd_ne hb]
      exact e
    exact (lkD_past (by decide +kernel)).trans rfl
theorem ok_View_init {f : Addr} {fd : FuncData}  (F : Fun K "__init__" "View.__init__" s_View_init f fd) (X : Tx K mg T)  :
    FnOk P w K mg base CX0 1 f fd ["self", "a", "b", "c", "d"] (spI T 1 R_View_init) := by
  refine F.ok sc_View_init (fun vs H Q E h => ?_) (fun cdv A outer s H vs Q E hr h => ?_)
  · obtain ⟨p, dx, us, H0, ds, fs, rfl, hp, n0, s0, hl, ⟨a, b, c, d, rfl, rfl⟩, k⟩ := h
    exact congrArg (· + 1) hl.length
  · obtain ⟨p, dx, us, H0, ds, fs, rfl, hp, n0, s0, hl, ⟨a, b, c, d, rfl, rfl⟩, k⟩ := h
    have e := (show IsL T H0 ([a, b, c, d].map D.int) us from hl).ints
    subst e
    refine ⟨_, (pss_cons (ps_fld (pv 0) (pv 1) rfl) (pss_cons (ps_fld (pv 0) (pv 2) rfl) (pss_cons (ps_fld (pv 0) (pv 3) rfl) (pss_one (ps_fld (pv 0) (pv 4) rfl))))), ?_⟩
    refine ⟨_, rfl, _, rfl, p, T 1, dx, _, rfl, hp, X.c_View, X.n_View_a, (by show 0 < 1000; decide), ?_⟩
    refine ⟨_, rfl, _, rfl, p, T 1, dx, _, rfl, upd_same, X.c_View, X.n_View_b, (by show 1 < 1000; decide), ?_⟩
    refine ⟨_, rfl, _, rfl, p, T 1, dx, _, rfl, upd_same, X.c_View, X.n_View_c, (by show 2 < 1000; decide), ?_⟩
    refine ⟨_, rfl, _, rfl, p, T 1, dx, _, rfl, upd_same, X.c_View, X.n_View_d, (by show 3 < 1000; decide), ?_⟩
    refine k _ _ upd_same (isF_put (.int _) (isF_put (.int _) (isF_put (.int _) (isF_put (.int _) .nil rfl) ?_) ?_) ?_) fun b o e hb => by
      rw [upd_ne hb, upd_ne hb, upd_ne hb, upd_ne hb]
      exact e
    · exact (lkD_past (by decide +kernel)).trans rfl
    · exact (lkD_past (by decide +kernel)).trans ((lkD_past (by decide +kernel)).trans rfl)
    · exact (lkD_past (by decide +kernel)).trans ((lkD_past (by decide +kernel)).trans ((lkD_past (by decide +kernel)).trans rfl))
def R_Session_init (ds : List D) (r : List (Str × D)) : Prop := ds = [] ∧ r = fSe false []
theorem r_Session_init   : R_Session_init [] (fSe false []) := ⟨rfl, rfl⟩
theorem ok_Session_init {f : Addr} {fd : FuncData}  (F : Fun K "__init__" "Session.__init__" s_Session_init f fd) (X : Tx K mg T)  :
    FnOk P w K mg base CX0 1 f fd ["self"] (spI T 3 R_Session_init) := by
  refine F.ok sc_Session_init (fun vs H Q E h => ?_) (fun cdv A outer s H vs Q E hr h => ?_)
  · obtain ⟨p, dx, us, H0, ds, fs, rfl, hp, n0, s0, hl, ⟨rfl, rfl⟩, k⟩ := h
    exact congrArg (· + 1) hl.length
  · obtain ⟨p, dx, us, H0, ds, fs, rfl, hp, n0, s0, hl, ⟨rfl, rfl⟩, k⟩ := h
    cases hl
    refine ⟨_, (pss_cons (ps_fld (pv 0) pe_bl rfl) (pss_one (ps_fld (pv 0) (pe_lst pa_nil) rfl))), ?_⟩
    refine ⟨_, rfl, p, T 3, dx, _, rfl, hp, X.c_Session, X.n_Session_started, (by show 0 < 1000; decide), ?_⟩
    refine ⟨Nat.zero_le _, fun q hq => ?_⟩
    have hqp : q ≠ p := fun z => by
      rw [z, upd_same] at hq
      cases hq
    refine ⟨_, rfl, p, T 3, dx, _, rfl, (upd_ne hqp.symm).trans upd_same, X.c_Session, X.n_Session_marks, (by show 1 < 1000; decide), ?_⟩
    refine k _ _ upd_same (isF_put (.lst ((upd_ne hqp).trans upd_same) .nil) (isF_put (.bl _) .nil rfl) ?_) fun b o e hb => ?_
    · exact (lkD_past (by decide +kernel)).trans rfl
    · have hbq : b ≠ q := fun z => by
        rw [z] at e
        rw [upd_ne hqp, e] at hq
        cases hq
      rw [upd_ne hb, upd_ne hbq, upd_ne hb]
      exact e
/-! ### the session as it lies in the heap -/
abbrev vSe (b : Bool) (la : Addr) : List (Str × V) := [("started", .bl b), ("marks", .ref la)]
structure SessAt (T : Nat → Addr) (H : Hp) (a la : Addr) (s : Option (List Kqy2.Mark)) : Prop where
  ex : ∃ dx ms, H a = some (.ins (T 3) dx (vSe s.isSome la)) ∧ H la = some (.lst ms) ∧ IsL T H ((s.getD []).map fun p => dMk p.t p.m) ms
theorem SessAt.is {H : Hp} {a la : Addr} {l : List Kqy2.Mark} (h : SessAt T H a la (some l)) : Is T H (dSe true l) (.ref a) := by
  obtain ⟨dx, ms, h1, h2, h3⟩ := h.ex
  exact .obj h1 (.cons (.bl _) (.cons (.lst h2 h3) .nil))
theorem SessAt.mono {H H' : Hp} {a la : Addr} {s : Option (List Kqy2.Mark)} (h : SessAt T H a la s) (m : Same H H') : SessAt T H' a la s := by
  obtain ⟨dx, ms, h1, h2, h3⟩ := h.ex
  exact ⟨dx, ms, m _ _ h1, m _ _ h2, h3.mono m⟩
theorem SessAt.of {H : Hp} {v : V} (h : Is T H (dSe false []) v) : ∃ a la, v = .ref a ∧ SessAt T H a la none := by
  cases h with
  | obj ha hf =>
    cases hf with
    | cons h1 h2 =>
      cases h1
      cases h2 with
      | cons h3 h4 =>
        cases h4
        cases h3 with
        | lst hl hm => exact ⟨_, _, rfl, _, _, ha, hl, hm⟩
/-- marks are no lists: they stand where a list is changed -/
theorem marks_upd {H : Hp} {la : Addr} {xs : List V} {o : HO} (h : H la = some (.lst xs)) : ∀ {l : List Kqy2.Mark} {ms : List V}, IsL T H (l.map fun p => dMk p.t p.m) ms → IsL T (upd H la o) (l.map fun p => dMk p.t p.m) ms
  | [], _, .nil => .nil
  | k :: l, _, .cons hd tl => by
    refine .cons ?_ (marks_upd h tl)
    cases hd with
    | obj ha hf =>
      cases hf with
      | cons h1 h2 =>
        cases h2 with
        | cons h3 h4 =>
          cases h1
          cases h3
          cases h4
          exact .obj ((upd_ne (ne_of ha h (by intro z; cases z))).trans ha) (.cons (.int _) (.cons (.int _) .nil))
/-- all but the session and its list stand -/
def Frame (H H' : Hp) (a la : Addr) : Prop := ∀ x o, H x = some o → x ≠ a → x ≠ la → H' x = some o
/-- what is asked of a call's numbers besides -/
def PreN (c : Int) (ns : List Int) : Prop := (c = 2 ∨ c = 6) → ∀ i ∈ ns, 0 ≤ i ∧ i < 2147483648
/-- the promise of what answers one kind of call -/
def spC (T : Nat → Addr) (c : Int) : Sp := fun vs H Q _ => ∃ (a la n : Addr) (s : Option (List Kqy2.Mark)) (ns : List Int) (x : Kqy2.Call), vs = [.ref a, .ref n] ∧ SessAt T H a la s ∧ H n = some (.lst (ns.map V.int)) ∧ Okm (s.getD []) ∧ Kqy2Neutral.callOf [c :: ns] = some x ∧ (c = 0 ∨ s.isSome = true) ∧ PreN c ns ∧
  ∀ (H' : Hp) (la' p : Addr), SessAt T H' a la' (Kqy2.step s x).1 → (la' = la ∨ H la' = none) → Frame H H' a la → H p = none → H' p = some (.lst ((Kqy2Neutral.tell (Kqy2.step s x).2).map V.int)) → Q (.ref p) H'
theorem fn_imp {k : Nat} {f : Addr} {fd : FuncData} {ps : List Str} {sp sp' : Sp} {CX : CXT} (F : FnOk P w K mg base CX k f fd ps sp) (h : ∀ vs H Q E, sp' vs H Q E → sp vs H Q E) : FnOk P w K mg base CX k f fd ps sp' :=
  ⟨fun vs H Q E z => F.len vs H Q E (h vs H Q E z), fun A outer s H as us vs Q E hr e0 hb r hs => F.run A outer s H as us vs Q E hr e0 hb r (h vs H Q E hs)⟩
/-- a call that changes nothing -/
theorem pure_c {k : Nat} {f : Addr} {fd : FuncData} {ps : List Str} {R : List D → D → Prop} (c : Int) (hc : c ≠ 0) (F : FnOk P w K mg base CX0 k f fd ps (spR T true R))
    (hR : ∀ l ns x, Okm l → Kqy2Neutral.callOf [c :: ns] = some x → PreN c ns → R [dSe true l, dInts ns] (dInts (due l x)) ∧ (Kqy2.step (some l) x).1 = some l) : FnOk P w K mg base CX0 k f fd ps (spC T c) := by
  refine fn_imp F fun vs H Q E h => ?_
  obtain ⟨a, la, n, s, ns, x, rfl, hS, hn, ok, hx, hs, hp, k⟩ := h
  have hs' := hs.resolve_left hc
  obtain ⟨l, rfl⟩ := Option.isSome_iff_exists.mp hs'
  obtain ⟨r1, r2⟩ := hR l ns x ok hx hp
  refine ⟨_, _, .cons hS.is (.cons (.lst hn (IsL.mkInts ns)) .nil), r1, fun v H' s' hv fr => ?_⟩
  cases hv with
  | lst hv1 hv2 =>
    have e := hv2.ints
    subst e
    exact k H' la _ (by rw [r2]; exact hS.mono s') (.inl rfl) (fun x o z _ _ => s' x o z) (fr rfl _ rfl) hv1
end
end WM

namespace WM
open PySem PySem.Spec PyProof.Rows L2
/-! ### the calls that change the session -/
theorem put_first {f : Str} {v x : V} {r : List (Str × V)} : putF f v ((f, x) :: r) = (f, v) :: r := by
  unfold putF
  rw [if_pos rfl]
theorem put_later {f g : Str} {v x : V} {r : List (Str × V)} (h : ¬ g = f) : putF f v ((g, x) :: r) = (g, x) :: putF f v r := by
  show (if g = f then _ else _) = _
  rw [if_neg h]
theorem vSe_start (b : Bool) (la q : Addr) : putF "marks" (.ref q) (putF "started" (.bl true) (vSe b la)) = vSe true q := by
  unfold vSe
  rw [put_first, put_later (by decide +kernel), put_first]
theorem vSe_marks (b : Bool) (la : Addr) : List.lookup ("marks" : Str) (vSe b la) = some (.ref la) := by
  have e : (("marks" : Str) == "started") = false := by decide +kernel
  unfold vSe
  rw [List.lookup, e]
  show List.lookup ("marks" : Str) [("marks", V.ref la)] = _
  unfold List.lookup
  rw [beq_self_eq_true]
section
variable {P : Program} {w : World} {K : PySem.W.Frag} {mg : Str → Option Value} {base : Heap} {T : Nat → Addr}
theorem SessAt.no {H : Hp} {a la : Addr} {s : Option (List Kqy2.Mark)} {m : Str} (h : SessAt T H a la s) (hm : ∀ x0 x1 : D, List.lookup m ([("started", x0), ("marks", x1)] : List (Str × D)) = none) : ∃ dx, H a = some (.ins (T 3) dx (vSe s.isSome la)) ∧ List.lookup m (vSe s.isSome la) = none := by
  obtain ⟨dx, ms, h1, h2, h3⟩ := h.ex
  exact ⟨dx, h1, IsF.none (T := T) (H := H) (.cons (.bl _) (.cons (.lst h2 h3) .nil)) (hm _ _)⟩
theorem fresh_upd {H H2 : Hp} {la : Addr} {o : HO} {v : V} (fr : Fresh (upd H2 la o) v) (s : Same H H2) : Fresh H v := fun p e => by
  have h := fr p e
  by_cases z : p = la
  · rw [z, upd_same] at h
    cases h
  · rw [upd_ne z] at h
    exact s.free h
theorem new_but {H H1 : Hp} {a la p : Addr} {s : Option (List Kqy2.Mark)} (h : SessAt T H1 a la s) (fr : ∀ x o, H x = some o → x ≠ a → H1 x = some o) (hp : H1 p = none) : H p = none := by
  cases e : H p with
  | none => rfl
  | some o =>
    by_cases z : p = a
    · obtain ⟨dx, _, q1, _⟩ := h.ex
      rw [z, q1] at hp
      cases hp
    · rw [fr p o e z] at hp
      cases hp
/-- start, as its callers see it -/
def spStart (T : Nat → Addr) : Sp := fun vs H Q _ => ∃ (a la : Addr) (s : Option (List Kqy2.Mark)), vs = [.ref a] ∧ SessAt T H a la s ∧
  ∀ (H' : Hp) (la' : Addr), SessAt T H' a la' (some []) → H la' = none → (∀ x o, H x = some o → x ≠ a → H' x = some o) → Q .non H'
theorem ok_Session_start {f : Addr} {fd : FuncData}  (F : Fun K "start" "Session.start" s_Session_start f fd) (X : Tx K mg T)  :
    FnOk P w K mg base CX0 1 f fd ["self"] (spStart T) := by
  refine F.ok sc_Session_start (fun vs H Q E h => ?_) (fun cdv A outer s H vs Q E hr h => ?_)
  · obtain ⟨a, la, s0, rfl, _⟩ := h
    rfl
  · obtain ⟨a, la, s0, rfl, hS, k⟩ := h
    obtain ⟨dx, ms, h1, h2, h3⟩ := hS.ex
    refine ⟨_, (pss_cons (ps_fld (pv 0) pe_bl rfl) (pss_one (ps_fld (pv 0) (pe_lst pa_nil) rfl))), ?_⟩
    refine ⟨_, rfl, a, T 3, dx, _, rfl, h1, X.c_Session, X.n_Session_started, (by show 2 < 1000; decide), ?_⟩
    refine ⟨Nat.zero_le _, fun q hq => ?_⟩
    have hqa : q ≠ a := fun z => by
      rw [z, upd_same] at hq
      cases hq
    have hq0 : H q = none := by
      rw [upd_ne hqa] at hq
      exact hq
    refine ⟨_, rfl, a, T 3, dx, _, rfl, (upd_ne hqa.symm).trans upd_same, X.c_Session, X.n_Session_marks, ?_, ?_⟩
    · unfold vSe
      rw [put_first]
      show 2 < 1000
      decide
    · refine k _ q ⟨dx, [], ?_, (upd_ne hqa).trans upd_same, .nil⟩ hq0 fun x o e hx => ?_
      · rw [vSe_start]
        exact upd_same
      · rw [upd_ne hx, upd_ne (ne_of_none e hq0), upd_ne hx]
        exact e
theorem callOf0 {ns : List Int} {x : Kqy2.Call} (h : Kqy2Neutral.callOf [0 :: ns] = some x) : x = .start := by
  match ns, h with
  | [], h => exact (Option.some.inj h).symm
  | _ :: _, h => cases h
theorem ok_answer_start {f : Addr} {fd : FuncData} {f_Session_start : Addr} {fd_Session_start : FuncData} (F : Fun K "answer_start" "answer_start" s_answer_start f fd) (X : Tx K mg T) (h_Session_start : Md P w K mg base (T 3) "start" 1 ["self"] (spStart T) f_Session_start fd_Session_start) :
    FnOk P w K mg base CX0 2 f fd ["session", "numbers"] (spC T 0) := by
  refine F.ok sc_answer_start (fun vs H Q E h => ?_) (fun cdv A outer s H vs Q E hr h => ?_)
  · obtain ⟨a, la, n, s0, ns, x, rfl, _⟩ := h
    rfl
  · obtain ⟨a, la, n, s0, ns, x, rfl, hS, hn, ok, hx, hs, hp, k⟩ := h
    have e := callOf0 hx
    subst e
    obtain ⟨dx, h1, hl⟩ := hS.no (m := "start") (fun _ _ => nk_Session_start)
    refine ⟨_, (pss_cons (ps_expr (pe_meth0 (pv 0) X.c_Session h_Session_start.mt h_Session_start.G (hr.mono (by decide)) h_Session_start.b .nil pass0)) (pss_one (ps_ret (pe_lst (pa_cons pe_int pa_nil))))), ?_⟩
    refine ⟨_, rfl, a, dx, _, rfl, h1, hl, a, la, s0, rfl, hS, fun H1 la' hS1 hla fr => ?_⟩
    refine ⟨by show 1 ≤ sizeLine; decide, fun p hp => ?_⟩
    exact k _ la' p (hS1.mono (same_new hp)) (.inr hla) (fun y o e ha _ => same_new hp y o (fr y o e ha)) (new_but hS1 fr hp) upd_same
/-! ### the way to a change -/
/-- a block from the heap H on, while it has only grown; the first slot holds the object at a -/
def EvU (T : Nat → Addr) (u : TS) (ρ : List (Option D)) (H : Hp) (a : Addr) (Dn : Ends) : Prop := ∀ (σ : L2.St) (H' : Hp), Same H H' → IsE T H' ρ σ → σ[0]? = some (some (.ref a)) → u Dn σ H'
theorem u_set {u : TS} {ρ : List (Option D)} {H : Hp} {a : Addr} {Dn : Ends} {te : TE} {d : D} {n : Nat} (h : EvD T te ρ d) (hn : n ≠ 0) (h2 : EvU T u (ρ.set n (some d)) H a Dn) : EvU T (tSeq (tAsg te (gName n)) u) ρ H a Dn := fun σ H' s E e =>
  h σ H' E _ fun v H1 s1 hv => h2 _ H1 (s.trans s1) ((E.mono s1).set n hv) (by rw [List.getElem?_set_ne hn]; exact e)
theorem u_ret {ρ : List (Option D)} {H : Hp} {a : Addr} {Dn : Ends} {te : TE} {d : D} (h : EvN T te ρ d) (h2 : ∀ v H', Same H H' → Is T H' d v → Fresh H v → Dn.rt v H') : EvU T (tRet te) ρ H a Dn := fun σ H' s E _ =>
  h σ H' E _ fun v H1 s1 hv fr => h2 v H1 (s.trans s1) hv (fr.back s)
theorem u_guard {t u : TS} {ρ : List (Option D)} {H : Hp} {a : Addr} {Dn : Ends} {c : TT} {b : Bool} (h : EvT T c ρ b) (h1 : b = true → EvU T t ρ H a { Dn with nx := u Dn }) (h2 : b = false → EvU T u ρ H a Dn) : EvU T (tSeq (tIfS c t tNext) u) ρ H a Dn := fun σ H' s E e =>
  h σ H' E _ fun H1 s1 => by
    cases b with
    | true => exact (if_pos rfl).mpr (h1 rfl σ H1 (s.trans s1) (E.mono s1) e)
    | false => exact (if_neg Bool.false_ne_true).mpr (h2 rfl σ H1 (s.trans s1) (E.mono s1) e)
theorem isE_head {H H' : Hp} {ρ : List (Option D)} {σ : L2.St} {a : Addr} {d : D} {n : Nat} (E : IsE T H ρ σ) (hn : ρ.length = n + 1) (e : σ[0]? = some (some (.ref a))) (h : Is T H' d (.ref a)) : IsE T H' (some d :: List.replicate n none) σ := by
  have hl := (isE_length E).trans hn
  match σ, e, hl with
  | o :: σ, e, hl =>
    have e' : o = some (.ref a) := Option.some.inj e
    subst e'
    have h2 : σ.length = n := Nat.succ.inj hl
    subst h2
    exact .cons h (isE_any σ)
theorem callOf1 {ns : List Int} {x : Kqy2.Call} (h : Kqy2Neutral.callOf [1 :: ns] = some x) : ∃ t m, ns = [t, m] ∧ x = .mark t m := by
  match ns, h with
  | [t, m], h => exact ⟨t, m, rfl, (Option.some.inj h).symm⟩
  | [], h => cases h
  | [_], h => cases h
  | _ :: _ :: _ :: _, h => cases h
theorem callOf2 {ns : List Int} {x : Kqy2.Call} (h : Kqy2Neutral.callOf [2 :: ns] = some x) : ∃ i, ns = [i] ∧ x = .unmark i.toNat := by
  match ns, h with
  | [i], h => exact ⟨i, rfl, (Option.some.inj h).symm⟩
  | [], h => cases h
  | _ :: _ :: _, h => cases h
theorem step_mark (l : List Kqy2.Mark) (t m : Int) : Kqy2.step (some l) (.mark t m) = if Kqy2.all [t, m] = false then (some l, .num (-22)) else if 8 ≤ l.length then (some l, .num (-28)) else (some (l ++ [⟨t, m⟩]), .num l.length) := rfl
theorem step_unmark (l : List Kqy2.Mark) (i : Nat) : Kqy2.step (some l) (.unmark i) = if l.length ≤ i then (some l, .num (-2)) else (some (l.eraseIdx i), .num (l.length - 1 : Nat)) := rfl
theorem all2 (t m : Int) : Kqy2.all [t, m] = (Kqy2.small t && Kqy2.small m) := by
  unfold Kqy2.all
  simp
/-- what comes back where nothing is changed -/
theorem same_back {H H' : Hp} {a la : Addr} {s : Option (List Kqy2.Mark)} {r : List Int} {Q : VK} {v : V} (hS : SessAt T H a la s) (k : ∀ (H' : Hp) (la' p : Addr), SessAt T H' a la' s → (la' = la ∨ H la' = none) → Frame H H' a la → H p = none → H' p = some (.lst (r.map V.int)) → Q (.ref p) H')
    (s' : Same H H') (hv : Is T H' (dInts r) v) (fr : Fresh H v) : Q v H' := by
  cases hv with
  | lst h1 h2 =>
    have e := h2.ints
    subst e
    exact k H' la _ (hS.mono s') (.inl rfl) (fun x o z _ _ => s' x o z) (fr _ rfl) h1
theorem ok_answer_mark {f : Addr} {fd : FuncData} {f_in_range : Addr} {fd_in_range : FuncData} {f_Mark_init : Addr} {fd_Mark_init : FuncData} (F : Fun K "answer_mark" "answer_mark" s_answer_mark f fd) (X : Tx K mg T) (h_in_range : Fd P w K mg base "in_range" 1 ["places"] (spR T false R_in_range) f_in_range fd_in_range) (h_Mark_init : Mkd P w K mg base "Mark" (T 2) 1 ["self", "t", "m"] (spI T 2 R_Mark_init) f_Mark_init fd_Mark_init) :
    FnOk P w K mg base CX0 3 f fd ["session", "numbers"] (spC T 1) := by
  refine F.ok sc_answer_mark (fun vs H Q E h => ?_) (fun cdv A outer s H vs Q E hr h => ?_)
  · obtain ⟨a, la, n, s0, ns, x, rfl, _⟩ := h
    rfl
  · obtain ⟨a, la, n, s0, ns, x, rfl, hS, hn, ok, hx, hs, hp, k⟩ := h
    obtain ⟨t, m, rfl, rfl⟩ := callOf1 hx
    obtain ⟨l, rfl⟩ := Option.isSome_iff_exists.mp (hs.resolve_left (by decide))
    rw [step_mark] at k
    have E0 : IsE T H [some (dSe true l), some (dInts [t, m])] (L2.start ["session", "numbers"] [.ref a, .ref n]) := .cons hS.is (.cons (.lst hn (IsL.mkInts _)) .nil)
    refine ⟨_, (pss_cons (ps_if (pt_not (pt_val (pe_call h_in_range.G (hr.mono (by decide)) rfl h_in_range.m h_in_range.kp h_in_range.b .nil pass0 (pa_cons (pv 1) pa_nil)))) (pss_one (ps_ret (pe_lst (pa_cons (pe_globI rfl X.g_OUT_OF_RANGE) pa_nil)))) pss_nil) (pss_cons (ps_if (pt_cmpR op_eq (pe_callB call_len_seq (by rfl) X.b_len PySem.boot_len (pa_cons (pe_fld (pv 0) rfl) pa_nil)) (pe_globI rfl X.g_MOST_MARKS) (nomark _)) (pss_one (ps_ret (pe_lst (pa_cons (pe_globI rfl X.g_TOO_MANY_MARKS) pa_nil)))) pss_nil) (pss_cons (ps_expr (pe_bm PySem.F.plainAttrs_list PySem.F.slot_list_append PySem.F.type_list_append mt_append (pe_fld (pv 0) rfl) (pa_cons (pe_make h_Mark_init.M h_Mark_init.G (hr.mono (by decide)) rfl h_Mark_init.m h_Mark_init.b .nil pass0 (pa_cons (pe_ix ix_list (pv 1) pe_int (fun _ _ => rfl)) (pa_cons (pe_ix ix_list (pv 1) pe_int (fun _ _ => rfl)) pa_nil))) pa_nil))) (pss_one (ps_ret (pe_lst (pa_cons (pe_op op_sub (pe_callB call_len_seq (by rfl) X.b_len PySem.boot_len (pa_cons (pe_fld (pv 0) rfl) pa_nil)) pe_int) pa_nil))))))), ?_⟩
    refine (?_ : EvU T _ [some (dSe true l), some (dInts [t, m])] H a _) _ H (Same.refl H) E0 rfl
    refine u_guard (et_not (et_b (ev_call rfl (ea_cons (ev_var rfl) ea_nil) (r_in_range (Nat.le_of_ble_eq_true rfl))))) (fun hb1 => ?_) (fun hb1 => ?_)
    · rw [if_pos (not_true hb1)] at k
      exact u_ret (en_lst (ea_cons ev_int ea_nil) (Nat.le_of_ble_eq_true rfl)) fun v H' s' hv fr => same_back hS k s' hv fr
    have hall := not_false hb1
    rw [hall, if_neg (by decide)] at k
    refine u_guard (et_test (ev_eqi (ev_len (ev_fld (ev_var rfl) X.c_Session X.n_Session_marks lk_Session_marks)) ev_int)) (fun hb2 => ?_) (fun hb2 => ?_)
    · have h8 := of_decide_eq_true hb2
      rw [List.length_map] at h8
      rw [if_pos (by omega)] at k
      exact u_ret (en_lst (ea_cons ev_int ea_nil) (Nat.le_of_ble_eq_true rfl)) fun v H' s' hv fr => same_back hS k s' hv fr
    have h8 := of_decide_eq_false hb2
    rw [List.length_map] at h8
    have hlen : l.length < 8 := by
      have := ok.1
      simp only [Option.getD_some] at this
      omega
    rw [if_neg (by omega)] at k
    intro σ H1 s1 E1 e1
    obtain ⟨dx, ms, g1, g2, g3⟩ := (hS.mono s1).ex
    refine ⟨_, e1, a, T 3, dx, _, _, rfl, g1, X.c_Session, X.n_Session_marks, vSe_marks _ _, .inl ⟨rfl, _, SqL.of g2⟩, ?_⟩
    refine ev_make (ea_cons (ev_ixl (n := 0) (ev_var rfl) ev_int rfl rfl) (ea_cons (ev_ixl (n := 1) (ev_var rfl) ev_int rfl rfl) ea_nil)) r_Mark_init σ H1 E1 _ fun v H2 s2 hv => ?_
    have g2' := s2 _ _ g2
    have g3' : IsL T H2 ((l ++ [(⟨t, m⟩ : Kqy2.Mark)]).map fun p => dMk p.t p.m) (ms ++ [v]) := by
      rw [List.map_append]
      exact (g3.mono s2).app (.cons hv .nil)
    have hml : ms.length = l.length := by
      rw [g3.length, List.length_map]
      rfl
    have hal : a ≠ la := ne_of g1 g2 (by intro z; cases z)
    refine ⟨la, ms, v, rfl, rfl, g2', ?_, ?_⟩
    · rw [hml]
      exact Nat.lt_trans hlen (by decide)
    have S3 : SessAt T (upd H2 la (.lst (ms ++ [v]))) a la (some (l ++ [⟨t, m⟩])) := ⟨dx, _, (upd_ne hal).trans (s2 _ _ g1), upd_same, marks_upd g2' g3'⟩
    have E3 := isE_head (n := 1) E1 rfl e1 S3.is
    refine en_lst (ea_cons (ev_i0 (ev_len (ev_fld (ev_var rfl) X.c_Session X.n_Session_marks lk_Session_marks)) ev_int) ea_nil) (Nat.le_of_ble_eq_true rfl) σ _ E3 _ fun v4 H4 s4 hv4 fr4 => ?_
    have hv5 : Is T H4 (dInts [(l.length : Int)]) v4 := by
      have e : ((((l ++ [(⟨t, m⟩ : Kqy2.Mark)]).map fun p => dMk p.t p.m).length : Int) - 1) = l.length := by
        simp
      rw [e] at hv4
      exact hv4
    cases hv5 with
    | lst q1 q2 =>
      have e := q2.ints
      subst e
      exact k H4 la _ (S3.mono s4) (.inl rfl) (fun x o z _ hx => s4 x o (by rw [upd_ne hx]; exact s2 x o (s1 x o z))) (fresh_upd fr4 (s1.trans s2) _ rfl) q1
theorem erase_map {α β : Type} {f : α → β} : ∀ (l : List α) (n : Nat), (l.eraseIdx n).map f = (l.map f).eraseIdx n
  | [], _ => rfl
  | _ :: _, 0 => rfl
  | a :: l, n + 1 => congrArg (f a :: ·) (erase_map l n)
theorem ok_answer_unmark {f : Addr} {fd : FuncData} {f_Session_has_mark : Addr} {fd_Session_has_mark : FuncData} (F : Fun K "answer_unmark" "answer_unmark" s_answer_unmark f fd) (X : Tx K mg T) (h_Session_has_mark : Md P w K mg base (T 3) "has_mark" 1 ["self", "i"] (spR T false R_Session_has_mark) f_Session_has_mark fd_Session_has_mark) :
    FnOk P w K mg base CX0 2 f fd ["session", "numbers"] (spC T 2) := by
  refine F.ok sc_answer_unmark (fun vs H Q E h => ?_) (fun cdv A outer s H vs Q E hr h => ?_)
  · obtain ⟨a, la, n, s0, ns, x, rfl, _⟩ := h
    rfl
  · obtain ⟨a, la, n, s0, ns, x, rfl, hS, hn, ok, hx, hs, hp, k⟩ := h
    obtain ⟨i, rfl, rfl⟩ := callOf2 hx
    obtain ⟨l, rfl⟩ := Option.isSome_iff_exists.mp (hs.resolve_left (by decide))
    have hi := hp (.inl rfl) i (by simp)
    rw [step_unmark] at k
    have E0 : IsE T H [some (dSe true l), some (dInts [i]), none] (L2.start ["session", "numbers", "i"] [.ref a, .ref n]) := .cons hS.is (.cons (.lst hn (IsL.mkInts _)) (.any .nil))
    refine ⟨_, (pss_cons (ps_set (i := 2) sc_answer_unmark.nd rfl (Or.inl rfl) (pe_ix ix_list (pv 1) pe_int (fun _ _ => rfl))) (pss_cons (ps_if (pt_not (pt_val (pe_meth (pv 0) X.c_Session h_Session_has_mark.mt h_Session_has_mark.G (hr.mono (by decide)) h_Session_has_mark.b .nil pass0 (pa_cons (pv 2) pa_nil)))) (pss_one (ps_ret (pe_lst (pa_cons (pe_globI rfl X.g_NO_SUCH_MARK) pa_nil)))) pss_nil) (pss_cons (ps_expr (pe_bm PySem.F.plainAttrs_list PySem.F.slot_list_pop PySem.F.type_list_pop mt_popAt (pe_fld (pv 0) rfl) (pa_cons (pv 2) pa_nil))) (pss_one (ps_ret (pe_lst (pa_cons (pe_callB call_len_seq (by rfl) X.b_len PySem.boot_len (pa_cons (pe_fld (pv 0) rfl) pa_nil)) pa_nil))))))), ?_⟩
    refine (?_ : EvU T _ [some (dSe true l), some (dInts [i]), none] H a _) _ H (Same.refl H) E0 rfl
    refine u_set (ev_ixl (n := 0) (ev_var rfl) ev_int rfl rfl) (by decide) ?_
    refine u_guard (et_not (et_b (ev_meth (ev_var rfl) (ea_cons (ev_var rfl) ea_nil) (r_Session_has_mark) nk_Session_has_mark))) (fun hb1 => ?_) (fun hb1 => ?_)
    · have hn1 := not_true hb1
      rw [if_pos (by simp at hn1; omega)] at k
      exact u_ret (en_lst (ea_cons ev_int ea_nil) (Nat.le_of_ble_eq_true rfl)) fun v H' s' hv fr => same_back hS k s' hv fr
    have hlt : i.toNat < l.length := by
      have hn1 := not_false hb1
      simp at hn1
      omega
    rw [if_neg (by omega)] at k
    intro σ H1 s1 E1 e1
    obtain ⟨dx, ms, g1, g2, g3⟩ := (hS.mono s1).ex
    have hml : ms.length = l.length := by
      rw [g3.length, List.length_map]
      rfl
    refine ⟨_, e1, a, T 3, dx, _, _, rfl, g1, X.c_Session, X.n_Session_marks, vSe_marks _ _, .inl ⟨rfl, _, SqL.of g2⟩, ?_⟩
    refine ev_var (d := .int i) rfl σ H1 E1 _ fun v H2 s2 hv => ?_
    cases hv
    have g2' := s2 _ _ g2
    have hal : a ≠ la := ne_of g1 g2 (by intro z; cases z)
    have g3' : IsL T H2 ((l.eraseIdx i.toNat).map fun p => dMk p.t p.m) (ms.eraseIdx i.toNat) := by
      rw [erase_map]
      exact (g3.mono s2).erase _
    have hj : ixN ms.length i = some i.toNat := by
      unfold ixN
      rw [if_pos hi.1, if_pos (by omega)]
    refine ⟨la, ms, i, i.toNat, _, rfl, rfl, g2', by omega, by omega, (ixN_seq hj).1, List.getElem?_eq_getElem (by omega), ?_⟩
    have S3 : SessAt T (upd H2 la (.lst (ms.eraseIdx i.toNat))) a la (some (l.eraseIdx i.toNat)) := ⟨dx, _, (upd_ne hal).trans (s2 _ _ g1), upd_same, marks_upd g2' g3'⟩
    have E3 := isE_head (n := 2) E1 rfl e1 S3.is
    refine en_lst (ea_cons (ev_len (ev_fld (ev_var rfl) X.c_Session X.n_Session_marks lk_Session_marks)) ea_nil) (Nat.le_of_ble_eq_true rfl) σ _ E3 _ fun v4 H4 s4 hv4 fr4 => ?_
    have hv5 : Is T H4 (dInts [((l.length - 1 : Nat) : Int)]) v4 := by
      rw [List.length_map, List.length_eraseIdx_of_lt hlt] at hv4
      exact hv4
    cases hv5 with
    | lst q1 q2 =>
      have e := q2.ints
      subst e
      exact k H4 la _ (S3.mono s4) (.inl rfl) (fun x o z _ hx => s4 x o (by rw [upd_ne hx]; exact s2 x o (s1 x o z))) (fresh_upd fr4 (s1.trans s2) _ rfl) q1
end
end WM

/-! ### The specification's own run, one call at a time: plain Lean -/
namespace WM
theorem whole_id (c : List (List Int)) : PyKqy2.whole c = c := by
  unfold PyKqy2.whole
  split <;> rfl
theorem map_whole (cs : List (List (List Int))) : cs.map PyKqy2.whole = cs := by
  rw [show PyKqy2.whole = id from funext whole_id, List.map_id]
/-- how many numbers a call has -/
def nums : List Int := [0, 2, 1, 0, 1, 1, 1, 0, 0, 0, 2, 2, 4, 4, 5, 3, 4, 0]
theorem shape_num {p : Int} {n k : Nat} (h : PyKqy2.shape p = some (n, k)) : k = 0 ∧ 0 ≤ p ∧ p ≤ 17 ∧ nums[p.toNat]? = some (n : Int) := by
  have hp : p = 0 ∨ p = 1 ∨ p = 2 ∨ p = 3 ∨ p = 4 ∨ p = 5 ∨ p = 6 ∨ p = 7 ∨ p = 8 ∨ p = 9 ∨ p = 10 ∨ p = 11 ∨ p = 12 ∨ p = 13 ∨ p = 14 ∨ p = 15 ∨ p = 16 ∨ p = 17 := by
    apply Classical.byContradiction
    intro z
    simp only [not_or] at z
    obtain ⟨z0, z1, z2, z3, z4, z5, z6, z7, z8, z9, z10, z11, z12, z13, z14, z15, z16, z17⟩ := z
    unfold PyKqy2.shape at h
    rw [if_neg z0, if_neg z1, if_neg z2, if_neg z3, if_neg z4, if_neg z5, if_neg z6, if_neg z7, if_neg z8, if_neg z9, if_neg z10, if_neg z11, if_neg z12, if_neg z13, if_neg z14, if_neg z15, if_neg z16, if_neg z17] at h
    cases h
  rcases hp with e | e | e | e | e | e | e | e | e | e | e | e | e | e | e | e | e | e <;> subst e <;> cases h <;> decide
/-- the next call of a list that reads -/
theorem calls_cons {f : Nat} {p : Int} {r : List Int} {cs : List (List (List Int))} (h : PyFlat.calls PyKqy2.shape f (p :: r) = some cs) :
    ∃ (n f' : Nat) (cs' : List (List (List Int))), PyKqy2.shape p = some (n, 0) ∧ n ≤ r.length ∧ cs = [p :: r.take n] :: cs' ∧ PyFlat.calls PyKqy2.shape f' (r.drop n) = some cs' := by
  cases f with
  | zero => cases h
  | succ f =>
    unfold PyFlat.calls at h
    cases hs : PyKqy2.shape p with
    | none =>
      have e : PyFlat.call PyKqy2.shape (p :: r) = none := by
        unfold PyFlat.call
        simp only [hs]
      rw [e] at h
      cases h
    | some nk =>
      obtain ⟨n, k⟩ := nk
      obtain ⟨rfl, _⟩ := shape_num hs
      by_cases hl : r.length < n
      · have e : PyFlat.call PyKqy2.shape (p :: r) = none := by
          unfold PyFlat.call
          simp only [hs]
          exact if_pos hl
        rw [e] at h
        cases h
      · have e : PyFlat.call PyKqy2.shape (p :: r) = some ([p :: r.take n], r.drop n) := by
          unfold PyFlat.call
          simp only [hs, if_neg hl, PyFlat.rows]
        rw [e] at h
        simp only at h
        cases hc : PyFlat.calls PyKqy2.shape f (r.drop n) with
        | none =>
          rw [hc] at h
          cases h
        | some cs' =>
          rw [hc] at h
          exact ⟨n, f, cs', rfl, Nat.le_of_not_lt hl, (Option.some.inj h).symm, hc⟩
theorem calls_nil {f : Nat} {cs : List (List (List Int))} (h : PyFlat.calls PyKqy2.shape f [] = some cs) : cs = [] := by
  cases f with
  | zero => exact (Option.some.inj h).symm
  | succ f => exact (Option.some.inj h).symm
/-- a call that may be asked is one -/
theorem asked_call {c : List (List Int)} (h : Kqy2Neutral.asked1 c = true) : ∃ x, Kqy2Neutral.callOf c = some x := by
  unfold Kqy2Neutral.asked1 at h
  split at h <;> first | exact ⟨_, rfl⟩ | cases h
theorem told_cons (s : Kqy2Neutral.S) (c : List (List Int)) (cs : List (List (List Int))) {x : Kqy2.Call} (hx : Kqy2Neutral.callOf c = some x) :
    PyFlat.told (PyFlat.played Kqy2Neutral.step s (c :: cs)) = ((Kqy2Neutral.tell (Kqy2.step s x).2).length : Int) :: Kqy2Neutral.tell (Kqy2.step s x).2 ++ PyFlat.told (PyFlat.played Kqy2Neutral.step (Kqy2.step s x).1 cs) := by
  have e : Kqy2Neutral.step s c = ((Kqy2.step s x).1, Kqy2Neutral.tell (Kqy2.step s x).2) := by
    unfold Kqy2Neutral.step
    rw [hx]
  show PyFlat.told ((Kqy2Neutral.step s c).2 :: PyFlat.played Kqy2Neutral.step (Kqy2Neutral.step s c).1 cs) = _
  rw [e]
  unfold PyFlat.told
  rw [List.flatMap_cons]
/-- what is asked of a request -/
structure Fit (cs : List (List (List Int))) : Prop where
  ask : ∀ c ∈ cs, Kqy2Neutral.asked1 c = true
  ins : ∀ c ∈ cs, PyInside.call PyKqy2.bound c = true
theorem asked_fit {ls : List Int} (h : PyKqy2.answers_asked ls = true) : ∃ cs, PyFlat.calls PyKqy2.shape ls.length ls = some cs ∧ Fit cs ∧ PyKqy2.answers ls = PyFlat.told (PyFlat.played Kqy2Neutral.step none cs) ∧ (PyKqy2.answers ls).length ≤ 10000000 := by
  unfold PyKqy2.answers_asked at h
  cases hc : PyFlat.calls PyKqy2.shape ls.length ls with
  | none =>
    rw [hc] at h
    cases h
  | some cs =>
    rw [hc] at h
    simp only [Bool.and_eq_true, map_whole] at h
    obtain ⟨⟨⟨⟨_, _⟩, h3⟩, h4⟩, h5⟩ := h
    refine ⟨cs, rfl, ⟨?_, ?_⟩, ?_, of_decide_eq_true h5⟩
    · unfold Kqy2Neutral.asked at h4
      simp only [Bool.and_eq_true] at h4
      exact List.all_eq_true.mp h4.1.2.1
    · exact List.all_eq_true.mp h3
    · unfold PyKqy2.answers PyKqy2.calls
      rw [hc]
      show PyFlat.told (PyFlat.played Kqy2Neutral.step Kqy2Neutral.start (cs.map PyKqy2.whole)) = _
      rw [map_whole]
      rfl
theorem inside_nat {c : Int} {ns : List Int} (h : PyInside.call PyKqy2.bound [c :: ns] = true) {x : Kqy2.Call} (hx : Kqy2Neutral.callOf [c :: ns] = some x) (hc : c = 2 ∨ c = 6) : ∀ i ∈ ns, 0 ≤ i ∧ i < 2147483648 := by
  rcases hc with rfl | rfl
  · match ns, hx, h with
    | [i], _, h =>
      intro j hj
      have e : j = i := by simpa using hj
      subst e
      have h' : ((decide ((0 : Int) ≤ j) && decide (j ≤ 2147483647)) && true) && true = true := h
      simp at h'
      omega
    | [], hx, _ => cases hx
    | _ :: _ :: _, hx, _ => cases hx
  · match ns, hx, h with
    | [i], _, h =>
      intro j hj
      have e : j = i := by simpa using hj
      subst e
      have h' : ((decide ((0 : Int) ≤ j) && decide (j ≤ 2147483647)) && true) && true = true := h
      simp at h'
      omega
    | [], hx, _ => cases hx
    | _ :: _ :: _, hx, _ => cases hx
theorem step_none {x : Kqy2.Call} (h : x ≠ .start) : Kqy2.step none x = (none, .num (-11)) := by
  cases x <;> first | rfl | exact absurd rfl h
theorem callOf_start {c : Int} {ns : List Int} (h : Kqy2Neutral.callOf [c :: ns] = some .start) : c = 0 := by
  unfold Kqy2Neutral.callOf at h
  split at h <;> first | (simp_all; done) | cases h
end WM

namespace WM
open PySem PySem.Spec PyProof.Rows L2
/-! ### a dict of the module, its keys whole numbers, its values defs -/
/-- an entry: the key k, its hash, the def at f -/
def EntI (e : DictEntry) (k : Int) (f : Addr) : Prop := (∃ t, e.key = .int k t) ∧ e.hash = hashInt k ∧ e.val = .ref f
inductive Ents : List DictEntry → List (Int × Addr) → Prop
  | nil : Ents [] []
  | cons {e : DictEntry} {k : Int} {f : Addr} {es : List DictEntry} {kfs : List (Int × Addr)} : EntI e k f → Ents es kfs → Ents (e :: es) ((k, f) :: kfs)
structure KDI (K : PySem.W.Frag) (d : Addr) (kfs : List (Int × Addr)) : Prop where
  ex : ∃ es n, K.lookup d = some ⟨.type "dict", none, .dict es n, #[]⟩ ∧ Ents es.toList kfs ∧ (d == sysModules) = false
theorem ents_find : ∀ {es : List DictEntry} {kfs : List (Int × Addr)}, Ents es kfs → ∀ k, (es.find? fun e => Value.isInt k e.key).map (·.val) = (kfs.lookup k).map Value.ref
  | _, _, .nil, _ => rfl
  | _, _, .cons (e := e) (k := j) (f := f) (es := es) (kfs := kfs) h l, k => by
    obtain ⟨⟨t, hk⟩, hh, hv⟩ := h
    have ih := ents_find l k
    rw [List.find?_cons, hk]
    unfold List.lookup
    by_cases hjk : k = j
    · subst hjk
      have e1 : Value.isInt k (.int k t) = true := by simp [Value.isInt]
      rw [e1, beq_self_eq_true]
      show some e.val = some (Value.ref f)
      rw [hv]
    · have e1 : Value.isInt k (.int j t) = false := by
        cases q : Value.isInt k (.int j t) with
        | false => rfl
        | true =>
          obtain ⟨t', z⟩ := Value.isInt_shape q
          injection z with z1 _
          exact absurd z1.symm hjk
      rw [e1, beq_eq_false_iff_ne.mpr hjk]
      exact ih
theorem ents_keys : ∀ {es : List DictEntry} {kfs : List (Int × Addr)}, Ents es kfs → ∀ e ∈ es, ∃ k t, e.key = .int k t ∧ e.hash = hashInt k
  | _, _, .nil, _, h => by cases h
  | _, _, .cons h l, e, m => by
    cases m with
    | head =>
      obtain ⟨⟨t, hk⟩, hh, _⟩ := h
      exact ⟨_, t, hk, hh⟩
    | tail _ m => exact ents_keys l e m
theorem KDI.map {prog : Program} {w : World} {K : PySem.W.Frag} {d : Addr} {kfs : List (Int × Addr)} {h : Heap} (D : KDI K d kfs) (X : K.In h) : h.MapOf (intKind prog w) d (fun k => (kfs.lookup k).map Value.ref) := by
  obtain ⟨es, n, hl, he, _⟩ := D.ex
  refine ⟨_, es, n, X _ _ hl, ⟨rfl, rfl, rfl⟩, rfl, fun e m => ?_, fun k => ?_⟩
  · obtain ⟨k, t, hk, hh⟩ := ents_keys he e (Array.mem_toList_iff.mpr m)
    exact ⟨k, by rw [hk]; exact intKind_is prog w k t, hh⟩
  · obtain ⟨l⟩ := es
    have q := ents_find he k
    unfold findBy
    rw [List.find?_toArray]
    exact q
section
variable {X : Cx} {d : Addr} {kfs : List (Int × Addr)}
def rIxI (d : Addr) (kfs : List (Int × Addr)) : R2 := fun x y H Q => ∃ (k : Int) (f : Addr), x = .ref d ∧ y = .int k ∧ kfs.lookup k = some f ∧ Q (.ref f) H
theorem ix_kdI (D : KDI X.K d kfs) : IxR X (rIxI d kfs) := by
  intro value slice pins s σ H x y v u Q I rx ry h hs
  obtain ⟨k, f, rfl, rfl, hf, q⟩ := h
  cases rx
  obtain ⟨t, rfl⟩ := ry
  have hm := D.map (prog := X.prog) (w := X.w) I.kIn
  refine tail_any hm.typeIs slot_dict_getitem.lookup (wpAny_getItem_of (v := .ref f) (intKind_is X.prog X.w k t) hm ?_ ⟨.ref f, H, I.tok _, rfl, q⟩) hs
  rw [hf]
  rfl
def rNotInI (d : Addr) (kfs : List (Int × Addr)) : R2 := fun x y H Q => ∃ k : Int, x = .int k ∧ y = .ref d ∧ Q (.bl (!(kfs.lookup k).isSome)) H
theorem op_notIn_kdI (D : KDI X.K d kfs) : OpR X (compareOp .NotIn) (rNotInI d kfs) := by
  intro pins s σ H x y v u Q I rx ry h
  obtain ⟨k, rfl, rfl, q⟩ := h
  obtain ⟨t, rfl⟩ := rx
  cases ry
  obtain ⟨es, n, hl, he, low⟩ := D.ex
  refine wpAny_notIn_of (intKind_is X.prog X.w k t) low (D.map (prog := X.prog) (w := X.w) I.kIn) ⟨.bl (!(kfs.lookup k).isSome), H, I.tok _, ?_, q⟩
  show Value.bool _ = Value.bool _
  rw [Option.isSome_map]
/-- d[i](e, ..): S tells the promise of what stands at a key -/
def tCallD (d : Addr) (kfs : List (Int × Addr)) (S : Int → Option Sp) (ti : TE) (t : TA) : TE := fun σ H Q => tOp (rIxI d kfs) (tC (.ref d)) ti σ H fun v H1 => ∃ (k : Int) (f : Addr) (sp : Sp), v = .ref f ∧ kfs.lookup k = some f ∧ S k = some sp ∧ t σ H1 fun vs H2 => sp vs H2 Q E0
theorem pe_callD {lv : Nat} {S : Int → Option Sp} {x : Str} {i e : Expr} {es : List Expr} {p p2 pos : Pos} {ti : TE} {t : TA} (D : KDI X.K d kfs) (A : ∀ k f sp, kfs.lookup k = some f → S k = some sp → Held X.prog X.w X.K X.mg X.base lv f sp)
    (hr : Room lv X.A) (hg : Gl X x) (hm : X.mg x = some (.ref d)) (hi : PE X i ti) (hs : PlainIx i) (ha : PA X (e :: es) t) (hd : (x == ("__debug__" : Str)) = false := by decide)
    (he : starEach (e :: es) X.env = (false, eval e X.env) :: starEach es X.env := by rfl) (hpl : (backTo pos (starEach es X.env)).any (·.1) = false := by rfl)
    (hev : eval (.Call (.Subscript (.Name x p) i p2) (e :: es) [] pos) X.env = (do callWith pos (← eval (.Subscript (.Name x p) i p2) X.env) [] (backTo pos (starEach (e :: es) X.env)) (backToKw pos (keywordEach [] X.env))) := by rfl) :
    PE X (.Call (.Subscript (.Name x p) i p2) (e :: es) [] pos) (tCallD d kfs S ti t) := by
  constructor
  intro pins s σ H Q I h
  have hsub : PE X (.Subscript (.Name x p) i p2) (tOp (rIxI d kfs) (tC (.ref d)) ti) := pe_ix (ix_kdI D) (pe_glob hg hm rfl hd) hi hs
  refine Call_ (thn (hsub.run pins s σ H _ I h) fun u s1 z => ?_) hev
  obtain ⟨v, H1, I1, r1, k, f, sp, rfl, hk, hS, q⟩ := z
  cases r1
  obtain ⟨fd, ps, F, kp, hb⟩ := (A k f sp hk hS).ex
  refine PySem.W.callWith_K (h₀ := X.base) I.ok.mod.kin kp (thn (ha.run pos pins s1 σ H1 _ I1 q) fun us s2 z2 => ?_) he hpl
  obtain ⟨vs, H2, I2, r, q2⟩ := z2
  refine ⟨I2.kIn, run_fn (dvs := []) (ds := []) (E := E0) F hr hb .nil pass0 I2 r ?_⟩
  rw [List.append_nil]
  exact q2
end
end WM

namespace WM
open PySem PySem.Spec PyProof.Rows L2
/-! ### one call, whatever it is -/
section
variable {P : Program} {w : World} {K : PySem.W.Frag} {mg : Str → Option Value} {base : Heap} {T : Nat → Addr}
theorem SessAt.isD {H : Hp} {a la : Addr} {s : Option (List Kqy2.Mark)} (h : SessAt T H a la s) : Is T H (dSe s.isSome (s.getD [])) (.ref a) := by
  obtain ⟨dx, ms, h1, h2, h3⟩ := h.ex
  exact .obj h1 (.cons (.bl _) (.cons (.lst h2 h3) .nil))
/-- the promise of answer -/
def spA (T : Nat → Addr) (Fine : Int → Prop) : Sp := fun vs H Q _ => ∃ (a la n : Addr) (s : Option (List Kqy2.Mark)) (c : Int) (ns : List Int) (x : Kqy2.Call), vs = [.ref a, .int c, .ref n] ∧ SessAt T H a la s ∧ H n = some (.lst (ns.map V.int)) ∧ Okm (s.getD []) ∧ Kqy2Neutral.callOf [c :: ns] = some x ∧ Fine c ∧ PreN c ns ∧
  ∀ (H' : Hp) (la' p : Addr), SessAt T H' a la' (Kqy2.step s x).1 → (la' = la ∨ H la' = none) → Frame H H' a la → H p = none → H' p = some (.lst ((Kqy2Neutral.tell (Kqy2.step s x).2).map V.int)) → Q (.ref p) H'
theorem ok_answer {f : Addr} {fd : FuncData} {lv : Nat} {dC : Addr} {kfs : List (Int × Addr)} {Fine : Int → Prop} (F : Fun K "answer" "answer" s_answer f fd) (X : Tx K mg T) (hC : mg "CALLS" = some (.ref dC)) (DC : KDI K dC kfs)
    (hF : ∀ c, Fine c → (kfs.lookup c).isSome = true) (A : ∀ c f, kfs.lookup c = some f → Held P w K mg base lv f (spC T c)) : FnOk P w K mg base CX0 (lv + 1) f fd ["session", "call", "numbers"] (spA T Fine) := by
  refine F.ok sc_answer (fun vs H Q E h => ?_) (fun cdv Ar outer s H vs Q E hr h => ?_)
  · obtain ⟨a, la, n, s0, c, ns, x, rfl, _⟩ := h
    rfl
  · obtain ⟨a, la, n, s0, c, ns, x, rfl, hS, hn, ok, hx, hf, hp, k⟩ := h
    refine ⟨_, (pss_cons (ps_if (PW.pt (pw_and (pt_cmpR op_ne (pv 1) (pe_globI rfl X.g_START) (nomark _)) (pw_and1 (pt_not (pt_val (pe_fld (pv 0) rfl)))))) (pss_one (ps_ret (pe_lst (pa_cons (pe_globI rfl X.g_NOT_STARTED) pa_nil)))) pss_nil)
      (pss_one (ps_ret (pe_callD (S := fun c => some (spC T c)) DC (fun c f sp h1 h2 => Option.some.inj h2 ▸ A c f h1) hr rfl hC (pv 1) (fun _ _ => rfl) (pa_cons (pv 0) (pa_cons (pv 2) pa_nil)))))), ?_⟩
    have E0 : IsE T H [some (dSe s0.isSome (s0.getD [])), some (.int c), some (dInts ns)] (L2.start ["session", "call", "numbers"] [.ref a, .int c, .ref n]) := .cons hS.isD (.cons (.int _) (.cons (.lst hn (IsL.mkInts _)) .nil))
    refine et_and (et_test (ev_nei (ev_var rfl) ev_int)) (fun _ => et_not (et_b (ev_fld (ev_var rfl) X.c_Session X.n_Session_started lk_Session_started))) _ H E0 _ fun H1 s1 => ?_
    refine ite2 (fun hb => ?_) fun hb => ?_
    · obtain ⟨hb1, hb2⟩ := Bool.and_eq_true_iff.mp hb
      have hc : c ≠ 0 := fun z => by
        rw [z] at hb1
        cases hb1
      have hs0 : s0 = none := by
        cases s0 with
        | none => rfl
        | some l => cases hb2
      subst hs0
      rw [step_none fun z => hc (callOf_start (z ▸ hx))] at k
      refine en_lst (ea_cons ev_int ea_nil) (Nat.le_of_ble_eq_true rfl) _ H1 (E0.mono s1) _ fun v H2 s2 hv fr => ?_
      exact same_back (r := [-11]) hS k (s1.trans s2) hv (fr.back s1)
    · have hcs : c = 0 ∨ s0.isSome = true := by
        by_cases hc : c = 0
        · exact .inl hc
        · refine .inr ?_
          cases s0 with
          | some l => rfl
          | none =>
            refine absurd ?_ hb
            rw [decide_eq_false hc]
            rfl
      obtain ⟨g, hg⟩ := Option.isSome_iff_exists.mp (hF c hf)
      refine ⟨_, rfl, c, g, rfl, rfl, hg, c, g, _, rfl, hg, rfl, _, rfl, _, rfl, ?_⟩
      exact ⟨a, la, n, s0, ns, x, rfl, hS.mono s1, s1 _ _ hn, ok, hx, hcs, hp, fun H' la' p h1 h2 h3 hf h4 => k H' la' p h1 (h2.imp id fun z => s1.free z) (fun y o e ha hl => h3 y o (s1 y o e) ha hl) (s1.free hf) h4⟩
end
end WM

namespace WM
open PySem PySem.Spec PyProof.Rows L2
/-! ### all calls -/
theorem okm_nil : Okm [] := ⟨Nat.zero_le _, fun m h => by cases h⟩
theorem ok_step {s : Option (List Kqy2.Mark)} {x : Kqy2.Call} (h : Okm (s.getD [])) : Okm ((Kqy2.step s x).1.getD []) := by
  cases s with
  | none => cases x <;> exact okm_nil
  | some l =>
    cases x with
    | start => exact okm_nil
    | mark t m =>
      rw [step_mark]
      split
      · exact h
      · rename_i hall
        split
        · exact h
        · rename_i h8
          have ha : Kqy2.all [t, m] = true := by
            cases q : Kqy2.all [t, m] with
            | true => rfl
            | false => exact absurd q hall
          rw [all2, Bool.and_eq_true] at ha
          refine ⟨?_, fun k hk => ?_⟩
          · show (l ++ [_]).length ≤ 8
            rw [List.length_append]
            show l.length + 1 ≤ 8
            omega
          · rcases List.mem_append.mp hk with q | q
            · exact h.2 k q
            · have e : k = ⟨t, m⟩ := by simpa using q
              subst e
              unfold Kqy2.small at ha
              simp only [Bool.and_eq_true, decide_eq_true_iff] at ha
              exact ha
    | unmark i =>
      rw [step_unmark]
      split
      · exact h
      · refine ⟨?_, fun k hk => h.2 k (List.mem_of_mem_eraseIdx hk)⟩
        exact Nat.le_trans (List.length_eraseIdx_le l i) h.1
    | _ => exact h
/-- the numbers behind a call's own -/
theorem cut_ints {ls r : List Int} {n k : Nat} {p : Int} (h : ls.drop n = p :: r) (hk : k ≤ r.length) : cutV (ls.map V.int) (some ((n : Int) + 1)) (some ((n : Int) + 1 + (k : Int))) = (r.take k).map V.int := by
  have hr : ls.drop (n + 1) = r := by
    rw [← List.drop_drop, h]
    rfl
  have hl : r.length = ls.length - (n + 1) := by
    rw [← hr, List.length_drop]
  have h0 : n < ls.length := by
    apply Classical.byContradiction
    intro z
    rw [List.drop_of_length_le (by omega)] at h
    cases h
  have e1 : HT.sIx (ls.map V.int).length 0 (some ((n : Int) + 1)) = n + 1 := by
    simp only [HT.sIx]
    rw [if_neg (by omega), List.length_map]
    omega
  have e2 : HT.sIx (ls.map V.int).length (ls.map V.int).length (some ((n : Int) + 1 + (k : Int))) = n + 1 + k := by
    simp only [HT.sIx]
    rw [if_neg (by omega), List.length_map]
    omega
  unfold cutV
  rw [e1, e2, ← List.map_drop, hr, ← List.map_take]
  congr 2
  omega
section
variable {P : Program} {w : World} {K : PySem.W.Frag} {mg : Str → Option Value} {base : Heap} {T : Nat → Addr}
/-- the promise of answers -/
def spAns (Fine : Int → Prop) (K : PySem.W.Frag) : Sp := fun vs H Q _ => ∃ (C : Addr) (ls : List Int) (cs : List (List (List Int))), vs = [.ref C] ∧ OnlyF H ∧ SqL K H C (ls.map V.int) ∧ PyFlat.calls PyKqy2.shape ls.length ls = some cs ∧ Fit cs ∧ (∀ c ∈ cs, ∀ p r, c = [p :: r] → Fine p) ∧
  PyKqy2.answers ls = PyFlat.told (PyFlat.played Kqy2Neutral.step none cs) ∧ (PyKqy2.answers ls).length ≤ 10000000 ∧ ∀ (H' : Hp) (p : Addr), H' p = some (.lst ((PyKqy2.answers ls).map V.int)) → Q (.ref p) H'
theorem raw_set {u : TS} {ρ : List (Option D)} {σ : L2.St} {H : Hp} {Dn : Ends} {te : TE} {d : D} {n : Nat} (h : EvD T te ρ d) (E : IsE T H ρ σ) (k : ∀ v H', Same H H' → Is T H' d v → u Dn (σ.set n (some v)) H') : tSeq (tAsg te (gName n)) u Dn σ H := h σ H E _ k
/-- what is new is nothing that was handed in -/
theorem only_none {H0 H : Hp} {b : Addr} {o : HO} (hO : OnlyF H0) (s : Same H0 H) (h : H b = some o) (ho : ∀ x u, o ≠ .frz x u) : H0 b = none := by
  rcases hO b with z | ⟨x, u, z⟩
  · exact z
  · rw [s _ _ z] at h
    exact absurd (Option.some.inj h).symm (ho x u)
theorem SessAt.new {H0 H : Hp} {a la : Addr} {s : Option (List Kqy2.Mark)} (hO : OnlyF H0) (m : Same H0 H) (h : SessAt T H a la s) : H0 a = none ∧ H0 la = none := by
  obtain ⟨dx, ms, h1, h2, _⟩ := h.ex
  exact ⟨only_none hO m h1 (by intro _ _ z; cases z), only_none hO m h2 (by intro _ _ z; cases z)⟩
/-- a list that is none of the session's is changed -/
theorem sess_upd {H : Hp} {a la g : Addr} {s : Option (List Kqy2.Mark)} {xs : List V} {o : HO} (h : SessAt T H a la s) (hg : H g = some (.lst xs)) (h1 : g ≠ a) (h2 : g ≠ la) : SessAt T (upd H g o) a la s := by
  obtain ⟨dx, ms, q1, q2, q3⟩ := h.ex
  exact ⟨dx, ms, (upd_ne h1.symm).trans q1, (upd_ne h2.symm).trans q2, marks_upd hg q3⟩
/-- between two turns -/
structure Turn1 (T : Nat → Addr) (Fine : Int → Prop) (ls : List Int) (H0 H : Hp) (C a g : Addr) (σ : L2.St) (m : Nat) : Prop where
  ex : ∃ (la : Addr) (s : Option (List Kqy2.Mark)) (n f : Nat) (cs : List (List (List Int))) (out : List Int) (v4 v5 v6 : Option V), σ = [some (.ref C), some (.ref a), some (.ref g), some (.int n), v4, v5, v6] ∧ Same H0 H ∧ SessAt T H a la s ∧ H0 la = none ∧ g ≠ la ∧ Okm (s.getD []) ∧ H g = some (.lst (out.map V.int)) ∧
    n ≤ ls.length ∧ PyFlat.calls PyKqy2.shape f (ls.drop n) = some cs ∧ Fit cs ∧ (∀ c ∈ cs, ∀ p r, c = [p :: r] → Fine p) ∧ out ++ PyFlat.told (PyFlat.played Kqy2Neutral.step s cs) = PyKqy2.answers ls ∧ cs.length = m
theorem ok_answers {f fI fA tN : Addr} {fd fdI fdA : FuncData} {lv : Nat} {Fine : Int → Prop} (hlv : 1 ≤ lv) (F : Fun K "answers" "answers" s_answers f fd) (X : Tx K mg T) (hN : mg "NUMBERS_OF_CALL" = some (.ref tN)) (ST : ∀ H, SqT K H tN (nums.map V.int))
    (h_Session_init : Mkd P w K mg base "Session" (T 3) 1 ["self"] (spI T 3 R_Session_init) fI fdI) (h_answer : Fd P w K mg base "answer" (lv + 1) ["session", "call", "numbers"] (spA T Fine) fA fdA) : FnOk P w K mg base CX0 (lv + 1 + 1) f fd ["calls"] (spAns Fine K) := by
  refine F.ok sc_answers (fun vs H Q E h => ?_) (fun cdv Ar outer s H vs Q E hr h => ?_)
  · obtain ⟨C, ls, cs, rfl, _⟩ := h
    rfl
  · obtain ⟨C, ls, cs, rfl, hO, hSq, hcs, hfit, hfine, hans, hlen, k⟩ := h
    refine ⟨_, (pss_cons (ps_set (i := 1) sc_answers.nd rfl (Or.inl rfl) (pe_make0 h_Session_init.M h_Session_init.G (hr.mono (by omega)) rfl h_Session_init.m h_Session_init.b .nil pass0))
      (pss_cons (ps_set (i := 2) sc_answers.nd rfl (Or.inl rfl) (pe_lst pa_nil))
      (pss_cons (ps_set (i := 3) sc_answers.nd rfl (Or.inl rfl) pe_int)
      (pss_cons (ps_while PassesOwn.never (pt_cmpR op_lt (pv 3) (pe_callB call_len_seq (by rfl) X.b_len PySem.boot_len (pa_cons (pv 0) pa_nil)) (nomark _))
        (pss_cons (ps_set (i := 4) sc_answers.nd rfl (Or.inl rfl) (pe_ix ix_list (pv 0) (pv 3) (fun _ _ => rfl)))
        (pss_cons (ps_set (i := 5) sc_answers.nd rfl (Or.inl rfl) (pe_op op_add (pe_op op_add (pv 3) pe_int) (pe_ix ix_tup (pe_glob (v := .ref tN) rfl hN rfl) (pv 4) (fun _ _ => rfl))))
        (pss_cons (ps_set (i := 6) sc_answers.nd rfl (Or.inl rfl) (pe_call h_answer.G hr rfl h_answer.m h_answer.kp h_answer.b .nil pass0 (pa_cons (pv 1) (pa_cons (pv 4) (pa_cons (pe_slice sl_list (pv 0) (po_some (pe_op op_add (pv 3) pe_int)) (po_some (pv 5))) pa_nil)))))
        (pss_cons (ps_expr (pe_bm PySem.F.plainAttrs_list PySem.F.slot_list_append PySem.F.type_list_append mt_append (pv 2) (pa_cons (pe_callB call_len_seq (by rfl) X.b_len PySem.boot_len (pa_cons (pv 6) pa_nil)) pa_nil)))
        (pss_cons (ps_expr (pe_bm PySem.F.plainAttrs_list PySem.F.slot_list_extend PySem.F.type_list_extend mt_extend (pv 2) (pa_cons (pv 6) pa_nil)))
        (pss_one (ps_set (i := 3) sc_answers.nd rfl (Or.inl rfl) (pv 5)))))))))
      (pss_one (ps_ret (pv 2))))))), ?_⟩
    -- session = Session()
    have E0 : IsE T H [none, none, none, none, none, none, none] (L2.start ["calls", "session", "given", "place", "call", "behind", "answered"] [.ref C]) := .any (.any (.any (.any (.any (.any (.any .nil))))))
    refine raw_set (ev_make (c := 3) (fs := fSe false []) ea_nil r_Session_init) E0 fun v1 H1 s1 hv1 => ?_
    obtain ⟨a, la, rfl, S1⟩ := SessAt.of hv1
    obtain ⟨na, nla⟩ := S1.new hO s1
    -- given = []
    refine ⟨Nat.zero_le _, fun g hg => ?_⟩
    have s2 : Same H (upd H1 g (.lst [])) := s1.trans (same_new hg)
    have S2 : SessAt T (upd H1 g (.lst [])) a la none := S1.mono (same_new hg)
    have ng : H g = none := s1.free hg
    have hga : g ≠ a := fun z => by
      obtain ⟨dx, ms, h1, h2, _⟩ := S1.ex
      rw [z, h1] at hg
      cases hg
    have hgl : g ≠ la := fun z => by
      obtain ⟨dx, ms, h1, h2, _⟩ := S1.ex
      rw [z, h2] at hg
      cases hg
    -- place = 0; while ..
    refine ⟨fun m σ H' => Turn1 T Fine ls H H' C a g σ m, ⟨cs.length, la, none, 0, ls.length, cs, [], none, none, none, rfl, s2, S2, nla, hgl, okm_nil, upd_same, Nat.zero_le _, hcs, hfit, hfine, hans.symm, rfl⟩, ?_⟩
    rintro m σ H3 ⟨la3, s3, n, fu, cs3, out, v4, v5, v6, rfl, sm, S3, nl3, gl3, ok3, hg3, hn, hc3, fit3, fine3, an3, rfl⟩
    have q3 := sm.seq hSq
    refine ⟨_, rfl, _, rfl, C, _, rfl, .inl q3, _, _, rfl, rfl, _, rfl, ?_⟩
    rw [List.length_map]
    refine ite2 (fun hb => ?_) fun hb => ?_
    · have hlt : n < ls.length := by
        have := of_decide_eq_true hb
        omega
      obtain ⟨p, r, hpr⟩ : ∃ p r, ls.drop n = p :: r := ⟨_, _, List.drop_eq_getElem_cons hlt⟩
      rw [hpr] at hc3
      obtain ⟨kk, fu', cs', hsh, hkr, rfl, hc4⟩ := calls_cons hc3
      obtain ⟨_, hp0, hp17, hnum⟩ := shape_num hsh
      obtain ⟨x, hx⟩ := asked_call (fit3.ask _ (List.mem_cons_self))
      have hpre : PreN p (r.take kk) := inside_nat (fit3.ins _ (List.mem_cons_self)) hx
      have hpn : ls[n]? = some p := by
        rw [← List.head?_drop, hpr]
        rfl
      rw [told_cons s3 _ cs' hx] at an3
      refine ⟨fun σ' H' => Turn1 T Fine ls H H' C a g σ' cs'.length, fun σ' H' z => ⟨_, Nat.lt_succ_self _, z⟩, ?_⟩
      -- call = calls[place]
      refine ⟨_, rfl, _, rfl, C, _, n, .int p, rfl, rfl, q3, at_of rfl (by rw [List.getElem?_map, hpn]; rfl), ?_⟩
      -- behind = place + 1 + NUMBERS_OF_CALL[call]
      refine ⟨_, rfl, _, _, rfl, rfl, _, rfl, tN, _, p, .int kk, rfl, rfl, ST _, at_of (j := p.toNat) (Int.toNat_of_nonneg hp0).symm (by rw [List.getElem?_map, hnum]; rfl), _, _, rfl, rfl, ?_⟩
      -- answered = answer(session, call, calls[place + 1:behind])
      refine ⟨_, rfl, _, rfl, _, rfl, _, rfl, _, _, rfl, rfl, _, rfl, _, rfl, _, rfl, C, _, rfl, q3, fun q hq => ?_⟩
      rw [cut_ints hpr hkr]
      refine ⟨a, la3, q, s3, p, r.take kk, x, rfl, S3.mono (same_new hq), upd_same, ok3, hx, fine3 _ (List.mem_cons_self) _ _ rfl, hpre, fun H4 la4 y S4 hla4 fr4 hy0 hy => ?_⟩
      have g3 := same_new (o := .lst ((r.take kk).map V.int)) hq g _ hg3
      have g4 : H4 g = some (.lst (out.map V.int)) := fr4 g _ g3 hga gl3
      have sm3 : Same H (upd H3 q (.lst ((r.take kk).map V.int))) := sm.trans (same_new hq)
      have nl4 : H la4 = none := hla4.elim (fun z => z ▸ nl3) fun z => sm3.free z
      have sm4 : Same H H4 := fun b o z => fr4 b o (sm3 b o z) (ne_of_none z na) (ne_of_none z nl3)
      have gl4 : g ≠ la4 := hla4.elim (fun z => z ▸ gl3) fun z => ne_of_none g3 z
      have hgy : g ≠ y := ne_of_none g3 hy0
      have hol : out.length + (Kqy2Neutral.tell (Kqy2.step s3 x).2).length + 1 ≤ 10000000 := by
        have := congrArg List.length an3
        simp only [List.length_append, List.length_cons] at this
        omega
      -- given.append(len(answered))
      refine ⟨_, rfl, .inl ⟨rfl, _, SqL.of g4⟩, _, rfl, y, _, rfl, .inl (SqL.of hy), g, _, _, rfl, rfl, g4, ?_, ?_⟩
      · rw [List.length_map]
        exact Nat.lt_of_lt_of_le (Nat.lt_of_lt_of_le (by omega) (Nat.le_refl 10000000)) (by decide)
      rw [List.length_map]
      have hy5 := (upd_ne (H := H4) (o := .lst (out.map V.int ++ [.int (Kqy2Neutral.tell (Kqy2.step s3 x).2).length])) hgy.symm).trans hy
      -- given.extend(answered)
      refine ⟨_, rfl, .inl ⟨rfl, _, SqL.of upd_same⟩, _, rfl, g, y, _, _, rfl, rfl, upd_same, hy5, ?_, ?_⟩
      · simp only [List.length_append, List.length_map, List.length_cons, List.length_nil]
        exact Nat.le_trans (show _ ≤ 10000000 by omega) (by decide)
      -- place = behind
      have S6 := sess_upd (o := .lst (out.map V.int ++ [.int (Kqy2Neutral.tell (Kqy2.step s3 x).2).length] ++ (Kqy2Neutral.tell (Kqy2.step s3 x).2).map V.int)) (sess_upd (o := .lst (out.map V.int ++ [.int (Kqy2Neutral.tell (Kqy2.step s3 x).2).length])) S4 g4 hga gl4) upd_same hga gl4
      refine ⟨_, rfl, la4, (Kqy2.step s3 x).1, n + 1 + kk, fu', cs', out ++ ((Kqy2Neutral.tell (Kqy2.step s3 x).2).length : Int) :: Kqy2Neutral.tell (Kqy2.step s3 x).2, some (.int p), some (.int ((n : Int) + 1 + kk)), some (.ref y), ?_, same_upd (same_upd sm4 ng) ng, S6, nl4, gl4, ok_step ok3, ?_, ?_, ?_, ?_, ?_, ?_, rfl⟩
      · show [some (V.ref C), some (V.ref a), some (V.ref g), some (V.int ((n : Int) + 1 + kk)), some (V.int p), some (V.int ((n : Int) + 1 + kk)), some (V.ref y)] = _
        rw [show ((n + 1 + kk : Nat) : Int) = (n : Int) + 1 + kk by omega]
      · rw [upd_same, List.map_append, List.append_assoc]
        rfl
      · have hl : ls.length - n = r.length + 1 := by
          rw [← List.length_drop, hpr]
          rfl
        omega
      · have hr : ls.drop (n + 1) = r := by
          rw [← List.drop_drop, hpr]
          rfl
        rw [← List.drop_drop, hr]
        exact hc4
      · exact ⟨fun c hc => fit3.ask c (List.mem_cons_of_mem _ hc), fun c hc => fit3.ins c (List.mem_cons_of_mem _ hc)⟩
      · exact fun c hc => fine3 c (List.mem_cons_of_mem _ hc)
      · rw [← an3, List.append_assoc]
    · have hn2 : n = ls.length := by
        have : ¬ ((n : Int) < (ls.length : Int)) := fun z => hb (decide_eq_true z)
        omega
      subst hn2
      rw [List.drop_length] at hc3
      have e := calls_nil hc3
      subst e
      refine ⟨_, rfl, ?_⟩
      have an4 : out = PyKqy2.answers ls := by
        rw [← an3]
        exact (List.append_nil out).symm
      subst an4
      exact k H3 g hg3
end
end WM

namespace WM
open PySem PySem.Spec PyProof.Rows L2
/-! ### what the top has written -/
def Fine (c : Int) : Prop := 0 ≤ c ∧ c ≤ 17
theorem lookup_mem {c : Int} {f : Addr} : ∀ {l : List (Int × Addr)}, l.lookup c = some f → (c, f) ∈ l
  | [], h => by cases h
  | (k, g) :: l, h => by
    unfold List.lookup at h
    cases q : c == k with
    | true =>
      rw [q] at h
      have e1 : c = k := eq_of_beq q
      have e2 : g = f := Option.some.inj h
      rw [e1, e2]
      exact List.mem_cons_self
    | false =>
      rw [q] at h
      exact List.mem_cons_of_mem _ (lookup_mem h)
theorem fine_has {f0 f1 f2 f3 f4 f5 f6 f7 f8 f9 f10 f11 f12 f13 f14 f15 f16 f17 : Addr} (c : Int) (h : Fine c) : (List.lookup c [(0, f0), (1, f1), (2, f2), (3, f3), (4, f4), (5, f5), (6, f6), (7, f7), (8, f8), (9, f9), (10, f10), (11, f11), (12, f12), (13, f13), (14, f14), (15, f15), (16, f16), (17, f17)]).isSome = true := by
  obtain ⟨h0, h1⟩ := h
  have hc : c = 0 ∨ c = 1 ∨ c = 2 ∨ c = 3 ∨ c = 4 ∨ c = 5 ∨ c = 6 ∨ c = 7 ∨ c = 8 ∨ c = 9 ∨ c = 10 ∨ c = 11 ∨ c = 12 ∨ c = 13 ∨ c = 14 ∨ c = 15 ∨ c = 16 ∨ c = 17 := by omega
  rcases hc with rfl | rfl | rfl | rfl | rfl | rfl | rfl | rfl | rfl | rfl | rfl | rfl | rfl | rfl | rfl | rfl | rfl | rfl <;> rfl
theorem fit_fine : ∀ {cs : List (List (List Int))} {f : Nat} {ls : List Int}, PyFlat.calls PyKqy2.shape f ls = some cs → ∀ c ∈ cs, ∀ p r, c = [p :: r] → Fine p
  | [], _, _, _ => fun c hc => by cases hc
  | c0 :: cs, f, [], h => by
    have e := calls_nil h
    cases e
  | c0 :: cs, f, q :: rs, h => fun c hc p r e => by
    obtain ⟨n, f', cs', hs, _, e2, h2⟩ := calls_cons h
    injection e2 with e3 e4
    subst e4
    rcases List.mem_cons.mp hc with z | z
    · subst z
      rw [e3] at e
      injection e with e5 _
      injection e5 with e6 _
      obtain ⟨_, a, b, _⟩ := shape_num hs
      subst e6
      exact ⟨a, b⟩
    · exact fit_fine h2 c z p r e
section
variable {P : Program} {w : World} {K : PySem.W.Frag} {mg : Str → Option Value} {base : Heap} {T : Nat → Addr} {k : Nat} {f : Addr} {fd : FuncData} {ps : List Str}
theorem callOfN {c : Int} (hc : c = 3 ∨ c = 7 ∨ c = 8) {ns : List Int} {x : Kqy2.Call} (h : Kqy2Neutral.callOf [c :: ns] = some x) : ns = [] := by
  rcases hc with rfl | rfl | rfl <;> (cases ns with | nil => rfl | cons _ _ => cases h)
theorem pc_answer_ready (F : FnOk P w K mg base CX0 k f fd ps (spR T true R_answer_ready)) : FnOk P w K mg base CX0 k f fd ps (spC T 3) := pure_c 3 (by decide) F fun l ns x ok hx hp => by
  have e := callOfN (.inl rfl) hx
  subst e
  cases hx
  exact ⟨r_answer_ready, rfl⟩
theorem callOf4 {ns : List Int} {x : Kqy2.Call} (h : Kqy2Neutral.callOf [4 :: ns] = some x) : ∃ t, ns = [t] ∧ x = .truth t := by
  match ns, h with
  | [t], h => exact ⟨t, rfl, (Option.some.inj h).symm⟩
  | [], h => cases h
  | _ :: _ :: _, h => cases h
theorem callOf5 {ns : List Int} {x : Kqy2.Call} (h : Kqy2Neutral.callOf [5 :: ns] = some x) : ∃ t, ns = [t] ∧ x = .seen t := by
  match ns, h with
  | [t], h => exact ⟨t, rfl, (Option.some.inj h).symm⟩
  | [], h => cases h
  | _ :: _ :: _, h => cases h
theorem callOf6 {ns : List Int} {x : Kqy2.Call} (h : Kqy2Neutral.callOf [6 :: ns] = some x) : ∃ t, ns = [t] ∧ x = .off t.toNat := by
  match ns, h with
  | [t], h => exact ⟨t, rfl, (Option.some.inj h).symm⟩
  | [], h => cases h
  | _ :: _ :: _, h => cases h
theorem pc_answer_truth (F : FnOk P w K mg base CX0 k f fd ps (spR T true R_answer_truth)) : FnOk P w K mg base CX0 k f fd ps (spC T 4) := pure_c 4 (by decide) F fun l ns x ok hx hp => by
  obtain ⟨t, rfl, rfl⟩ := callOf4 hx
  exact ⟨r_answer_truth ok, rfl⟩
theorem pc_answer_seen (F : FnOk P w K mg base CX0 k f fd ps (spR T true R_answer_seen)) : FnOk P w K mg base CX0 k f fd ps (spC T 5) := pure_c 5 (by decide) F fun l ns x ok hx hp => by
  obtain ⟨t, rfl, rfl⟩ := callOf5 hx
  exact ⟨r_answer_seen ok, rfl⟩
theorem pc_answer_off (F : FnOk P w K mg base CX0 k f fd ps (spR T true R_answer_off)) : FnOk P w K mg base CX0 k f fd ps (spC T 6) := pure_c 6 (by decide) F fun l ns x ok hx hp => by
  obtain ⟨t, rfl, rfl⟩ := callOf6 hx
  exact ⟨r_answer_off ok (hp (.inr rfl) t (by simp)).1, rfl⟩
theorem pc_answer_fits (F : FnOk P w K mg base CX0 k f fd ps (spR T true R_answer_fits)) : FnOk P w K mg base CX0 k f fd ps (spC T 7) := pure_c 7 (by decide) F fun l ns x ok hx hp => by
  have e := callOfN (.inr (.inl rfl)) hx
  subst e
  cases hx
  exact ⟨r_answer_fits ok, rfl⟩
theorem pc_answer_end (F : FnOk P w K mg base CX0 k f fd ps (spR T true R_answer_end)) : FnOk P w K mg base CX0 k f fd ps (spC T 8) := pure_c 8 (by decide) F fun l ns x ok hx hp => by
  have e := callOfN (.inr (.inr rfl)) hx
  subst e
  cases hx
  exact ⟨r_answer_end ok, rfl⟩
theorem pc_answer_between (F : FnOk P w K mg base CX0 k f fd ps (spR T true R_answer_between)) : FnOk P w K mg base CX0 k f fd ps (spC T 10) := pure_c 10 (by decide) F fun l ns x ok hx hp => by
  obtain ⟨t, u, rfl, rfl⟩ := callOf10 hx
  exact ⟨r_answer_between ok, rfl⟩
theorem pc_answer_middle (F : FnOk P w K mg base CX0 k f fd ps (spR T true R_answer_middle)) : FnOk P w K mg base CX0 k f fd ps (spC T 11) := pure_c 11 (by decide) F fun l ns x ok hx hp => by
  obtain ⟨t, u, rfl, rfl⟩ := callOf11 hx
  exact ⟨r_answer_middle ok, rfl⟩
theorem pc_answer_double (F : FnOk P w K mg base CX0 k f fd ps (spR T true R_answer_double)) : FnOk P w K mg base CX0 k f fd ps (spC T 12) := pure_c 12 (by decide) F fun l ns x ok hx hp => by
  obtain ⟨a, b, c, d, rfl, rfl⟩ := callOf12 hx
  exact ⟨r_answer_double, rfl⟩
theorem pc_answer_six (F : FnOk P w K mg base CX0 k f fd ps (spR T true R_answer_six)) : FnOk P w K mg base CX0 k f fd ps (spC T 13) := pure_c 13 (by decide) F fun l ns x ok hx hp => by
  obtain ⟨a, b, c, d, rfl, rfl⟩ := callOf13 hx
  exact ⟨r_answer_six, rfl⟩
theorem pc_answer_fourth (F : FnOk P w K mg base CX0 k f fd ps (spR T true R_answer_fourth)) : FnOk P w K mg base CX0 k f fd ps (spC T 14) := pure_c 14 (by decide) F fun l ns x ok hx hp => by
  obtain ⟨a, b, c, p, q, rfl, rfl⟩ := callOf14 hx
  exact ⟨r_answer_fourth, rfl⟩
theorem pc_answer_even (F : FnOk P w K mg base CX0 k f fd ps (spR T true R_answer_even)) : FnOk P w K mg base CX0 k f fd ps (spC T 15) := pure_c 15 (by decide) F fun l ns x ok hx hp => by
  obtain ⟨a, b, c, rfl, rfl⟩ := callOf15 hx
  exact ⟨r_answer_even, rfl⟩
theorem pc_answer_keeps (F : FnOk P w K mg base CX0 k f fd ps (spR T true R_answer_keeps)) : FnOk P w K mg base CX0 k f fd ps (spC T 16) := pure_c 16 (by decide) F fun l ns x ok hx hp => by
  obtain ⟨a, b, c, d, rfl, rfl⟩ := callOf16 hx
  exact ⟨r_answer_keeps ok, rfl⟩
theorem pc_answer_origin (F : FnOk P w K mg base CX0 k f fd ps (spR T true R_answer_origin)) : FnOk P w K mg base CX0 k f fd ps (spC T 9) := pure_c 9 (by decide) F fun l ns x ok hx hp => by
  obtain ⟨rfl, rfl⟩ := callOf9 hx
  exact ⟨r_answer_origin ok, rfl⟩
theorem pc_answer_state (F : FnOk P w K mg base CX0 k f fd ps (spR T true R_answer_state)) : FnOk P w K mg base CX0 k f fd ps (spC T 17) := pure_c 17 (by decide) F fun l ns x ok hx hp => by
  obtain ⟨rfl, rfl⟩ := callOf17 hx
  exact ⟨r_answer_state ok, rfl⟩
end
def tab (C0 C1 C2 C3 : Addr) : Nat → Addr
  | 0 => C0
  | 1 => C1
  | 2 => C2
  | _ => C3
theorem all_mk {P : Program} {w : World} {K : PySem.W.Frag} {h : Heap} {mg : Str → Option Value} {fa C0 C1 C2 C3 f_Point_init f_Point_is_beyond_all f_Point_is_at f_Point_moved_back f_point_at f_point_beyond_all f_excess f_difference f_middle_point f_common_divisor f_fraction f_double_ratio f_in_order f_six_ratios f_fourth_point f_View_init f_View_image f_View_turned_round f_View_after f_view_to_standard f_view_of_three f_Mark_init f_Session_init f_Session_start f_Session_has_mark f_Session_first_seen f_Session_first_true f_Session_is_ready f_Session_view f_Session_true_points f_makes_a_view f_in_range f_most_alike f_have_double_ratio f_told f_answer_start f_answer_mark f_answer_unmark f_answer_ready f_answer_truth f_answer_seen f_answer_off f_answer_fits f_answer_end f_answer_origin f_refusal_of_couple f_answer_between f_answer_middle f_answer_double f_answer_six f_answer_fourth f_answer_even f_answer_keeps f_answer_state f_answer f_answers dC tN sO o0 o1 o2 o3 o4 o5 : Addr} (X : K.In h) (G : h.Ns mainGlobals mg) (hfa : mg "answers" = some (.ref fa))
    {od_Point_init an_Point_init od_Point_is_beyond_all an_Point_is_beyond_all od_Point_is_at an_Point_is_at od_Point_moved_back an_Point_moved_back od_point_at an_point_at od_point_beyond_all an_point_beyond_all od_excess an_excess od_difference an_difference od_middle_point an_middle_point od_common_divisor an_common_divisor od_fraction an_fraction od_double_ratio an_double_ratio od_in_order an_in_order od_six_ratios an_six_ratios od_fourth_point an_fourth_point od_View_init an_View_init od_View_image an_View_image od_View_turned_round an_View_turned_round od_View_after an_View_after od_view_to_standard an_view_to_standard od_view_of_three an_view_of_three od_Mark_init an_Mark_init od_Session_init an_Session_init od_Session_start an_Session_start od_Session_has_mark an_Session_has_mark od_Session_first_seen an_Session_first_seen od_Session_first_true an_Session_first_true od_Session_is_ready an_Session_is_ready od_Session_view an_Session_view od_Session_true_points an_Session_true_points od_makes_a_view an_makes_a_view od_in_range an_in_range od_most_alike an_most_alike od_have_double_ratio an_have_double_ratio od_told an_told od_answer_start an_answer_start od_answer_mark an_answer_mark od_answer_unmark an_answer_unmark od_answer_ready an_answer_ready od_answer_truth an_answer_truth od_answer_seen an_answer_seen od_answer_off an_answer_off od_answer_fits an_answer_fits od_answer_end an_answer_end od_answer_origin an_answer_origin od_refusal_of_couple an_refusal_of_couple od_answer_between an_answer_between od_answer_middle an_answer_middle od_answer_double an_answer_double od_answer_six an_answer_six od_answer_fourth an_answer_fourth od_answer_even an_answer_even od_answer_keeps an_answer_keeps od_answer_state an_answer_state od_answer an_answer od_answers an_answers odO odO0 odO1 odO2 odO3 odO4 odO5 odT : Option Addr} {sl_Point_init sl_Point_is_beyond_all sl_Point_is_at sl_Point_moved_back sl_point_at sl_point_beyond_all sl_excess sl_difference sl_middle_point sl_common_divisor sl_fraction sl_double_ratio sl_in_order sl_six_ratios sl_fourth_point sl_View_init sl_View_image sl_View_turned_round sl_View_after sl_view_to_standard sl_view_of_three sl_Mark_init sl_Session_init sl_Session_start sl_Session_has_mark sl_Session_first_seen sl_Session_first_true sl_Session_is_ready sl_Session_view sl_Session_true_points sl_makes_a_view sl_in_range sl_most_alike sl_have_double_ratio sl_told sl_answer_start sl_answer_mark sl_answer_unmark sl_answer_ready sl_answer_truth sl_answer_seen sl_answer_off sl_answer_fits sl_answer_end sl_answer_origin sl_refusal_of_couple sl_answer_between sl_answer_middle sl_answer_double sl_answer_six sl_answer_fourth sl_answer_even sl_answer_keeps sl_answer_state sl_answer sl_answers slO slO0 slO1 slO2 slO3 slO4 slO5 slT : Array (Option Value)} {oc_Point_init kV_Point_init dc_Point_init pm_Point_init cd_Point_init ct_Point_init oc_Point_is_beyond_all kV_Point_is_beyond_all dc_Point_is_beyond_all pm_Point_is_beyond_all cd_Point_is_beyond_all ct_Point_is_beyond_all oc_Point_is_at kV_Point_is_at dc_Point_is_at pm_Point_is_at cd_Point_is_at ct_Point_is_at oc_Point_moved_back kV_Point_moved_back dc_Point_moved_back pm_Point_moved_back cd_Point_moved_back ct_Point_moved_back oc_point_at kV_point_at dc_point_at pm_point_at cd_point_at ct_point_at oc_point_beyond_all kV_point_beyond_all dc_point_beyond_all pm_point_beyond_all cd_point_beyond_all ct_point_beyond_all oc_excess kV_excess dc_excess pm_excess cd_excess ct_excess oc_difference kV_difference dc_difference pm_difference cd_difference ct_difference oc_middle_point kV_middle_point dc_middle_point pm_middle_point cd_middle_point ct_middle_point oc_common_divisor kV_common_divisor dc_common_divisor pm_common_divisor cd_common_divisor ct_common_divisor oc_fraction kV_fraction dc_fraction pm_fraction cd_fraction ct_fraction oc_double_ratio kV_double_ratio dc_double_ratio pm_double_ratio cd_double_ratio ct_double_ratio oc_in_order kV_in_order dc_in_order pm_in_order cd_in_order ct_in_order oc_six_ratios kV_six_ratios dc_six_ratios pm_six_ratios cd_six_ratios ct_six_ratios oc_fourth_point kV_fourth_point dc_fourth_point pm_fourth_point cd_fourth_point ct_fourth_point oc_View_init kV_View_init dc_View_init pm_View_init cd_View_init ct_View_init oc_View_image kV_View_image dc_View_image pm_View_image cd_View_image ct_View_image oc_View_turned_round kV_View_turned_round dc_View_turned_round pm_View_turned_round cd_View_turned_round ct_View_turned_round oc_View_after kV_View_after dc_View_after pm_View_after cd_View_after ct_View_after oc_view_to_standard kV_view_to_standard dc_view_to_standard pm_view_to_standard cd_view_to_standard ct_view_to_standard oc_view_of_three kV_view_of_three dc_view_of_three pm_view_of_three cd_view_of_three ct_view_of_three oc_Mark_init kV_Mark_init dc_Mark_init pm_Mark_init cd_Mark_init ct_Mark_init oc_Session_init kV_Session_init dc_Session_init pm_Session_init cd_Session_init ct_Session_init oc_Session_start kV_Session_start dc_Session_start pm_Session_start cd_Session_start ct_Session_start oc_Session_has_mark kV_Session_has_mark dc_Session_has_mark pm_Session_has_mark cd_Session_has_mark ct_Session_has_mark oc_Session_first_seen kV_Session_first_seen dc_Session_first_seen pm_Session_first_seen cd_Session_first_seen ct_Session_first_seen oc_Session_first_true kV_Session_first_true dc_Session_first_true pm_Session_first_true cd_Session_first_true ct_Session_first_true oc_Session_is_ready kV_Session_is_ready dc_Session_is_ready pm_Session_is_ready cd_Session_is_ready ct_Session_is_ready oc_Session_view kV_Session_view dc_Session_view pm_Session_view cd_Session_view ct_Session_view oc_Session_true_points kV_Session_true_points dc_Session_true_points pm_Session_true_points cd_Session_true_points ct_Session_true_points oc_makes_a_view kV_makes_a_view dc_makes_a_view pm_makes_a_view cd_makes_a_view ct_makes_a_view oc_in_range kV_in_range dc_in_range pm_in_range cd_in_range ct_in_range oc_most_alike kV_most_alike dc_most_alike pm_most_alike cd_most_alike ct_most_alike oc_have_double_ratio kV_have_double_ratio dc_have_double_ratio pm_have_double_ratio cd_have_double_ratio ct_have_double_ratio oc_told kV_told dc_told pm_told cd_told ct_told oc_answer_start kV_answer_start dc_answer_start pm_answer_start cd_answer_start ct_answer_start oc_answer_mark kV_answer_mark dc_answer_mark pm_answer_mark cd_answer_mark ct_answer_mark oc_answer_unmark kV_answer_unmark dc_answer_unmark pm_answer_unmark cd_answer_unmark ct_answer_unmark oc_answer_ready kV_answer_ready dc_answer_ready pm_answer_ready cd_answer_ready ct_answer_ready oc_answer_truth kV_answer_truth dc_answer_truth pm_answer_truth cd_answer_truth ct_answer_truth oc_answer_seen kV_answer_seen dc_answer_seen pm_answer_seen cd_answer_seen ct_answer_seen oc_answer_off kV_answer_off dc_answer_off pm_answer_off cd_answer_off ct_answer_off oc_answer_fits kV_answer_fits dc_answer_fits pm_answer_fits cd_answer_fits ct_answer_fits oc_answer_end kV_answer_end dc_answer_end pm_answer_end cd_answer_end ct_answer_end oc_answer_origin kV_answer_origin dc_answer_origin pm_answer_origin cd_answer_origin ct_answer_origin oc_refusal_of_couple kV_refusal_of_couple dc_refusal_of_couple pm_refusal_of_couple cd_refusal_of_couple ct_refusal_of_couple oc_answer_between kV_answer_between dc_answer_between pm_answer_between cd_answer_between ct_answer_between oc_answer_middle kV_answer_middle dc_answer_middle pm_answer_middle cd_answer_middle ct_answer_middle oc_answer_double kV_answer_double dc_answer_double pm_answer_double cd_answer_double ct_answer_double oc_answer_six kV_answer_six dc_answer_six pm_answer_six cd_answer_six ct_answer_six oc_answer_fourth kV_answer_fourth dc_answer_fourth pm_answer_fourth cd_answer_fourth ct_answer_fourth oc_answer_even kV_answer_even dc_answer_even pm_answer_even cd_answer_even ct_answer_even oc_answer_keeps kV_answer_keeps dc_answer_keeps pm_answer_keeps cd_answer_keeps ct_answer_keeps oc_answer_state kV_answer_state dc_answer_state pm_answer_state cd_answer_state ct_answer_state oc_answer kV_answer dc_answer pm_answer cd_answer ct_answer oc_answers kV_answers dc_answers pm_answers cd_answers ct_answers : Value}
    {t_MARKS_OF_A_VIEW t_NO_SUCH_MARK t_BEYOND_ALL t_NOT_STARTED t_NOT_READY t_ALIKE t_OUT_OF_RANGE t_TOO_MANY_MARKS t_LEADS_BEYOND_ALL t_FARTHEST t_MOST_MARKS t_START t_EVENLY_PARTED : Tok} {esD : Array DictEntry} {itT itO itO0 itO1 itO2 itO3 itO4 itO5 : Array Value} {nD nT nO nO0 nO1 nO2 nO3 nO4 nO5 : Nat}
    (a_Point : PySem.W.nsIn K mainGlobals "Point" = some (some (.ref C0)))
    (a_View : PySem.W.nsIn K mainGlobals "View" = some (some (.ref C1)))
    (a_Mark : PySem.W.nsIn K mainGlobals "Mark" = some (some (.ref C2)))
    (a_Session : PySem.W.nsIn K mainGlobals "Session" = some (some (.ref C3)))
    (a_Point_init : PySem.W.findIn K (.ref C0) "__init__" = some (some (.ref f_Point_init)))
    (i_Point_init : PySem.W.isFn K (.ref f_Point_init) = true)
    (l_Point_init : K.lookup f_Point_init = some ⟨oc_Point_init, od_Point_init, .func (PySem.W.fnOf "__init__" "Point.__init__" (defArgs s_Point_init) (defBody s_Point_init) (defScope s_Point_init) .none kV_Point_init dc_Point_init pm_Point_init an_Point_init cd_Point_init ct_Point_init), sl_Point_init⟩)
    (c_Point_init : PySem.W.codeIn K cd_Point_init "Point.__init__" = true)
    (k_Point_init : PySem.W.keepIn K (.ref f_Point_init) = true)
    (a_Point_is_beyond_all : PySem.W.findIn K (.ref C0) "is_beyond_all" = some (some (.ref f_Point_is_beyond_all)))
    (i_Point_is_beyond_all : PySem.W.isFn K (.ref f_Point_is_beyond_all) = true)
    (l_Point_is_beyond_all : K.lookup f_Point_is_beyond_all = some ⟨oc_Point_is_beyond_all, od_Point_is_beyond_all, .func (PySem.W.fnOf "is_beyond_all" "Point.is_beyond_all" (defArgs s_Point_is_beyond_all) (defBody s_Point_is_beyond_all) (defScope s_Point_is_beyond_all) .none kV_Point_is_beyond_all dc_Point_is_beyond_all pm_Point_is_beyond_all an_Point_is_beyond_all cd_Point_is_beyond_all ct_Point_is_beyond_all), sl_Point_is_beyond_all⟩)
    (c_Point_is_beyond_all : PySem.W.codeIn K cd_Point_is_beyond_all "Point.is_beyond_all" = true)
    (k_Point_is_beyond_all : PySem.W.keepIn K (.ref f_Point_is_beyond_all) = true)
    (a_Point_is_at : PySem.W.findIn K (.ref C0) "is_at" = some (some (.ref f_Point_is_at)))
    (i_Point_is_at : PySem.W.isFn K (.ref f_Point_is_at) = true)
    (l_Point_is_at : K.lookup f_Point_is_at = some ⟨oc_Point_is_at, od_Point_is_at, .func (PySem.W.fnOf "is_at" "Point.is_at" (defArgs s_Point_is_at) (defBody s_Point_is_at) (defScope s_Point_is_at) .none kV_Point_is_at dc_Point_is_at pm_Point_is_at an_Point_is_at cd_Point_is_at ct_Point_is_at), sl_Point_is_at⟩)
    (c_Point_is_at : PySem.W.codeIn K cd_Point_is_at "Point.is_at" = true)
    (k_Point_is_at : PySem.W.keepIn K (.ref f_Point_is_at) = true)
    (a_Point_moved_back : PySem.W.findIn K (.ref C0) "moved_back" = some (some (.ref f_Point_moved_back)))
    (i_Point_moved_back : PySem.W.isFn K (.ref f_Point_moved_back) = true)
    (l_Point_moved_back : K.lookup f_Point_moved_back = some ⟨oc_Point_moved_back, od_Point_moved_back, .func (PySem.W.fnOf "moved_back" "Point.moved_back" (defArgs s_Point_moved_back) (defBody s_Point_moved_back) (defScope s_Point_moved_back) .none kV_Point_moved_back dc_Point_moved_back pm_Point_moved_back an_Point_moved_back cd_Point_moved_back ct_Point_moved_back), sl_Point_moved_back⟩)
    (c_Point_moved_back : PySem.W.codeIn K cd_Point_moved_back "Point.moved_back" = true)
    (k_Point_moved_back : PySem.W.keepIn K (.ref f_Point_moved_back) = true)
    (a_point_at : PySem.W.nsIn K mainGlobals "point_at" = some (some (.ref f_point_at)))
    (l_point_at : K.lookup f_point_at = some ⟨oc_point_at, od_point_at, .func (PySem.W.fnOf "point_at" "point_at" (defArgs s_point_at) (defBody s_point_at) (defScope s_point_at) .none kV_point_at dc_point_at pm_point_at an_point_at cd_point_at ct_point_at), sl_point_at⟩)
    (c_point_at : PySem.W.codeIn K cd_point_at "point_at" = true)
    (k_point_at : PySem.W.keepIn K (.ref f_point_at) = true)
    (a_point_beyond_all : PySem.W.nsIn K mainGlobals "point_beyond_all" = some (some (.ref f_point_beyond_all)))
    (l_point_beyond_all : K.lookup f_point_beyond_all = some ⟨oc_point_beyond_all, od_point_beyond_all, .func (PySem.W.fnOf "point_beyond_all" "point_beyond_all" (defArgs s_point_beyond_all) (defBody s_point_beyond_all) (defScope s_point_beyond_all) .none kV_point_beyond_all dc_point_beyond_all pm_point_beyond_all an_point_beyond_all cd_point_beyond_all ct_point_beyond_all), sl_point_beyond_all⟩)
    (c_point_beyond_all : PySem.W.codeIn K cd_point_beyond_all "point_beyond_all" = true)
    (k_point_beyond_all : PySem.W.keepIn K (.ref f_point_beyond_all) = true)
    (a_excess : PySem.W.nsIn K mainGlobals "excess" = some (some (.ref f_excess)))
    (l_excess : K.lookup f_excess = some ⟨oc_excess, od_excess, .func (PySem.W.fnOf "excess" "excess" (defArgs s_excess) (defBody s_excess) (defScope s_excess) .none kV_excess dc_excess pm_excess an_excess cd_excess ct_excess), sl_excess⟩)
    (c_excess : PySem.W.codeIn K cd_excess "excess" = true)
    (k_excess : PySem.W.keepIn K (.ref f_excess) = true)
    (a_difference : PySem.W.nsIn K mainGlobals "difference" = some (some (.ref f_difference)))
    (l_difference : K.lookup f_difference = some ⟨oc_difference, od_difference, .func (PySem.W.fnOf "difference" "difference" (defArgs s_difference) (defBody s_difference) (defScope s_difference) .none kV_difference dc_difference pm_difference an_difference cd_difference ct_difference), sl_difference⟩)
    (c_difference : PySem.W.codeIn K cd_difference "difference" = true)
    (k_difference : PySem.W.keepIn K (.ref f_difference) = true)
    (a_middle_point : PySem.W.nsIn K mainGlobals "middle_point" = some (some (.ref f_middle_point)))
    (l_middle_point : K.lookup f_middle_point = some ⟨oc_middle_point, od_middle_point, .func (PySem.W.fnOf "middle_point" "middle_point" (defArgs s_middle_point) (defBody s_middle_point) (defScope s_middle_point) .none kV_middle_point dc_middle_point pm_middle_point an_middle_point cd_middle_point ct_middle_point), sl_middle_point⟩)
    (c_middle_point : PySem.W.codeIn K cd_middle_point "middle_point" = true)
    (k_middle_point : PySem.W.keepIn K (.ref f_middle_point) = true)
    (a_common_divisor : PySem.W.nsIn K mainGlobals "common_divisor" = some (some (.ref f_common_divisor)))
    (l_common_divisor : K.lookup f_common_divisor = some ⟨oc_common_divisor, od_common_divisor, .func (PySem.W.fnOf "common_divisor" "common_divisor" (defArgs s_common_divisor) (defBody s_common_divisor) (defScope s_common_divisor) .none kV_common_divisor dc_common_divisor pm_common_divisor an_common_divisor cd_common_divisor ct_common_divisor), sl_common_divisor⟩)
    (c_common_divisor : PySem.W.codeIn K cd_common_divisor "common_divisor" = true)
    (k_common_divisor : PySem.W.keepIn K (.ref f_common_divisor) = true)
    (a_fraction : PySem.W.nsIn K mainGlobals "fraction" = some (some (.ref f_fraction)))
    (l_fraction : K.lookup f_fraction = some ⟨oc_fraction, od_fraction, .func (PySem.W.fnOf "fraction" "fraction" (defArgs s_fraction) (defBody s_fraction) (defScope s_fraction) .none kV_fraction dc_fraction pm_fraction an_fraction cd_fraction ct_fraction), sl_fraction⟩)
    (c_fraction : PySem.W.codeIn K cd_fraction "fraction" = true)
    (k_fraction : PySem.W.keepIn K (.ref f_fraction) = true)
    (a_double_ratio : PySem.W.nsIn K mainGlobals "double_ratio" = some (some (.ref f_double_ratio)))
    (l_double_ratio : K.lookup f_double_ratio = some ⟨oc_double_ratio, od_double_ratio, .func (PySem.W.fnOf "double_ratio" "double_ratio" (defArgs s_double_ratio) (defBody s_double_ratio) (defScope s_double_ratio) .none kV_double_ratio dc_double_ratio pm_double_ratio an_double_ratio cd_double_ratio ct_double_ratio), sl_double_ratio⟩)
    (c_double_ratio : PySem.W.codeIn K cd_double_ratio "double_ratio" = true)
    (k_double_ratio : PySem.W.keepIn K (.ref f_double_ratio) = true)
    (a_in_order : PySem.W.nsIn K mainGlobals "in_order" = some (some (.ref f_in_order)))
    (l_in_order : K.lookup f_in_order = some ⟨oc_in_order, od_in_order, .func (PySem.W.fnOf "in_order" "in_order" (defArgs s_in_order) (defBody s_in_order) (defScope s_in_order) .none kV_in_order dc_in_order pm_in_order an_in_order cd_in_order ct_in_order), sl_in_order⟩)
    (c_in_order : PySem.W.codeIn K cd_in_order "in_order" = true)
    (k_in_order : PySem.W.keepIn K (.ref f_in_order) = true)
    (a_six_ratios : PySem.W.nsIn K mainGlobals "six_ratios" = some (some (.ref f_six_ratios)))
    (l_six_ratios : K.lookup f_six_ratios = some ⟨oc_six_ratios, od_six_ratios, .func (PySem.W.fnOf "six_ratios" "six_ratios" (defArgs s_six_ratios) (defBody s_six_ratios) (defScope s_six_ratios) .none kV_six_ratios dc_six_ratios pm_six_ratios an_six_ratios cd_six_ratios ct_six_ratios), sl_six_ratios⟩)
    (c_six_ratios : PySem.W.codeIn K cd_six_ratios "six_ratios" = true)
    (k_six_ratios : PySem.W.keepIn K (.ref f_six_ratios) = true)
    (a_fourth_point : PySem.W.nsIn K mainGlobals "fourth_point" = some (some (.ref f_fourth_point)))
    (l_fourth_point : K.lookup f_fourth_point = some ⟨oc_fourth_point, od_fourth_point, .func (PySem.W.fnOf "fourth_point" "fourth_point" (defArgs s_fourth_point) (defBody s_fourth_point) (defScope s_fourth_point) .none kV_fourth_point dc_fourth_point pm_fourth_point an_fourth_point cd_fourth_point ct_fourth_point), sl_fourth_point⟩)
    (c_fourth_point : PySem.W.codeIn K cd_fourth_point "fourth_point" = true)
    (k_fourth_point : PySem.W.keepIn K (.ref f_fourth_point) = true)
    (a_View_init : PySem.W.findIn K (.ref C1) "__init__" = some (some (.ref f_View_init)))
    (i_View_init : PySem.W.isFn K (.ref f_View_init) = true)
    (l_View_init : K.lookup f_View_init = some ⟨oc_View_init, od_View_init, .func (PySem.W.fnOf "__init__" "View.__init__" (defArgs s_View_init) (defBody s_View_init) (defScope s_View_init) .none kV_View_init dc_View_init pm_View_init an_View_init cd_View_init ct_View_init), sl_View_init⟩)
    (c_View_init : PySem.W.codeIn K cd_View_init "View.__init__" = true)
    (k_View_init : PySem.W.keepIn K (.ref f_View_init) = true)
    (a_View_image : PySem.W.findIn K (.ref C1) "image" = some (some (.ref f_View_image)))
    (i_View_image : PySem.W.isFn K (.ref f_View_image) = true)
    (l_View_image : K.lookup f_View_image = some ⟨oc_View_image, od_View_image, .func (PySem.W.fnOf "image" "View.image" (defArgs s_View_image) (defBody s_View_image) (defScope s_View_image) .none kV_View_image dc_View_image pm_View_image an_View_image cd_View_image ct_View_image), sl_View_image⟩)
    (c_View_image : PySem.W.codeIn K cd_View_image "View.image" = true)
    (k_View_image : PySem.W.keepIn K (.ref f_View_image) = true)
    (a_View_turned_round : PySem.W.findIn K (.ref C1) "turned_round" = some (some (.ref f_View_turned_round)))
    (i_View_turned_round : PySem.W.isFn K (.ref f_View_turned_round) = true)
    (l_View_turned_round : K.lookup f_View_turned_round = some ⟨oc_View_turned_round, od_View_turned_round, .func (PySem.W.fnOf "turned_round" "View.turned_round" (defArgs s_View_turned_round) (defBody s_View_turned_round) (defScope s_View_turned_round) .none kV_View_turned_round dc_View_turned_round pm_View_turned_round an_View_turned_round cd_View_turned_round ct_View_turned_round), sl_View_turned_round⟩)
    (c_View_turned_round : PySem.W.codeIn K cd_View_turned_round "View.turned_round" = true)
    (k_View_turned_round : PySem.W.keepIn K (.ref f_View_turned_round) = true)
    (a_View_after : PySem.W.findIn K (.ref C1) "after" = some (some (.ref f_View_after)))
    (i_View_after : PySem.W.isFn K (.ref f_View_after) = true)
    (l_View_after : K.lookup f_View_after = some ⟨oc_View_after, od_View_after, .func (PySem.W.fnOf "after" "View.after" (defArgs s_View_after) (defBody s_View_after) (defScope s_View_after) .none kV_View_after dc_View_after pm_View_after an_View_after cd_View_after ct_View_after), sl_View_after⟩)
    (c_View_after : PySem.W.codeIn K cd_View_after "View.after" = true)
    (k_View_after : PySem.W.keepIn K (.ref f_View_after) = true)
    (a_view_to_standard : PySem.W.nsIn K mainGlobals "view_to_standard" = some (some (.ref f_view_to_standard)))
    (l_view_to_standard : K.lookup f_view_to_standard = some ⟨oc_view_to_standard, od_view_to_standard, .func (PySem.W.fnOf "view_to_standard" "view_to_standard" (defArgs s_view_to_standard) (defBody s_view_to_standard) (defScope s_view_to_standard) .none kV_view_to_standard dc_view_to_standard pm_view_to_standard an_view_to_standard cd_view_to_standard ct_view_to_standard), sl_view_to_standard⟩)
    (c_view_to_standard : PySem.W.codeIn K cd_view_to_standard "view_to_standard" = true)
    (k_view_to_standard : PySem.W.keepIn K (.ref f_view_to_standard) = true)
    (a_view_of_three : PySem.W.nsIn K mainGlobals "view_of_three" = some (some (.ref f_view_of_three)))
    (l_view_of_three : K.lookup f_view_of_three = some ⟨oc_view_of_three, od_view_of_three, .func (PySem.W.fnOf "view_of_three" "view_of_three" (defArgs s_view_of_three) (defBody s_view_of_three) (defScope s_view_of_three) .none kV_view_of_three dc_view_of_three pm_view_of_three an_view_of_three cd_view_of_three ct_view_of_three), sl_view_of_three⟩)
    (c_view_of_three : PySem.W.codeIn K cd_view_of_three "view_of_three" = true)
    (k_view_of_three : PySem.W.keepIn K (.ref f_view_of_three) = true)
    (a_Mark_init : PySem.W.findIn K (.ref C2) "__init__" = some (some (.ref f_Mark_init)))
    (i_Mark_init : PySem.W.isFn K (.ref f_Mark_init) = true)
    (l_Mark_init : K.lookup f_Mark_init = some ⟨oc_Mark_init, od_Mark_init, .func (PySem.W.fnOf "__init__" "Mark.__init__" (defArgs s_Mark_init) (defBody s_Mark_init) (defScope s_Mark_init) .none kV_Mark_init dc_Mark_init pm_Mark_init an_Mark_init cd_Mark_init ct_Mark_init), sl_Mark_init⟩)
    (c_Mark_init : PySem.W.codeIn K cd_Mark_init "Mark.__init__" = true)
    (k_Mark_init : PySem.W.keepIn K (.ref f_Mark_init) = true)
    (a_Session_init : PySem.W.findIn K (.ref C3) "__init__" = some (some (.ref f_Session_init)))
    (i_Session_init : PySem.W.isFn K (.ref f_Session_init) = true)
    (l_Session_init : K.lookup f_Session_init = some ⟨oc_Session_init, od_Session_init, .func (PySem.W.fnOf "__init__" "Session.__init__" (defArgs s_Session_init) (defBody s_Session_init) (defScope s_Session_init) .none kV_Session_init dc_Session_init pm_Session_init an_Session_init cd_Session_init ct_Session_init), sl_Session_init⟩)
    (c_Session_init : PySem.W.codeIn K cd_Session_init "Session.__init__" = true)
    (k_Session_init : PySem.W.keepIn K (.ref f_Session_init) = true)
    (a_Session_start : PySem.W.findIn K (.ref C3) "start" = some (some (.ref f_Session_start)))
    (i_Session_start : PySem.W.isFn K (.ref f_Session_start) = true)
    (l_Session_start : K.lookup f_Session_start = some ⟨oc_Session_start, od_Session_start, .func (PySem.W.fnOf "start" "Session.start" (defArgs s_Session_start) (defBody s_Session_start) (defScope s_Session_start) .none kV_Session_start dc_Session_start pm_Session_start an_Session_start cd_Session_start ct_Session_start), sl_Session_start⟩)
    (c_Session_start : PySem.W.codeIn K cd_Session_start "Session.start" = true)
    (k_Session_start : PySem.W.keepIn K (.ref f_Session_start) = true)
    (a_Session_has_mark : PySem.W.findIn K (.ref C3) "has_mark" = some (some (.ref f_Session_has_mark)))
    (i_Session_has_mark : PySem.W.isFn K (.ref f_Session_has_mark) = true)
    (l_Session_has_mark : K.lookup f_Session_has_mark = some ⟨oc_Session_has_mark, od_Session_has_mark, .func (PySem.W.fnOf "has_mark" "Session.has_mark" (defArgs s_Session_has_mark) (defBody s_Session_has_mark) (defScope s_Session_has_mark) .none kV_Session_has_mark dc_Session_has_mark pm_Session_has_mark an_Session_has_mark cd_Session_has_mark ct_Session_has_mark), sl_Session_has_mark⟩)
    (c_Session_has_mark : PySem.W.codeIn K cd_Session_has_mark "Session.has_mark" = true)
    (k_Session_has_mark : PySem.W.keepIn K (.ref f_Session_has_mark) = true)
    (a_Session_first_seen : PySem.W.findIn K (.ref C3) "first_seen" = some (some (.ref f_Session_first_seen)))
    (i_Session_first_seen : PySem.W.isFn K (.ref f_Session_first_seen) = true)
    (l_Session_first_seen : K.lookup f_Session_first_seen = some ⟨oc_Session_first_seen, od_Session_first_seen, .func (PySem.W.fnOf "first_seen" "Session.first_seen" (defArgs s_Session_first_seen) (defBody s_Session_first_seen) (defScope s_Session_first_seen) .none kV_Session_first_seen dc_Session_first_seen pm_Session_first_seen an_Session_first_seen cd_Session_first_seen ct_Session_first_seen), sl_Session_first_seen⟩)
    (c_Session_first_seen : PySem.W.codeIn K cd_Session_first_seen "Session.first_seen" = true)
    (k_Session_first_seen : PySem.W.keepIn K (.ref f_Session_first_seen) = true)
    (a_Session_first_true : PySem.W.findIn K (.ref C3) "first_true" = some (some (.ref f_Session_first_true)))
    (i_Session_first_true : PySem.W.isFn K (.ref f_Session_first_true) = true)
    (l_Session_first_true : K.lookup f_Session_first_true = some ⟨oc_Session_first_true, od_Session_first_true, .func (PySem.W.fnOf "first_true" "Session.first_true" (defArgs s_Session_first_true) (defBody s_Session_first_true) (defScope s_Session_first_true) .none kV_Session_first_true dc_Session_first_true pm_Session_first_true an_Session_first_true cd_Session_first_true ct_Session_first_true), sl_Session_first_true⟩)
    (c_Session_first_true : PySem.W.codeIn K cd_Session_first_true "Session.first_true" = true)
    (k_Session_first_true : PySem.W.keepIn K (.ref f_Session_first_true) = true)
    (a_Session_is_ready : PySem.W.findIn K (.ref C3) "is_ready" = some (some (.ref f_Session_is_ready)))
    (i_Session_is_ready : PySem.W.isFn K (.ref f_Session_is_ready) = true)
    (l_Session_is_ready : K.lookup f_Session_is_ready = some ⟨oc_Session_is_ready, od_Session_is_ready, .func (PySem.W.fnOf "is_ready" "Session.is_ready" (defArgs s_Session_is_ready) (defBody s_Session_is_ready) (defScope s_Session_is_ready) .none kV_Session_is_ready dc_Session_is_ready pm_Session_is_ready an_Session_is_ready cd_Session_is_ready ct_Session_is_ready), sl_Session_is_ready⟩)
    (c_Session_is_ready : PySem.W.codeIn K cd_Session_is_ready "Session.is_ready" = true)
    (k_Session_is_ready : PySem.W.keepIn K (.ref f_Session_is_ready) = true)
    (a_Session_view : PySem.W.findIn K (.ref C3) "view" = some (some (.ref f_Session_view)))
    (i_Session_view : PySem.W.isFn K (.ref f_Session_view) = true)
    (l_Session_view : K.lookup f_Session_view = some ⟨oc_Session_view, od_Session_view, .func (PySem.W.fnOf "view" "Session.view" (defArgs s_Session_view) (defBody s_Session_view) (defScope s_Session_view) .none kV_Session_view dc_Session_view pm_Session_view an_Session_view cd_Session_view ct_Session_view), sl_Session_view⟩)
    (c_Session_view : PySem.W.codeIn K cd_Session_view "Session.view" = true)
    (k_Session_view : PySem.W.keepIn K (.ref f_Session_view) = true)
    (a_Session_true_points : PySem.W.findIn K (.ref C3) "true_points" = some (some (.ref f_Session_true_points)))
    (i_Session_true_points : PySem.W.isFn K (.ref f_Session_true_points) = true)
    (l_Session_true_points : K.lookup f_Session_true_points = some ⟨oc_Session_true_points, od_Session_true_points, .func (PySem.W.fnOf "true_points" "Session.true_points" (defArgs s_Session_true_points) (defBody s_Session_true_points) (defScope s_Session_true_points) .none kV_Session_true_points dc_Session_true_points pm_Session_true_points an_Session_true_points cd_Session_true_points ct_Session_true_points), sl_Session_true_points⟩)
    (c_Session_true_points : PySem.W.codeIn K cd_Session_true_points "Session.true_points" = true)
    (k_Session_true_points : PySem.W.keepIn K (.ref f_Session_true_points) = true)
    (a_makes_a_view : PySem.W.nsIn K mainGlobals "makes_a_view" = some (some (.ref f_makes_a_view)))
    (l_makes_a_view : K.lookup f_makes_a_view = some ⟨oc_makes_a_view, od_makes_a_view, .func (PySem.W.fnOf "makes_a_view" "makes_a_view" (defArgs s_makes_a_view) (defBody s_makes_a_view) (defScope s_makes_a_view) .none kV_makes_a_view dc_makes_a_view pm_makes_a_view an_makes_a_view cd_makes_a_view ct_makes_a_view), sl_makes_a_view⟩)
    (c_makes_a_view : PySem.W.codeIn K cd_makes_a_view "makes_a_view" = true)
    (k_makes_a_view : PySem.W.keepIn K (.ref f_makes_a_view) = true)
    (a_in_range : PySem.W.nsIn K mainGlobals "in_range" = some (some (.ref f_in_range)))
    (l_in_range : K.lookup f_in_range = some ⟨oc_in_range, od_in_range, .func (PySem.W.fnOf "in_range" "in_range" (defArgs s_in_range) (defBody s_in_range) (defScope s_in_range) .none kV_in_range dc_in_range pm_in_range an_in_range cd_in_range ct_in_range), sl_in_range⟩)
    (c_in_range : PySem.W.codeIn K cd_in_range "in_range" = true)
    (k_in_range : PySem.W.keepIn K (.ref f_in_range) = true)
    (a_most_alike : PySem.W.nsIn K mainGlobals "most_alike" = some (some (.ref f_most_alike)))
    (l_most_alike : K.lookup f_most_alike = some ⟨oc_most_alike, od_most_alike, .func (PySem.W.fnOf "most_alike" "most_alike" (defArgs s_most_alike) (defBody s_most_alike) (defScope s_most_alike) .none kV_most_alike dc_most_alike pm_most_alike an_most_alike cd_most_alike ct_most_alike), sl_most_alike⟩)
    (c_most_alike : PySem.W.codeIn K cd_most_alike "most_alike" = true)
    (k_most_alike : PySem.W.keepIn K (.ref f_most_alike) = true)
    (a_have_double_ratio : PySem.W.nsIn K mainGlobals "have_double_ratio" = some (some (.ref f_have_double_ratio)))
    (l_have_double_ratio : K.lookup f_have_double_ratio = some ⟨oc_have_double_ratio, od_have_double_ratio, .func (PySem.W.fnOf "have_double_ratio" "have_double_ratio" (defArgs s_have_double_ratio) (defBody s_have_double_ratio) (defScope s_have_double_ratio) .none kV_have_double_ratio dc_have_double_ratio pm_have_double_ratio an_have_double_ratio cd_have_double_ratio ct_have_double_ratio), sl_have_double_ratio⟩)
    (c_have_double_ratio : PySem.W.codeIn K cd_have_double_ratio "have_double_ratio" = true)
    (k_have_double_ratio : PySem.W.keepIn K (.ref f_have_double_ratio) = true)
    (a_told : PySem.W.nsIn K mainGlobals "told" = some (some (.ref f_told)))
    (l_told : K.lookup f_told = some ⟨oc_told, od_told, .func (PySem.W.fnOf "told" "told" (defArgs s_told) (defBody s_told) (defScope s_told) .none kV_told dc_told pm_told an_told cd_told ct_told), sl_told⟩)
    (c_told : PySem.W.codeIn K cd_told "told" = true)
    (k_told : PySem.W.keepIn K (.ref f_told) = true)
    (a_answer_start : PySem.W.nsIn K mainGlobals "answer_start" = some (some (.ref f_answer_start)))
    (l_answer_start : K.lookup f_answer_start = some ⟨oc_answer_start, od_answer_start, .func (PySem.W.fnOf "answer_start" "answer_start" (defArgs s_answer_start) (defBody s_answer_start) (defScope s_answer_start) .none kV_answer_start dc_answer_start pm_answer_start an_answer_start cd_answer_start ct_answer_start), sl_answer_start⟩)
    (c_answer_start : PySem.W.codeIn K cd_answer_start "answer_start" = true)
    (k_answer_start : PySem.W.keepIn K (.ref f_answer_start) = true)
    (a_answer_mark : PySem.W.nsIn K mainGlobals "answer_mark" = some (some (.ref f_answer_mark)))
    (l_answer_mark : K.lookup f_answer_mark = some ⟨oc_answer_mark, od_answer_mark, .func (PySem.W.fnOf "answer_mark" "answer_mark" (defArgs s_answer_mark) (defBody s_answer_mark) (defScope s_answer_mark) .none kV_answer_mark dc_answer_mark pm_answer_mark an_answer_mark cd_answer_mark ct_answer_mark), sl_answer_mark⟩)
    (c_answer_mark : PySem.W.codeIn K cd_answer_mark "answer_mark" = true)
    (k_answer_mark : PySem.W.keepIn K (.ref f_answer_mark) = true)
    (a_answer_unmark : PySem.W.nsIn K mainGlobals "answer_unmark" = some (some (.ref f_answer_unmark)))
    (l_answer_unmark : K.lookup f_answer_unmark = some ⟨oc_answer_unmark, od_answer_unmark, .func (PySem.W.fnOf "answer_unmark" "answer_unmark" (defArgs s_answer_unmark) (defBody s_answer_unmark) (defScope s_answer_unmark) .none kV_answer_unmark dc_answer_unmark pm_answer_unmark an_answer_unmark cd_answer_unmark ct_answer_unmark), sl_answer_unmark⟩)
    (c_answer_unmark : PySem.W.codeIn K cd_answer_unmark "answer_unmark" = true)
    (k_answer_unmark : PySem.W.keepIn K (.ref f_answer_unmark) = true)
    (a_answer_ready : PySem.W.nsIn K mainGlobals "answer_ready" = some (some (.ref f_answer_ready)))
    (l_answer_ready : K.lookup f_answer_ready = some ⟨oc_answer_ready, od_answer_ready, .func (PySem.W.fnOf "answer_ready" "answer_ready" (defArgs s_answer_ready) (defBody s_answer_ready) (defScope s_answer_ready) .none kV_answer_ready dc_answer_ready pm_answer_ready an_answer_ready cd_answer_ready ct_answer_ready), sl_answer_ready⟩)
    (c_answer_ready : PySem.W.codeIn K cd_answer_ready "answer_ready" = true)
    (k_answer_ready : PySem.W.keepIn K (.ref f_answer_ready) = true)
    (a_answer_truth : PySem.W.nsIn K mainGlobals "answer_truth" = some (some (.ref f_answer_truth)))
    (l_answer_truth : K.lookup f_answer_truth = some ⟨oc_answer_truth, od_answer_truth, .func (PySem.W.fnOf "answer_truth" "answer_truth" (defArgs s_answer_truth) (defBody s_answer_truth) (defScope s_answer_truth) .none kV_answer_truth dc_answer_truth pm_answer_truth an_answer_truth cd_answer_truth ct_answer_truth), sl_answer_truth⟩)
    (c_answer_truth : PySem.W.codeIn K cd_answer_truth "answer_truth" = true)
    (k_answer_truth : PySem.W.keepIn K (.ref f_answer_truth) = true)
    (a_answer_seen : PySem.W.nsIn K mainGlobals "answer_seen" = some (some (.ref f_answer_seen)))
    (l_answer_seen : K.lookup f_answer_seen = some ⟨oc_answer_seen, od_answer_seen, .func (PySem.W.fnOf "answer_seen" "answer_seen" (defArgs s_answer_seen) (defBody s_answer_seen) (defScope s_answer_seen) .none kV_answer_seen dc_answer_seen pm_answer_seen an_answer_seen cd_answer_seen ct_answer_seen), sl_answer_seen⟩)
    (c_answer_seen : PySem.W.codeIn K cd_answer_seen "answer_seen" = true)
    (k_answer_seen : PySem.W.keepIn K (.ref f_answer_seen) = true)
    (a_answer_off : PySem.W.nsIn K mainGlobals "answer_off" = some (some (.ref f_answer_off)))
    (l_answer_off : K.lookup f_answer_off = some ⟨oc_answer_off, od_answer_off, .func (PySem.W.fnOf "answer_off" "answer_off" (defArgs s_answer_off) (defBody s_answer_off) (defScope s_answer_off) .none kV_answer_off dc_answer_off pm_answer_off an_answer_off cd_answer_off ct_answer_off), sl_answer_off⟩)
    (c_answer_off : PySem.W.codeIn K cd_answer_off "answer_off" = true)
    (k_answer_off : PySem.W.keepIn K (.ref f_answer_off) = true)
    (a_answer_fits : PySem.W.nsIn K mainGlobals "answer_fits" = some (some (.ref f_answer_fits)))
    (l_answer_fits : K.lookup f_answer_fits = some ⟨oc_answer_fits, od_answer_fits, .func (PySem.W.fnOf "answer_fits" "answer_fits" (defArgs s_answer_fits) (defBody s_answer_fits) (defScope s_answer_fits) .none kV_answer_fits dc_answer_fits pm_answer_fits an_answer_fits cd_answer_fits ct_answer_fits), sl_answer_fits⟩)
    (c_answer_fits : PySem.W.codeIn K cd_answer_fits "answer_fits" = true)
    (k_answer_fits : PySem.W.keepIn K (.ref f_answer_fits) = true)
    (a_answer_end : PySem.W.nsIn K mainGlobals "answer_end" = some (some (.ref f_answer_end)))
    (l_answer_end : K.lookup f_answer_end = some ⟨oc_answer_end, od_answer_end, .func (PySem.W.fnOf "answer_end" "answer_end" (defArgs s_answer_end) (defBody s_answer_end) (defScope s_answer_end) .none kV_answer_end dc_answer_end pm_answer_end an_answer_end cd_answer_end ct_answer_end), sl_answer_end⟩)
    (c_answer_end : PySem.W.codeIn K cd_answer_end "answer_end" = true)
    (k_answer_end : PySem.W.keepIn K (.ref f_answer_end) = true)
    (a_answer_origin : PySem.W.nsIn K mainGlobals "answer_origin" = some (some (.ref f_answer_origin)))
    (l_answer_origin : K.lookup f_answer_origin = some ⟨oc_answer_origin, od_answer_origin, .func (PySem.W.fnOf "answer_origin" "answer_origin" (defArgs s_answer_origin) (defBody s_answer_origin) (defScope s_answer_origin) .none kV_answer_origin dc_answer_origin pm_answer_origin an_answer_origin cd_answer_origin ct_answer_origin), sl_answer_origin⟩)
    (c_answer_origin : PySem.W.codeIn K cd_answer_origin "answer_origin" = true)
    (k_answer_origin : PySem.W.keepIn K (.ref f_answer_origin) = true)
    (a_refusal_of_couple : PySem.W.nsIn K mainGlobals "refusal_of_couple" = some (some (.ref f_refusal_of_couple)))
    (l_refusal_of_couple : K.lookup f_refusal_of_couple = some ⟨oc_refusal_of_couple, od_refusal_of_couple, .func (PySem.W.fnOf "refusal_of_couple" "refusal_of_couple" (defArgs s_refusal_of_couple) (defBody s_refusal_of_couple) (defScope s_refusal_of_couple) .none kV_refusal_of_couple dc_refusal_of_couple pm_refusal_of_couple an_refusal_of_couple cd_refusal_of_couple ct_refusal_of_couple), sl_refusal_of_couple⟩)
    (c_refusal_of_couple : PySem.W.codeIn K cd_refusal_of_couple "refusal_of_couple" = true)
    (k_refusal_of_couple : PySem.W.keepIn K (.ref f_refusal_of_couple) = true)
    (a_answer_between : PySem.W.nsIn K mainGlobals "answer_between" = some (some (.ref f_answer_between)))
    (l_answer_between : K.lookup f_answer_between = some ⟨oc_answer_between, od_answer_between, .func (PySem.W.fnOf "answer_between" "answer_between" (defArgs s_answer_between) (defBody s_answer_between) (defScope s_answer_between) .none kV_answer_between dc_answer_between pm_answer_between an_answer_between cd_answer_between ct_answer_between), sl_answer_between⟩)
    (c_answer_between : PySem.W.codeIn K cd_answer_between "answer_between" = true)
    (k_answer_between : PySem.W.keepIn K (.ref f_answer_between) = true)
    (a_answer_middle : PySem.W.nsIn K mainGlobals "answer_middle" = some (some (.ref f_answer_middle)))
    (l_answer_middle : K.lookup f_answer_middle = some ⟨oc_answer_middle, od_answer_middle, .func (PySem.W.fnOf "answer_middle" "answer_middle" (defArgs s_answer_middle) (defBody s_answer_middle) (defScope s_answer_middle) .none kV_answer_middle dc_answer_middle pm_answer_middle an_answer_middle cd_answer_middle ct_answer_middle), sl_answer_middle⟩)
    (c_answer_middle : PySem.W.codeIn K cd_answer_middle "answer_middle" = true)
    (k_answer_middle : PySem.W.keepIn K (.ref f_answer_middle) = true)
    (a_answer_double : PySem.W.nsIn K mainGlobals "answer_double" = some (some (.ref f_answer_double)))
    (l_answer_double : K.lookup f_answer_double = some ⟨oc_answer_double, od_answer_double, .func (PySem.W.fnOf "answer_double" "answer_double" (defArgs s_answer_double) (defBody s_answer_double) (defScope s_answer_double) .none kV_answer_double dc_answer_double pm_answer_double an_answer_double cd_answer_double ct_answer_double), sl_answer_double⟩)
    (c_answer_double : PySem.W.codeIn K cd_answer_double "answer_double" = true)
    (k_answer_double : PySem.W.keepIn K (.ref f_answer_double) = true)
    (a_answer_six : PySem.W.nsIn K mainGlobals "answer_six" = some (some (.ref f_answer_six)))
    (l_answer_six : K.lookup f_answer_six = some ⟨oc_answer_six, od_answer_six, .func (PySem.W.fnOf "answer_six" "answer_six" (defArgs s_answer_six) (defBody s_answer_six) (defScope s_answer_six) .none kV_answer_six dc_answer_six pm_answer_six an_answer_six cd_answer_six ct_answer_six), sl_answer_six⟩)
    (c_answer_six : PySem.W.codeIn K cd_answer_six "answer_six" = true)
    (k_answer_six : PySem.W.keepIn K (.ref f_answer_six) = true)
    (a_answer_fourth : PySem.W.nsIn K mainGlobals "answer_fourth" = some (some (.ref f_answer_fourth)))
    (l_answer_fourth : K.lookup f_answer_fourth = some ⟨oc_answer_fourth, od_answer_fourth, .func (PySem.W.fnOf "answer_fourth" "answer_fourth" (defArgs s_answer_fourth) (defBody s_answer_fourth) (defScope s_answer_fourth) .none kV_answer_fourth dc_answer_fourth pm_answer_fourth an_answer_fourth cd_answer_fourth ct_answer_fourth), sl_answer_fourth⟩)
    (c_answer_fourth : PySem.W.codeIn K cd_answer_fourth "answer_fourth" = true)
    (k_answer_fourth : PySem.W.keepIn K (.ref f_answer_fourth) = true)
    (a_answer_even : PySem.W.nsIn K mainGlobals "answer_even" = some (some (.ref f_answer_even)))
    (l_answer_even : K.lookup f_answer_even = some ⟨oc_answer_even, od_answer_even, .func (PySem.W.fnOf "answer_even" "answer_even" (defArgs s_answer_even) (defBody s_answer_even) (defScope s_answer_even) .none kV_answer_even dc_answer_even pm_answer_even an_answer_even cd_answer_even ct_answer_even), sl_answer_even⟩)
    (c_answer_even : PySem.W.codeIn K cd_answer_even "answer_even" = true)
    (k_answer_even : PySem.W.keepIn K (.ref f_answer_even) = true)
    (a_answer_keeps : PySem.W.nsIn K mainGlobals "answer_keeps" = some (some (.ref f_answer_keeps)))
    (l_answer_keeps : K.lookup f_answer_keeps = some ⟨oc_answer_keeps, od_answer_keeps, .func (PySem.W.fnOf "answer_keeps" "answer_keeps" (defArgs s_answer_keeps) (defBody s_answer_keeps) (defScope s_answer_keeps) .none kV_answer_keeps dc_answer_keeps pm_answer_keeps an_answer_keeps cd_answer_keeps ct_answer_keeps), sl_answer_keeps⟩)
    (c_answer_keeps : PySem.W.codeIn K cd_answer_keeps "answer_keeps" = true)
    (k_answer_keeps : PySem.W.keepIn K (.ref f_answer_keeps) = true)
    (a_answer_state : PySem.W.nsIn K mainGlobals "answer_state" = some (some (.ref f_answer_state)))
    (l_answer_state : K.lookup f_answer_state = some ⟨oc_answer_state, od_answer_state, .func (PySem.W.fnOf "answer_state" "answer_state" (defArgs s_answer_state) (defBody s_answer_state) (defScope s_answer_state) .none kV_answer_state dc_answer_state pm_answer_state an_answer_state cd_answer_state ct_answer_state), sl_answer_state⟩)
    (c_answer_state : PySem.W.codeIn K cd_answer_state "answer_state" = true)
    (k_answer_state : PySem.W.keepIn K (.ref f_answer_state) = true)
    (a_answer : PySem.W.nsIn K mainGlobals "answer" = some (some (.ref f_answer)))
    (l_answer : K.lookup f_answer = some ⟨oc_answer, od_answer, .func (PySem.W.fnOf "answer" "answer" (defArgs s_answer) (defBody s_answer) (defScope s_answer) .none kV_answer dc_answer pm_answer an_answer cd_answer ct_answer), sl_answer⟩)
    (c_answer : PySem.W.codeIn K cd_answer "answer" = true)
    (k_answer : PySem.W.keepIn K (.ref f_answer) = true)
    (a_answers : PySem.W.nsIn K mainGlobals "answers" = some (some (.ref f_answers)))
    (l_answers : K.lookup f_answers = some ⟨oc_answers, od_answers, .func (PySem.W.fnOf "answers" "answers" (defArgs s_answers) (defBody s_answers) (defScope s_answers) .none kV_answers dc_answers pm_answers an_answers cd_answers ct_answers), sl_answers⟩)
    (c_answers : PySem.W.codeIn K cd_answers "answers" = true)
    (k_answers : PySem.W.keepIn K (.ref f_answers) = true)
    (pg_Point : PySem.W.plainGet K C0 Str.empty = true)
    (hd_Point : PySem.W.hasDictIn K C0 = true)
    (po_Point : PySem.W.plainOver K C0 = true)
    (sa_Point : PySem.W.findIn K (.ref C0) "__setattr__" = some (some (.builtin "object.__setattr__")))
    (mk_Point : PySem.W.makesIn K C0 = true)
    (kc_Point : PySem.W.keepIn K (.ref C0) = true)
    (n_Point_above : PySem.W.findIn K (.ref C0) "above" = some none)
    (n_Point_below : PySem.W.findIn K (.ref C0) "below" = some none)
    (pg_View : PySem.W.plainGet K C1 Str.empty = true)
    (hd_View : PySem.W.hasDictIn K C1 = true)
    (po_View : PySem.W.plainOver K C1 = true)
    (sa_View : PySem.W.findIn K (.ref C1) "__setattr__" = some (some (.builtin "object.__setattr__")))
    (mk_View : PySem.W.makesIn K C1 = true)
    (kc_View : PySem.W.keepIn K (.ref C1) = true)
    (n_View_a : PySem.W.findIn K (.ref C1) "a" = some none)
    (n_View_b : PySem.W.findIn K (.ref C1) "b" = some none)
    (n_View_c : PySem.W.findIn K (.ref C1) "c" = some none)
    (n_View_d : PySem.W.findIn K (.ref C1) "d" = some none)
    (pg_Mark : PySem.W.plainGet K C2 Str.empty = true)
    (hd_Mark : PySem.W.hasDictIn K C2 = true)
    (po_Mark : PySem.W.plainOver K C2 = true)
    (sa_Mark : PySem.W.findIn K (.ref C2) "__setattr__" = some (some (.builtin "object.__setattr__")))
    (mk_Mark : PySem.W.makesIn K C2 = true)
    (kc_Mark : PySem.W.keepIn K (.ref C2) = true)
    (n_Mark_t : PySem.W.findIn K (.ref C2) "t" = some none)
    (n_Mark_m : PySem.W.findIn K (.ref C2) "m" = some none)
    (pg_Session : PySem.W.plainGet K C3 Str.empty = true)
    (hd_Session : PySem.W.hasDictIn K C3 = true)
    (po_Session : PySem.W.plainOver K C3 = true)
    (sa_Session : PySem.W.findIn K (.ref C3) "__setattr__" = some (some (.builtin "object.__setattr__")))
    (mk_Session : PySem.W.makesIn K C3 = true)
    (kc_Session : PySem.W.keepIn K (.ref C3) = true)
    (n_Session_started : PySem.W.findIn K (.ref C3) "started" = some none)
    (n_Session_marks : PySem.W.findIn K (.ref C3) "marks" = some none)
    (g_MARKS_OF_A_VIEW : PySem.W.nsIn K mainGlobals "MARKS_OF_A_VIEW" = some (some (.int 3 t_MARKS_OF_A_VIEW)))
    (g_NO_SUCH_MARK : PySem.W.nsIn K mainGlobals "NO_SUCH_MARK" = some (some (.int (-2) t_NO_SUCH_MARK)))
    (g_BEYOND_ALL : PySem.W.nsIn K mainGlobals "BEYOND_ALL" = some (some (.int (-6) t_BEYOND_ALL)))
    (g_NOT_STARTED : PySem.W.nsIn K mainGlobals "NOT_STARTED" = some (some (.int (-11) t_NOT_STARTED)))
    (g_NOT_READY : PySem.W.nsIn K mainGlobals "NOT_READY" = some (some (.int (-16) t_NOT_READY)))
    (g_ALIKE : PySem.W.nsIn K mainGlobals "ALIKE" = some (some (.int (-17) t_ALIKE)))
    (g_OUT_OF_RANGE : PySem.W.nsIn K mainGlobals "OUT_OF_RANGE" = some (some (.int (-22) t_OUT_OF_RANGE)))
    (g_TOO_MANY_MARKS : PySem.W.nsIn K mainGlobals "TOO_MANY_MARKS" = some (some (.int (-28) t_TOO_MANY_MARKS)))
    (g_LEADS_BEYOND_ALL : PySem.W.nsIn K mainGlobals "LEADS_BEYOND_ALL" = some (some (.int (-33) t_LEADS_BEYOND_ALL)))
    (g_FARTHEST : PySem.W.nsIn K mainGlobals "FARTHEST" = some (some (.int 1000 t_FARTHEST)))
    (g_MOST_MARKS : PySem.W.nsIn K mainGlobals "MOST_MARKS" = some (some (.int 8 t_MOST_MARKS)))
    (g_START : PySem.W.nsIn K mainGlobals "START" = some (some (.int 0 t_START)))
    (g_EVENLY_PARTED : PySem.W.nsIn K mainGlobals "EVENLY_PARTED" = some (some (.int (-1) t_EVENLY_PARTED)))
    (b_len : PySem.W.nsIn K mainGlobals "len" = some none)
    (b_abs : PySem.W.nsIn K mainGlobals "abs" = some none)
    (b_set : PySem.W.nsIn K mainGlobals "set" = some none)
    (b_all : PySem.W.nsIn K mainGlobals "all" = some none)
    (b_any : PySem.W.nsIn K mainGlobals "any" = some none)
    (b_max : PySem.W.nsIn K mainGlobals "max" = some none)
    (gD : PySem.W.nsIn K mainGlobals "CALLS" = some (some (.ref dC)))
    (lD : K.lookup dC = some ⟨.type "dict", none, .dict esD nD, #[]⟩)
    (eD : Ents esD.toList [(0, f_answer_start), (1, f_answer_mark), (2, f_answer_unmark), (3, f_answer_ready), (4, f_answer_truth), (5, f_answer_seen), (6, f_answer_off), (7, f_answer_fits), (8, f_answer_end), (9, f_answer_origin), (10, f_answer_between), (11, f_answer_middle), (12, f_answer_double), (13, f_answer_six), (14, f_answer_fourth), (15, f_answer_even), (16, f_answer_keeps), (17, f_answer_state)])
    (sD : (dC == sysModules) = false)
    (gT : PySem.W.nsIn K mainGlobals "NUMBERS_OF_CALL" = some (some (.ref tN)))
    (lT : K.lookup tN = some ⟨.type "tuple", odT, .seq itT nT, slT⟩)
    (zT : itT.size ≤ sizeLine)
    (vT : Vals (nums.map V.int) itT.toList)
    (gO : PySem.W.nsIn K mainGlobals "SIX_ORDERS" = some (some (.ref sO)))
    (lO : K.lookup sO = some ⟨.type "tuple", odO, .seq itO nO, slO⟩)
    (zO : itO.size ≤ sizeLine)
    (vO : Vals [.ref o0, .ref o1, .ref o2, .ref o3, .ref o4, .ref o5] itO.toList)
    (lO0 : K.lookup o0 = some ⟨.type "tuple", odO0, .seq itO0 nO0, slO0⟩)
    (zO0 : itO0.size ≤ sizeLine)
    (vO0 : Vals (([0, 1, 2, 3] : List Int).map V.int) itO0.toList)
    (lO1 : K.lookup o1 = some ⟨.type "tuple", odO1, .seq itO1 nO1, slO1⟩)
    (zO1 : itO1.size ≤ sizeLine)
    (vO1 : Vals (([0, 1, 3, 2] : List Int).map V.int) itO1.toList)
    (lO2 : K.lookup o2 = some ⟨.type "tuple", odO2, .seq itO2 nO2, slO2⟩)
    (zO2 : itO2.size ≤ sizeLine)
    (vO2 : Vals (([0, 2, 1, 3] : List Int).map V.int) itO2.toList)
    (lO3 : K.lookup o3 = some ⟨.type "tuple", odO3, .seq itO3 nO3, slO3⟩)
    (zO3 : itO3.size ≤ sizeLine)
    (vO3 : Vals (([0, 2, 3, 1] : List Int).map V.int) itO3.toList)
    (lO4 : K.lookup o4 = some ⟨.type "tuple", odO4, .seq itO4 nO4, slO4⟩)
    (zO4 : itO4.size ≤ sizeLine)
    (vO4 : Vals (([0, 3, 1, 2] : List Int).map V.int) itO4.toList)
    (lO5 : K.lookup o5 = some ⟨.type "tuple", odO5, .seq itO5 nO5, slO5⟩)
    (zO5 : itO5.size ≤ sizeLine)
    (vO5 : Vals (([0, 3, 2, 1] : List Int).map V.int) itO5.toList)
    : ∃ fd : FuncData, (∀ (s : Shared) (us : List Value), us.length = (["calls"] : List Str).length → BindsTo s fd ⟨us, []⟩ ((["calls"] : List Str).zip us)) ∧ ∀ base : Heap, K.In base → base.Ns mainGlobals mg → FnOk P w K mg base CX0 10 fa fd ["calls"] (spAns Fine K) := by
  have e := hfa.symm.trans (PySem.W.mg_of X G a_answers)
  cases e
  have XT : Tx K mg (tab C0 C1 C2 C3) := ⟨⟨pg_Point, hd_Point, po_Point, sa_Point⟩, n_Point_above, n_Point_below, ⟨pg_View, hd_View, po_View, sa_View⟩, n_View_a, n_View_b, n_View_c, n_View_d, ⟨pg_Mark, hd_Mark, po_Mark, sa_Mark⟩, n_Mark_t, n_Mark_m, ⟨pg_Session, hd_Session, po_Session, sa_Session⟩, n_Session_started, n_Session_marks, ⟨_, PySem.W.mg_of X G g_MARKS_OF_A_VIEW⟩, ⟨_, PySem.W.mg_of X G g_NO_SUCH_MARK⟩, ⟨_, PySem.W.mg_of X G g_BEYOND_ALL⟩, ⟨_, PySem.W.mg_of X G g_NOT_STARTED⟩, ⟨_, PySem.W.mg_of X G g_NOT_READY⟩, ⟨_, PySem.W.mg_of X G g_ALIKE⟩, ⟨_, PySem.W.mg_of X G g_OUT_OF_RANGE⟩, ⟨_, PySem.W.mg_of X G g_TOO_MANY_MARKS⟩, ⟨_, PySem.W.mg_of X G g_LEADS_BEYOND_ALL⟩, ⟨_, PySem.W.mg_of X G g_FARTHEST⟩, ⟨_, PySem.W.mg_of X G g_MOST_MARKS⟩, ⟨_, PySem.W.mg_of X G g_START⟩, ⟨_, PySem.W.mg_of X G g_EVENLY_PARTED⟩, PySem.W.mg_none_of X G b_len, PySem.W.mg_none_of X G b_abs, PySem.W.mg_none_of X G b_set, PySem.W.mg_none_of X G b_all, PySem.W.mg_none_of X G b_any, PySem.W.mg_none_of X G b_max, ⟨⟨sO, o0, o1, o2, o3, o4, o5, PySem.W.mg_of X G gO, fun H => Or.inr ⟨_, itO, nO, lO, rfl, rfl, zO, vO⟩, fun H => Or.inr ⟨_, itO0, nO0, lO0, rfl, rfl, zO0, vO0⟩, fun H => Or.inr ⟨_, itO1, nO1, lO1, rfl, rfl, zO1, vO1⟩, fun H => Or.inr ⟨_, itO2, nO2, lO2, rfl, rfl, zO2, vO2⟩, fun H => Or.inr ⟨_, itO3, nO3, lO3, rfl, rfl, zO3, vO3⟩, fun H => Or.inr ⟨_, itO4, nO4, lO4, rfl, rfl, zO4, vO4⟩, fun H => Or.inr ⟨_, itO5, nO5, lO5, rfl, rfl, zO5, vO5⟩⟩⟩⟩
  have F_Point_init := fun_mk (st := s_Point_init) l_Point_init c_Point_init k_Point_init
  have b_Point_init := F_Point_init.binds (ps := ["self", "above", "below"]) fun _ _ _ _ _ _ us hl => match us, hl with | [_, _, _], _ => rfl
  have F_Point_is_beyond_all := fun_mk (st := s_Point_is_beyond_all) l_Point_is_beyond_all c_Point_is_beyond_all k_Point_is_beyond_all
  have b_Point_is_beyond_all := F_Point_is_beyond_all.binds (ps := ["self"]) fun _ _ _ _ _ _ us hl => match us, hl with | [_], _ => rfl
  have F_Point_is_at := fun_mk (st := s_Point_is_at) l_Point_is_at c_Point_is_at k_Point_is_at
  have b_Point_is_at := F_Point_is_at.binds (ps := ["self", "place"]) fun _ _ _ _ _ _ us hl => match us, hl with | [_, _], _ => rfl
  have F_Point_moved_back := fun_mk (st := s_Point_moved_back) l_Point_moved_back c_Point_moved_back k_Point_moved_back
  have b_Point_moved_back := F_Point_moved_back.binds (ps := ["self", "distance"]) fun _ _ _ _ _ _ us hl => match us, hl with | [_, _], _ => rfl
  have F_point_at := fun_mk (st := s_point_at) l_point_at c_point_at k_point_at
  have b_point_at := F_point_at.binds (ps := ["place"]) fun _ _ _ _ _ _ us hl => match us, hl with | [_], _ => rfl
  have F_point_beyond_all := fun_mk (st := s_point_beyond_all) l_point_beyond_all c_point_beyond_all k_point_beyond_all
  have b_point_beyond_all := F_point_beyond_all.binds (ps := []) fun _ _ _ _ _ _ us hl => match us, hl with | [], _ => rfl
  have F_excess := fun_mk (st := s_excess) l_excess c_excess k_excess
  have b_excess := F_excess.binds (ps := ["more", "less"]) fun _ _ _ _ _ _ us hl => match us, hl with | [_, _], _ => rfl
  have F_difference := fun_mk (st := s_difference) l_difference c_difference k_difference
  have b_difference := F_difference.binds (ps := ["more", "less"]) fun _ _ _ _ _ _ us hl => match us, hl with | [_, _], _ => rfl
  have F_middle_point := fun_mk (st := s_middle_point) l_middle_point c_middle_point k_middle_point
  have b_middle_point := F_middle_point.binds (ps := ["first", "second"]) fun _ _ _ _ _ _ us hl => match us, hl with | [_, _], _ => rfl
  have F_common_divisor := fun_mk (st := s_common_divisor) l_common_divisor c_common_divisor k_common_divisor
  have b_common_divisor := F_common_divisor.binds (ps := ["first", "second"]) fun _ _ _ _ _ _ us hl => match us, hl with | [_, _], _ => rfl
  have F_fraction := fun_mk (st := s_fraction) l_fraction c_fraction k_fraction
  have b_fraction := F_fraction.binds (ps := ["point"]) fun _ _ _ _ _ _ us hl => match us, hl with | [_], _ => rfl
  have F_double_ratio := fun_mk (st := s_double_ratio) l_double_ratio c_double_ratio k_double_ratio
  have b_double_ratio := F_double_ratio.binds (ps := ["four"]) fun _ _ _ _ _ _ us hl => match us, hl with | [_], _ => rfl
  have F_in_order := fun_mk (st := s_in_order) l_in_order c_in_order k_in_order
  have b_in_order := F_in_order.binds (ps := ["four", "order"]) fun _ _ _ _ _ _ us hl => match us, hl with | [_, _], _ => rfl
  have F_six_ratios := fun_mk (st := s_six_ratios) l_six_ratios c_six_ratios k_six_ratios
  have b_six_ratios := F_six_ratios.binds (ps := ["four"]) fun _ _ _ _ _ _ us hl => match us, hl with | [_], _ => rfl
  have F_fourth_point := fun_mk (st := s_fourth_point) l_fourth_point c_fourth_point k_fourth_point
  have b_fourth_point := F_fourth_point.binds (ps := ["three", "ratio"]) fun _ _ _ _ _ _ us hl => match us, hl with | [_, _], _ => rfl
  have F_View_init := fun_mk (st := s_View_init) l_View_init c_View_init k_View_init
  have b_View_init := F_View_init.binds (ps := ["self", "a", "b", "c", "d"]) fun _ _ _ _ _ _ us hl => match us, hl with | [_, _, _, _, _], _ => rfl
  have F_View_image := fun_mk (st := s_View_image) l_View_image c_View_image k_View_image
  have b_View_image := F_View_image.binds (ps := ["self", "point"]) fun _ _ _ _ _ _ us hl => match us, hl with | [_, _], _ => rfl
  have F_View_turned_round := fun_mk (st := s_View_turned_round) l_View_turned_round c_View_turned_round k_View_turned_round
  have b_View_turned_round := F_View_turned_round.binds (ps := ["self"]) fun _ _ _ _ _ _ us hl => match us, hl with | [_], _ => rfl
  have F_View_after := fun_mk (st := s_View_after) l_View_after c_View_after k_View_after
  have b_View_after := F_View_after.binds (ps := ["self", "inner"]) fun _ _ _ _ _ _ us hl => match us, hl with | [_, _], _ => rfl
  have F_view_to_standard := fun_mk (st := s_view_to_standard) l_view_to_standard c_view_to_standard k_view_to_standard
  have b_view_to_standard := F_view_to_standard.binds (ps := ["places"]) fun _ _ _ _ _ _ us hl => match us, hl with | [_], _ => rfl
  have F_view_of_three := fun_mk (st := s_view_of_three) l_view_of_three c_view_of_three k_view_of_three
  have b_view_of_three := F_view_of_three.binds (ps := ["sources", "targets"]) fun _ _ _ _ _ _ us hl => match us, hl with | [_, _], _ => rfl
  have F_Mark_init := fun_mk (st := s_Mark_init) l_Mark_init c_Mark_init k_Mark_init
  have b_Mark_init := F_Mark_init.binds (ps := ["self", "t", "m"]) fun _ _ _ _ _ _ us hl => match us, hl with | [_, _, _], _ => rfl
  have F_Session_init := fun_mk (st := s_Session_init) l_Session_init c_Session_init k_Session_init
  have b_Session_init := F_Session_init.binds (ps := ["self"]) fun _ _ _ _ _ _ us hl => match us, hl with | [_], _ => rfl
  have F_Session_start := fun_mk (st := s_Session_start) l_Session_start c_Session_start k_Session_start
  have b_Session_start := F_Session_start.binds (ps := ["self"]) fun _ _ _ _ _ _ us hl => match us, hl with | [_], _ => rfl
  have F_Session_has_mark := fun_mk (st := s_Session_has_mark) l_Session_has_mark c_Session_has_mark k_Session_has_mark
  have b_Session_has_mark := F_Session_has_mark.binds (ps := ["self", "i"]) fun _ _ _ _ _ _ us hl => match us, hl with | [_, _], _ => rfl
  have F_Session_first_seen := fun_mk (st := s_Session_first_seen) l_Session_first_seen c_Session_first_seen k_Session_first_seen
  have b_Session_first_seen := F_Session_first_seen.binds (ps := ["self"]) fun _ _ _ _ _ _ us hl => match us, hl with | [_], _ => rfl
  have F_Session_first_true := fun_mk (st := s_Session_first_true) l_Session_first_true c_Session_first_true k_Session_first_true
  have b_Session_first_true := F_Session_first_true.binds (ps := ["self"]) fun _ _ _ _ _ _ us hl => match us, hl with | [_], _ => rfl
  have F_Session_is_ready := fun_mk (st := s_Session_is_ready) l_Session_is_ready c_Session_is_ready k_Session_is_ready
  have b_Session_is_ready := F_Session_is_ready.binds (ps := ["self"]) fun _ _ _ _ _ _ us hl => match us, hl with | [_], _ => rfl
  have F_Session_view := fun_mk (st := s_Session_view) l_Session_view c_Session_view k_Session_view
  have b_Session_view := F_Session_view.binds (ps := ["self"]) fun _ _ _ _ _ _ us hl => match us, hl with | [_], _ => rfl
  have F_Session_true_points := fun_mk (st := s_Session_true_points) l_Session_true_points c_Session_true_points k_Session_true_points
  have b_Session_true_points := F_Session_true_points.binds (ps := ["self", "places"]) fun _ _ _ _ _ _ us hl => match us, hl with | [_, _], _ => rfl
  have F_makes_a_view := fun_mk (st := s_makes_a_view) l_makes_a_view c_makes_a_view k_makes_a_view
  have b_makes_a_view := F_makes_a_view.binds (ps := ["places"]) fun _ _ _ _ _ _ us hl => match us, hl with | [_], _ => rfl
  have F_in_range := fun_mk (st := s_in_range) l_in_range c_in_range k_in_range
  have b_in_range := F_in_range.binds (ps := ["places"]) fun _ _ _ _ _ _ us hl => match us, hl with | [_], _ => rfl
  have F_most_alike := fun_mk (st := s_most_alike) l_most_alike c_most_alike k_most_alike
  have b_most_alike := F_most_alike.binds (ps := ["places"]) fun _ _ _ _ _ _ us hl => match us, hl with | [_], _ => rfl
  have F_have_double_ratio := fun_mk (st := s_have_double_ratio) l_have_double_ratio c_have_double_ratio k_have_double_ratio
  have b_have_double_ratio := F_have_double_ratio.binds (ps := ["places"]) fun _ _ _ _ _ _ us hl => match us, hl with | [_], _ => rfl
  have F_told := fun_mk (st := s_told) l_told c_told k_told
  have b_told := F_told.binds (ps := ["point", "refusal"]) fun _ _ _ _ _ _ us hl => match us, hl with | [_, _], _ => rfl
  have F_answer_start := fun_mk (st := s_answer_start) l_answer_start c_answer_start k_answer_start
  have b_answer_start := F_answer_start.binds (ps := ["session", "numbers"]) fun _ _ _ _ _ _ us hl => match us, hl with | [_, _], _ => rfl
  have F_answer_mark := fun_mk (st := s_answer_mark) l_answer_mark c_answer_mark k_answer_mark
  have b_answer_mark := F_answer_mark.binds (ps := ["session", "numbers"]) fun _ _ _ _ _ _ us hl => match us, hl with | [_, _], _ => rfl
  have F_answer_unmark := fun_mk (st := s_answer_unmark) l_answer_unmark c_answer_unmark k_answer_unmark
  have b_answer_unmark := F_answer_unmark.binds (ps := ["session", "numbers"]) fun _ _ _ _ _ _ us hl => match us, hl with | [_, _], _ => rfl
  have F_answer_ready := fun_mk (st := s_answer_ready) l_answer_ready c_answer_ready k_answer_ready
  have b_answer_ready := F_answer_ready.binds (ps := ["session", "numbers"]) fun _ _ _ _ _ _ us hl => match us, hl with | [_, _], _ => rfl
  have F_answer_truth := fun_mk (st := s_answer_truth) l_answer_truth c_answer_truth k_answer_truth
  have b_answer_truth := F_answer_truth.binds (ps := ["session", "numbers"]) fun _ _ _ _ _ _ us hl => match us, hl with | [_, _], _ => rfl
  have F_answer_seen := fun_mk (st := s_answer_seen) l_answer_seen c_answer_seen k_answer_seen
  have b_answer_seen := F_answer_seen.binds (ps := ["session", "numbers"]) fun _ _ _ _ _ _ us hl => match us, hl with | [_, _], _ => rfl
  have F_answer_off := fun_mk (st := s_answer_off) l_answer_off c_answer_off k_answer_off
  have b_answer_off := F_answer_off.binds (ps := ["session", "numbers"]) fun _ _ _ _ _ _ us hl => match us, hl with | [_, _], _ => rfl
  have F_answer_fits := fun_mk (st := s_answer_fits) l_answer_fits c_answer_fits k_answer_fits
  have b_answer_fits := F_answer_fits.binds (ps := ["session", "numbers"]) fun _ _ _ _ _ _ us hl => match us, hl with | [_, _], _ => rfl
  have F_answer_end := fun_mk (st := s_answer_end) l_answer_end c_answer_end k_answer_end
  have b_answer_end := F_answer_end.binds (ps := ["session", "numbers"]) fun _ _ _ _ _ _ us hl => match us, hl with | [_, _], _ => rfl
  have F_answer_origin := fun_mk (st := s_answer_origin) l_answer_origin c_answer_origin k_answer_origin
  have b_answer_origin := F_answer_origin.binds (ps := ["session", "numbers"]) fun _ _ _ _ _ _ us hl => match us, hl with | [_, _], _ => rfl
  have F_refusal_of_couple := fun_mk (st := s_refusal_of_couple) l_refusal_of_couple c_refusal_of_couple k_refusal_of_couple
  have b_refusal_of_couple := F_refusal_of_couple.binds (ps := ["session", "places"]) fun _ _ _ _ _ _ us hl => match us, hl with | [_, _], _ => rfl
  have F_answer_between := fun_mk (st := s_answer_between) l_answer_between c_answer_between k_answer_between
  have b_answer_between := F_answer_between.binds (ps := ["session", "numbers"]) fun _ _ _ _ _ _ us hl => match us, hl with | [_, _], _ => rfl
  have F_answer_middle := fun_mk (st := s_answer_middle) l_answer_middle c_answer_middle k_answer_middle
  have b_answer_middle := F_answer_middle.binds (ps := ["session", "numbers"]) fun _ _ _ _ _ _ us hl => match us, hl with | [_, _], _ => rfl
  have F_answer_double := fun_mk (st := s_answer_double) l_answer_double c_answer_double k_answer_double
  have b_answer_double := F_answer_double.binds (ps := ["session", "numbers"]) fun _ _ _ _ _ _ us hl => match us, hl with | [_, _], _ => rfl
  have F_answer_six := fun_mk (st := s_answer_six) l_answer_six c_answer_six k_answer_six
  have b_answer_six := F_answer_six.binds (ps := ["session", "numbers"]) fun _ _ _ _ _ _ us hl => match us, hl with | [_, _], _ => rfl
  have F_answer_fourth := fun_mk (st := s_answer_fourth) l_answer_fourth c_answer_fourth k_answer_fourth
  have b_answer_fourth := F_answer_fourth.binds (ps := ["session", "numbers"]) fun _ _ _ _ _ _ us hl => match us, hl with | [_, _], _ => rfl
  have F_answer_even := fun_mk (st := s_answer_even) l_answer_even c_answer_even k_answer_even
  have b_answer_even := F_answer_even.binds (ps := ["session", "numbers"]) fun _ _ _ _ _ _ us hl => match us, hl with | [_, _], _ => rfl
  have F_answer_keeps := fun_mk (st := s_answer_keeps) l_answer_keeps c_answer_keeps k_answer_keeps
  have b_answer_keeps := F_answer_keeps.binds (ps := ["session", "numbers"]) fun _ _ _ _ _ _ us hl => match us, hl with | [_, _], _ => rfl
  have F_answer_state := fun_mk (st := s_answer_state) l_answer_state c_answer_state k_answer_state
  have b_answer_state := F_answer_state.binds (ps := ["session", "numbers"]) fun _ _ _ _ _ _ us hl => match us, hl with | [_, _], _ => rfl
  have F_answer := fun_mk (st := s_answer) l_answer c_answer k_answer
  have b_answer := F_answer.binds (ps := ["session", "call", "numbers"]) fun _ _ _ _ _ _ us hl => match us, hl with | [_, _, _], _ => rfl
  have F_answers := fun_mk (st := s_answers) l_answers c_answers k_answers
  have b_answers := F_answers.binds (ps := ["calls"]) fun _ _ _ _ _ _ us hl => match us, hl with | [_], _ => rfl
  have DC : KDI K dC [(0, f_answer_start), (1, f_answer_mark), (2, f_answer_unmark), (3, f_answer_ready), (4, f_answer_truth), (5, f_answer_seen), (6, f_answer_off), (7, f_answer_fits), (8, f_answer_end), (9, f_answer_origin), (10, f_answer_between), (11, f_answer_middle), (12, f_answer_double), (13, f_answer_six), (14, f_answer_fourth), (15, f_answer_even), (16, f_answer_keeps), (17, f_answer_state)] := ⟨esD, nD, lD, eD, sD⟩
  have ST : ∀ H, SqT K H tN (nums.map V.int) := fun H => Or.inr ⟨_, itT, nT, lT, rfl, rfl, zT, vT⟩
  refine ⟨PySem.W.fnOf "answers" "answers" (defArgs s_answers) (defBody s_answers) (defScope s_answers) .none kV_answers dc_answers pm_answers an_answers cd_answers ct_answers, fun s us hu => match us, hu with | [_], _ => .of_eq rfl, fun base _ _ => ?_⟩
  have h_Session_start : Md P w K mg base ((tab C0 C1 C2 C3) 3) "start" 1 ["self"] (spStart (tab C0 C1 C2 C3)) f_Session_start _ := ⟨ok_Session_start F_Session_start XT, ⟨a_Session_start, i_Session_start, k_Session_start⟩, b_Session_start⟩
  have h_answer_start : Fd P w K mg base "answer_start" 2 ["session", "numbers"] (spC (tab C0 C1 C2 C3) 0) f_answer_start _ := ⟨ok_answer_start F_answer_start XT h_Session_start, PySem.W.mg_of X G a_answer_start, k_answer_start, b_answer_start⟩
  have h_in_range : Fd P w K mg base "in_range" 1 ["places"] (spR (tab C0 C1 C2 C3) false R_in_range) f_in_range _ := ⟨ok_in_range F_in_range XT, PySem.W.mg_of X G a_in_range, k_in_range, b_in_range⟩
  have h_Mark_init : Mkd P w K mg base "Mark" ((tab C0 C1 C2 C3) 2) 1 ["self", "t", "m"] (spI (tab C0 C1 C2 C3) 2 R_Mark_init) f_Mark_init _ := ⟨ok_Mark_init F_Mark_init XT, ⟨mk_Mark, a_Mark_init, i_Mark_init, kc_Mark⟩, PySem.W.mg_of X G a_Mark, b_Mark_init⟩
  have h_answer_mark : Fd P w K mg base "answer_mark" 3 ["session", "numbers"] (spC (tab C0 C1 C2 C3) 1) f_answer_mark _ := ⟨ok_answer_mark F_answer_mark XT h_in_range h_Mark_init, PySem.W.mg_of X G a_answer_mark, k_answer_mark, b_answer_mark⟩
  have h_Session_has_mark : Md P w K mg base ((tab C0 C1 C2 C3) 3) "has_mark" 1 ["self", "i"] (spR (tab C0 C1 C2 C3) false R_Session_has_mark) f_Session_has_mark _ := ⟨ok_Session_has_mark F_Session_has_mark XT, ⟨a_Session_has_mark, i_Session_has_mark, k_Session_has_mark⟩, b_Session_has_mark⟩
  have h_answer_unmark : Fd P w K mg base "answer_unmark" 2 ["session", "numbers"] (spC (tab C0 C1 C2 C3) 2) f_answer_unmark _ := ⟨ok_answer_unmark F_answer_unmark XT h_Session_has_mark, PySem.W.mg_of X G a_answer_unmark, k_answer_unmark, b_answer_unmark⟩
  have h_makes_a_view : Fd P w K mg base "makes_a_view" 1 ["places"] (spR (tab C0 C1 C2 C3) false R_makes_a_view) f_makes_a_view _ := ⟨ok_makes_a_view F_makes_a_view XT, PySem.W.mg_of X G a_makes_a_view, k_makes_a_view, b_makes_a_view⟩
  have h_Session_first_true : Md P w K mg base ((tab C0 C1 C2 C3) 3) "first_true" 1 ["self"] (spR (tab C0 C1 C2 C3) false R_Session_first_true) f_Session_first_true _ := ⟨ok_Session_first_true F_Session_first_true XT, ⟨a_Session_first_true, i_Session_first_true, k_Session_first_true⟩, b_Session_first_true⟩
  have h_Session_first_seen : Md P w K mg base ((tab C0 C1 C2 C3) 3) "first_seen" 1 ["self"] (spR (tab C0 C1 C2 C3) false R_Session_first_seen) f_Session_first_seen _ := ⟨ok_Session_first_seen F_Session_first_seen XT, ⟨a_Session_first_seen, i_Session_first_seen, k_Session_first_seen⟩, b_Session_first_seen⟩
  have h_Session_is_ready : Md P w K mg base ((tab C0 C1 C2 C3) 3) "is_ready" 2 ["self"] (spR (tab C0 C1 C2 C3) false R_Session_is_ready) f_Session_is_ready _ := ⟨ok_Session_is_ready F_Session_is_ready XT h_makes_a_view h_Session_first_true h_Session_first_seen, ⟨a_Session_is_ready, i_Session_is_ready, k_Session_is_ready⟩, b_Session_is_ready⟩
  have h_answer_ready : Fd P w K mg base "answer_ready" 3 ["session", "numbers"] (spR (tab C0 C1 C2 C3) true R_answer_ready) f_answer_ready _ := ⟨ok_answer_ready F_answer_ready XT h_Session_is_ready, PySem.W.mg_of X G a_answer_ready, k_answer_ready, b_answer_ready⟩
  have h_Point_is_beyond_all : Md P w K mg base ((tab C0 C1 C2 C3) 0) "is_beyond_all" 1 ["self"] (spR (tab C0 C1 C2 C3) false R_Point_is_beyond_all) f_Point_is_beyond_all _ := ⟨ok_Point_is_beyond_all F_Point_is_beyond_all XT, ⟨a_Point_is_beyond_all, i_Point_is_beyond_all, k_Point_is_beyond_all⟩, b_Point_is_beyond_all⟩
  have h_common_divisor : Fd P w K mg base "common_divisor" 1 ["first", "second"] (spR (tab C0 C1 C2 C3) false R_common_divisor) f_common_divisor _ := ⟨ok_common_divisor F_common_divisor XT, PySem.W.mg_of X G a_common_divisor, k_common_divisor, b_common_divisor⟩
  have h_fraction : Fd P w K mg base "fraction" 2 ["point"] (spR (tab C0 C1 C2 C3) true R_fraction) f_fraction _ := ⟨ok_fraction F_fraction XT h_common_divisor, PySem.W.mg_of X G a_fraction, k_fraction, b_fraction⟩
  have h_told : Fd P w K mg base "told" 3 ["point", "refusal"] (spR (tab C0 C1 C2 C3) true R_told) f_told _ := ⟨ok_told F_told XT h_Point_is_beyond_all h_fraction, PySem.W.mg_of X G a_told, k_told, b_told⟩
  have h_View_init : Mkd P w K mg base "View" ((tab C0 C1 C2 C3) 1) 1 ["self", "a", "b", "c", "d"] (spI (tab C0 C1 C2 C3) 1 R_View_init) f_View_init _ := ⟨ok_View_init F_View_init XT, ⟨mk_View, a_View_init, i_View_init, kc_View⟩, PySem.W.mg_of X G a_View, b_View_init⟩
  have h_View_turned_round : Md P w K mg base ((tab C0 C1 C2 C3) 1) "turned_round" 3 ["self"] (spR (tab C0 C1 C2 C3) false R_View_turned_round) f_View_turned_round _ := ⟨ok_View_turned_round F_View_turned_round XT h_View_init, ⟨a_View_turned_round, i_View_turned_round, k_View_turned_round⟩, b_View_turned_round⟩
  have h_View_after : Md P w K mg base ((tab C0 C1 C2 C3) 1) "after" 3 ["self", "inner"] (spR (tab C0 C1 C2 C3) false R_View_after) f_View_after _ := ⟨ok_View_after F_View_after XT h_View_init, ⟨a_View_after, i_View_after, k_View_after⟩, b_View_after⟩
  have h_view_to_standard : Fd P w K mg base "view_to_standard" 3 ["places"] (spR (tab C0 C1 C2 C3) false R_view_to_standard) f_view_to_standard _ := ⟨ok_view_to_standard F_view_to_standard XT h_View_init, PySem.W.mg_of X G a_view_to_standard, k_view_to_standard, b_view_to_standard⟩
  have h_view_of_three : Fd P w K mg base "view_of_three" 4 ["sources", "targets"] (spR (tab C0 C1 C2 C3) false R_view_of_three) f_view_of_three _ := ⟨ok_view_of_three F_view_of_three XT h_View_after h_View_turned_round h_view_to_standard, PySem.W.mg_of X G a_view_of_three, k_view_of_three, b_view_of_three⟩
  have h_Session_view : Md P w K mg base ((tab C0 C1 C2 C3) 3) "view" 5 ["self"] (spR (tab C0 C1 C2 C3) false R_Session_view) f_Session_view _ := ⟨ok_Session_view F_Session_view XT h_view_of_three h_Session_first_seen h_Session_first_true, ⟨a_Session_view, i_Session_view, k_Session_view⟩, b_Session_view⟩
  have h_Point_init : Mkd P w K mg base "Point" ((tab C0 C1 C2 C3) 0) 1 ["self", "above", "below"] (spI (tab C0 C1 C2 C3) 0 R_Point_init) f_Point_init _ := ⟨ok_Point_init F_Point_init XT, ⟨mk_Point, a_Point_init, i_Point_init, kc_Point⟩, PySem.W.mg_of X G a_Point, b_Point_init⟩
  have h_View_image : Md P w K mg base ((tab C0 C1 C2 C3) 1) "image" 3 ["self", "point"] (spR (tab C0 C1 C2 C3) false R_View_image) f_View_image _ := ⟨ok_View_image F_View_image XT h_Point_init, ⟨a_View_image, i_View_image, k_View_image⟩, b_View_image⟩
  have h_point_at : Fd P w K mg base "point_at" 3 ["place"] (spR (tab C0 C1 C2 C3) false R_point_at) f_point_at _ := ⟨ok_point_at F_point_at XT h_Point_init, PySem.W.mg_of X G a_point_at, k_point_at, b_point_at⟩
  have h_Session_true_points : Md P w K mg base ((tab C0 C1 C2 C3) 3) "true_points" 6 ["self", "places"] (spR (tab C0 C1 C2 C3) false R_Session_true_points) f_Session_true_points _ := ⟨ok_Session_true_points F_Session_true_points XT h_View_turned_round h_Session_view h_View_image h_point_at, ⟨a_Session_true_points, i_Session_true_points, k_Session_true_points⟩, b_Session_true_points⟩
  have h_answer_truth : Fd P w K mg base "answer_truth" 7 ["session", "numbers"] (spR (tab C0 C1 C2 C3) true R_answer_truth) f_answer_truth _ := ⟨ok_answer_truth F_answer_truth XT h_in_range h_Session_is_ready h_told h_Session_true_points, PySem.W.mg_of X G a_answer_truth, k_answer_truth, b_answer_truth⟩
  have h_answer_seen : Fd P w K mg base "answer_seen" 6 ["session", "numbers"] (spR (tab C0 C1 C2 C3) true R_answer_seen) f_answer_seen _ := ⟨ok_answer_seen F_answer_seen XT h_in_range h_Session_is_ready h_told h_View_image h_Session_view h_point_at, PySem.W.mg_of X G a_answer_seen, k_answer_seen, b_answer_seen⟩
  have h_Point_moved_back : Md P w K mg base ((tab C0 C1 C2 C3) 0) "moved_back" 3 ["self", "distance"] (spR (tab C0 C1 C2 C3) false R_Point_moved_back) f_Point_moved_back _ := ⟨ok_Point_moved_back F_Point_moved_back XT h_Point_init, ⟨a_Point_moved_back, i_Point_moved_back, k_Point_moved_back⟩, b_Point_moved_back⟩
  have h_answer_off : Fd P w K mg base "answer_off" 6 ["session", "numbers"] (spR (tab C0 C1 C2 C3) true R_answer_off) f_answer_off _ := ⟨ok_answer_off F_answer_off XT h_Session_has_mark h_Session_is_ready h_told h_Point_moved_back h_View_image h_Session_view h_point_at, PySem.W.mg_of X G a_answer_off, k_answer_off, b_answer_off⟩
  have h_Point_is_at : Md P w K mg base ((tab C0 C1 C2 C3) 0) "is_at" 1 ["self", "place"] (spR (tab C0 C1 C2 C3) false R_Point_is_at) f_Point_is_at _ := ⟨ok_Point_is_at F_Point_is_at XT, ⟨a_Point_is_at, i_Point_is_at, k_Point_is_at⟩, b_Point_is_at⟩
  have h_answer_fits : Fd P w K mg base "answer_fits" 6 ["session", "numbers"] (spR (tab C0 C1 C2 C3) true R_answer_fits) f_answer_fits _ := ⟨ok_answer_fits F_answer_fits XT h_Session_is_ready h_Session_view h_Point_is_at h_View_image h_point_at, PySem.W.mg_of X G a_answer_fits, k_answer_fits, b_answer_fits⟩
  have h_point_beyond_all : Fd P w K mg base "point_beyond_all" 3 [] (spR (tab C0 C1 C2 C3) false R_point_beyond_all) f_point_beyond_all _ := ⟨ok_point_beyond_all F_point_beyond_all XT h_Point_init, PySem.W.mg_of X G a_point_beyond_all, k_point_beyond_all, b_point_beyond_all⟩
  have h_answer_end : Fd P w K mg base "answer_end" 6 ["session", "numbers"] (spR (tab C0 C1 C2 C3) true R_answer_end) f_answer_end _ := ⟨ok_answer_end F_answer_end XT h_Session_is_ready h_told h_View_image h_Session_view h_point_beyond_all, PySem.W.mg_of X G a_answer_end, k_answer_end, b_answer_end⟩
  have h_answer_origin : Fd P w K mg base "answer_origin" 6 ["session", "numbers"] (spR (tab C0 C1 C2 C3) true R_answer_origin) f_answer_origin _ := ⟨ok_answer_origin F_answer_origin XT h_Session_is_ready h_told h_View_image h_View_turned_round h_Session_view h_point_beyond_all, PySem.W.mg_of X G a_answer_origin, k_answer_origin, b_answer_origin⟩
  have h_refusal_of_couple : Fd P w K mg base "refusal_of_couple" 7 ["session", "places"] (spR (tab C0 C1 C2 C3) false R_refusal_of_couple) f_refusal_of_couple _ := ⟨ok_refusal_of_couple F_refusal_of_couple XT h_in_range h_Session_is_ready h_Session_true_points h_Point_is_beyond_all, PySem.W.mg_of X G a_refusal_of_couple, k_refusal_of_couple, b_refusal_of_couple⟩
  have h_excess : Fd P w K mg base "excess" 1 ["more", "less"] (spR (tab C0 C1 C2 C3) false R_excess) f_excess _ := ⟨ok_excess F_excess XT, PySem.W.mg_of X G a_excess, k_excess, b_excess⟩
  have h_difference : Fd P w K mg base "difference" 3 ["more", "less"] (spR (tab C0 C1 C2 C3) false R_difference) f_difference _ := ⟨ok_difference F_difference XT h_Point_init h_excess, PySem.W.mg_of X G a_difference, k_difference, b_difference⟩
  have h_answer_between : Fd P w K mg base "answer_between" 8 ["session", "numbers"] (spR (tab C0 C1 C2 C3) true R_answer_between) f_answer_between _ := ⟨ok_answer_between F_answer_between XT h_refusal_of_couple h_Session_true_points h_fraction h_difference, PySem.W.mg_of X G a_answer_between, k_answer_between, b_answer_between⟩
  have h_middle_point : Fd P w K mg base "middle_point" 3 ["first", "second"] (spR (tab C0 C1 C2 C3) false R_middle_point) f_middle_point _ := ⟨ok_middle_point F_middle_point XT h_Point_init, PySem.W.mg_of X G a_middle_point, k_middle_point, b_middle_point⟩
  have h_answer_middle : Fd P w K mg base "answer_middle" 8 ["session", "numbers"] (spR (tab C0 C1 C2 C3) true R_answer_middle) f_answer_middle _ := ⟨ok_answer_middle F_answer_middle XT h_refusal_of_couple h_Session_true_points h_told h_View_image h_Session_view h_middle_point, PySem.W.mg_of X G a_answer_middle, k_answer_middle, b_answer_middle⟩
  have h_most_alike : Fd P w K mg base "most_alike" 1 ["places"] (spR (tab C0 C1 C2 C3) false R_most_alike) f_most_alike _ := ⟨ok_most_alike F_most_alike XT, PySem.W.mg_of X G a_most_alike, k_most_alike, b_most_alike⟩
  have h_have_double_ratio : Fd P w K mg base "have_double_ratio" 2 ["places"] (spR (tab C0 C1 C2 C3) false R_have_double_ratio) f_have_double_ratio _ := ⟨ok_have_double_ratio F_have_double_ratio XT h_most_alike h_in_range, PySem.W.mg_of X G a_have_double_ratio, k_have_double_ratio, b_have_double_ratio⟩
  have h_double_ratio : Fd P w K mg base "double_ratio" 3 ["four"] (spR (tab C0 C1 C2 C3) false R_double_ratio) f_double_ratio _ := ⟨ok_double_ratio F_double_ratio XT h_Point_init h_excess, PySem.W.mg_of X G a_double_ratio, k_double_ratio, b_double_ratio⟩
  have h_answer_double : Fd P w K mg base "answer_double" 4 ["session", "numbers"] (spR (tab C0 C1 C2 C3) true R_answer_double) f_answer_double _ := ⟨ok_answer_double F_answer_double XT h_have_double_ratio h_told h_double_ratio h_point_at, PySem.W.mg_of X G a_answer_double, k_answer_double, b_answer_double⟩
  have h_in_order : Fd P w K mg base "in_order" 1 ["four", "order"] (spR (tab C0 C1 C2 C3) false (R_in_order K)) f_in_order _ := ⟨ok_in_order F_in_order XT, PySem.W.mg_of X G a_in_order, k_in_order, b_in_order⟩
  have h_six_ratios : Fd P w K mg base "six_ratios" 4 ["four"] (spR (tab C0 C1 C2 C3) true R_six_ratios) f_six_ratios _ := ⟨ok_six_ratios F_six_ratios XT h_double_ratio h_in_order, PySem.W.mg_of X G a_six_ratios, k_six_ratios, b_six_ratios⟩
  have h_answer_six : Fd P w K mg base "answer_six" 5 ["session", "numbers"] (spR (tab C0 C1 C2 C3) true R_answer_six) f_answer_six _ := ⟨ok_answer_six F_answer_six XT h_in_range h_most_alike h_six_ratios h_point_at h_fraction, PySem.W.mg_of X G a_answer_six, k_answer_six, b_answer_six⟩
  have h_fourth_point : Fd P w K mg base "fourth_point" 3 ["three", "ratio"] (spR (tab C0 C1 C2 C3) false R_fourth_point) f_fourth_point _ := ⟨ok_fourth_point F_fourth_point XT h_Point_init, PySem.W.mg_of X G a_fourth_point, k_fourth_point, b_fourth_point⟩
  have h_answer_fourth : Fd P w K mg base "answer_fourth" 4 ["session", "numbers"] (spR (tab C0 C1 C2 C3) true R_answer_fourth) f_answer_fourth _ := ⟨ok_answer_fourth F_answer_fourth XT h_in_range h_most_alike h_told h_fourth_point h_Point_init, PySem.W.mg_of X G a_answer_fourth, k_answer_fourth, b_answer_fourth⟩
  have h_answer_even : Fd P w K mg base "answer_even" 4 ["session", "numbers"] (spR (tab C0 C1 C2 C3) true R_answer_even) f_answer_even _ := ⟨ok_answer_even F_answer_even XT h_in_range h_most_alike h_told h_fourth_point h_point_at, PySem.W.mg_of X G a_answer_even, k_answer_even, b_answer_even⟩
  have h_answer_keeps : Fd P w K mg base "answer_keeps" 7 ["session", "numbers"] (spR (tab C0 C1 C2 C3) true R_answer_keeps) f_answer_keeps _ := ⟨ok_answer_keeps F_answer_keeps XT h_have_double_ratio h_Session_is_ready h_told h_double_ratio h_Session_true_points, PySem.W.mg_of X G a_answer_keeps, k_answer_keeps, b_answer_keeps⟩
  have h_answer_state : Fd P w K mg base "answer_state" 1 ["session", "numbers"] (spR (tab C0 C1 C2 C3) true R_answer_state) f_answer_state _ := ⟨ok_answer_state F_answer_state XT, PySem.W.mg_of X G a_answer_state, k_answer_state, b_answer_state⟩
  have h_Session_init : Mkd P w K mg base "Session" ((tab C0 C1 C2 C3) 3) 1 ["self"] (spI (tab C0 C1 C2 C3) 3 R_Session_init) f_Session_init _ := ⟨ok_Session_init F_Session_init XT, ⟨mk_Session, a_Session_init, i_Session_init, kc_Session⟩, PySem.W.mg_of X G a_Session, b_Session_init⟩
  have A : ∀ c f, List.lookup c [(0, f_answer_start), (1, f_answer_mark), (2, f_answer_unmark), (3, f_answer_ready), (4, f_answer_truth), (5, f_answer_seen), (6, f_answer_off), (7, f_answer_fits), (8, f_answer_end), (9, f_answer_origin), (10, f_answer_between), (11, f_answer_middle), (12, f_answer_double), (13, f_answer_six), (14, f_answer_fourth), (15, f_answer_even), (16, f_answer_keeps), (17, f_answer_state)] = some f → Held P w K mg base 8 f (spC (tab C0 C1 C2 C3) c) := by
    intro c f hc
    have hm := lookup_mem hc
    simp only [List.mem_cons, List.not_mem_nil, or_false, Prod.mk.injEq] at hm
    rcases hm with ⟨rfl, rfl⟩ | ⟨rfl, rfl⟩ | ⟨rfl, rfl⟩ | ⟨rfl, rfl⟩ | ⟨rfl, rfl⟩ | ⟨rfl, rfl⟩ | ⟨rfl, rfl⟩ | ⟨rfl, rfl⟩ | ⟨rfl, rfl⟩ | ⟨rfl, rfl⟩ | ⟨rfl, rfl⟩ | ⟨rfl, rfl⟩ | ⟨rfl, rfl⟩ | ⟨rfl, rfl⟩ | ⟨rfl, rfl⟩ | ⟨rfl, rfl⟩ | ⟨rfl, rfl⟩ | ⟨rfl, rfl⟩
    · exact ⟨_, _, (h_answer_start.G).mono (by decide), h_answer_start.kp, h_answer_start.b⟩
    · exact ⟨_, _, (h_answer_mark.G).mono (by decide), h_answer_mark.kp, h_answer_mark.b⟩
    · exact ⟨_, _, (h_answer_unmark.G).mono (by decide), h_answer_unmark.kp, h_answer_unmark.b⟩
    · exact ⟨_, _, (pc_answer_ready h_answer_ready.G).mono (by decide), h_answer_ready.kp, h_answer_ready.b⟩
    · exact ⟨_, _, (pc_answer_truth h_answer_truth.G).mono (by decide), h_answer_truth.kp, h_answer_truth.b⟩
    · exact ⟨_, _, (pc_answer_seen h_answer_seen.G).mono (by decide), h_answer_seen.kp, h_answer_seen.b⟩
    · exact ⟨_, _, (pc_answer_off h_answer_off.G).mono (by decide), h_answer_off.kp, h_answer_off.b⟩
    · exact ⟨_, _, (pc_answer_fits h_answer_fits.G).mono (by decide), h_answer_fits.kp, h_answer_fits.b⟩
    · exact ⟨_, _, (pc_answer_end h_answer_end.G).mono (by decide), h_answer_end.kp, h_answer_end.b⟩
    · exact ⟨_, _, (pc_answer_origin h_answer_origin.G).mono (by decide), h_answer_origin.kp, h_answer_origin.b⟩
    · exact ⟨_, _, (pc_answer_between h_answer_between.G).mono (by decide), h_answer_between.kp, h_answer_between.b⟩
    · exact ⟨_, _, (pc_answer_middle h_answer_middle.G).mono (by decide), h_answer_middle.kp, h_answer_middle.b⟩
    · exact ⟨_, _, (pc_answer_double h_answer_double.G).mono (by decide), h_answer_double.kp, h_answer_double.b⟩
    · exact ⟨_, _, (pc_answer_six h_answer_six.G).mono (by decide), h_answer_six.kp, h_answer_six.b⟩
    · exact ⟨_, _, (pc_answer_fourth h_answer_fourth.G).mono (by decide), h_answer_fourth.kp, h_answer_fourth.b⟩
    · exact ⟨_, _, (pc_answer_even h_answer_even.G).mono (by decide), h_answer_even.kp, h_answer_even.b⟩
    · exact ⟨_, _, (pc_answer_keeps h_answer_keeps.G).mono (by decide), h_answer_keeps.kp, h_answer_keeps.b⟩
    · exact ⟨_, _, (pc_answer_state h_answer_state.G).mono (by decide), h_answer_state.kp, h_answer_state.b⟩
  have hA : Fd P w K mg base "answer" 9 ["session", "call", "numbers"] (spA (tab C0 C1 C2 C3) Fine) f_answer _ := ⟨ok_answer F_answer XT (PySem.W.mg_of X G gD) DC fine_has A, PySem.W.mg_of X G a_answer, k_answer, b_answer⟩
  exact ok_answers (by decide) F_answers XT (PySem.W.mg_of X G gT) ST h_Session_init hA
end WM
open PySem PySem.W PyProof.Rows
set_option maxRecDepth 100000 in
set_option maxHeartbeats 0 in
theorem PySem.Challenge.cw_wallmarks_s01_answers_holds : PySem.Challenge.rw_wallmarks_s01_answers.Holds := by
  w_on; k_headS; (case hw => exact ⟨[.list [.int 0]], by decide +kernel, by decide +kernel⟩)
  k_fillS
  refine L2.walk_specK (r := PySem.Challenge.rw_wallmarks_s01_answers) (k := 10) (CX := L2.CX0) (ps := ["calls"]) (sp := WM.spAns WM.Fine) (by decide +kernel) rfl rfl ⟨rfl, by decide, by decide⟩ (fun w h Y => PySem.W.kIn_of Y) ?F ?S (fun _ _ _ _ z => z)
  case F =>
    intro w mg fa h Y KX G hmg
    refine' WM.all_mk KX G hmg ?a_Point ?a_View ?a_Mark ?a_Session ?a_Point_init ?i_Point_init ?l_Point_init ?c_Point_init ?k_Point_init ?a_Point_is_beyond_all ?i_Point_is_beyond_all ?l_Point_is_beyond_all ?c_Point_is_beyond_all ?k_Point_is_beyond_all ?a_Point_is_at ?i_Point_is_at ?l_Point_is_at ?c_Point_is_at ?k_Point_is_at ?a_Point_moved_back ?i_Point_moved_back ?l_Point_moved_back ?c_Point_moved_back ?k_Point_moved_back ?a_point_at ?l_point_at ?c_point_at ?k_point_at ?a_point_beyond_all ?l_point_beyond_all ?c_point_beyond_all ?k_point_beyond_all ?a_excess ?l_excess ?c_excess ?k_excess ?a_difference ?l_difference ?c_difference ?k_difference ?a_middle_point ?l_middle_point ?c_middle_point ?k_middle_point ?a_common_divisor ?l_common_divisor ?c_common_divisor ?k_common_divisor ?a_fraction ?l_fraction ?c_fraction ?k_fraction ?a_double_ratio ?l_double_ratio ?c_double_ratio ?k_double_ratio ?a_in_order ?l_in_order ?c_in_order ?k_in_order ?a_six_ratios ?l_six_ratios ?c_six_ratios ?k_six_ratios ?a_fourth_point ?l_fourth_point ?c_fourth_point ?k_fourth_point ?a_View_init ?i_View_init ?l_View_init ?c_View_init ?k_View_init ?a_View_image ?i_View_image ?l_View_image ?c_View_image ?k_View_image ?a_View_turned_round ?i_View_turned_round ?l_View_turned_round ?c_View_turned_round ?k_View_turned_round ?a_View_after ?i_View_after ?l_View_after ?c_View_after ?k_View_after ?a_view_to_standard ?l_view_to_standard ?c_view_to_standard ?k_view_to_standard ?a_view_of_three ?l_view_of_three ?c_view_of_three ?k_view_of_three ?a_Mark_init ?i_Mark_init ?l_Mark_init ?c_Mark_init ?k_Mark_init ?a_Session_init ?i_Session_init ?l_Session_init ?c_Session_init ?k_Session_init ?a_Session_start ?i_Session_start ?l_Session_start ?c_Session_start ?k_Session_start ?a_Session_has_mark ?i_Session_has_mark ?l_Session_has_mark ?c_Session_has_mark ?k_Session_has_mark ?a_Session_first_seen ?i_Session_first_seen ?l_Session_first_seen ?c_Session_first_seen ?k_Session_first_seen ?a_Session_first_true ?i_Session_first_true ?l_Session_first_true ?c_Session_first_true ?k_Session_first_true ?a_Session_is_ready ?i_Session_is_ready ?l_Session_is_ready ?c_Session_is_ready ?k_Session_is_ready ?a_Session_view ?i_Session_view ?l_Session_view ?c_Session_view ?k_Session_view ?a_Session_true_points ?i_Session_true_points ?l_Session_true_points ?c_Session_true_points ?k_Session_true_points ?a_makes_a_view ?l_makes_a_view ?c_makes_a_view ?k_makes_a_view ?a_in_range ?l_in_range ?c_in_range ?k_in_range ?a_most_alike ?l_most_alike ?c_most_alike ?k_most_alike ?a_have_double_ratio ?l_have_double_ratio ?c_have_double_ratio ?k_have_double_ratio ?a_told ?l_told ?c_told ?k_told ?a_answer_start ?l_answer_start ?c_answer_start ?k_answer_start ?a_answer_mark ?l_answer_mark ?c_answer_mark ?k_answer_mark ?a_answer_unmark ?l_answer_unmark ?c_answer_unmark ?k_answer_unmark ?a_answer_ready ?l_answer_ready ?c_answer_ready ?k_answer_ready ?a_answer_truth ?l_answer_truth ?c_answer_truth ?k_answer_truth ?a_answer_seen ?l_answer_seen ?c_answer_seen ?k_answer_seen ?a_answer_off ?l_answer_off ?c_answer_off ?k_answer_off ?a_answer_fits ?l_answer_fits ?c_answer_fits ?k_answer_fits ?a_answer_end ?l_answer_end ?c_answer_end ?k_answer_end ?a_answer_origin ?l_answer_origin ?c_answer_origin ?k_answer_origin ?a_refusal_of_couple ?l_refusal_of_couple ?c_refusal_of_couple ?k_refusal_of_couple ?a_answer_between ?l_answer_between ?c_answer_between ?k_answer_between ?a_answer_middle ?l_answer_middle ?c_answer_middle ?k_answer_middle ?a_answer_double ?l_answer_double ?c_answer_double ?k_answer_double ?a_answer_six ?l_answer_six ?c_answer_six ?k_answer_six ?a_answer_fourth ?l_answer_fourth ?c_answer_fourth ?k_answer_fourth ?a_answer_even ?l_answer_even ?c_answer_even ?k_answer_even ?a_answer_keeps ?l_answer_keeps ?c_answer_keeps ?k_answer_keeps ?a_answer_state ?l_answer_state ?c_answer_state ?k_answer_state ?a_answer ?l_answer ?c_answer ?k_answer ?a_answers ?l_answers ?c_answers ?k_answers ?pg_Point ?hd_Point ?po_Point ?sa_Point ?mk_Point ?kc_Point ?n_Point_above ?n_Point_below ?pg_View ?hd_View ?po_View ?sa_View ?mk_View ?kc_View ?n_View_a ?n_View_b ?n_View_c ?n_View_d ?pg_Mark ?hd_Mark ?po_Mark ?sa_Mark ?mk_Mark ?kc_Mark ?n_Mark_t ?n_Mark_m ?pg_Session ?hd_Session ?po_Session ?sa_Session ?mk_Session ?kc_Session ?n_Session_started ?n_Session_marks ?g_MARKS_OF_A_VIEW ?g_NO_SUCH_MARK ?g_BEYOND_ALL ?g_NOT_STARTED ?g_NOT_READY ?g_ALIKE ?g_OUT_OF_RANGE ?g_TOO_MANY_MARKS ?g_LEADS_BEYOND_ALL ?g_FARTHEST ?g_MOST_MARKS ?g_START ?g_EVENLY_PARTED ?b_len ?b_abs ?b_set ?b_all ?b_any ?b_max ?gD ?lD ?eD ?sD ?gT ?lT ?zT ?vT ?gO ?lO ?zO ?vO ?lO0 ?zO0 ?vO0 ?lO1 ?zO1 ?vO1 ?lO2 ?zO2 ?vO2 ?lO3 ?zO3 ?vO3 ?lO4 ?zO4 ?vO4 ?lO5 ?zO5 ?vO5
    (case a_Point => k_is)
    (case a_View => k_is)
    (case a_Mark => k_is)
    (case a_Session => k_is)
    (case a_Point_init => k_is)
    (case i_Point_init => k_is)
    (case l_Point_init => k_is)
    (case c_Point_init => k_is)
    (case k_Point_init => k_is)
    (case a_Point_is_beyond_all => k_is)
    (case i_Point_is_beyond_all => k_is)
    (case l_Point_is_beyond_all => k_is)
    (case c_Point_is_beyond_all => k_is)
    (case k_Point_is_beyond_all => k_is)
    (case a_Point_is_at => k_is)
    (case i_Point_is_at => k_is)
    (case l_Point_is_at => k_is)
    (case c_Point_is_at => k_is)
    (case k_Point_is_at => k_is)
    (case a_Point_moved_back => k_is)
    (case i_Point_moved_back => k_is)
    (case l_Point_moved_back => k_is)
    (case c_Point_moved_back => k_is)
    (case k_Point_moved_back => k_is)
    (case a_point_at => k_is)
    (case l_point_at => k_is)
    (case c_point_at => k_is)
    (case k_point_at => k_is)
    (case a_point_beyond_all => k_is)
    (case l_point_beyond_all => k_is)
    (case c_point_beyond_all => k_is)
    (case k_point_beyond_all => k_is)
    (case a_excess => k_is)
    (case l_excess => k_is)
    (case c_excess => k_is)
    (case k_excess => k_is)
    (case a_difference => k_is)
    (case l_difference => k_is)
    (case c_difference => k_is)
    (case k_difference => k_is)
    (case a_middle_point => k_is)
    (case l_middle_point => k_is)
    (case c_middle_point => k_is)
    (case k_middle_point => k_is)
    (case a_common_divisor => k_is)
    (case l_common_divisor => k_is)
    (case c_common_divisor => k_is)
    (case k_common_divisor => k_is)
    (case a_fraction => k_is)
    (case l_fraction => k_is)
    (case c_fraction => k_is)
    (case k_fraction => k_is)
    (case a_double_ratio => k_is)
    (case l_double_ratio => k_is)
    (case c_double_ratio => k_is)
    (case k_double_ratio => k_is)
    (case a_in_order => k_is)
    (case l_in_order => k_is)
    (case c_in_order => k_is)
    (case k_in_order => k_is)
    (case a_six_ratios => k_is)
    (case l_six_ratios => k_is)
    (case c_six_ratios => k_is)
    (case k_six_ratios => k_is)
    (case a_fourth_point => k_is)
    (case l_fourth_point => k_is)
    (case c_fourth_point => k_is)
    (case k_fourth_point => k_is)
    (case a_View_init => k_is)
    (case i_View_init => k_is)
    (case l_View_init => k_is)
    (case c_View_init => k_is)
    (case k_View_init => k_is)
    (case a_View_image => k_is)
    (case i_View_image => k_is)
    (case l_View_image => k_is)
    (case c_View_image => k_is)
    (case k_View_image => k_is)
    (case a_View_turned_round => k_is)
    (case i_View_turned_round => k_is)
    (case l_View_turned_round => k_is)
    (case c_View_turned_round => k_is)
    (case k_View_turned_round => k_is)
    (case a_View_after => k_is)
    (case i_View_after => k_is)
    (case l_View_after => k_is)
    (case c_View_after => k_is)
    (case k_View_after => k_is)
    (case a_view_to_standard => k_is)
    (case l_view_to_standard => k_is)
    (case c_view_to_standard => k_is)
    (case k_view_to_standard => k_is)
    (case a_view_of_three => k_is)
    (case l_view_of_three => k_is)
    (case c_view_of_three => k_is)
    (case k_view_of_three => k_is)
    (case a_Mark_init => k_is)
    (case i_Mark_init => k_is)
    (case l_Mark_init => k_is)
    (case c_Mark_init => k_is)
    (case k_Mark_init => k_is)
    (case a_Session_init => k_is)
    (case i_Session_init => k_is)
    (case l_Session_init => k_is)
    (case c_Session_init => k_is)
    (case k_Session_init => k_is)
    (case a_Session_start => k_is)
    (case i_Session_start => k_is)
    (case l_Session_start => k_is)
    (case c_Session_start => k_is)
    (case k_Session_start => k_is)
    (case a_Session_has_mark => k_is)
    (case i_Session_has_mark => k_is)
    (case l_Session_has_mark => k_is)
    (case c_Session_has_mark => k_is)
    (case k_Session_has_mark => k_is)
    (case a_Session_first_seen => k_is)
    (case i_Session_first_seen => k_is)
    (case l_Session_first_seen => k_is)
    (case c_Session_first_seen => k_is)
    (case k_Session_first_seen => k_is)
    (case a_Session_first_true => k_is)
    (case i_Session_first_true => k_is)
    (case l_Session_first_true => k_is)
    (case c_Session_first_true => k_is)
    (case k_Session_first_true => k_is)
    (case a_Session_is_ready => k_is)
    (case i_Session_is_ready => k_is)
    (case l_Session_is_ready => k_is)
    (case c_Session_is_ready => k_is)
    (case k_Session_is_ready => k_is)
    (case a_Session_view => k_is)
    (case i_Session_view => k_is)
    (case l_Session_view => k_is)
    (case c_Session_view => k_is)
    (case k_Session_view => k_is)
    (case a_Session_true_points => k_is)
    (case i_Session_true_points => k_is)
    (case l_Session_true_points => k_is)
    (case c_Session_true_points => k_is)
    (case k_Session_true_points => k_is)
    (case a_makes_a_view => k_is)
    (case l_makes_a_view => k_is)
    (case c_makes_a_view => k_is)
    (case k_makes_a_view => k_is)
    (case a_in_range => k_is)
    (case l_in_range => k_is)
    (case c_in_range => k_is)
    (case k_in_range => k_is)
    (case a_most_alike => k_is)
    (case l_most_alike => k_is)
    (case c_most_alike => k_is)
    (case k_most_alike => k_is)
    (case a_have_double_ratio => k_is)
    (case l_have_double_ratio => k_is)
    (case c_have_double_ratio => k_is)
    (case k_have_double_ratio => k_is)
    (case a_told => k_is)
    (case l_told => k_is)
    (case c_told => k_is)
    (case k_told => k_is)
    (case a_answer_start => k_is)
    (case l_answer_start => k_is)
    (case c_answer_start => k_is)
    (case k_answer_start => k_is)
    (case a_answer_mark => k_is)
    (case l_answer_mark => k_is)
    (case c_answer_mark => k_is)
    (case k_answer_mark => k_is)
    (case a_answer_unmark => k_is)
    (case l_answer_unmark => k_is)
    (case c_answer_unmark => k_is)
    (case k_answer_unmark => k_is)
    (case a_answer_ready => k_is)
    (case l_answer_ready => k_is)
    (case c_answer_ready => k_is)
    (case k_answer_ready => k_is)
    (case a_answer_truth => k_is)
    (case l_answer_truth => k_is)
    (case c_answer_truth => k_is)
    (case k_answer_truth => k_is)
    (case a_answer_seen => k_is)
    (case l_answer_seen => k_is)
    (case c_answer_seen => k_is)
    (case k_answer_seen => k_is)
    (case a_answer_off => k_is)
    (case l_answer_off => k_is)
    (case c_answer_off => k_is)
    (case k_answer_off => k_is)
    (case a_answer_fits => k_is)
    (case l_answer_fits => k_is)
    (case c_answer_fits => k_is)
    (case k_answer_fits => k_is)
    (case a_answer_end => k_is)
    (case l_answer_end => k_is)
    (case c_answer_end => k_is)
    (case k_answer_end => k_is)
    (case a_answer_origin => k_is)
    (case l_answer_origin => k_is)
    (case c_answer_origin => k_is)
    (case k_answer_origin => k_is)
    (case a_refusal_of_couple => k_is)
    (case l_refusal_of_couple => k_is)
    (case c_refusal_of_couple => k_is)
    (case k_refusal_of_couple => k_is)
    (case a_answer_between => k_is)
    (case l_answer_between => k_is)
    (case c_answer_between => k_is)
    (case k_answer_between => k_is)
    (case a_answer_middle => k_is)
    (case l_answer_middle => k_is)
    (case c_answer_middle => k_is)
    (case k_answer_middle => k_is)
    (case a_answer_double => k_is)
    (case l_answer_double => k_is)
    (case c_answer_double => k_is)
    (case k_answer_double => k_is)
    (case a_answer_six => k_is)
    (case l_answer_six => k_is)
    (case c_answer_six => k_is)
    (case k_answer_six => k_is)
    (case a_answer_fourth => k_is)
    (case l_answer_fourth => k_is)
    (case c_answer_fourth => k_is)
    (case k_answer_fourth => k_is)
    (case a_answer_even => k_is)
    (case l_answer_even => k_is)
    (case c_answer_even => k_is)
    (case k_answer_even => k_is)
    (case a_answer_keeps => k_is)
    (case l_answer_keeps => k_is)
    (case c_answer_keeps => k_is)
    (case k_answer_keeps => k_is)
    (case a_answer_state => k_is)
    (case l_answer_state => k_is)
    (case c_answer_state => k_is)
    (case k_answer_state => k_is)
    (case a_answer => k_is)
    (case l_answer => k_is)
    (case c_answer => k_is)
    (case k_answer => k_is)
    (case a_answers => k_is)
    (case l_answers => k_is)
    (case c_answers => k_is)
    (case k_answers => k_is)
    (case pg_Point => k_is)
    (case hd_Point => k_is)
    (case po_Point => k_is)
    (case sa_Point => k_is)
    (case mk_Point => k_is)
    (case kc_Point => k_is)
    (case n_Point_above => k_is)
    (case n_Point_below => k_is)
    (case pg_View => k_is)
    (case hd_View => k_is)
    (case po_View => k_is)
    (case sa_View => k_is)
    (case mk_View => k_is)
    (case kc_View => k_is)
    (case n_View_a => k_is)
    (case n_View_b => k_is)
    (case n_View_c => k_is)
    (case n_View_d => k_is)
    (case pg_Mark => k_is)
    (case hd_Mark => k_is)
    (case po_Mark => k_is)
    (case sa_Mark => k_is)
    (case mk_Mark => k_is)
    (case kc_Mark => k_is)
    (case n_Mark_t => k_is)
    (case n_Mark_m => k_is)
    (case pg_Session => k_is)
    (case hd_Session => k_is)
    (case po_Session => k_is)
    (case sa_Session => k_is)
    (case mk_Session => k_is)
    (case kc_Session => k_is)
    (case n_Session_started => k_is)
    (case n_Session_marks => k_is)
    (case g_MARKS_OF_A_VIEW => k_is)
    (case g_NO_SUCH_MARK => k_is)
    (case g_BEYOND_ALL => k_is)
    (case g_NOT_STARTED => k_is)
    (case g_NOT_READY => k_is)
    (case g_ALIKE => k_is)
    (case g_OUT_OF_RANGE => k_is)
    (case g_TOO_MANY_MARKS => k_is)
    (case g_LEADS_BEYOND_ALL => k_is)
    (case g_FARTHEST => k_is)
    (case g_MOST_MARKS => k_is)
    (case g_START => k_is)
    (case g_EVENLY_PARTED => k_is)
    (case b_len => k_is)
    (case b_abs => k_is)
    (case b_set => k_is)
    (case b_all => k_is)
    (case b_any => k_is)
    (case b_max => k_is)
    (case gD => k_is)
    (case lD => k_is)
    (case eD => exact .cons ⟨⟨_, rfl⟩, rfl, rfl⟩ (.cons ⟨⟨_, rfl⟩, rfl, rfl⟩ (.cons ⟨⟨_, rfl⟩, rfl, rfl⟩ (.cons ⟨⟨_, rfl⟩, rfl, rfl⟩ (.cons ⟨⟨_, rfl⟩, rfl, rfl⟩ (.cons ⟨⟨_, rfl⟩, rfl, rfl⟩ (.cons ⟨⟨_, rfl⟩, rfl, rfl⟩ (.cons ⟨⟨_, rfl⟩, rfl, rfl⟩ (.cons ⟨⟨_, rfl⟩, rfl, rfl⟩ (.cons ⟨⟨_, rfl⟩, rfl, rfl⟩ (.cons ⟨⟨_, rfl⟩, rfl, rfl⟩ (.cons ⟨⟨_, rfl⟩, rfl, rfl⟩ (.cons ⟨⟨_, rfl⟩, rfl, rfl⟩ (.cons ⟨⟨_, rfl⟩, rfl, rfl⟩ (.cons ⟨⟨_, rfl⟩, rfl, rfl⟩ (.cons ⟨⟨_, rfl⟩, rfl, rfl⟩ (.cons ⟨⟨_, rfl⟩, rfl, rfl⟩ (.cons ⟨⟨_, rfl⟩, rfl, rfl⟩ (.nil)))))))))))))))))))
    (case sD => decide)
    (case gT => k_is)
    (case lT => k_is)
    (case zT => decide)
    (case vT => exact .cons ⟨_, rfl⟩ (.cons ⟨_, rfl⟩ (.cons ⟨_, rfl⟩ (.cons ⟨_, rfl⟩ (.cons ⟨_, rfl⟩ (.cons ⟨_, rfl⟩ (.cons ⟨_, rfl⟩ (.cons ⟨_, rfl⟩ (.cons ⟨_, rfl⟩ (.cons ⟨_, rfl⟩ (.cons ⟨_, rfl⟩ (.cons ⟨_, rfl⟩ (.cons ⟨_, rfl⟩ (.cons ⟨_, rfl⟩ (.cons ⟨_, rfl⟩ (.cons ⟨_, rfl⟩ (.cons ⟨_, rfl⟩ (.cons ⟨_, rfl⟩ (.nil)))))))))))))))))))
    (case gO => k_is)
    (case lO => k_is)
    (case zO => decide)
    (case vO => exact .cons rfl (.cons rfl (.cons rfl (.cons rfl (.cons rfl (.cons rfl (.nil)))))))
    (case lO0 => k_is)
    (case zO0 => decide)
    (case vO0 => exact .cons ⟨_, rfl⟩ (.cons ⟨_, rfl⟩ (.cons ⟨_, rfl⟩ (.cons ⟨_, rfl⟩ (.nil)))))
    (case lO1 => k_is)
    (case zO1 => decide)
    (case vO1 => exact .cons ⟨_, rfl⟩ (.cons ⟨_, rfl⟩ (.cons ⟨_, rfl⟩ (.cons ⟨_, rfl⟩ (.nil)))))
    (case lO2 => k_is)
    (case zO2 => decide)
    (case vO2 => exact .cons ⟨_, rfl⟩ (.cons ⟨_, rfl⟩ (.cons ⟨_, rfl⟩ (.cons ⟨_, rfl⟩ (.nil)))))
    (case lO3 => k_is)
    (case zO3 => decide)
    (case vO3 => exact .cons ⟨_, rfl⟩ (.cons ⟨_, rfl⟩ (.cons ⟨_, rfl⟩ (.cons ⟨_, rfl⟩ (.nil)))))
    (case lO4 => k_is)
    (case zO4 => decide)
    (case vO4 => exact .cons ⟨_, rfl⟩ (.cons ⟨_, rfl⟩ (.cons ⟨_, rfl⟩ (.cons ⟨_, rfl⟩ (.nil)))))
    (case lO5 => k_is)
    (case zO5 => decide)
    (case vO5 => exact .cons ⟨_, rfl⟩ (.cons ⟨_, rfl⟩ (.cons ⟨_, rfl⟩ (.cons ⟨_, rfl⟩ (.nil)))))
  case S =>
    intro K H xs a hO hwi hask hx
    cases hx with
    | cons h1 h2 =>
      cases h2
      cases h1 with
      | lst hs ha =>
        have e := L2.ints_dw a.1 _ ha
        subst e
        obtain ⟨cs, q1, q2, q3, q4⟩ := WM.asked_fit (show PyKqy2.answers_asked a.1 = true from hask)
        exact ⟨_, a.1, cs, rfl, hO, hs, q1, q2, WM.fit_fine q1, q3, q4, fun H' p hp => .lst (L2.SqL.of hp) (L2.dw_ints _)⟩
#print axioms PySem.Challenge.cw_wallmarks_s01_answers_holds
