import PyProof.Rows.All
import Wide.All
import OpenK.AllK
import Wide.FinOn
import HandS.ForMost
import HandS.More
import HandS.IsInst
import HandS.Zip
import HandS.Deep
import HandS.SetFor
import HandS.TupAny
import HandS.ForExc
import HandS.ExcIs
import KE.KExcIs
import KE.KIsAll
import HandS.Star
import PyProof.SeqIndex
import HandS.Style
import HandS.TupSets
import HandS.SetBool
import PySem.Challenge.RW_everafter_k05_right_guesses
set_option Elab.async false
set_option linter.all false
set_option maxRecDepth 100000
set_option maxHeartbeats 4000000
namespace Bg
open PySem L2

/-! ### data, and the values that stand for it -/
inductive Dat where
  | non | bl (b : Bool) | int (i : Int) | str (x : Str) | ty (n : String) | cls (a : Addr)
  | lst (ds : List Dat) | tup (ds : List Dat) | ins (C : Addr) (ns : List Str) (ds : List Dat) | emp | scr (ns : List Int)
mutual
inductive Rp (K : PySem.W.Frag) (G : Hp) : V → Dat → Prop
  | non : Rp K G .non .non
  | bl (b : Bool) : Rp K G (.bl b) (.bl b)
  | int (i : Int) : Rp K G (.int i) (.int i)
  | str (x : Str) : Rp K G (.str x) (.str x)
  | ty (n : String) : Rp K G (.ty n) (.ty n)
  | cls (a : Addr) : Rp K G (.ref a) (.cls a)
  | lst {a : Addr} {xs : List V} {ds : List Dat} : G a = some (.lst xs) → RpAll K G xs ds → Rp K G (.ref a) (.lst ds)
  | tup {a : Addr} {xs : List V} {ds : List Dat} : G a = some (.tup xs) → RpAll K G xs ds → Rp K G (.ref a) (.tup ds)
  | ins {a C dx : Addr} {fs : List (Str × V)} {ns : List Str} {ds : List Dat} : G a = some (.ins C dx fs) → fs.map (·.1) = ns → RpAll K G (fs.map (·.2)) ds → Rp K G (.ref a) (.ins C ns ds)
  | emp {a : Addr} : G a = some (.dK []) → Rp K G (.ref a) .emp
  | scr {a : Addr} {ns : List Int} : SqL K G a (ns.map V.int) → Rp K G (.ref a) (.scr ns)
inductive RpAll (K : PySem.W.Frag) (G : Hp) : List V → List Dat → Prop
  | nil : RpAll K G [] []
  | cons {v : V} {vs : List V} {d : Dat} {ds : List Dat} : Rp K G v d → RpAll K G vs ds → RpAll K G (v :: vs) (d :: ds)
end
section
variable {K : PySem.W.Frag} {G G' : Hp}
mutual
theorem Rp.mono (s : Same G G') : ∀ (d : Dat) (v : V), Rp K G v d → Rp K G' v d
  | .non, _, h => by cases h; exact .non
  | .bl b, _, h => by cases h; exact .bl b
  | .int b, _, h => by cases h; exact .int b
  | .str b, _, h => by cases h; exact .str b
  | .ty b, _, h => by cases h; exact .ty b
  | .cls b, _, h => by cases h; exact .cls b
  | .lst ds, _, h => by cases h with | lst e a => exact .lst (s _ _ e) (RpAll.mono s ds _ a)
  | .tup ds, _, h => by cases h with | tup e a => exact .tup (s _ _ e) (RpAll.mono s ds _ a)
  | .ins C ns ds, _, h => by cases h with | ins e n a => exact .ins (s _ _ e) n (RpAll.mono s ds _ a)
  | .emp, _, h => by cases h with | emp e => exact .emp (s _ _ e)
  | .scr ns, _, h => by cases h with | scr e => exact .scr (s.seq e)
theorem RpAll.mono (s : Same G G') : ∀ (ds : List Dat) (vs : List V), RpAll K G vs ds → RpAll K G' vs ds
  | [], _, h => by cases h; exact .nil
  | d :: ds, _, h => by cases h with | cons a b => exact .cons (Rp.mono s d _ a) (RpAll.mono s ds _ b)
end
theorem Rp.to (s : Same G G') {d : Dat} {v : V} (h : Rp K G v d) : Rp K G' v d := Rp.mono s d v h
theorem RpAll.to (s : Same G G') {d : List Dat} {v : List V} (h : RpAll K G v d) : RpAll K G' v d := RpAll.mono s d v h
theorem RpAll.length : ∀ {vs : List V} {ds : List Dat}, RpAll K G vs ds → vs.length = ds.length
  | [], _, h => by cases h; rfl
  | _ :: _, _, h => by cases h with | cons a b => simp [RpAll.length b]
theorem RpAll.get : ∀ {vs : List V} {ds : List Dat} {i : Nat} {d : Dat}, RpAll K G vs ds → ds[i]? = some d → ∃ v, vs[i]? = some v ∧ Rp K G v d
  | [], _, _, _, h, e => by cases h; simp at e
  | v :: vs, _, 0, _, h, e => by
    cases h with | cons a b => simp at e; subst e; exact ⟨v, rfl, a⟩
  | v :: vs, _, i + 1, d, h, e => by
    cases h with | cons a b =>
      obtain ⟨u, h1, h2⟩ := RpAll.get (i := i) (d := d) b (by simpa using e)
      exact ⟨u, by simpa using h1, h2⟩
theorem RpAll.getV : ∀ {vs : List V} {ds : List Dat} {i : Nat} {v : V}, RpAll K G vs ds → vs[i]? = some v → ∃ d, ds[i]? = some d ∧ Rp K G v d
  | [], _, _, _, h, e => by simp at e
  | w :: vs, _, 0, v, h, e => by
    cases h with | cons a b => simp at e; subst e; exact ⟨_, rfl, a⟩
  | w :: vs, _, i + 1, v, h, e => by
    cases h with | cons a b =>
      obtain ⟨u, h1, h2⟩ := RpAll.getV (i := i) (v := v) b (by simpa using e)
      exact ⟨u, by simpa using h1, h2⟩
theorem RpAll.app : ∀ {vs ws : List V} {ds es : List Dat}, RpAll K G vs ds → RpAll K G ws es → RpAll K G (vs ++ ws) (ds ++ es)
  | [], _, _, _, h, k => by cases h; exact k
  | _ :: _, _, _, _, h, k => by cases h with | cons a b => exact .cons a (RpAll.app b k)
theorem RpAll.takeR : ∀ {vs : List V} {ds : List Dat} (n : Nat), RpAll K G vs ds → RpAll K G (vs.take n) (ds.take n)
  | _, _, 0, _ => .nil
  | [], _, n + 1, h => by cases h; exact .nil
  | _ :: _, _, n + 1, h => by cases h with | cons a b => exact .cons a (RpAll.takeR n b)
theorem RpAll.dropR : ∀ {vs : List V} {ds : List Dat} (n : Nat), RpAll K G vs ds → RpAll K G (vs.drop n) (ds.drop n)
  | _, _, 0, h => h
  | [], _, n + 1, h => by cases h; exact .nil
  | _ :: _, _, n + 1, h => by cases h with | cons a b => exact RpAll.dropR n b
theorem RpAll.ints : ∀ (ns : List Int), RpAll K G (ns.map V.int) (ns.map Dat.int)
  | [] => .nil
  | n :: ns => .cons (.int n) (RpAll.ints ns)
theorem RpAll.intsEq : ∀ {ns : List Int} {vs : List V}, RpAll K G vs (ns.map Dat.int) → vs = ns.map V.int
  | [], _, h => by cases h; rfl
  | n :: ns, _, h => by
    cases h with | cons a b => cases a; rw [RpAll.intsEq (ns := ns) b]; rfl
theorem RpAll.strsEq : ∀ {ns : List Str} {vs : List V}, RpAll K G vs (ns.map Dat.str) → vs = ns.map V.str
  | [], _, h => by cases h; rfl
  | n :: ns, _, h => by
    cases h with | cons a b => cases a; rw [RpAll.strsEq (ns := ns) b]; rfl
theorem RpAll.blsEq : ∀ {ns : List Bool} {vs : List V}, RpAll K G vs (ns.map Dat.bl) → vs = ns.map V.bl
  | [], _, h => by cases h; rfl
  | n :: ns, _, h => by
    cases h with | cons a b => cases a; rw [RpAll.blsEq (ns := ns) b]; rfl
theorem RpAll.of_get : ∀ {vs : List V} {ds : List Dat}, vs.length = ds.length → (∀ (i : Nat) (v : V) (d : Dat), vs[i]? = some v → ds[i]? = some d → Rp K G v d) → RpAll K G vs ds
  | [], [], _, _ => .nil
  | [], _ :: _, h, _ => by cases h
  | _ :: _, [], h, _ => by cases h
  | v :: vs, d :: ds, h, k => .cons (k 0 v d rfl rfl) (RpAll.of_get (Nat.succ.inj h) fun i v d a b => k (i + 1) v d (by simpa using a) (by simpa using b))
end
theorem same_new {H : Hp} {p : Addr} {o : HO} (h : H p = none) : Same H (upd H p o) := fun b u e => by
  rw [upd_ne (ne_of_none e h)]
  exact e

/-! ### the slots -/
inductive Sl where
  /-- nothing is known -/
  | no
  /-- a value that stands for data -/
  | dat (d : Dat)
  /-- a list of this call's own that nothing else holds -/
  | own (ds : List Dat)
  /-- the j-th list that was handed in to be changed -/
  | par (j : Nat) (ds : List Dat)
structure Zs where
  G0 : Hp
  H0 : Hp
  O0 : List Addr
  /-- further objects that stand aside and stay -/
  Kp : Hp
def SlOk (K : PySem.W.Frag) (Z : Zs) (G H : Hp) (v : V) : Sl → Prop
  | .no => True
  | .dat d => Rp K G v d
  | .own ds => ∃ p xs, v = .ref p ∧ Z.H0 p = none ∧ G p = none ∧ H p = some (.lst xs) ∧ RpAll K G xs ds
  | .par j ds => ∃ p xs, v = .ref p ∧ Z.O0[j]? = some p ∧ G p = none ∧ H p = some (.lst xs) ∧ RpAll K G xs ds
def Sl.isOwn : Sl → Bool
  | .own _ => true
  | .par _ _ => true
  | _ => false
def Sl.isNo : Sl → Bool
  | .no => true
  | _ => false
/-- slot i holds a list of its own at p -/
def Hd (σ : L2.St) (ρ : List Sl) (i : Nat) (p : Addr) : Prop := σ[i]? = some (some (.ref p)) ∧ ∃ s, ρ[i]? = some s ∧ s.isOwn = true
structure Ct (K : PySem.W.Frag) (Z : Zs) (G H : Hp) (σ : L2.St) (ρ : List Sl) : Prop where
  len : σ.length = ρ.length
  gg : Same Z.G0 G
  gh : Same G H
  hh : ∀ (b : Addr) (o : HO), Z.H0 b = some o → b ∉ Z.O0 → H b = some o
  ge : ∀ b : Addr, Z.H0 b ≠ none → H b ≠ none
  fr : ∀ b : Addr, Z.H0 b ≠ none → Z.G0 b = none → G b = none
  sl : ∀ (i : Nat) (s : Sl), ρ[i]? = some s → s.isNo = false → ∃ v, σ[i]? = some (some v) ∧ SlOk K Z G H v s
  ds : ∀ (i j : Nat) (p : Addr), Hd σ ρ i p → Hd σ ρ j p → i = j
  kp : ∀ (b : Addr) (o : HO), Z.Kp b = some o → H b = some o
  kg : ∀ b : Addr, Z.Kp b ≠ none → G b = none
  kn : ∀ (i : Nat) (p : Addr), Hd σ ρ i p → Z.Kp p = none
section
variable {K : PySem.W.Frag} {Z : Zs} {G G' H H' : Hp} {σ : L2.St} {ρ : List Sl}
theorem Ct.dat (c : Ct K Z G H σ ρ) {i : Nat} {d : Dat} (h : ρ[i]? = some (.dat d)) : ∃ v, σ[i]? = some (some v) ∧ Rp K G v d := c.sl i _ h rfl
theorem Ct.freshG (c : Ct K Z G H σ ρ) {p : Addr} (h : H p = none) : G p = none := by
  cases e : G p with
  | none => rfl
  | some o => rw [c.gh _ _ e] at h; cases h
theorem Ct.fresh0 (c : Ct K Z G H σ ρ) {p : Addr} (h : H p = none) : Z.H0 p = none := by
  cases e : Z.H0 p with
  | none => rfl
  | some o => exact absurd h (c.ge p (by rw [e]; intro q; cases q))
theorem Ct.freshK (c : Ct K Z G H σ ρ) {p : Addr} (h : H p = none) : Z.Kp p = none := by
  cases e : Z.Kp p with
  | none => rfl
  | some o => rw [c.kp _ _ e] at h; cases h
/-- what an owned slot is -/
theorem Ct.ow (c : Ct K Z G H σ ρ) {i : Nat} {s : Sl} (h : ρ[i]? = some s) (ho : s.isOwn = true) :
    ∃ p xs ds, σ[i]? = some (some (.ref p)) ∧ G p = none ∧ H p = some (.lst xs) ∧ RpAll K G xs ds ∧ (Z.H0 p = none ∨ p ∈ Z.O0) ∧ Hd σ ρ i p ∧ ((s = .own ds ∧ Z.H0 p = none) ∨ ∃ j, s = .par j ds ∧ Z.O0[j]? = some p) := by
  cases s with
  | no => cases ho
  | dat d => cases ho
  | own ds =>
    obtain ⟨v, e, p, xs, rfl, z, g, hp, r⟩ := c.sl i _ h rfl
    exact ⟨p, xs, ds, e, g, hp, r, .inl z, ⟨e, _, h, rfl⟩, .inl ⟨rfl, z⟩⟩
  | par j ds =>
    obtain ⟨v, e, p, xs, rfl, z, g, hp, r⟩ := c.sl i _ h rfl
    exact ⟨p, xs, ds, e, g, hp, r, .inr (List.mem_of_getElem? z), ⟨e, _, h, rfl⟩, .inr ⟨j, rfl, z⟩⟩
theorem SlOk.mono {v : V} {s : Sl} (h : SlOk K Z G H v s) (g : Same G G') (no : ∀ p xs, v = .ref p → s.isOwn = true → G p = none → H p = some (.lst xs) → G' p = none ∧ H' p = some (.lst xs)) : SlOk K Z G' H' v s := by
  cases s with
  | no => trivial
  | dat d => exact Rp.to g h
  | own ds =>
    obtain ⟨p, xs, e, z, g0, hp, r⟩ := h
    obtain ⟨a, b⟩ := no p xs e rfl g0 hp
    exact ⟨p, xs, e, z, a, b, r.to g⟩
  | par j ds =>
    obtain ⟨p, xs, e, z, g0, hp, r⟩ := h
    obtain ⟨a, b⟩ := no p xs e rfl g0 hp
    exact ⟨p, xs, e, z, a, b, r.to g⟩
/-- the heap grows: a new object at p, data or not -/
theorem Ct.grow (c : Ct K Z G H σ ρ) {p : Addr} {o : HO} (hp : H p = none) : Ct K Z G (upd H p o) σ ρ where
  len := c.len
  gg := c.gg
  gh := fun b u e => same_new hp b u (c.gh b u e)
  hh := fun b u e n => same_new hp b u (c.hh b u e n)
  ge := fun b n => by
    have := c.ge b n
    cases e : H b with
    | none => exact absurd e this
    | some u => rw [same_new (o := o) hp b u e]; intro q; cases q
  fr := c.fr
  sl := fun i s h n => by
    obtain ⟨v, e, k⟩ := c.sl i s h n
    exact ⟨v, e, k.mono (Same.refl G) fun q xs _ _ g hq => ⟨g, same_new hp q _ hq⟩⟩
  ds := c.ds
  kp := fun b u e => same_new hp b u (c.kp b u e)
  kg := c.kg
  kn := c.kn
/-- an object that stands in H by itself becomes data -/
theorem Ct.adopt (c : Ct K Z G H σ ρ) {p : Addr} {o : HO} (h : H p = some o) (z : Z.H0 p = none) (kk : Z.Kp p = none) (no : ∀ i, ¬ Hd σ ρ i p) (g : G p = none) : Ct K Z (upd G p o) H σ ρ ∧ Same G (upd G p o) := by
  refine ⟨⟨c.len, fun b u e => same_new g b u (c.gg b u e), fun b u e => ?_, c.hh, c.ge, fun b n e => ?_, fun i s hi hn => ?_, c.ds, c.kp, fun b n => by
    rw [upd_ne (show b ≠ p from fun q => n (by rw [q]; exact kk))]; exact c.kg b n, c.kn⟩, same_new g⟩
  · by_cases q : b = p
    · subst q; rw [upd_same] at e; cases e; exact h
    · rw [upd_ne q] at e; exact c.gh b u e
  · have q : b ≠ p := fun q => n (by rw [q]; exact z)
    rw [upd_ne q]; exact c.fr b n e
  · obtain ⟨v, e, k⟩ := c.sl i s hi hn
    refine ⟨v, e, k.mono (same_new g) fun q xs ev ho gq hq => ⟨?_, hq⟩⟩
    have : q ≠ p := fun w => no i ⟨by rw [e, ev, w], s, hi, ho⟩
    rw [upd_ne this]; exact gq
theorem Ct.grown (c : Ct K Z G H σ ρ) {p : Addr} {o : HO} (hp : H p = none) : Ct K Z (upd G p o) (upd H p o) σ ρ ∧ Same G (upd G p o) := by
  refine (c.grow (o := o) hp).adopt upd_same (c.fresh0 hp) (c.freshK hp) (fun i hi => ?_) (c.freshG hp)
  obtain ⟨e, s, h, ho⟩ := hi
  obtain ⟨q, xs, ds, e2, g, hq, _⟩ := c.ow h ho
  rw [e] at e2
  cases e2
  rw [hp] at hq
  cases hq
theorem hd_set {i j : Nat} {v : V} {s : Sl} {p : Addr} (hj : j ≠ i) (h : Hd (σ.set i (some v)) (ρ.set i s) j p) : Hd σ ρ j p := by
  obtain ⟨e, t, h, o⟩ := h
  rw [List.getElem?_set_ne (Ne.symm hj)] at e h
  exact ⟨e, t, h, o⟩
/-- slot i is given a value -/
theorem Ct.setS (c : Ct K Z G H σ ρ) {i : Nat} {v : V} {s : Sl} (hi : ρ[i]?.isSome = true) (h : SlOk K Z G H v s) (no : ∀ p j, s.isOwn = true → v = .ref p → ¬ Hd σ ρ j p) (kk : ∀ p, s.isOwn = true → v = .ref p → Z.Kp p = none) : Ct K Z G H (σ.set i (some v)) (ρ.set i s) := by
  have hr : i < ρ.length := by
    rw [Option.isSome_iff_exists] at hi
    obtain ⟨a, e⟩ := hi
    exact (List.getElem?_eq_some_iff.mp e).1
  have hs : i < σ.length := by rw [c.len]; exact hr
  refine ⟨by simp [c.len], c.gg, c.gh, c.hh, c.ge, c.fr, fun j t e n => ?_, fun j k p a b => ?_, c.kp, c.kg, fun j p a => ?_⟩
  · by_cases q : i = j
    · subst q
      rw [List.getElem?_set_self hr] at e
      cases e
      exact ⟨v, List.getElem?_set_self hs, h⟩
    · rw [List.getElem?_set_ne q] at e ⊢
      exact c.sl j t e n
  · by_cases qj : j = i
    · by_cases qk : k = i
      · rw [qj, qk]
      · exfalso
        subst qj
        obtain ⟨e, t, e2, o⟩ := a
        rw [List.getElem?_set_self hr] at e2
        rw [List.getElem?_set_self hs] at e
        cases e2
        cases e
        exact no p k o rfl (hd_set qk b)
    · by_cases qk : k = i
      · exfalso
        subst qk
        obtain ⟨e, t, e2, o⟩ := b
        rw [List.getElem?_set_self hr] at e2
        rw [List.getElem?_set_self hs] at e
        cases e2
        cases e
        exact no p j o rfl (hd_set qj a)
      · exact c.ds j k p (hd_set qj a) (hd_set qk b)
  · by_cases qj : j = i
    · subst qj
      obtain ⟨e, t, e2, o⟩ := a
      rw [List.getElem?_set_self hr] at e2
      rw [List.getElem?_set_self hs] at e
      cases e2
      cases e
      exact kk p o rfl
    · exact c.kn j p (hd_set qj a)
theorem Ct.setD (c : Ct K Z G H σ ρ) {i : Nat} {v : V} {d : Dat} (hi : ρ[i]?.isSome = true) (h : Rp K G v d) : Ct K Z G H (σ.set i (some v)) (ρ.set i (.dat d)) :=
  c.setS hi h (fun _ _ o _ => by cases o) fun _ o _ => by cases o
theorem hd_sub {ρ' : List Sl} (hs : ∀ (i : Nat) (s : Sl), ρ'[i]? = some s → s.isOwn = true → ∃ t, ρ[i]? = some t ∧ t.isOwn = true) {i : Nat} {p : Addr} (h : Hd σ ρ' i p) : Hd σ ρ i p := by
  obtain ⟨e, s, a, o⟩ := h
  obtain ⟨t, b, ot⟩ := hs i s a o
  exact ⟨e, t, b, ot⟩
/-- an owned slot is given up: its list is data from then on -/
theorem Ct.freeze (c : Ct K Z G H σ ρ) {i : Nat} {ds : List Dat} (h : ρ[i]? = some (.own ds)) :
    ∃ p xs, σ[i]? = some (some (.ref p)) ∧ Same G (upd G p (.lst xs)) ∧ Ct K Z (upd G p (.lst xs)) H σ (ρ.set i (.dat (.lst ds))) ∧ Rp K (upd G p (.lst xs)) (.ref p) (.lst ds) := by
  obtain ⟨v, e, p, xs, rfl, z, g, hp, r⟩ := c.sl i _ h rfl
  have sm : Same G (upd G p (.lst xs)) := same_new g
  have hr : i < ρ.length := (List.getElem?_eq_some_iff.mp h).1
  have rp : Rp K (upd G p (.lst xs)) (.ref p) (.lst ds) := .lst upd_same (r.to sm)
  refine ⟨p, xs, e, sm, ⟨by simp [c.len], fun b u q => sm b u (c.gg b u q), fun b u q => ?_, c.hh, c.ge, fun b n q => ?_, fun j s hj hn => ?_, fun j k q a b => ?_, c.kp, fun b n => ?_, fun j q a => ?_⟩, rp⟩
  · by_cases w : b = p
    · subst w; rw [upd_same] at q; cases q; exact hp
    · rw [upd_ne w] at q; exact c.gh b u q
  · have w : b ≠ p := fun w => n (by rw [w]; exact z)
    rw [upd_ne w]; exact c.fr b n q
  · by_cases w : i = j
    · subst w
      rw [List.getElem?_set_self hr] at hj
      cases hj
      exact ⟨_, e, rp⟩
    · rw [List.getElem?_set_ne w] at hj
      obtain ⟨u, e1, k⟩ := c.sl j s hj hn
      refine ⟨u, e1, k.mono sm fun q ys ev ho gq hq => ⟨?_, hq⟩⟩
      have : q ≠ p := fun t => w (c.ds i j p ⟨e, _, h, rfl⟩ ⟨by rw [e1, ev, t], s, hj, ho⟩)
      rw [upd_ne this]; exact gq
  · have sub : ∀ (i' : Nat) (s : Sl), (ρ.set i (.dat (.lst ds)))[i']? = some s → s.isOwn = true → ∃ t, ρ[i']? = some t ∧ t.isOwn = true := fun i' s q o => by
      by_cases w : i = i'
      · subst w; rw [List.getElem?_set_self hr] at q; cases q; cases o
      · rw [List.getElem?_set_ne w] at q; exact ⟨s, q, o⟩
    exact c.ds j k q (hd_sub sub a) (hd_sub sub b)
  · have w : b ≠ p := fun w => n (by rw [w]; exact c.kn i p ⟨e, _, h, rfl⟩)
    rw [upd_ne w]; exact c.kg b n
  · have sub : ∀ (i' : Nat) (s : Sl), (ρ.set i (.dat (.lst ds)))[i']? = some s → s.isOwn = true → ∃ t, ρ[i']? = some t ∧ t.isOwn = true := fun i' s q o => by
      by_cases w : i = i'
      · subst w; rw [List.getElem?_set_self hr] at q; cases q; cases o
      · rw [List.getElem?_set_ne w] at q; exact ⟨s, q, o⟩
    exact c.kn j q (hd_sub sub a)
def Sl.put : Sl → List Dat → Sl
  | .own _, ds => .own ds
  | .par j _, ds => .par j ds
  | s, _ => s
/-- an owned slot's list is changed -/
theorem Ct.write (c : Ct K Z G H σ ρ) {i : Nat} {s : Sl} {p : Addr} {ys : List V} {es : List Dat} (h : ρ[i]? = some s) (ho : s.isOwn = true) (e : σ[i]? = some (some (.ref p))) (r : RpAll K G ys es) :
    Ct K Z G (upd H p (.lst ys)) σ (ρ.set i (s.put es)) := by
  obtain ⟨p', xs, ds, e', g, hp, r0, z, hd, w⟩ := c.ow h ho
  rw [e] at e'
  cases e'
  have hr : i < ρ.length := (List.getElem?_eq_some_iff.mp h).1
  refine ⟨by simp [c.len], c.gg, fun b u q => ?_, fun b u q n => ?_, fun b n => ?_, c.fr, fun j t hj hn => ?_, fun j k q a b => ?_, fun b u q => ?_, c.kg, fun j q a => ?_⟩
  · have : b ≠ p := fun t => by rw [t, g] at q; cases q
    rw [upd_ne this]; exact c.gh b u q
  · have : b ≠ p := fun t => by
      rcases z with z | z
      · rw [t, z] at q; cases q
      · exact n (by rw [t]; exact z)
    rw [upd_ne this]; exact c.hh b u q n
  · by_cases t : b = p
    · subst t; rw [upd_same]; intro q; cases q
    · rw [upd_ne t]; exact c.ge b n
  · by_cases q : i = j
    · subst q
      rw [List.getElem?_set_self hr] at hj
      cases hj
      refine ⟨_, e, ?_⟩
      rcases w with ⟨rfl, z0⟩ | ⟨j0, rfl, z0⟩
      · exact ⟨p, ys, rfl, z0, g, upd_same, r⟩
      · exact ⟨p, ys, rfl, z0, g, upd_same, r⟩
    · rw [List.getElem?_set_ne q] at hj
      obtain ⟨u, e1, k⟩ := c.sl j t hj hn
      refine ⟨u, e1, k.mono (Same.refl G) fun q' zs ev ho' gq hq => ⟨gq, ?_⟩⟩
      have : q' ≠ p := fun t' => q (c.ds i j p hd ⟨by rw [e1, ev, t'], t, hj, ho'⟩)
      rw [upd_ne this]; exact hq
  · have sub : ∀ (i' : Nat) (t : Sl), (ρ.set i (s.put es))[i']? = some t → t.isOwn = true → ∃ t', ρ[i']? = some t' ∧ t'.isOwn = true := fun i' t q o => by
      by_cases w : i = i'
      · subst w; exact ⟨s, h, ho⟩
      · rw [List.getElem?_set_ne w] at q; exact ⟨t, q, o⟩
    exact c.ds j k q (hd_sub sub a) (hd_sub sub b)
  · have : b ≠ p := fun t => by rw [t, c.kn i p hd] at q; cases q
    rw [upd_ne this]; exact c.kp b u q
  · have sub : ∀ (i' : Nat) (t : Sl), (ρ.set i (s.put es))[i']? = some t → t.isOwn = true → ∃ t', ρ[i']? = some t' ∧ t'.isOwn = true := fun i' t q o => by
      by_cases w : i = i'
      · subst w; exact ⟨s, h, ho⟩
      · rw [List.getElem?_set_ne w] at q; exact ⟨t, q, o⟩
    exact c.kn j q (hd_sub sub a)
/-- less is known -/
inductive Le : List Sl → List Sl → Prop
  | nil : Le [] []
  | no {s : Sl} {a b : List Sl} : Le a b → Le (.no :: a) (s :: b)
  | eq {s : Sl} {a b : List Sl} : Le a b → Le (s :: a) (s :: b)
theorem Le.len {a b : List Sl} (h : Le a b) : a.length = b.length := by
  induction h with
  | nil => rfl
  | no _ ih => simp [ih]
  | eq _ ih => simp [ih]
theorem Le.get {a b : List Sl} (h : Le a b) : ∀ {i : Nat} {s : Sl}, a[i]? = some s → s.isNo = false → b[i]? = some s := by
  induction h with
  | nil => intro i s e _; simp at e
  | no _ ih =>
    intro i s e n
    cases i with
    | zero => simp at e; subst e; cases n
    | succ i => simpa using ih (by simpa using e) n
  | eq _ ih =>
    intro i s e n
    cases i with
    | zero => simpa using e
    | succ i => simpa using ih (by simpa using e) n
theorem Le.refl : ∀ a : List Sl, Le a a
  | [] => .nil
  | _ :: a => .eq (Le.refl a)
theorem Sl.own_not_no {s : Sl} (h : s.isOwn = true) : s.isNo = false := by cases s <;> first | rfl | cases h
theorem Ct.weak {ρ' : List Sl} (c : Ct K Z G H σ ρ) (l : Le ρ' ρ) : Ct K Z G H σ ρ' :=
  ⟨by rw [c.len, l.len], c.gg, c.gh, c.hh, c.ge, c.fr, fun i s e n => c.sl i s (l.get e n) n, fun i j p a b => c.ds i j p
    (hd_sub (fun i s e o => ⟨s, l.get e (Sl.own_not_no o), o⟩) a) (hd_sub (fun i s e o => ⟨s, l.get e (Sl.own_not_no o), o⟩) b), c.kp, c.kg, fun i p a => c.kn i p (hd_sub (fun i s e o => ⟨s, l.get e (Sl.own_not_no o), o⟩) a)⟩
end

/-! ### expressions -/
section
variable (K : PySem.W.Frag)
/-- an expression makes data d of the slots ρ, which are ρ' then -/
def Ev (te : TE) (ρ : List Sl) (d : Dat) (ρ' : List Sl) : Prop := ∀ (Z : Zs) (G H : Hp) (σ : L2.St), Ct K Z G H σ ρ → ∀ Q : VK, (∀ (v : V) (G' H' : Hp), Same G G' → Ct K Z G' H' σ ρ' → Rp K G' v d → Q v H') → te σ H Q
/-- a new list that nothing holds yet -/
def EvF (te : TE) (ρ : List Sl) (ds : List Dat) (ρ' : List Sl) : Prop := ∀ (Z : Zs) (G H : Hp) (σ : L2.St), Ct K Z G H σ ρ → ∀ Q : VK,
  (∀ (p : Addr) (xs : List V) (G' H' : Hp), Same G G' → Ct K Z G' H' σ ρ' → G' p = none → H' p = some (.lst xs) → RpAll K G' xs ds → Z.H0 p = none ∧ Z.Kp p = none → (∀ i, ¬ Hd σ ρ' i p) → Q (.ref p) H') → te σ H Q
def EvT (tt : TT) (ρ : List Sl) (b : Bool) (ρ' : List Sl) : Prop := ∀ (Z : Zs) (G H : Hp) (σ : L2.St), Ct K Z G H σ ρ → ∀ Q : Bool → Hp → Prop, (∀ (G' H' : Hp), Same G G' → Ct K Z G' H' σ ρ' → Q b H') → tt σ H Q
/-- arguments: data, or a slot's own list -/
inductive Ag where
  | d (d : Dat) | s (i : Nat)
def AgAt (G : Hp) (σ : L2.St) (v : V) : Ag → Prop
  | .d d => Rp K G v d
  | .s i => σ[i]? = some (some v)
def EvA (ta : TA) (ρ : List Sl) (as : List Ag) (ρ' : List Sl) : Prop := ∀ (Z : Zs) (G H : Hp) (σ : L2.St), Ct K Z G H σ ρ → ∀ Q : List V → Hp → Prop, (∀ (vs : List V) (G' H' : Hp), Same G G' → Ct K Z G' H' σ ρ' → Paired (AgAt K G' σ) vs as → Q vs H') → ta σ H Q
def EvO (to : TO) (ρ : List Sl) (o : Option Int) (ρ' : List Sl) : Prop := ∀ (Z : Zs) (G H : Hp) (σ : L2.St), Ct K Z G H σ ρ → ∀ Q : Option Int → Hp → Prop, (∀ (G' H' : Hp), Same G G' → Ct K Z G' H' σ ρ' → Q o H') → to σ H Q
/-- a list to be read: data, or a slot's own list as it stands when it is read -/
def EvL (te : TE) (ρ : List Sl) (a : Ag) (ρ' : List Sl) : Prop := ∀ (Z : Zs) (G H : Hp) (σ : L2.St), Ct K Z G H σ ρ → ∀ Q : VK, (∀ (v : V) (G' H' : Hp), Same G G' → Ct K Z G' H' σ ρ' → AgAt K G' σ v a → Q v H') → te σ H Q
def Dat.items : Dat → Option (List Dat)
  | .lst ds => some ds
  | .scr ns => some (ns.map Dat.int)
  | _ => none
def slItems : Option Sl → Option (List Dat)
  | some (.own ds) => some ds
  | some (.par _ ds) => some ds
  | _ => none
def look (ρ : List Sl) : Ag → Option (List Dat)
  | .d d => d.items
  | .s i => slItems ρ[i]?
/-- the same, where it must be a list of the program's own making -/
def lookS (ρ : List Sl) : Ag → Option (List Dat)
  | .d (.lst ds) => some ds
  | .s i => look ρ (.s i)
  | _ => none
end
section
variable {K : PySem.W.Frag} {Z : Zs} {G G' H H' : Hp} {σ : L2.St} {ρ ρ' ρ1 ρ2 ρ3 : List Sl} {te ta tb tc : TE} {tt tu : TT} {d d1 d2 d3 : Dat} {ds es : List Dat} {b : Bool} {i : Nat}
theorem AgAt.to {a : Ag} {v : V} (s : Same G G') (h : AgAt K G σ v a) : AgAt K G' σ v a := by
  cases a with
  | d d => exact Rp.to s h
  | s i => exact h
theorem agAll_to {as : List Ag} {vs : List V} (s : Same G G') (h : Paired (AgAt K G σ) vs as) : Paired (AgAt K G' σ) vs as := by
  induction h with
  | nil => exact .nil
  | cons a _ ih => exact .cons (a.to s) ih
theorem Ct.slot (c : Ct K Z G H σ ρ) {v : V} (e : σ[i]? = some (some v)) (l : slItems ρ[i]? = some ds) : ∃ p xs, v = .ref p ∧ H p = some (.lst xs) ∧ RpAll K G xs ds := by
  cases q : ρ[i]? with
  | none => rw [q] at l; cases l
  | some t =>
    rw [q] at l
    cases t with
    | no => cases l
    | dat d => cases l
    | own es =>
      have l : some es = some ds := l
      cases l
      obtain ⟨u, e1, p, xs, rfl, z, g, hp, r⟩ := c.sl i _ q rfl
      rw [e] at e1
      cases e1
      exact ⟨p, xs, rfl, hp, r⟩
    | par j es =>
      have l : some es = some ds := l
      cases l
      obtain ⟨u, e1, p, xs, rfl, z, g, hp, r⟩ := c.sl i _ q rfl
      rw [e] at e1
      cases e1
      exact ⟨p, xs, rfl, hp, r⟩
/-- a list that is read -/
theorem Ct.read (c : Ct K Z G H σ ρ) {a : Ag} {v : V} (h : AgAt K G σ v a) (l : look ρ a = some ds) : ∃ p xs, v = .ref p ∧ SqL K H p xs ∧ RpAll K G xs ds := by
  cases a with
  | d d =>
    have l : d.items = some ds := l
    cases d with
    | lst es =>
      have l : some es = some ds := l
      cases l
      have h : Rp K G v (.lst ds) := h
      cases h with
      | lst e r => exact ⟨_, _, rfl, .inl (.inl (c.gh _ _ e)), r⟩
    | scr ns =>
      have l : some (ns.map Dat.int) = some ds := l
      cases l
      have h : Rp K G v (.scr ns) := h
      cases h with
      | scr e => exact ⟨_, _, rfl, c.gh.seq e, RpAll.ints ns⟩
    | _ => cases l
  | s i =>
    obtain ⟨p, xs, e, hp, r⟩ := c.slot (i := i) h l
    exact ⟨p, xs, e, .inl (.inl hp), r⟩
theorem Ct.readS (c : Ct K Z G H σ ρ) {a : Ag} {v : V} (h : AgAt K G σ v a) (l : lookS ρ a = some ds) : ∃ p xs, v = .ref p ∧ H p = some (.lst xs) ∧ RpAll K G xs ds := by
  cases a with
  | d d =>
    cases d with
    | lst es =>
      have l : some es = some ds := l
      cases l
      have h : Rp K G v (.lst ds) := h
      cases h with
      | lst e r => exact ⟨_, _, rfl, c.gh _ _ e, r⟩
    | _ => cases l
  | s i => exact c.slot (i := i) h l
/-! names and constants -/
theorem ev_var (h : ρ[i]? = some (.dat d) := by rfl) : Ev K (tVar i) ρ d ρ := fun _ G H _ c Q q => by
  obtain ⟨v, e, r⟩ := c.dat h
  exact ⟨v, e, q v G H (Same.refl G) c r⟩
/-- an owned list is handed on: it is data from then on -/
theorem ev_give (h : ρ[i]? = some (.own ds) := by rfl) : Ev K (tVar i) ρ (.lst ds) (ρ.set i (.dat (.lst ds))) := fun _ _ _ _ c Q q => by
  obtain ⟨p, xs, e, s, c', r⟩ := c.freeze h
  exact ⟨.ref p, e, q _ _ _ s c' r⟩
theorem ev_c {v : V} (h : ∀ G, Rp K G v d) : Ev K (tC v) ρ d ρ := fun _ G _ _ c Q q => q v G _ (Same.refl G) c (h G)
theorem ev_int {n : Int} : Ev K (tC (.int n)) ρ (.int n) ρ := ev_c fun _ => .int n
theorem ev_str {n : Str} : Ev K (tC (.str n)) ρ (.str n) ρ := ev_c fun _ => .str n
theorem ev_bl {n : Bool} : Ev K (tC (.bl n)) ρ (.bl n) ρ := ev_c fun _ => .bl n
theorem ev_non : Ev K (tC .non) ρ .non ρ := ev_c fun _ => .non
theorem ev_ty {n : String} : Ev K (tC (.ty n)) ρ (.ty n) ρ := ev_c fun _ => .ty n
theorem el_d (h : Ev K te ρ d ρ') : EvL K te ρ (.d d) ρ' := h
theorem el_s (h : ∃ s, ρ[i]? = some s ∧ s.isOwn = true := by exact ⟨_, rfl, rfl⟩) : EvL K (tVar i) ρ (.s i) ρ := fun _ G H _ c Q q => by
  obtain ⟨s, hs, ho⟩ := h
  obtain ⟨p, xs, es, e, _⟩ := c.ow hs ho
  exact ⟨_, e, q _ G H (Same.refl G) c e⟩
/-! operators by values -/
def RV (K : PySem.W.Frag) (r : R2) (ρ : List Sl) (d1 d2 d : Dat) : Prop := ∀ (Z : Zs) (G H : Hp) (σ : L2.St), Ct K Z G H σ ρ → ∀ (x y : V), Rp K G x d1 → Rp K G y d2 → ∀ Q : VK, (∀ (v : V) (G' H' : Hp), Same G G' → Ct K Z G' H' σ ρ → Rp K G' v d → Q v H') → r x y H Q
theorem ev_op {r : R2} (ha : Ev K ta ρ d1 ρ1) (hb : Ev K tb ρ1 d2 ρ2) (hr : RV K r ρ2 d1 d2 d) : Ev K (tOp r ta tb) ρ d ρ2 := fun Z G H σ c Q q => by
  refine ha Z G H σ c _ fun x G1 H1 s1 c1 r1 => ?_
  refine hb Z G1 H1 σ c1 _ fun y G2 H2 s2 c2 r2 => ?_
  exact hr Z G2 H2 σ c2 x y (r1.to s2) r2 Q fun v G3 H3 s3 => q v G3 H3 ((s1.trans s2).trans s3)
theorem rv_pure {r : R2} {d1 d2 d : Dat} (h : ∀ (G H : Hp) (x y : V), Same G H → Rp K G x d1 → Rp K G y d2 → ∃ v, Rp K G v d ∧ ∀ Q : VK, Q v H → r x y H Q) : RV K r ρ d1 d2 d := fun Z G H σ c x y rx ry Q q => by
  obtain ⟨v, rv, k⟩ := h G H x y c.gh rx ry
  exact k Q (q v G H (Same.refl G) c rv)
theorem rv_I0 {g : Int → Int → V} {i j : Int} (h : ∀ G, Rp K G (g i j) d) : RV K (rI0 g) ρ (.int i) (.int j) d := rv_pure fun G H x y _ rx ry => by
  cases rx; cases ry
  exact ⟨_, h G, fun Q q => ⟨i, j, rfl, rfl, q⟩⟩
theorem rv_I {C : Int → Int → Prop} {g : Int → Int → V} {i j : Int} (h : ∀ G, Rp K G (g i j) d) (hc : C i j) : RV K (rI C g) ρ (.int i) (.int j) d := rv_pure fun G H x y _ rx ry => by
  cases rx; cases ry
  exact ⟨_, h G, fun Q q => ⟨i, j, rfl, rfl, hc, q⟩⟩
/-- ints: a + b, a - b, a * b, a // b, a % b, a < b .. -/
theorem ev_i0 {g : Int → Int → Int} {i j : Int} (ha : Ev K ta ρ (.int i) ρ1) (hb : Ev K tb ρ1 (.int j) ρ2) : Ev K (tOp (rI0 fun i j => .int (g i j)) ta tb) ρ (.int (g i j)) ρ2 := ev_op ha hb (rv_I0 fun _ => .int _)
theorem ev_b0 {g : Int → Int → Bool} {i j : Int} (ha : Ev K ta ρ (.int i) ρ1) (hb : Ev K tb ρ1 (.int j) ρ2) : Ev K (tOp (rI0 fun i j => .bl (g i j)) ta tb) ρ (.bl (g i j)) ρ2 := ev_op ha hb (rv_I0 fun _ => .bl _)
theorem ev_i {C : Int → Int → Prop} {g : Int → Int → Int} {i j : Int} (ha : Ev K ta ρ (.int i) ρ1) (hb : Ev K tb ρ1 (.int j) ρ2) (hc : C i j) : Ev K (tOp (rI C fun i j => .int (g i j)) ta tb) ρ (.int (g i j)) ρ2 := ev_op ha hb (rv_I (fun _ => .int _) hc)
theorem ev_neg {i : Int} (ha : Ev K ta ρ (.int i) ρ1) : Ev K (tUn (rU fun i => .int (-i)) ta) ρ (.int (-i)) ρ1 := fun Z G H σ c Q q => by
  refine ha Z G H σ c _ fun x G1 H1 s1 c1 r1 => ?_
  cases r1
  exact ⟨i, rfl, q _ _ _ s1 c1 (.int _)⟩

/-! equality of data -/
mutual
def Dat.py : Dat → PyData
  | .non => .none
  | .bl b => .bool b
  | .int i => .int i
  | .str x => .str x
  | .ty _ => .none
  | .cls _ => .none
  | .lst ds => .list (Dat.pys ds)
  | .tup ds => .tuple (Dat.pys ds)
  | .ins _ _ _ => .none
  | .emp => .none
  | .scr ns => .list (ns.map PyData.int)
def Dat.pys : List Dat → List PyData
  | [] => []
  | d :: ds => d.py :: Dat.pys ds
end
mutual
/-- plain data, no deeper than n -/
def Shp : Nat → Dat → Prop
  | _, .non => True
  | _, .bl _ => True
  | _, .int _ => True
  | _, .str x => PyData.strOk x = true
  | n + 1, .lst ds => ShpAll n ds
  | n + 1, .tup ds => ShpAll n ds
  | _, _ => False
def ShpAll : Nat → List Dat → Prop
  | _, [] => True
  | n, d :: ds => Shp n d ∧ ShpAll n ds
end
theorem shpAll_of {n : Nat} : ∀ {ds : List Dat}, (∀ d ∈ ds, Shp n d) → ShpAll n ds
  | [], _ => by simp only [ShpAll]
  | d :: ds, h => by
    simp only [ShpAll]
    exact ⟨h d List.mem_cons_self, shpAll_of fun e he => h e (List.mem_cons_of_mem _ he)⟩
theorem shpAll_mem {n : Nat} : ∀ {ds : List Dat}, ShpAll n ds → ∀ d ∈ ds, Shp n d
  | [], _, d, h => by cases h
  | e :: ds, h, d, hm => by
    simp only [ShpAll] at h
    rcases List.mem_cons.mp hm with rfl | hm
    · exact h.1
    · exact shpAll_mem h.2 d hm
theorem shp_lst {n : Nat} {ds : List Dat} : Shp (n + 1) (.lst ds) = ShpAll n ds := by simp only [Shp]
theorem shp_tup {n : Nat} {ds : List Dat} : Shp (n + 1) (.tup ds) = ShpAll n ds := by simp only [Shp]
mutual
theorem shp_up {n : Nat} : ∀ {d : Dat}, Shp n d → Shp (n + 1) d
  | .non, _ => by simp only [Shp]
  | .bl _, _ => by simp only [Shp]
  | .int _, _ => by simp only [Shp]
  | .str _, h => by simp only [Shp] at h ⊢; exact h
  | .lst ds, h => by
    cases n with
    | zero => simp only [Shp] at h
    | succ n => rw [shp_lst] at h ⊢; exact shpAll_up h
  | .tup ds, h => by
    cases n with
    | zero => simp only [Shp] at h
    | succ n => rw [shp_tup] at h ⊢; exact shpAll_up h
  | .ty _, h => by simp only [Shp] at h
  | .cls _, h => by simp only [Shp] at h
  | .ins _ _ _, h => by simp only [Shp] at h
  | .emp, h => by simp only [Shp] at h
  | .scr _, h => by simp only [Shp] at h
theorem shpAll_up {n : Nat} : ∀ {ds : List Dat}, ShpAll n ds → ShpAll (n + 1) ds
  | [], _ => by simp only [ShpAll]
  | d :: ds, h => by
    simp only [ShpAll] at h ⊢
    exact ⟨shp_up h.1, shpAll_up h.2⟩
end
theorem shp_le {n m : Nat} {d : Dat} (h : Shp n d) (l : n ≤ m) : Shp m d := by
  induction l with
  | refl => exact h
  | step _ ih => exact shp_up ih
mutual
theorem shp_lay {n : Nat} : ∀ {d : Dat}, Shp n d → d.py.canLay0 = true ∧ d.py.depth ≤ n
  | .non, _ => by simp [Dat.py, PyData.canLay0, PyData.depth]
  | .bl _, _ => by simp [Dat.py, PyData.canLay0, PyData.depth]
  | .int _, _ => by simp [Dat.py, PyData.canLay0, PyData.depth]
  | .str _, h => by simp only [Shp] at h; simp [Dat.py, PyData.canLay0, PyData.depth, h]
  | .lst ds, h => by
    cases n with
    | zero => simp only [Shp] at h
    | succ n =>
      rw [shp_lst] at h
      obtain ⟨a, b⟩ := shpAll_lay h
      simp only [Dat.py, PyData.canLay0, PyData.depth]
      exact ⟨a, by omega⟩
  | .tup ds, h => by
    cases n with
    | zero => simp only [Shp] at h
    | succ n =>
      rw [shp_tup] at h
      obtain ⟨a, b⟩ := shpAll_lay h
      simp only [Dat.py, PyData.canLay0, PyData.depth]
      exact ⟨a, by omega⟩
  | .ty _, h => by simp only [Shp] at h
  | .cls _, h => by simp only [Shp] at h
  | .ins _ _ _, h => by simp only [Shp] at h
  | .emp, h => by simp only [Shp] at h
  | .scr _, h => by simp only [Shp] at h
theorem shpAll_lay {n : Nat} : ∀ {ds : List Dat}, ShpAll n ds → PyData.canLayAll0 (Dat.pys ds) = true ∧ PyData.depthAll (Dat.pys ds) ≤ n
  | [], _ => by simp [Dat.pys, PyData.canLayAll0, PyData.depthAll]
  | d :: ds, h => by
    simp only [ShpAll] at h
    obtain ⟨a, b⟩ := shp_lay h.1
    obtain ⟨a', b'⟩ := shpAll_lay h.2
    simp only [Dat.pys, PyData.canLayAll0, PyData.depthAll, a, a']
    exact ⟨rfl, by omega⟩
end
theorem shaped_of {d : Dat} (h : Shp 60 d) : SeqAt.shaped d.py = true := by
  obtain ⟨a, b⟩ := shp_lay h
  unfold SeqAt.shaped
  rw [a, Bool.true_and]
  exact decide_eq_true (by omega)
theorem dpInts (H : Hp) : ∀ ns : List Int, DpAll K H (ns.map V.int) (ns.map PyData.int)
  | [] => .nil
  | n :: ns => .cons (.int n) (dpInts H ns)
mutual
theorem Rp.dp (s : Same G H) : ∀ {d : Dat} {v : V} {n : Nat}, Rp K G v d → Shp n d → Dp K H v d.py
  | .non, _, _, h, _ => by cases h; simp only [Dat.py]; exact .non
  | .bl b, _, _, h, _ => by cases h; simp only [Dat.py]; exact .bl b
  | .int b, _, _, h, _ => by cases h; simp only [Dat.py]; exact .int b
  | .str b, _, _, h, _ => by cases h; simp only [Dat.py]; exact .str b
  | .lst ds, _, n, h, z => by
    cases h with
    | lst e a =>
      cases n with
      | zero => simp only [Shp] at z
      | succ n =>
        rw [shp_lst] at z
        simp only [Dat.py]
        exact .lst (.inl (.inl (s _ _ e))) (RpAll.dp s a z)
  | .tup ds, _, n, h, z => by
    cases h with
    | tup e a =>
      cases n with
      | zero => simp only [Shp] at z
      | succ n =>
        rw [shp_tup] at z
        simp only [Dat.py]
        exact .tup (.inl (.inl (s _ _ e))) (RpAll.dp s a z)
  | .ty _, _, _, _, h => by simp only [Shp] at h
  | .cls _, _, _, _, h => by simp only [Shp] at h
  | .ins _ _ _, _, _, _, h => by simp only [Shp] at h
  | .emp, _, _, _, h => by simp only [Shp] at h
  | .scr _, _, _, _, h => by simp only [Shp] at h
theorem RpAll.dp (s : Same G H) : ∀ {ds : List Dat} {vs : List V} {n : Nat}, RpAll K G vs ds → ShpAll n ds → DpAll K H vs (Dat.pys ds)
  | [], _, _, h, _ => by cases h; simp only [Dat.pys]; exact .nil
  | d :: ds, _, _, h, z => by
    simp only [ShpAll] at z
    cases h with
    | cons a b => simp only [Dat.pys]; exact .cons (Rp.dp s a z.1) (RpAll.dp s b z.2)
end
/-- == of data -/
def eqd (a b : Dat) : Bool := PyData.eqv a.py b.py
theorem ev_eq (ha : Ev K ta ρ d1 ρ1) (hb : Ev K tb ρ1 d2 ρ2) (s1 : Shp 60 d1) (s2 : Shp 60 d2) : Ev K (tOp (rEqD K) ta tb) ρ (.bl (eqd d1 d2)) ρ2 := ev_op ha hb (rv_pure fun G H x y s rx ry =>
  ⟨_, .bl _, fun Q q => ⟨_, _, rx.dp s s1, ry.dp s s2, shaped_of s1, shaped_of s2, q⟩⟩)
theorem ev_ne (ha : Ev K ta ρ d1 ρ1) (hb : Ev K tb ρ1 d2 ρ2) (s1 : Shp 60 d1) (s2 : Shp 60 d2) : Ev K (tOp (rNeD K) ta tb) ρ (.bl (!eqd d1 d2)) ρ2 := ev_op ha hb (rv_pure fun G H x y s rx ry =>
  ⟨_, .bl _, fun Q q => ⟨_, _, rx.dp s s1, ry.dp s s2, shaped_of s1, shaped_of s2, q⟩⟩)
theorem eqd_int (i j : Int) : eqd (.int i) (.int j) = (i == j) := by simp [eqd, Dat.py, PyData.eqv]
theorem eqd_str (i j : Str) : eqd (.str i) (.str j) = (i == j) := by simp [eqd, Dat.py, PyData.eqv]
theorem eqd_bl (i j : Bool) : eqd (.bl i) (.bl j) = (i == j) := by simp [eqd, Dat.py, PyData.eqv]
theorem eqd_lst (as bs : List Dat) : eqd (.lst as) (.lst bs) = PyData.eqvAll (Dat.pys as) (Dat.pys bs) := by simp [eqd, Dat.py, PyData.eqv]
theorem eqd_tup (as bs : List Dat) : eqd (.tup as) (.tup bs) = PyData.eqvAll (Dat.pys as) (Dat.pys bs) := by simp [eqd, Dat.py, PyData.eqv]
mutual
theorem pyeqv_refl : ∀ {n : Nat} {d : Dat}, Shp n d → PyData.eqv d.py d.py = true
  | _, .non, _ => by simp [Dat.py, PyData.eqv]
  | _, .bl _, _ => by simp [Dat.py, PyData.eqv]
  | _, .int _, _ => by simp [Dat.py, PyData.eqv]
  | _, .str _, _ => by simp [Dat.py, PyData.eqv]
  | n, .lst ds, h => by
    cases n with
    | zero => simp only [Shp] at h
    | succ n => rw [shp_lst] at h; simp only [Dat.py, PyData.eqv]; exact pyeqvAll_refl h
  | n, .tup ds, h => by
    cases n with
    | zero => simp only [Shp] at h
    | succ n => rw [shp_tup] at h; simp only [Dat.py, PyData.eqv]; exact pyeqvAll_refl h
  | _, .ty _, h => by simp only [Shp] at h
  | _, .cls _, h => by simp only [Shp] at h
  | _, .ins _ _ _, h => by simp only [Shp] at h
  | _, .emp, h => by simp only [Shp] at h
  | _, .scr _, h => by simp only [Shp] at h
theorem pyeqvAll_refl : ∀ {n : Nat} {ds : List Dat}, ShpAll n ds → PyData.eqvAll (Dat.pys ds) (Dat.pys ds) = true
  | _, [], _ => by simp only [Dat.pys, PyData.eqvAll]
  | n, d :: ds, h => by
    simp only [ShpAll] at h
    simp only [Dat.pys, PyData.eqvAll, pyeqv_refl h.1, pyeqvAll_refl h.2, Bool.and_self]
end
theorem eqd_refl {n : Nat} {d : Dat} (h : Shp n d) : eqd d d = true := pyeqv_refl h
/-- x in [..], of data of any depth -/
theorem rp_look (c : Ct K Z G H σ ρ) {a : Ag} {v : V} (h : AgAt K G σ v a) (l : look ρ a = some ds) {n : Nat} (z : ShpAll n ds) : Dp K H v (.list (Dat.pys ds)) := by
  obtain ⟨p, xs, rfl, hs, r⟩ := c.read h l
  exact .lst hs (RpAll.dp c.gh r z)
theorem pys_any (p : PyData → Bool) : ∀ ds : List Dat, (Dat.pys ds).any p = ds.any fun d => p d.py
  | [] => by simp only [Dat.pys, List.any_nil]
  | d :: ds => by simp only [Dat.pys, List.any_cons, pys_any p ds]
theorem ev_in {a : Ag} (ha : Ev K ta ρ d ρ1) (hb : EvL K tb ρ1 a ρ2) (l : look ρ2 a = some ds) (s1 : Shp 60 d) (s2 : ShpAll 59 ds) : Ev K (tOp (rInD K) ta tb) ρ (.bl (ds.any fun e => eqd e d)) ρ2 := fun Z G H σ c Q q => by
  refine ha Z G H σ c _ fun x G1 H1 t1 c1 r1 => ?_
  refine hb Z G1 H1 σ c1 _ fun y G2 H2 t2 c2 r2 => ?_
  have e := pys_any (fun z => PyData.eqv z d.py) ds
  refine ⟨d.py, Dat.pys ds, (r1.to t2).dp c2.gh s1, rp_look c2 r2 l s2, shaped_of s1, ?_, ?_⟩
  · have := shaped_of (d := .lst ds) (by rw [shp_lst]; exact s2)
    simpa only [Dat.py] using this
  · rw [e]
    exact q _ _ _ (t1.trans t2) c2 (.bl _)
theorem ev_notIn {a : Ag} (ha : Ev K ta ρ d ρ1) (hb : EvL K tb ρ1 a ρ2) (l : look ρ2 a = some ds) (s1 : Shp 60 d) (s2 : ShpAll 59 ds) : Ev K (tOp (rNotInD K) ta tb) ρ (.bl (!ds.any fun e => eqd e d)) ρ2 := fun Z G H σ c Q q => by
  refine ha Z G H σ c _ fun x G1 H1 t1 c1 r1 => ?_
  refine hb Z G1 H1 σ c1 _ fun y G2 H2 t2 c2 r2 => ?_
  have e := pys_any (fun z => PyData.eqv z d.py) ds
  refine ⟨d.py, Dat.pys ds, (r1.to t2).dp c2.gh s1, rp_look c2 r2 l s2, shaped_of s1, ?_, ?_⟩
  · have := shaped_of (d := .lst ds) (by rw [shp_lst]; exact s2)
    simpa only [Dat.py] using this
  · rw [e]
    exact q _ _ _ (t1.trans t2) c2 (.bl _)
/-! arguments, displays -/
theorem ea_nil : EvA K tNil ρ [] ρ := fun _ G H _ c Q q => q [] G H (Same.refl G) c .nil
theorem ea_d {t : TA} {as : List Ag} (ha : Ev K te ρ d ρ1) (hb : EvA K t ρ1 as ρ2) : EvA K (tCons te t) ρ (.d d :: as) ρ2 := fun Z G H σ c Q q => by
  refine ha Z G H σ c _ fun x G1 H1 s1 c1 r1 => ?_
  exact hb Z G1 H1 σ c1 _ fun vs G2 H2 s2 c2 r2 => q _ _ _ (s1.trans s2) c2 (.cons (r1.to s2) r2)
theorem ea_s {t : TA} {as : List Ag} (h : ∃ s, ρ[i]? = some s ∧ s.isOwn = true := by exact ⟨_, rfl, rfl⟩) (hb : EvA K t ρ as ρ2) : EvA K (tCons (tVar i) t) ρ (.s i :: as) ρ2 := fun Z G H σ c Q q => by
  refine el_s h Z G H σ c _ fun x G1 H1 s1 c1 r1 => ?_
  exact hb Z G1 H1 σ c1 _ fun vs G2 H2 s2 c2 r2 => q _ _ _ (s1.trans s2) c2 (.cons r1 r2)
theorem rp_args : ∀ {ds : List Dat} {vs : List V}, Paired (AgAt K G σ) vs (ds.map Ag.d) → RpAll K G vs ds
  | [], _, h => by cases h; exact .nil
  | d :: ds, _, h => by cases h with | cons a b => exact .cons a (rp_args b)
/-- fresh lists are data -/
theorem ev_of_fresh (h : EvF K te ρ ds ρ') : Ev K te ρ (.lst ds) ρ' := fun Z G H σ c Q q => by
  refine h Z G H σ c _ fun p xs G1 H1 s1 c1 g1 h1 r1 z no => ?_
  obtain ⟨c2, s2⟩ := c1.adopt h1 z.1 z.2 no g1
  exact q _ _ _ (s1.trans s2) c2 (.lst upd_same (r1.to s2))
/-- a rule that lays a new list -/
theorem fresh_of (c : Ct K Z G H σ ρ) {p : Addr} {xs : List V} (hp : H p = none) : Ct K Z G (upd H p (.lst xs)) σ ρ ∧ G p = none ∧ (Z.H0 p = none ∧ Z.Kp p = none) ∧ (∀ i, ¬ Hd σ ρ i p) :=
  ⟨c.grow hp, c.freshG hp, ⟨c.fresh0 hp, c.freshK hp⟩, fun i hi => by
    obtain ⟨e, s, h, ho⟩ := hi
    obtain ⟨q, xs, ds, e2, g, hq, _⟩ := c.ow h ho
    rw [e] at e2
    cases e2
    rw [hp] at hq
    cases hq⟩
theorem sz_ok {n : Nat} (h : n ≤ 100000) : n ≤ sizeLine := Nat.le_trans h (by decide)
theorem ef_lst {t : TA} (h : EvA K t ρ (ds.map Ag.d) ρ1) (hl : ds.length ≤ 100000) : EvF K (tLst t) ρ ds ρ1 := fun Z G H σ c Q q => by
  refine h Z G H σ c _ fun vs G1 H1 s1 c1 r1 => ?_
  have r := rp_args r1
  refine ⟨by rw [r.length]; exact sz_ok hl, fun p hp => ?_⟩
  obtain ⟨a, b, z, no⟩ := fresh_of c1 (xs := vs) hp
  exact q p vs G1 _ s1 a b upd_same r z no
theorem ev_lst {t : TA} (h : EvA K t ρ (ds.map Ag.d) ρ1) (hl : ds.length ≤ 100000) : Ev K (tLst t) ρ (.lst ds) ρ1 := ev_of_fresh (ef_lst h hl)
theorem ev_tup {t : TA} (h : EvA K t ρ (ds.map Ag.d) ρ1) (hl : ds.length ≤ 100000) : Ev K (tTup t) ρ (.tup ds) ρ1 := fun Z G H σ c Q q => by
  refine h Z G H σ c _ fun vs G1 H1 s1 c1 r1 => ?_
  have r := rp_args r1
  refine ⟨by rw [r.length]; exact sz_ok hl, fun p hp => ?_⟩
  obtain ⟨c2, s2⟩ := c1.grown (o := .tup vs) hp
  exact q _ _ _ (s1.trans s2) c2 (.tup upd_same (r.to s2))
/-! lists: +, *, items, slices, len, list(..) -/
theorem ef_cat {a b : Ag} (ha : EvL K ta ρ a ρ1) (hb : EvL K tb ρ1 b ρ2) (la : lookS ρ2 a = some ds) (lb : lookS ρ2 b = some es) (hl : ds.length + es.length ≤ 100000) : EvF K (tOp rCat ta tb) ρ (ds ++ es) ρ2 := fun Z G H σ c Q q => by
  refine ha Z G H σ c _ fun x G1 H1 s1 c1 r1 => ?_
  refine hb Z G1 H1 σ c1 _ fun y G2 H2 s2 c2 r2 => ?_
  obtain ⟨p, xs, rfl, hp, rx⟩ := c2.readS (r1.to s2) la
  obtain ⟨p', ys, rfl, hp', ry⟩ := c2.readS r2 lb
  refine ⟨p, p', xs, ys, rfl, rfl, hp, hp', by rw [rx.length, ry.length]; exact sz_ok hl, fun n hn => ?_⟩
  obtain ⟨a, b, z, no⟩ := fresh_of c2 (xs := xs ++ ys) hn
  exact q n _ G2 _ (s1.trans s2) a b upd_same (rx.app ry) z no
theorem ev_cat {a b : Ag} (ha : EvL K ta ρ a ρ1) (hb : EvL K tb ρ1 b ρ2) (la : lookS ρ2 a = some ds) (lb : lookS ρ2 b = some es) (hl : ds.length + es.length ≤ 100000) : Ev K (tOp rCat ta tb) ρ (.lst (ds ++ es)) ρ2 := ev_of_fresh (ef_cat ha hb la lb hl)
theorem ev_ixL {a : Ag} {j : Int} (ha : EvL K ta ρ a ρ1) (hb : Ev K tb ρ1 (.int j) ρ2) (l : look ρ2 a = some ds) (hj : atI ds j = some d) : Ev K (tOp (rIxL K) ta tb) ρ d ρ2 := fun Z G H σ c Q q => by
  refine ha Z G H σ c _ fun x G1 H1 s1 c1 r1 => ?_
  refine hb Z G1 H1 σ c1 _ fun y G2 H2 s2 c2 r2 => ?_
  obtain ⟨p, xs, rfl, hp, rx⟩ := c2.read (r1.to s2) l
  cases r2
  have e : ixN xs.length j = ixN ds.length j := by rw [rx.length]
  unfold atI at hj
  rw [← e] at hj
  obtain ⟨k, hk, hd⟩ := Option.bind_eq_some_iff.mp hj
  obtain ⟨v, hv, rv⟩ := rx.get hd
  exact ⟨p, xs, j, v, rfl, rfl, hp, by unfold atI; rw [hk]; exact hv, q v _ _ (s1.trans s2) c2 rv⟩
theorem ev_ixT {j : Int} (ha : Ev K ta ρ (.tup ds) ρ1) (hb : Ev K tb ρ1 (.int j) ρ2) (hj : atI ds j = some d) : Ev K (tOp (rIxT K) ta tb) ρ d ρ2 := fun Z G H σ c Q q => by
  refine ha Z G H σ c _ fun x G1 H1 s1 c1 r1 => ?_
  refine hb Z G1 H1 σ c1 _ fun y G2 H2 s2 c2 r2 => ?_
  cases r1.to s2 with
  | @tup p xs _ hp rx =>
    cases r2
    have e : ixN xs.length j = ixN ds.length j := by rw [rx.length]
    unfold atI at hj
    rw [← e] at hj
    obtain ⟨k, hk, hd⟩ := Option.bind_eq_some_iff.mp hj
    obtain ⟨v, hv, rv⟩ := rx.get hd
    exact ⟨p, xs, j, v, rfl, rfl, .inl (.inl (c2.gh _ _ hp)), by unfold atI; rw [hk]; exact hv, q v _ _ (s1.trans s2) c2 rv⟩
theorem ev_ixS {j : Int} {z : Str} {k : Nat} (ha : Ev K ta ρ (.str z) ρ1) (hb : Ev K tb ρ1 (.int j) ρ2) (hz : z.length ≤ 100000) (hj : atI z.cps.toList j = some k) : Ev K (tOp rIxS ta tb) ρ (.str ⟨#[k]⟩) ρ2 := fun Z G H σ c Q q => by
  refine ha Z G H σ c _ fun x G1 H1 s1 c1 r1 => ?_
  refine hb Z G1 H1 σ c1 _ fun y G2 H2 s2 c2 r2 => ?_
  cases r1; cases r2
  exact ⟨z, j, k, rfl, rfl, sz_ok hz, hj, q _ _ _ (s1.trans s2) c2 (.str _)⟩
theorem eo_no : EvO K tNoPart ρ none ρ := fun _ G H _ c Q q => q G H (Same.refl G) c
theorem eo_some {j : Int} (h : Ev K te ρ (.int j) ρ1) : EvO K (tPart te) ρ (some j) ρ1 := fun Z G H σ c Q q => by
  refine h Z G H σ c _ fun x G1 H1 s1 c1 r1 => ?_
  cases r1
  exact ⟨j, rfl, q _ _ s1 c1⟩
def cutD (xs : List Dat) (lo hi : Option Int) : List Dat := (xs.drop (HT.sIx xs.length 0 lo)).take (HT.sIx xs.length xs.length hi - HT.sIx xs.length 0 lo)
theorem rp_cut {xs : List V} (r : RpAll K G xs ds) (lo hi : Option Int) : RpAll K G (cutV xs lo hi) (cutD ds lo hi) := by
  unfold cutV cutD
  rw [r.length]
  exact RpAll.takeR _ (RpAll.dropR _ r)
theorem ef_slL {a : Ag} {tl th : TO} {lo hi : Option Int} (ha : EvL K ta ρ a ρ1) (hl : EvO K tl ρ1 lo ρ2) (hh : EvO K th ρ2 hi ρ3) (l : look ρ3 a = some ds) : EvF K (tSl (rSlL K) ta tl th) ρ (cutD ds lo hi) ρ3 := fun Z G H σ c Q q => by
  refine ha Z G H σ c _ fun x G1 H1 s1 c1 r1 => ?_
  refine hl Z G1 H1 σ c1 _ fun G2 H2 s2 c2 => ?_
  refine hh Z G2 H2 σ c2 _ fun G3 H3 s3 c3 => ?_
  obtain ⟨p, xs, rfl, hp, rx⟩ := c3.read (r1.to (s2.trans s3)) l
  refine ⟨p, xs, rfl, hp, fun n hn => ?_⟩
  obtain ⟨a, b, z, no⟩ := fresh_of c3 (xs := cutV xs lo hi) hn
  exact q n _ G3 _ ((s1.trans s2).trans s3) a b upd_same (rp_cut rx lo hi) z no
theorem ev_slL {a : Ag} {tl th : TO} {lo hi : Option Int} (ha : EvL K ta ρ a ρ1) (hl : EvO K tl ρ1 lo ρ2) (hh : EvO K th ρ2 hi ρ3) (l : look ρ3 a = some ds) : Ev K (tSl (rSlL K) ta tl th) ρ (.lst (cutD ds lo hi)) ρ3 := ev_of_fresh (ef_slL ha hl hh l)
theorem ev_slS {tl th : TO} {lo hi : Option Int} {z : Str} (ha : Ev K ta ρ (.str z) ρ1) (hl : EvO K tl ρ1 lo ρ2) (hh : EvO K th ρ2 hi ρ3) (hz : z.length ≤ 100000) : Ev K (tSl rSlS ta tl th) ρ (.str (cutS z lo hi)) ρ3 := fun Z G H σ c Q q => by
  refine ha Z G H σ c _ fun x G1 H1 s1 c1 r1 => ?_
  refine hl Z G1 H1 σ c1 _ fun G2 H2 s2 c2 => ?_
  refine hh Z G2 H2 σ c2 _ fun G3 H3 s3 c3 => ?_
  cases r1
  exact ⟨z, rfl, sz_ok hz, q _ _ _ ((s1.trans s2).trans s3) c3 (.str _)⟩

theorem el_get {a : Ag} (h : EvL K te ρ a ρ') (c : Ct K Z G H σ ρ) {Q : VK} (q : ∀ (v : V) (G' H' : Hp), Same G G' → Ct K Z G' H' σ ρ' → AgAt K G' σ v a → Q v H') : te σ H Q := h Z G H σ c Q q
/-- one argument that is a list to be read -/
theorem one_L {a : Ag} (h : EvL K te ρ a ρ') (c : Ct K Z G H σ ρ) {Q : List V → Hp → Prop} (q : ∀ (v : V) (G' H' : Hp), Same G G' → Ct K Z G' H' σ ρ' → AgAt K G' σ v a → Q [v] H') : tCons te tNil σ H Q :=
  h Z G H σ c _ fun v G' H' s c' r => q v G' H' s c' r
theorem ev_lenL {a : Ag} {r : List V → Hp → VK → Prop} (hr : r = fun xs H Q => ∃ p ys, xs = [.ref p] ∧ (SqL K H p ys ∨ SqT K H p ys) ∧ Q (.int ys.length) H) (ha : EvL K ta ρ a ρ1) (l : look ρ1 a = some ds) : Ev K (tCB r (tCons ta tNil)) ρ (.int ds.length) ρ1 := fun Z G H σ c Q q => by
  subst hr
  refine one_L ha c fun v G1 H1 s1 c1 r1 => ?_
  obtain ⟨p, xs, rfl, hp, rx⟩ := c1.read r1 l
  exact ⟨p, xs, rfl, .inl hp, by rw [rx.length]; exact q _ _ _ s1 c1 (.int _)⟩
theorem ev_lenT {r : List V → Hp → VK → Prop} (hr : r = fun xs H Q => ∃ p ys, xs = [.ref p] ∧ (SqL K H p ys ∨ SqT K H p ys) ∧ Q (.int ys.length) H) (ha : Ev K ta ρ (.tup ds) ρ1) : Ev K (tCB r (tCons ta tNil)) ρ (.int ds.length) ρ1 := fun Z G H σ c Q q => by
  subst hr
  refine ha Z G H σ c _ fun v G1 H1 s1 c1 r1 => ?_
  cases r1 with
  | @tup p xs _ e rx => exact ⟨p, xs, rfl, .inr (.inl (.inl (c1.gh _ _ e))), by rw [rx.length]; exact q _ _ _ s1 c1 (.int _)⟩
/-- list(xs) -/
theorem ef_list {a : Ag} {r : List V → Hp → VK → Prop} (hr : r = fun xs H Q => ∃ p ys, xs = [.ref p] ∧ (SqL K H p ys ∨ SqT K H p ys) ∧ ∀ l, H l = none → Q (.ref l) (upd H l (.lst ys))) (ha : EvL K ta ρ a ρ1) (l : look ρ1 a = some ds) : EvF K (tCB r (tCons ta tNil)) ρ ds ρ1 := fun Z G H σ c Q q => by
  subst hr
  refine one_L ha c fun v G1 H1 s1 c1 r1 => ?_
  obtain ⟨p, xs, rfl, hp, rx⟩ := c1.read r1 l
  refine ⟨p, xs, rfl, .inl hp, fun n hn => ?_⟩
  obtain ⟨a, b, z, no⟩ := fresh_of c1 (xs := xs) hn
  exact q n _ G1 _ s1 a b upd_same rx z no
theorem ev_list {a : Ag} {r : List V → Hp → VK → Prop} (hr : r = fun xs H Q => ∃ p ys, xs = [.ref p] ∧ (SqL K H p ys ∨ SqT K H p ys) ∧ ∀ l, H l = none → Q (.ref l) (upd H l (.lst ys))) (ha : EvL K ta ρ a ρ1) (l : look ρ1 a = some ds) : Ev K (tCB r (tCons ta tNil)) ρ (.lst ds) ρ1 := ev_of_fresh (ef_list hr ha l)
/-- tuple(xs), xs a list -/
theorem ev_tupleL {a : Ag} {r : List V → Hp → VK → Prop} (hr : r = fun xs H Q => ∃ p ys, xs = [.ref p] ∧ ((SqL K H p ys ∧ ∀ l, H l = none → Q (.ref l) (upd H l (.tup ys))) ∨ (SqT K H p ys ∧ Q (.ref p) H))) (ha : EvL K ta ρ a ρ1) (l : look ρ1 a = some ds) : Ev K (tCB r (tCons ta tNil)) ρ (.tup ds) ρ1 := fun Z G H σ c Q q => by
  subst hr
  refine one_L ha c fun v G1 H1 s1 c1 r1 => ?_
  obtain ⟨p, xs, rfl, hp, rx⟩ := c1.read r1 l
  refine ⟨p, xs, rfl, .inl ⟨hp, fun n hn => ?_⟩⟩
  obtain ⟨c2, s2⟩ := c1.grown (o := .tup xs) hn
  exact q _ _ _ (s1.trans s2) c2 (.tup upd_same (rx.to s2))
/-- xs * n -/
def rep (ds : List Dat) (n : Nat) : List Dat := (List.replicate n ds).flatten
theorem rp_rep {xs : List V} (r : RpAll K G xs ds) : ∀ n : Nat, RpAll K G (List.replicate n xs).flatten (rep ds n)
  | 0 => .nil
  | n + 1 => by
    unfold rep
    rw [List.replicate_succ, List.replicate_succ, List.flatten_cons, List.flatten_cons]
    exact r.app (rp_rep r n)
/-- what a value's class is called -/
def Dat.tyn : Dat → Option String
  | .non => some "NoneType"
  | .bl _ => some "bool"
  | .int _ => some "int"
  | .str _ => some "str"
  | .lst _ => some "list"
  | .tup _ => some "tuple"
  | .emp => some "dict"
  | _ => none
theorem tyOf_of {v : V} {T : String} (s : Same G H) (r : Rp K G v d) (h : d.tyn = some T) : TyOf K H v (.type T) := by
  cases r with
  | non => cases h; exact .non
  | bl b => cases h; exact .bl b
  | int b => cases h; exact .int b
  | str b => cases h; exact .str b
  | lst e _ => cases h; exact .lst (s _ _ e)
  | tup e _ => cases h; exact .tup (s _ _ e)
  | emp e => cases h; exact .dK (s _ _ e)
  | _ => cases h
/-- isinstance(x, T), T a built-in type -/
theorem ev_isi {T : String} {n : String} {b : Bool} (ha : Ev K ta ρ d ρ1) (h : d.tyn = some T) (hk : kitB T n = some b) : Ev K (tCB (rIsi K) (tCons ta (tCons (tC (.ty n)) tNil))) ρ (.bl b) ρ1 := fun Z G H σ c Q q => by
  refine ha Z G H σ c _ fun v G1 H1 s1 c1 r1 => ?_
  exact ⟨v, .ty n, _, _, b, rfl, .ty n, .base (tyOf_of c1.gh r1 h), kit_ty hk, q _ _ _ s1 c1 (.bl b)⟩
/-- int(True), int(False) -/
theorem ev_intB {r : List V → Hp → VK → Prop} (hr : r = fun xs H Q => (∃ i, xs = [.int i] ∧ Q (.int i) H) ∨ ∃ k, xs = [.bl k] ∧ Q (.int (if k then 1 else 0)) H) (ha : Ev K ta ρ (.bl b) ρ1) : Ev K (tCB r (tCons ta tNil)) ρ (.int (if b then 1 else 0)) ρ1 := fun Z G H σ c Q q => by
  subst hr
  refine ha Z G H σ c _ fun v G1 H1 s1 c1 r1 => ?_
  cases r1
  exact .inr ⟨b, rfl, q _ _ _ s1 c1 (.int _)⟩
/-- all([..]) of truths -/
theorem ev_all {bs : List Bool} {a : Ag} (ha : EvL K ta ρ a ρ1) (l : look ρ1 a = some (bs.map Dat.bl)) : Ev K (tCB (rAll K) (tCons ta tNil)) ρ (.bl (bs.all id)) ρ1 := fun Z G H σ c Q q => by
  refine one_L ha c fun v G1 H1 s1 c1 r1 => ?_
  obtain ⟨p, xs, rfl, hp, rx⟩ := c1.read r1 l
  have e := rx.blsEq
  subst e
  exact ⟨p, bs, rfl, hp, q _ _ _ s1 c1 (.bl _)⟩
theorem ev_any {bs : List Bool} {a : Ag} (ha : EvL K ta ρ a ρ1) (l : look ρ1 a = some (bs.map Dat.bl)) : Ev K (tCB (rAny K) (tCons ta tNil)) ρ (.bl (bs.any id)) ρ1 := fun Z G H σ c Q q => by
  refine one_L ha c fun v G1 H1 s1 c1 r1 => ?_
  obtain ⟨p, xs, rfl, hp, rx⟩ := c1.read r1 l
  have e := rx.blsEq
  subst e
  exact ⟨p, bs, rfl, hp, q _ _ _ s1 c1 (.bl _)⟩
/-- x + y of texts -/
theorem ev_cats {r : R2} {x y : Str} (hr : r = fun x y H Q => ∃ i j, x = .str i ∧ y = .str j ∧ i.length + j.length ≤ sizeLine ∧ Q (.str (i ++ j)) H) (ha : Ev K ta ρ (.str x) ρ1) (hb : Ev K tb ρ1 (.str y) ρ2) (hl : x.length + y.length ≤ 100000) : Ev K (tOp r ta tb) ρ (.str (x ++ y)) ρ2 := by
  subst hr
  exact ev_op ha hb (rv_pure fun G H u v s ru rv => by
    cases ru; cases rv
    exact ⟨_, .str _, fun Q q => ⟨x, y, rfl, rfl, sz_ok hl, q⟩⟩)
/-- x <= y of texts -/
theorem rv_leS {x y : Str} {r : R2} (hr : r = fun x y H Q => ∃ i j, x = .str i ∧ y = .str j ∧ Q (.bl (!decide (j.cps.toList < i.cps.toList))) H) : RV K r ρ (.str x) (.str y) (.bl (!decide (y.cps.toList < x.cps.toList))) := by
  subst hr
  exact rv_pure fun G H u v s ru rv => by
    cases ru; cases rv
    exact ⟨_, .bl _, fun Q q => ⟨x, y, rfl, rfl, q⟩⟩
/-- a op1 b op2 c -/
theorem ev_chain {r r' : R2} {k k' : Bool} (ha : Ev K ta ρ d1 ρ) (hb : Ev K tb ρ d2 ρ) (hr : RV K r ρ d1 d2 (.bl k)) (hc : k = true → Ev K tc ρ d3 ρ) (hr' : k = true → RV K r' ρ d2 d3 (.bl k')) : Ev K (tChain r r' ta tb tc) ρ (.bl (k && k')) ρ := fun Z G H σ c Q q => by
  refine ha Z G H σ c _ fun x G1 H1 s1 c1 r1 => ?_
  refine hb Z G1 H1 σ c1 _ fun y G2 H2 s2 c2 r2 => ?_
  refine hr Z G2 H2 σ c2 x y (r1.to s2) r2 _ fun z G3 H3 s3 c3 r3 => ?_
  cases r3
  refine ⟨k, rfl, ?_⟩
  cases k with
  | false => exact iteF (q _ _ _ ((s1.trans s2).trans s3) c3 (.bl _))
  | true =>
    refine iteT ?_
    refine hc rfl Z G3 H3 σ c3 _ fun w G4 H4 s4 c4 r4 => ?_
    exact hr' rfl Z G4 H4 σ c4 y w (r2.to (s3.trans s4)) r4 Q fun v G5 H5 s5 => q v G5 H5 ((((s1.trans s2).trans s3).trans s4).trans s5)
/-! tests -/
theorem et_test (h : Ev K te ρ (.bl b) ρ') : EvT K (tTest te) ρ b ρ' := fun Z G H σ c Q q => by
  refine h Z G H σ c _ fun v G1 H1 s1 c1 r1 => ?_
  cases r1
  exact ⟨b, rfl, q _ _ s1 c1⟩
theorem et_B (h : Ev K te ρ (.bl b) ρ') : EvT K (tB te) ρ b ρ' := fun Z G H σ c Q q => by
  refine h Z G H σ c _ fun v G1 H1 s1 c1 r1 => ?_
  cases r1
  exact ⟨b, rfl, q _ _ s1 c1⟩
theorem et_not (h : EvT K tt ρ b ρ') : EvT K (tNot tt) ρ (!b) ρ' := fun Z G H σ c Q q => h Z G H σ c _ fun G1 H1 s1 c1 => q _ _ s1 c1
theorem et_and {a : Bool} (h : EvT K tt ρ a ρ) (k : a = true → EvT K tu ρ b ρ) : EvT K (tAnd tt tu) ρ (a && b) ρ := fun Z G H σ c Q q => by
  refine h Z G H σ c _ fun G1 H1 s1 c1 => ?_
  cases a with
  | false => exact iteF (q _ _ s1 c1)
  | true => exact iteT (k rfl Z G1 H1 σ c1 Q fun G2 H2 s2 c2 => q _ _ (s1.trans s2) c2)
theorem et_or {a : Bool} (h : EvT K tt ρ a ρ) (k : a = false → EvT K tu ρ b ρ) : EvT K (tOr tt tu) ρ (a || b) ρ := fun Z G H σ c Q q => by
  refine h Z G H σ c _ fun G1 H1 s1 c1 => ?_
  cases a with
  | true => exact iteT (q _ _ s1 c1)
  | false => exact iteF (k rfl Z G1 H1 σ c1 Q fun G2 H2 s2 c2 => q _ _ (s1.trans s2) c2)
theorem ev_and {a : Bool} (h : Ev K ta ρ (.bl a) ρ) (k : a = true → Ev K tb ρ (.bl b) ρ) : Ev K (tAndV ta tb) ρ (.bl (a && b)) ρ := fun Z G H σ c Q q => by
  refine h Z G H σ c _ fun v G1 H1 s1 c1 r1 => ?_
  cases r1
  refine ⟨a, rfl, ?_⟩
  cases a with
  | false => exact iteF (q _ _ _ s1 c1 (.bl _))
  | true => exact iteT (k rfl Z G1 H1 σ c1 Q fun v G2 H2 s2 c2 => q _ _ _ (s1.trans s2) c2)
theorem ev_or {a : Bool} (h : Ev K ta ρ (.bl a) ρ) (k : a = false → Ev K tb ρ (.bl b) ρ) : Ev K (tOrV ta tb) ρ (.bl (a || b)) ρ := fun Z G H σ c Q q => by
  refine h Z G H σ c _ fun v G1 H1 s1 c1 r1 => ?_
  cases r1
  refine ⟨a, rfl, ?_⟩
  cases a with
  | true => exact iteT (q _ _ _ s1 c1 (.bl _))
  | false => exact iteF (k rfl Z G1 H1 σ c1 Q fun v G2 H2 s2 c2 => q _ _ _ (s1.trans s2) c2)
theorem ev_not (h : Ev K ta ρ (.bl b) ρ') : Ev K (tNotV ta) ρ (.bl (!b)) ρ' := fun Z G H σ c Q q => by
  refine h Z G H σ c _ fun v G1 H1 s1 c1 r1 => ?_
  cases r1
  exact ⟨b, rfl, q _ _ _ s1 c1 (.bl _)⟩
theorem ev_if {a : Bool} (h : EvT K tt ρ a ρ1) (k1 : a = true → Ev K ta ρ1 d ρ2) (k2 : a = false → Ev K tb ρ1 d ρ2) : Ev K (tIf tt ta tb) ρ d ρ2 := fun Z G H σ c Q q => by
  refine h Z G H σ c _ fun G1 H1 s1 c1 => ?_
  cases a with
  | true => exact iteT (k1 rfl Z G1 H1 σ c1 Q fun v G2 H2 s2 => q v G2 H2 (s1.trans s2))
  | false => exact iteF (k2 rfl Z G1 H1 σ c1 Q fun v G2 H2 s2 => q v G2 H2 (s1.trans s2))
theorem Ev.to {d' : Dat} (h : Ev K te ρ d ρ') (e : d = d') : Ev K te ρ d' ρ' := e ▸ h
theorem EvT.to {b' : Bool} (h : EvT K tt ρ b ρ') (e : b = b') : EvT K tt ρ b' ρ' := e ▸ h
end

/-! ### promises -/
section
variable {K : PySem.W.Frag}
/-- a def's promise: of arguments as it hands back d and leaves the changed lists as' -/
def spG (K : PySem.W.Frag) (R : List Sl → Dat → List Sl → Prop) : Sp := fun vs H Q _ => ∃ (G : Hp) (O : List Addr) (as : List Sl) (d : Dat) (as' : List Sl), R as d as' ∧ Ct K ⟨G, H, O, fun _ => none⟩ G H (vs.map some) as ∧
  ∀ (v : V) (G' H' : Hp), Ct K ⟨G, H, O, fun _ => none⟩ G' H' (vs.map some) as' → Rp K G' v d → Q v H'
theorem spG_len {R : List Sl → Dat → List Sl → Prop} {n : Nat} (h : ∀ as d as', R as d as' → as.length = n) : ∀ vs H Q E, spG K R vs H Q E → vs.length = n := by
  rintro vs H Q E ⟨G, O, as, d, as', r, c, _⟩
  have := c.len
  rw [List.length_map] at this
  rw [this, h _ _ _ r]
variable {Z : Zs} {G G' H H' : Hp} {σ : L2.St} {ρ ρ' ρ1 ρ2 ρ3 : List Sl}
theorem noHd {ds : List Dat} {vs : List V} {i : Nat} {p : Addr} (h : Hd (vs.map some) (ds.map Sl.dat) i p) : False := by
  obtain ⟨_, s, e, o⟩ := h
  rw [List.getElem?_map] at e
  cases q : ds[i]? with
  | none => rw [q] at e; cases e
  | some d => rw [q] at e; cases e; cases o
/-- the state in which a callee starts, its arguments data alone -/
theorem start_all (gh : Same G H) {vs : List V} {ds : List Dat} (r : RpAll K G vs ds) : Ct K ⟨G, H, [], fun _ => none⟩ G H (vs.map some) (ds.map Sl.dat) where
  len := by rw [List.length_map, List.length_map, r.length]
  gg := Same.refl G
  gh := gh
  hh := fun _ _ e _ => e
  ge := fun _ n => n
  fr := fun _ _ n => n
  sl := fun i s e _ => by
    rw [List.getElem?_map] at e
    cases q : ds[i]? with
    | none => rw [q] at e; cases e
    | some d =>
      rw [q] at e
      have e : Sl.dat d = s := Option.some.inj e
      subst e
      obtain ⟨v, h1, h2⟩ := r.get q
      exact ⟨v, by rw [List.getElem?_map, h1]; rfl, h2⟩
  ds := fun i j p a _ => (noHd a).elim
  kp := fun _ _ e => by cases e
  kg := fun _ n => absurd rfl n
  kn := fun _ _ _ => rfl
/-- behind a call whose arguments were data alone -/
theorem Ct.after0 {vs : List V} {as' : List Sl} (c : Ct K Z G H σ ρ) (k : Ct K ⟨G, H, [], fun _ => none⟩ G' H' (vs.map some) as') : Same G G' ∧ Ct K Z G' H' σ ρ := by
  refine ⟨k.gg, c.len, fun b o e => k.gg b o (c.gg b o e), k.gh, fun b o e n => k.hh b o (c.hh b o e n) (by simp), fun b n => k.ge b (c.ge b n), fun b n z => k.fr b (c.ge b n) (c.fr b n z), fun i s e n => ?_, c.ds, fun b o e => k.hh b o (c.kp b o e) (by simp), fun b n => k.fr b (by
    cases q : Z.Kp b with
    | none => exact absurd q n
    | some o => show H b ≠ none; rw [c.kp b o q]; intro w; cases w) (c.kg b n), c.kn⟩
  obtain ⟨v, e1, w⟩ := c.sl i s e n
  refine ⟨v, e1, w.mono k.gg fun p xs _ _ g h => ⟨k.fr p (by show H p ≠ none; rw [h]; intro q; cases q) g, k.hh p _ h (by simp)⟩⟩
variable {ta : TA} {te : TE} {d : Dat} {ds : List Dat}
/-- f(..), all arguments data -/
theorem ev_call {R : List Sl → Dat → List Sl → Prop} {E : XK} {as' : List Sl} (ha : EvA K ta ρ (ds.map Ag.d) ρ1) (hR : R (ds.map Sl.dat) d as') : Ev K (tCall (spG K R) [] E ta) ρ d ρ1 := fun Z G H σ c Q q => by
  refine ha Z G H σ c _ fun vs G1 H1 s1 c1 r1 => ?_
  rw [List.append_nil]
  have r := rp_args r1
  refine ⟨G1, [], _, d, as', hR, start_all c1.gh r, fun v G2 H2 c2 r2 => ?_⟩
  obtain ⟨s2, c3⟩ := c1.after0 c2
  exact q v G2 H2 (s1.trans s2) c3 r2
/-- arguments with one list that is to be changed -/
def toSl (es : List Dat) : Ag → Sl
  | .d d => .dat d
  | .s _ => .par 0 es
def oneS (i : Nat) : List Ag → Prop
  | [] => False
  | .d _ :: r => oneS i r
  | .s j :: r => j = i ∧ r.all (fun a => match a with | .d _ => true | .s _ => false) = true
theorem one_has {i : Nat} : ∀ {as : List Ag} {es : List Dat} {vs : List V}, oneS i as → Paired (AgAt K G σ) vs as → ∃ k p, vs[k]? = some p ∧ σ[i]? = some (some p) ∧ (as.map (toSl es))[k]? = some (.par 0 es) ∧ ∀ (j : Nat) (s : Sl), (as.map (toSl es))[j]? = some s → s.isOwn = true → j = k
  | [], _, _, h, _ => h.elim
  | .d d :: r, es, vs, h, pr => by
    cases pr with
    | @cons v _ vs' _ a b =>
      obtain ⟨k, p, h1, h2, h3, h4⟩ := one_has (es := es) (show oneS i r from h) b
      refine ⟨k + 1, p, by simpa using h1, h2, by simpa using h3, fun j s e o => ?_⟩
      cases j with
      | zero =>
        have e : Sl.dat d = s := by simpa [toSl] using e
        subst e; cases o
      | succ j => rw [h4 j s (by simpa using e) o]
  | .s j :: r, es, vs, h, pr => by
    obtain ⟨rfl, al⟩ := h
    cases pr with
    | @cons v _ vs' _ a b =>
      refine ⟨0, v, rfl, a, rfl, fun k s e o => ?_⟩
      cases k with
      | zero => rfl
      | succ k =>
        exfalso
        rw [List.getElem?_map, List.getElem?_cons_succ] at e
        cases q : r[k]? with
        | none => rw [q] at e; cases e
        | some x =>
          rw [q] at e
          have hx := List.all_eq_true.mp al x (List.mem_of_getElem? q)
          cases x with
          | d d =>
            have e : Sl.dat d = s := by simpa [toSl] using e
            subst e; cases o
          | s _ => cases hx
theorem start_one (c : Ct K Z G H σ ρ) {i : Nat} {as : List Ag} {es : List Dat} {vs : List V} (o : oneS i as) (r : Paired (AgAt K G σ) vs as) (l : slItems ρ[i]? = some es) :
    ∃ p, σ[i]? = some (some (.ref p)) ∧ Ct K ⟨G, H, [p], fun _ => none⟩ G H (vs.map some) (as.map (toSl es)) ∧ ∃ k : Nat, vs[k]? = some (V.ref p) ∧ (as.map (toSl es))[k]? = some (.par 0 es) := by
  obtain ⟨k, u, h1, h2, h3, h4⟩ := one_has (es := es) o r
  obtain ⟨p, xs, rfl, hp, rx⟩ := c.slot h2 l
  have gp : G p = none := by
    cases q : ρ[i]? with
    | none => rw [q] at l; cases l
    | some t =>
      have ot : t.isOwn = true := by
        rw [q] at l
        cases t <;> first | rfl | cases l
      obtain ⟨p', xs', ds', e, g, _⟩ := c.ow q ot
      rw [h2] at e
      cases e
      exact g
  have len : vs.length = as.length := Paired.length r
  refine ⟨p, h2, ⟨by simp [len], Same.refl G, c.gh, fun _ _ e _ => e, fun _ n => n, fun _ _ n => n, fun j s e n => ?_, fun j j' q a b => ?_, fun _ _ e => (by cases e), fun _ n => absurd rfl n, fun _ _ _ => rfl⟩, k, h1, h3⟩
  · have hj : j < as.length := by
      have := (List.getElem?_eq_some_iff.mp e).1
      simpa using this
    have hv : j < vs.length := by rw [len]; exact hj
    refine ⟨vs[j], by rw [List.getElem?_map, List.getElem?_eq_getElem hv]; rfl, ?_⟩
    have pj : AgAt K G σ vs[j] as[j] := by
      clear h1 h2 h3 h4 o e
      induction r generalizing j with
      | nil => cases hj
      | cons a b ih =>
        cases j with
        | zero => exact a
        | succ j => exact ih (by simpa using len) j (by simpa using hj) (by simpa using hv)
    rw [List.getElem?_map, List.getElem?_eq_getElem hj] at e
    have e : toSl es as[j] = s := by simpa using e
    cases q : as[j] with
    | d d => rw [q] at e pj; rw [← e]; exact pj
    | s i' =>
      rw [q] at e
      have jk : j = k := h4 j s (by rw [List.getElem?_map, List.getElem?_eq_getElem hj]; simpa using (show toSl es as[j] = s by rw [q]; exact e)) (by rw [← e]; rfl)
      have ev : vs[j] = V.ref p := by
        subst jk
        rw [List.getElem?_eq_getElem hv] at h1
        exact Option.some.inj h1
      rw [← e]
      exact ⟨p, xs, ev, rfl, gp, hp, rx⟩
  · obtain ⟨_, s, e, os⟩ := a
    obtain ⟨_, s', e', os'⟩ := b
    rw [h4 _ _ e os, h4 _ _ e' os']
/-- f(.., xs, ..), the list of slot i to be changed -/
theorem ev_call1 {R : List Sl → Dat → List Sl → Prop} {E : XK} {as' : List Sl} {as : List Ag} {i k : Nat} {es es' : List Dat} {s : Sl} (ha : EvA K ta ρ as ρ1) (o : oneS i as) (l : slItems ρ1[i]? = some es) (hR : R (as.map (toSl es)) d as')
    (hk : (as.map (toSl es))[k]? = some (.par 0 es)) (hk' : as'[k]? = some (.par 0 es')) (hs : ρ1[i]? = some s) : Ev K (tCall (spG K R) [] E ta) ρ d (ρ1.set i (s.put es')) := fun Z G H σ c Q q => by
  refine ha Z G H σ c _ fun vs G1 H1 s1 c1 r1 => ?_
  rw [List.append_nil]
  obtain ⟨p, sp, c0, k', hk1, hk2⟩ := start_one c1 o r1 l
  have os : s.isOwn = true := by
    rw [hs] at l
    cases s <;> first | rfl | cases l
  refine ⟨G1, [p], _, d, as', hR, c0, fun v G2 H2 c2 r2 => ?_⟩
  obtain ⟨u, e1, p', xs, eu, z', g', h', rx⟩ := c2.sl k _ hk' rfl
  have ep : p' = p := by
    have z' : some p = some p' := z'
    cases z'
    rfl
  subst ep
  -- the caller's state behind it
  obtain ⟨p2, xs2, ds2, e2, g2, h2, rx2, zz, hd2, w⟩ := c1.ow hs os
  rw [sp] at e2
  cases e2
  have hr : i < ρ1.length := (List.getElem?_eq_some_iff.mp hs).1
  have gg : Same G1 G2 := c2.gg
  refine q v G2 H2 (s1.trans gg) ?_ r2
  refine ⟨by simp [c1.len], fun b u q => gg b u (c1.gg b u q), c2.gh, fun b u q n => ?_, fun b n => c2.ge b (c1.ge b n), fun b n z => c2.fr b (c1.ge b n) (c1.fr b n z), fun j t hj hn => ?_, fun j j' q a b => ?_, fun b u q => c2.hh b u (c1.kp b u q) (by
    have : b ≠ p' := fun t => by rw [t, c1.kn i p' hd2] at q; cases q
    simpa using this), fun b n => c2.fr b (by
    cases q : Z.Kp b with
    | none => exact absurd q n
    | some o => show H1 b ≠ none; rw [c1.kp b o q]; intro w; cases w) (c1.kg b n), fun j q a => ?_⟩
  · refine c2.hh b u (c1.hh b u q n) fun m => ?_
    have m : b = p' := by simpa using m
    rcases zz with z | z
    · rw [m, z] at q; cases q
    · exact n (by rw [m]; exact z)
  · by_cases q : i = j
    · subst q
      rw [List.getElem?_set_self hr] at hj
      cases hj
      refine ⟨_, sp, ?_⟩
      rcases w with ⟨rfl, z0⟩ | ⟨j0, rfl, z0⟩
      · exact ⟨p', xs, rfl, z0, g', h', rx⟩
      · exact ⟨p', xs, rfl, z0, g', h', rx⟩
    · rw [List.getElem?_set_ne q] at hj
      obtain ⟨u, e1, k⟩ := c1.sl j t hj hn
      refine ⟨u, e1, k.mono gg fun q' zs ev ho' gq hq => ?_⟩
      have nq : q' ≠ p' := fun t' => q (c1.ds i j p' hd2 ⟨by rw [e1, ev, t'], t, hj, ho'⟩)
      exact ⟨c2.fr q' (by show H1 q' ≠ none; rw [hq]; intro q; cases q) gq, c2.hh q' _ hq (by simpa using nq)⟩
  · have sub : ∀ (i' : Nat) (t : Sl), (ρ1.set i (s.put es'))[i']? = some t → t.isOwn = true → ∃ t', ρ1[i']? = some t' ∧ t'.isOwn = true := fun i' t q o => by
      by_cases w : i = i'
      · subst w; exact ⟨s, hs, os⟩
      · rw [List.getElem?_set_ne w] at q; exact ⟨t, q, o⟩
    exact c1.ds j j' q (hd_sub sub a) (hd_sub sub b)
  · have sub : ∀ (i' : Nat) (t : Sl), (ρ1.set i (s.put es'))[i']? = some t → t.isOwn = true → ∃ t', ρ1[i']? = some t' ∧ t'.isOwn = true := fun i' t q o => by
      by_cases w : i = i'
      · subst w; exact ⟨s, hs, os⟩
      · rw [List.getElem?_set_ne w] at q; exact ⟨t, q, o⟩
    exact c1.kn j q (hd_sub sub a)
end

/-! ### statements -/
inductive Out where
  | nx (ρ : List Sl) | rt (d : Dat) (ρ : List Sl) | bk (ρ : List Sl) | ct (ρ : List Sl)
  /-- a new list is handed back that nothing holds -/
  | rf (ds : List Dat) (ρ : List Sl)
section
variable (K : PySem.W.Frag)
def OutOk (Z : Zs) (G : Hp) (D : Ends) : Out → Prop
  | .nx ρ => ∀ (σ' : L2.St) (G' H' : Hp), Same G G' → Ct K Z G' H' σ' ρ → D.nx σ' H'
  | .rt d ρ => ∀ (σ' : L2.St) (v : V) (G' H' : Hp), Same G G' → Ct K Z G' H' σ' ρ → Rp K G' v d → D.rt v H'
  | .bk ρ => ∀ (σ' : L2.St) (G' H' : Hp), Same G G' → Ct K Z G' H' σ' ρ → D.bk σ' H'
  | .ct ρ => ∀ (σ' : L2.St) (G' H' : Hp), Same G G' → Ct K Z G' H' σ' ρ → D.ct σ' H'
  | .rf ds ρ => ∀ (σ' : L2.St) (p : Addr) (xs : List V) (G' H' : Hp), Same G G' → Ct K Z G' H' σ' ρ → G' p = none → Z.H0 p = none → H' p = some (.lst xs) → RpAll K G' xs ds → D.rt (.ref p) H'
def Ex (t : TS) (ρ : List Sl) (o : Out) : Prop := ∀ (Z : Zs) (G H : Hp) (σ : L2.St), Ct K Z G H σ ρ → ∀ D : Ends, OutOk K Z G D o → t D σ H
end
section
variable {K : PySem.W.Frag} {Z : Zs} {G G' H H' : Hp} {σ : L2.St} {ρ ρ' ρ1 ρ2 ρ3 : List Sl} {te ta tb tc : TE} {tt tu : TT} {t u tbd : TS} {d d1 d2 d3 : Dat} {ds es : List Dat} {b : Bool} {i : Nat} {o : Out}
theorem OutOk.to {D : Ends} (s : Same G G') (h : OutOk K Z G D o) : OutOk K Z G' D o := by
  cases o with
  | nx ρ => exact fun σ' G2 H2 s2 => h σ' G2 H2 (s.trans s2)
  | rt d ρ => exact fun σ' v G2 H2 s2 => h σ' v G2 H2 (s.trans s2)
  | bk ρ => exact fun σ' G2 H2 s2 => h σ' G2 H2 (s.trans s2)
  | ct ρ => exact fun σ' G2 H2 s2 => h σ' G2 H2 (s.trans s2)
  | rf ds ρ => exact fun σ' p xs G2 H2 s2 => h σ' p xs G2 H2 (s.trans s2)
def Out.isNx : Out → Bool
  | .nx _ => true
  | _ => false
theorem ex_next : Ex K tNext ρ (.nx ρ) := fun _ G H σ c _ k => k σ G H (Same.refl G) c
theorem ex_brk : Ex K tBreak ρ (.bk ρ) := fun _ G H σ c _ k => k σ G H (Same.refl G) c
theorem ex_cont : Ex K tCont ρ (.ct ρ) := fun _ G H σ c _ k => k σ G H (Same.refl G) c
theorem ex_seq (h : Ex K t ρ (.nx ρ1)) (k : Ex K u ρ1 o) : Ex K (tSeq t u) ρ o := fun Z G H σ c D q => by
  refine h Z G H σ c { D with nx := u D } fun σ' G' H' s c' => ?_
  exact k Z G' H' σ' c' D (q.to s)
/-- what leaves the first statement leaves the block -/
theorem ex_out (h : Ex K t ρ o) (no : o.isNx = false) : Ex K (tSeq t u) ρ o := fun Z G H σ c D q => by
  refine h Z G H σ c { D with nx := u D } ?_
  cases o with
  | nx _ => cases no
  | rt d ρ => exact q
  | bk ρ => exact q
  | ct ρ => exact q
  | rf ds ρ => exact q
theorem ex_ret (h : Ev K te ρ d ρ1) : Ex K (tRet te) ρ (.rt d ρ1) := fun Z G H σ c D q => h Z G H σ c _ fun v G' H' s c' r => q σ v G' H' s c' r
theorem ex_retN : Ex K tRetN ρ (.rt .non ρ) := fun Z G H σ c D q => q σ .non G H (Same.refl G) c .non
theorem ex_set (h : Ev K te ρ d ρ1) (hi : ρ1[i]?.isSome = true := by rfl) : Ex K (tAsg te (gName i)) ρ (.nx (ρ1.set i (.dat d))) := fun Z G H σ c D q => by
  refine h Z G H σ c _ fun v G' H' s c' r => ?_
  exact q _ G' H' s (c'.setD hi r)
/-- a new list that the slot alone holds -/
theorem ex_setF (h : EvF K te ρ ds ρ1) (hi : ρ1[i]?.isSome = true := by rfl) : Ex K (tAsg te (gName i)) ρ (.nx (ρ1.set i (.own ds))) := fun Z G H σ c D q => by
  refine h Z G H σ c _ fun p xs G' H' s c' g hp r z no => ?_
  exact q _ G' H' s (c'.setS hi ⟨p, xs, rfl, z.1, g, hp, r⟩ (fun p' j _ e hd => by cases e; exact no j hd) fun p' _ e => by cases e; exact z.2)
theorem ex_if {a : Bool} (h : EvT K tt ρ a ρ1) (k1 : a = true → Ex K t ρ1 o) (k2 : a = false → Ex K u ρ1 o) : Ex K (tIfS tt t u) ρ o := fun Z G H σ c D q => by
  refine h Z G H σ c _ fun G' H' s c' => ?_
  cases a with
  | true => exact iteT (k1 rfl Z G' H' σ c' D (q.to s))
  | false => exact iteF (k2 rfl Z G' H' σ c' D (q.to s))
/-- less is kept -/
theorem Ex.weak (h : Ex K t ρ (.nx ρ1)) (l : Le ρ2 ρ1) : Ex K t ρ (.nx ρ2) := fun Z G H σ c D q => h Z G H σ c D fun σ' G' H' s c' => q σ' G' H' s (c'.weak l)
theorem Ex.weakR (h : Ex K t ρ (.rt d ρ1)) (l : Le ρ2 ρ1) : Ex K t ρ (.rt d ρ2) := fun Z G H σ c D q => h Z G H σ c D fun σ' v G' H' s c' => q σ' v G' H' s (c'.weak l)
theorem Ex.pre (h : Ex K t ρ1 o) (l : Le ρ1 ρ) : Ex K t ρ o := fun Z G H σ c D q => h Z G H σ (c.weak l) D q
theorem Ex.to {o' : Out} (h : Ex K t ρ o) (e : o = o') : Ex K t ρ o' := e ▸ h
theorem Ex.from (h : Ex K t ρ1 o) (e : ρ = ρ1) : Ex K t ρ o := e ▸ h
theorem ex_drop (h : Ev K te ρ d ρ1) : Ex K (tDrop te) ρ (.nx ρ1) := fun Z G H σ c D q => h Z G H σ c _ fun v G' H' s c' _ => q σ G' H' s c'
/-- xs.append(e), xs a list of the slot's own -/
theorem ex_append {s : Sl} (ha : Ev K te ρ d ρ1) (h0 : ∃ s, ρ[i]? = some s ∧ s.isOwn = true := by exact ⟨_, rfl, rfl⟩) (hs : ρ1[i]? = some s := by rfl) (l : slItems (some s) = some ds := by rfl) (hl : ds.length < 100000) :
    Ex K (tDrop (tBM K "list" rAppend (tVar i) (tCons te tNil))) ρ (.nx (ρ1.set i (s.put (ds ++ [d])))) := fun Z G H σ c D q => by
  obtain ⟨s0, e0, o0⟩ := h0
  obtain ⟨p, xs0, ds0, ep, _, hp, _⟩ := c.ow e0 o0
  refine ⟨.ref p, ep, .inl ⟨rfl, xs0, .inl (.inl hp)⟩, ?_⟩
  refine ha Z G H σ c _ fun v G1 H1 s1 c1 r1 => ?_
  obtain ⟨p', xs, e', h1, rx⟩ := c1.slot ep (by rw [hs]; exact l)
  cases e'
  have os : s.isOwn = true := by cases s <;> first | rfl | cases l
  refine ⟨p, xs, v, rfl, rfl, h1, by rw [rx.length]; exact Nat.lt_of_lt_of_le hl (by decide), ?_⟩
  exact q σ G1 _ s1 (c1.write hs os ep (rx.app (.cons r1 .nil)))
/-- xs.extend(ys) -/
theorem ex_extend {s : Sl} {a : Ag} (ha : EvL K te ρ a ρ1) (h0 : ∃ s, ρ[i]? = some s ∧ s.isOwn = true := by exact ⟨_, rfl, rfl⟩) (hs : ρ1[i]? = some s := by rfl) (l : slItems (some s) = some ds := by rfl) (la : lookS ρ1 a = some es) (hl : ds.length + es.length < 100000) :
    Ex K (tDrop (tBM K "list" rExtend (tVar i) (tCons te tNil))) ρ (.nx (ρ1.set i (s.put (ds ++ es)))) := fun Z G H σ c D q => by
  obtain ⟨s0, e0, o0⟩ := h0
  obtain ⟨p, xs0, ds0, ep, _, hp, _⟩ := c.ow e0 o0
  refine ⟨.ref p, ep, .inl ⟨rfl, xs0, .inl (.inl hp)⟩, ?_⟩
  refine ha Z G H σ c _ fun v G1 H1 s1 c1 r1 => ?_
  obtain ⟨p', xs, e', h1, rx⟩ := c1.slot ep (by rw [hs]; exact l)
  cases e'
  obtain ⟨p2, ys, rfl, h2, ry⟩ := c1.readS r1 la
  have os : s.isOwn = true := by cases s <;> first | rfl | cases l
  refine ⟨p, p2, xs, ys, rfl, rfl, h1, h2, by rw [rx.length, ry.length]; exact sz_ok (by omega), ?_⟩
  exact q σ G1 _ s1 (c1.write hs os ep (rx.app ry))
/-- xs[k] = e, xs a list of the slot's own -/
theorem ex_setIx {s : Sl} {j : Int} {k : Nat} (ha : Ev K te ρ d ρ1) (hi : Ev K ta ρ1 (.int j) ρ1) (hs : ρ1[i]? = some s := by rfl) (l : slItems (some s) = some ds := by rfl) (hk : ixN ds.length j = some k) :
    Ex K (tAsg te (gSub (tVar i) ta rSetL)) ρ (.nx (ρ1.set i (s.put (ds.set k d)))) := fun Z G H σ c D q => by
  have os : s.isOwn = true := by cases s <;> first | rfl | cases l
  refine ha Z G H σ c _ fun v G1 H1 s1 c1 r1 => ?_
  obtain ⟨p, xs0, ds0, ep, _⟩ := c1.ow hs os
  refine ⟨.ref p, ep, ?_⟩
  refine hi Z G1 H1 σ c1 _ fun w G2 H2 s2 c2 r2 => ?_
  cases r2
  obtain ⟨p', xs, e', h1, rx⟩ := c2.slot ep (by rw [hs]; exact l)
  cases e'
  refine ⟨p, xs, j, k, rfl, rfl, h1, by rw [rx.length]; exact hk, ?_⟩
  refine q σ G2 _ (s1.trans s2) (c2.write hs os ep ?_)
  exact rp_setR rx (r1.to s2) k
where
  rp_setR {xs : List V} {ds : List Dat} {v : V} {d : Dat} {G : Hp} (r : RpAll K G xs ds) (rv : Rp K G v d) : ∀ k, RpAll K G (xs.set k v) (ds.set k d) := by
    intro k
    induction xs generalizing ds k with
    | nil => cases r; exact .nil
    | cons x xs ih =>
      cases r with
      | cons a b =>
        cases k with
        | zero => exact .cons rv b
        | succ k => exact .cons a (ih b k)
/-- x += e -/
theorem ex_augI {g : Int → Int → Int} {n m : Int} {r : TIp} (hr : r = fun x y H Q => ∃ i j, x = .int i ∧ y = .int j ∧ Q (.int (g i j)) H) (h0 : ρ[i]? = some (.dat (.int n)) := by rfl) (ha : Ev K te ρ (.int m) ρ) : Ex K (tAug i te r) ρ (.nx (ρ.set i (.dat (.int (g n m))))) := fun Z G H σ c D q => by
  subst hr
  obtain ⟨v, e, r0⟩ := c.dat h0
  cases r0
  refine ⟨_, e, ?_⟩
  refine ha Z G H σ c _ fun w G1 H1 s1 c1 r1 => ?_
  cases r1
  exact ⟨n, m, rfl, rfl, q _ G1 H1 s1 (c1.setD (by rw [h0]; rfl) (.int _))⟩
/-! a, b, .. = a tuple -/
theorem rp_tup {v : V} (s : Same G H) (r : Rp K G v (.tup ds)) : ∃ a xs, v = .ref a ∧ SqT K H a xs ∧ xs.length = ds.length ∧ RpAll K G xs ds := by
  cases r with
  | @tup a xs _ e r => exact ⟨a, xs, rfl, .inl (.inl (s _ _ e)), r.length, r⟩
theorem rp_lstV {v : V} (s : Same G H) (r : Rp K G v (.lst ds)) : ∃ a xs, v = .ref a ∧ SqL K H a xs ∧ xs.length = ds.length ∧ RpAll K G xs ds := by
  cases r with
  | @lst a xs _ e r => exact ⟨a, xs, rfl, .inl (.inl (s _ _ e)), r.length, r⟩
theorem ex_set2 {j : Nat} (h : Ev K te ρ (.tup [d1, d2]) ρ1) (hi : ρ1[i]?.isSome = true := by rfl) (hj : ρ1[j]?.isSome = true := by rfl) : Ex K (tAsg te (gTup K 2 (gCons (gName i) (gCons (gName j) gNil)))) ρ (.nx ((ρ1.set i (.dat d1)).set j (.dat d2))) := fun Z G H σ c D q => by
  refine h Z G H σ c _ fun v G1 H1 s1 c1 r1 => ?_
  obtain ⟨a, xs, rfl, hs, hl, r⟩ := rp_tup c1.gh r1
  cases r with
  | cons ra r => cases r with
    | cons rb r => cases r with
      | nil =>
        refine ⟨a, _, rfl, hs, hl, _, _, rfl, _, _, rfl, rfl, ?_⟩
        have hj' : (ρ1.set i (.dat d1))[j]?.isSome = true := by
          rw [Option.isSome_iff_exists] at hj ⊢
          obtain ⟨x, ex⟩ := hj
          exact ⟨_, List.getElem?_eq_getElem (by simpa using (List.getElem?_eq_some_iff.mp ex).1)⟩
        exact q _ G1 H1 s1 ((c1.setD hi ra).setD hj' rb)
theorem isSome_set {ρ : List Sl} {i j : Nat} {s : Sl} (h : ρ[j]?.isSome = true) : (ρ.set i s)[j]?.isSome = true := by
  rw [Option.isSome_iff_exists] at h ⊢
  obtain ⟨x, ex⟩ := h
  exact ⟨_, List.getElem?_eq_getElem (by simpa using (List.getElem?_eq_some_iff.mp ex).1)⟩
theorem ex_set3 {j k : Nat} (h : Ev K te ρ (.tup [d1, d2, d3]) ρ1) (hi : ρ1[i]?.isSome = true := by rfl) (hj : ρ1[j]?.isSome = true := by rfl) (hk : ρ1[k]?.isSome = true := by rfl) :
    Ex K (tAsg te (gTup K 3 (gCons (gName i) (gCons (gName j) (gCons (gName k) gNil))))) ρ (.nx (((ρ1.set i (.dat d1)).set j (.dat d2)).set k (.dat d3))) := fun Z G H σ c D q => by
  refine h Z G H σ c _ fun v G1 H1 s1 c1 r1 => ?_
  obtain ⟨a, xs, rfl, hs, hl, r⟩ := rp_tup c1.gh r1
  cases r with
  | cons ra r => cases r with
    | cons rb r => cases r with
      | cons rc r => cases r with
        | nil =>
          refine ⟨a, _, rfl, hs, hl, _, _, rfl, _, _, rfl, _, _, rfl, rfl, ?_⟩
          exact q _ G1 H1 s1 (((c1.setD hi ra).setD (isSome_set hj) rb).setD (isSome_set (isSome_set hk)) rc)

/-! what is walked -/
/-- turn i of the walk J gives something that stands for the i-th of ds, whatever the state is then -/
def Walks (K : PySem.W.Frag) (Z : Zs) (G1 : Hp) (J : It) (ds : List Dat) : Prop := ∀ (i : Nat) (Gx Hx : Hp) (σx : L2.St) (ρx : List Sl) (Zx : Zs), Same G1 Gx → Ct K Zx Gx Hx σx ρx →
  (i = ds.length → J.stop i Hx) ∧ ∀ d, ds[i]? = some d → J.go i Hx ∧ ∀ (y : V) (Hy : Hp), J.yld i Hx y Hy → ∃ Gy, Same Gx Gy ∧ Ct K Zx Gy Hy σx ρx ∧ Rp K Gy y d
def Src (K : PySem.W.Frag) (wi : TI) (ρ : List Sl) (ds : List Dat) (ρ0 : List Sl) : Prop := ∀ (Z : Zs) (G H : Hp) (σ : L2.St), Ct K Z G H σ ρ → ∀ R : It → Hp → Prop,
  (∀ (J : It) (G1 H1 : Hp), Same G G1 → Ct K Z G1 H1 σ ρ0 → Walks K Z G1 J ds → R J H1) → wi σ H R
theorem src_list (h : Ev K te ρ d ρ1) (la : d.items = some ds) : Src K (iList K te) ρ ds ρ1 := fun Z G H σ c R q => by
  refine h Z G H σ c _ fun v G1 H1 s1 c1 r1 => ?_
  obtain ⟨p, xs, rfl, hs, rx⟩ := c1.read (a := .d d) r1 la
  refine ⟨p, rfl, ⟨xs, hs⟩, q _ G1 H1 s1 c1 fun i Gx Hx σx ρx Zx s c2 => ?_⟩
  obtain ⟨p', xs', e', hs', rx'⟩ := c2.read (a := .d d) (r1.to s) la
  cases e'
  refine ⟨fun e => ⟨xs', hs', by rw [rx'.length, e]; exact Nat.le_refl _⟩, fun d' hd => ?_⟩
  obtain ⟨x, hx, rd⟩ := rx'.get hd
  refine ⟨⟨xs', x, hs', hx⟩, fun y Hy hy => ?_⟩
  obtain ⟨e, hy⟩ := hy
  subst e
  have : y = x := Option.some.inj ((hy xs' hs').symm.trans hx)
  subst this
  exact ⟨Gx, Same.refl _, c2, rd⟩
theorem src_tup (h : Ev K te ρ (.tup ds) ρ1) : Src K (iTup K te) ρ ds ρ1 := fun Z G H σ c R q => by
  refine h Z G H σ c _ fun v G1 H1 s1 c1 r1 => ?_
  obtain ⟨p, xs, rfl, hs, hl, rx⟩ := rp_tup c1.gh r1
  refine ⟨p, rfl, ⟨xs, hs⟩, q _ G1 H1 s1 c1 fun i Gx Hx σx ρx Zx s c2 => ?_⟩
  obtain ⟨p', xs', e', hs', hl', rx'⟩ := rp_tup c2.gh (r1.to s)
  cases e'
  refine ⟨fun e => ⟨xs', hs', by rw [rx'.length, e]; exact Nat.le_refl _⟩, fun d' hd => ?_⟩
  obtain ⟨x, hx, rd⟩ := rx'.get hd
  refine ⟨⟨xs', x, hs', hx⟩, fun y Hy hy => ?_⟩
  obtain ⟨e, hy⟩ := hy
  subst e
  have : y = x := Option.some.inj ((hy xs' hs').symm.trans hx)
  subst this
  exact ⟨Gx, Same.refl _, c2, rd⟩
/-- lo, lo + 1, .. n of them -/
def rngD (lo : Int) (n : Nat) : List Dat := (List.range n).map fun i => .int (lo + (i : Nat))
theorem rngD_len (lo : Int) (n : Nat) : (rngD lo n).length = n := by simp [rngD]
theorem rngD_get {lo : Int} {n i : Nat} {d : Dat} (h : (rngD lo n)[i]? = some d) : i < n ∧ d = .int (lo + (i : Nat)) := by
  have hi : i < n := by
    have := (List.getElem?_eq_some_iff.mp h).1
    rwa [rngD_len] at this
  unfold rngD at h
  rw [List.getElem?_map, List.getElem?_range hi] at h
  exact ⟨hi, (Option.some.inj h).symm⟩
theorem rngD_at {lo : Int} {n i : Nat} (h : i < n) : (rngD lo n)[i]? = some (.int (lo + (i : Nat))) := by
  unfold rngD
  rw [List.getElem?_map, List.getElem?_range h]
  rfl
theorem walks_range {lo : Int} {n : Nat} : Walks K Z G (Itr lo n) (rngD lo n) := fun i Gx Hx σx ρx Zx s c => by
  refine ⟨fun e => ?_, fun d hd => ?_⟩
  · rw [rngD_len] at e
    show n ≤ i
    omega
  · obtain ⟨hi, rfl⟩ := rngD_get hd
    refine ⟨hi, fun y Hy hy => ?_⟩
    obtain ⟨e1, e2⟩ := hy
    subst e1 e2
    exact ⟨Gx, Same.refl _, c, .int _⟩
theorem src_rng1 {n : Int} (h : Ev K te ρ (.int n) ρ1) (h1 : -1000000 ≤ n) (h2 : n ≤ 1000000) : Src K (iRng1 (tCons te tNil)) ρ (rngD 0 n.toNat) ρ1 := fun Z G H σ c R q => by
  refine h Z G H σ c _ fun v G1 H1 s1 c1 r1 => ?_
  cases r1
  exact ⟨n, rfl, by omega, by omega, q _ G1 H1 s1 c1 walks_range⟩
theorem src_rng2 {lo hi : Int} (ha : Ev K ta ρ (.int lo) ρ1) (hb : Ev K tb ρ1 (.int hi) ρ2) (h1 : -1000000 ≤ lo) (h2 : lo ≤ 1000000) (h3 : -1000000 ≤ hi) (h4 : hi ≤ 1000000) : Src K (iRng2 (tCons ta (tCons tb tNil))) ρ (rngD lo (hi - lo).toNat) ρ2 := fun Z G H σ c R q => by
  refine ha Z G H σ c _ fun v G1 H1 s1 c1 r1 => ?_
  refine hb Z G1 H1 σ c1 _ fun w G2 H2 s2 c2 r2 => ?_
  cases r1; cases r2
  exact ⟨lo, hi, rfl, ⟨by omega, by omega, by omega, by omega⟩, q _ G2 H2 (s1.trans s2) c2 walks_range⟩
/-! loops -/
/-- how a loop ends: n turns that go on, then the end, a return, or a break -/
inductive LEnd (K : PySem.W.Frag) (tb : TS) (x : Nat) (ds : List Dat) (ρs : Nat → List Sl) (n : Nat) : Out → Prop
  | done : n = ds.length → LEnd K tb x ds ρs n (.nx (ρs n))
  | ret {d r : Dat} {ρ' : List Sl} : ds[n]? = some d → Ex K tb ((ρs n).set x (.dat d)) (.rt r ρ') → LEnd K tb x ds ρs n (.rt r ρ')
  | brk {d : Dat} {ρ' : List Sl} : ds[n]? = some d → Ex K tb ((ρs n).set x (.dat d)) (.bk ρ') → LEnd K tb x ds ρs n (.nx ρ')
theorem ex_for {wi : TI} {x n : Nat} (ρs : Nat → List Sl) (h : Src K wi ρ ds (ρs 0)) (hx : ∀ i, (ρs i)[x]?.isSome = true) (hn : n ≤ ds.length)
    (body : ∀ i d, i < n → ds[i]? = some d → Ex K tbd ((ρs i).set x (.dat d)) (.nx (ρs (i + 1))) ∨ Ex K tbd ((ρs i).set x (.dat d)) (.ct (ρs (i + 1)))) (e : LEnd K tbd x ds ρs n o) : Ex K (tFor wi (gName x) tbd) ρ o := fun Z G H σ c D q => by
  refine h Z G H σ c _ fun J G1 H1 s1 c1 wk => ?_
  refine ⟨fun i m σ' H' => m = n - i ∧ i ≤ n ∧ ∃ G', Same G1 G' ∧ Ct K Z G' H' σ' (ρs i), ⟨n, by simp, Nat.zero_le _, G1, Same.refl G1, c1⟩, ?_⟩
  rintro i m σ' H' ⟨rfl, hi, G', s', c'⟩
  obtain ⟨w1, w2⟩ := wk i G' H' σ' (ρs i) Z s' c'
  by_cases hlt : i < n
  · have hid : i < ds.length := Nat.lt_of_lt_of_le hlt hn
    obtain ⟨go, yl⟩ := w2 ds[i] (List.getElem?_eq_getElem hid)
    refine .inr ⟨go, fun σ'' H'' => ∃ G'', Same G1 G'' ∧ Ct K Z G'' H'' σ'' (ρs (i + 1)), fun σ'' H'' k => ⟨n - (i + 1), by omega, rfl, hlt, k⟩, fun y H'' hy => ?_⟩
    obtain ⟨Gy, sy, cy, ry⟩ := yl y H'' hy
    have cb := cy.setD (i := x) (hx i) ry
    rcases body i _ hlt (List.getElem?_eq_getElem hid) with hb | hb
    · exact hb Z Gy _ _ cb _ fun σ2 G2 H2 s2 c2 => ⟨G2, s'.trans (sy.trans s2), c2⟩
    · exact hb Z Gy _ _ cb _ fun σ2 G2 H2 s2 c2 => ⟨G2, s'.trans (sy.trans s2), c2⟩
  · have en : i = n := by omega
    subst en
    cases e with
    | done e => exact .inl ⟨w1 e, q σ' G' H' (s1.trans s') c'⟩
    | ret hd hb =>
      obtain ⟨go, yl⟩ := w2 _ hd
      refine .inr ⟨go, fun _ _ => False, fun _ _ k => k.elim, fun y H'' hy => ?_⟩
      obtain ⟨Gy, sy, cy, ry⟩ := yl y H'' hy
      exact hb Z Gy _ _ (cy.setD (i := x) (hx i) ry) _ fun σ2 v G2 H2 s2 c2 => q σ2 v G2 H2 ((s1.trans s').trans (sy.trans s2)) c2
    | brk hd hb =>
      obtain ⟨go, yl⟩ := w2 _ hd
      refine .inr ⟨go, fun _ _ => False, fun _ _ k => k.elim, fun y H'' hy => ?_⟩
      obtain ⟨Gy, sy, cy, ry⟩ := yl y H'' hy
      exact hb Z Gy _ _ (cy.setD (i := x) (hx i) ry) _ fun σ2 G2 H2 s2 c2 => q σ2 G2 H2 ((s1.trans s').trans (sy.trans s2)) c2
/-- while: n turns, then the test fails, or the n-th body leaves -/
inductive WEnd (K : PySem.W.Frag) (tc : TT) (tb : TS) (ρs : Nat → List Sl) (n : Nat) : Out → Prop
  | done {ρ' : List Sl} : EvT K tc (ρs n) false ρ' → WEnd K tc tb ρs n (.nx ρ')
  | ret {r : Dat} {ρ' ρ'' : List Sl} : EvT K tc (ρs n) true ρ'' → Ex K tb ρ'' (.rt r ρ') → WEnd K tc tb ρs n (.rt r ρ')
  | brk {ρ' ρ'' : List Sl} : EvT K tc (ρs n) true ρ'' → Ex K tb ρ'' (.bk ρ') → WEnd K tc tb ρs n (.nx ρ')
theorem ex_while {n : Nat} (ρs : Nat → List Sl) (h0 : ρs 0 = ρ) (body : ∀ i, i < n → ∃ ρ', EvT K tt (ρs i) true ρ' ∧ Ex K tbd ρ' (.nx (ρs (i + 1)))) (e : WEnd K tt tbd ρs n o) : Ex K (tWhile tt tbd) ρ o := fun Z G H σ c D q => by
  subst h0
  refine ⟨fun m σ' H' => ∃ i G', m = n - i ∧ i ≤ n ∧ Same G G' ∧ Ct K Z G' H' σ' (ρs i), ⟨n, 0, G, by simp, Nat.zero_le _, Same.refl G, c⟩, ?_⟩
  rintro m σ' H' ⟨i, G', rfl, hi, s', c'⟩
  by_cases hlt : i < n
  · obtain ⟨ρ', ht, hb⟩ := body i hlt
    refine ht Z G' H' σ' c' _ fun G2 H2 s2 c2 => ?_
    refine iteT ⟨fun σ3 H3 => ∃ G3, Same G G3 ∧ Ct K Z G3 H3 σ3 (ρs (i + 1)), fun σ3 H3 ⟨G3, s3, c3⟩ => ⟨n - (i + 1), by omega, i + 1, G3, rfl, hlt, s3, c3⟩, ?_⟩
    exact hb Z G2 H2 σ' c2 _ fun σ3 G3 H3 s3 c3 => ⟨G3, s'.trans (s2.trans s3), c3⟩
  · have en : i = n := by omega
    subst en
    cases e with
    | done ht => exact ht Z G' H' σ' c' _ fun G2 H2 s2 c2 => iteF (q σ' G2 H2 (s'.trans s2) c2)
    | ret ht hb =>
      refine ht Z G' H' σ' c' _ fun G2 H2 s2 c2 => ?_
      refine iteT ⟨fun _ _ => False, fun _ _ k => k.elim, ?_⟩
      exact hb Z G2 H2 σ' c2 _ fun σ3 v G3 H3 s3 c3 => q σ3 v G3 H3 (s'.trans (s2.trans s3)) c3
    | brk ht hb =>
      refine ht Z G' H' σ' c' _ fun G2 H2 s2 c2 => ?_
      refine iteT ⟨fun _ _ => False, fun _ _ k => k.elim, ?_⟩
      exact hb Z G2 H2 σ' c2 _ fun σ3 G3 H3 s3 c3 => q σ3 G3 H3 (s'.trans (s2.trans s3)) c3
/-! comprehensions -/
theorem Ct.aside (c : Ct K Z G H σ ρ) {D : Addr} {o : HO} (hD : H D = some o) (g : G D = none) (no : ∀ i, ¬ Hd σ ρ i D) : Ct K ⟨Z.G0, Z.H0, Z.O0, upd Z.Kp D o⟩ G H σ ρ :=
  ⟨c.len, c.gg, c.gh, c.hh, c.ge, c.fr, fun i s e n => by
    obtain ⟨v, e1, k⟩ := c.sl i s e n
    refine ⟨v, e1, ?_⟩
    cases s with
    | no => trivial
    | dat d => exact k
    | own ds => exact k
    | par j ds => exact k, c.ds, fun b u e => by
    by_cases q : b = D
    · subst q; have e : upd Z.Kp b o b = some u := e; rw [upd_same] at e; cases e; exact hD
    · exact c.kp b u (by have e : upd Z.Kp D o b = some u := e; rwa [upd_ne q] at e), fun b n => by
    by_cases q : b = D
    · subst q; exact g
    · exact c.kg b (by have n : upd Z.Kp D o b ≠ none := n; rwa [upd_ne q] at n), fun i p a => by
    show upd Z.Kp D o p = none
    rw [upd_ne (show p ≠ D from fun q => no i (by rw [← q]; exact a))]
    exact c.kn i p a⟩
theorem Ct.unaside {D : Addr} {o : HO} (c : Ct K ⟨Z.G0, Z.H0, Z.O0, upd Z.Kp D o⟩ G H σ ρ) (z : Z.Kp D = none) : Ct K Z G H σ ρ ∧ H D = some o ∧ G D = none ∧ ∀ i, ¬ Hd σ ρ i D := by
  refine ⟨⟨c.len, c.gg, c.gh, c.hh, c.ge, c.fr, fun i s e n => ?_, c.ds, fun b u e => ?_, fun b n => ?_, fun i p a => ?_⟩, c.kp D o upd_same, c.kg D (by show upd Z.Kp D o D ≠ none; rw [upd_same]; intro q; cases q), fun i a => ?_⟩
  · obtain ⟨v, e1, k⟩ := c.sl i s e n
    refine ⟨v, e1, ?_⟩
    cases s with
    | no => trivial
    | dat d => exact k
    | own ds => exact k
    | par j ds => exact k
  · exact c.kp b u (by
      show upd Z.Kp D o b = some u
      rw [upd_ne (show b ≠ D from fun q => by rw [q, z] at e; cases e)]; exact e)
  · exact c.kg b (by
      show upd Z.Kp D o b ≠ none
      rw [upd_ne (show b ≠ D from fun q => n (by rw [q]; exact z))]; exact n)
  · have k : upd Z.Kp D o p = none := c.kn i p a
    by_cases q : p = D
    · rw [q, upd_same] at k; cases k
    · rwa [upd_ne q] at k
  · have k : upd Z.Kp D o D = none := c.kn i D a
    rw [upd_same] at k; cases k
/-- an object that stands aside is changed -/
theorem Ct.asideSet {D : Addr} {o o' : HO} (c : Ct K Z G H σ ρ) (hD : H D = some o) (g : G D = none) (no : ∀ i, ¬ Hd σ ρ i D) (z : Z.H0 D = none) (zk : Z.Kp D = none) : Ct K Z G (upd H D o') σ ρ := by
  refine ⟨c.len, c.gg, fun b u e => ?_, fun b u e n => ?_, fun b n => ?_, c.fr, fun i s e n => ?_, c.ds, fun b u e => ?_, c.kg, c.kn⟩
  · rw [upd_ne (show b ≠ D from fun q => by rw [q, g] at e; cases e)]; exact c.gh b u e
  · rw [upd_ne (show b ≠ D from fun q => by rw [q, z] at e; cases e)]; exact c.hh b u e n
  · by_cases q : b = D
    · subst q; rw [upd_same]; intro w; cases w
    · rw [upd_ne q]; exact c.ge b n
  · obtain ⟨v, e1, k⟩ := c.sl i s e n
    refine ⟨v, e1, k.mono (Same.refl G) fun p xs ev ho gp hp => ⟨gp, ?_⟩⟩
    rw [upd_ne (show p ≠ D from fun q => no i ⟨by rw [e1, ev, q], s, e, ho⟩)]; exact hp
  · rw [upd_ne (show b ≠ D from fun q => by rw [q, zk] at e; cases e)]; exact c.kp b u e
/-- the slots of a comprehension's own names -/
def wipeS (ρ : List Sl) : List Nat → List Sl
  | [] => ρ
  | v :: vs => (wipeS ρ vs).set v .no
theorem wipe_len (σ : L2.St) : ∀ vs, (wipe σ vs).length = σ.length := wipe_length σ
theorem wipeS_len (ρ : List Sl) : ∀ vs, (wipeS ρ vs).length = ρ.length
  | [] => rfl
  | v :: vs => by unfold wipeS; rw [List.length_set, wipeS_len ρ vs]
theorem wipe_get (σ : L2.St) (ρ : List Sl) : ∀ (vs : List Nat) (i : Nat) (s : Sl), (wipeS ρ vs)[i]? = some s → s.isNo = false → ρ[i]? = some s ∧ (wipe σ vs)[i]? = σ[i]?
  | [], i, s, e, _ => ⟨e, rfl⟩
  | v :: vs, i, s, e, n => by
    unfold wipeS at e
    by_cases q : v = i
    · subst q
      by_cases l : v < (wipeS ρ vs).length
      · rw [List.getElem?_set_self l] at e; cases e; cases n
      · rw [List.getElem?_eq_none (by simpa using l)] at e; cases e
    · rw [List.getElem?_set_ne q] at e
      obtain ⟨a, b⟩ := wipe_get σ ρ vs i s e n
      refine ⟨a, ?_⟩
      unfold wipe
      rw [List.getElem?_set_ne q]
      exact b
theorem hd_wipe {vs : List Nat} {i : Nat} {p : Addr} (h : Hd (wipe σ vs) (wipeS ρ vs) i p) : Hd σ ρ i p := by
  obtain ⟨e, s, a, o⟩ := h
  obtain ⟨b, k⟩ := wipe_get σ ρ vs i s a (Sl.own_not_no o)
  exact ⟨by rw [← k]; exact e, s, b, o⟩
theorem Ct.wipe (c : Ct K Z G H σ ρ) (vs : List Nat) : Ct K Z G H (L2.wipe σ vs) (wipeS ρ vs) :=
  ⟨by rw [wipe_len, wipeS_len, c.len], c.gg, c.gh, c.hh, c.ge, c.fr, fun i s e n => by
    obtain ⟨a, b⟩ := wipe_get σ ρ vs i s e n
    obtain ⟨v, e1, k⟩ := c.sl i s a n
    exact ⟨v, by rw [b]; exact e1, k⟩, fun i j p a b => c.ds i j p (hd_wipe a) (hd_wipe b), c.kp, c.kg, fun i p a => c.kn i p (hd_wipe a)⟩

theorem hd_unwipe {vs : List Nat} {i : Nat} {p : Addr} (h : Hd σ (wipeS ρ vs) i p) : Hd (L2.wipe σ vs) (wipeS ρ vs) i p := by
  obtain ⟨e, s, a, o⟩ := h
  obtain ⟨b, k⟩ := wipe_get σ ρ vs i s a (Sl.own_not_no o)
  exact ⟨by rw [k]; exact e, s, a, o⟩
theorem Ct.unwipe {vs : List Nat} (c : Ct K Z G H (L2.wipe σ vs) (wipeS ρ vs)) : Ct K Z G H σ (wipeS ρ vs) :=
  ⟨by rw [← c.len, wipe_len], c.gg, c.gh, c.hh, c.ge, c.fr, fun i s e n => by
    obtain ⟨a, b⟩ := wipe_get σ ρ vs i s e n
    obtain ⟨v, e1, k⟩ := c.sl i s e n
    exact ⟨v, by rw [← b]; exact e1, k⟩, fun i j p a b => c.ds i j p (hd_unwipe a) (hd_unwipe b), c.kp, c.kg, fun i p a => c.kn i p (hd_unwipe a)⟩
theorem wipe_back {x : Nat} {y : V} : L2.wipe ((L2.wipe σ [x]).set x (some y)) [x] = L2.wipe σ [x] := by
  show ((σ.set x none).set x (some y)).set x none = σ.set x none
  rw [List.set_set, List.set_set]
/-- what a comprehension has made behind i turns -/
def lcOut (keep : Nat → Bool) (f : Nat → Dat) (n : Nat) : List Dat := ((List.range n).filter keep).map f
theorem lcOut_succ (keep : Nat → Bool) (f : Nat → Dat) (n : Nat) : lcOut keep f (n + 1) = lcOut keep f n ++ (if keep n then [f n] else []) := by
  unfold lcOut
  rw [List.range_succ, List.filter_append, List.map_append]
  congr 1
  cases h : keep n <;> simp [h]
theorem lcOut_len (keep : Nat → Bool) (f : Nat → Dat) (n : Nat) : (lcOut keep f n).length ≤ n := by
  unfold lcOut
  rw [List.length_map]
  exact Nat.le_trans (List.length_filter_le _ _) (by simp)
theorem ef_lc {wi : TI} {x : Nat} (ρs : Nat → List Sl) (keep : Nat → Bool) (f : Nat → Dat) (h : Src K wi ρ ds (ρs 0)) (hx : ∀ i, (ρs i)[x]?.isSome = true) (hl : ds.length < 100000)
    (body : ∀ i d, ds[i]? = some d → ∃ ρa, EvT K tt ((wipeS (ρs i) [x]).set x (.dat d)) (keep i) ρa ∧ (keep i = true → ∃ ρb, Ev K te ρa (f i) ρb ∧ wipeS ρb [x] = wipeS (ρs (i + 1)) [x]) ∧ (keep i = false → wipeS ρa [x] = wipeS (ρs (i + 1)) [x])) :
    EvF K (tLc wi (gName x) tt te [x]) ρ (lcOut keep f ds.length) (wipeS (ρs ds.length) [x]) := fun Z G H σ c Q q => by
  refine h Z G H σ c _ fun J G1 H1 s1 c1 wk D hD => ?_
  obtain ⟨c2, gD, ⟨z0, zk⟩, noD⟩ := fresh_of c1 (xs := []) hD
  refine ⟨fun i m H' => m = ds.length - i ∧ i ≤ ds.length ∧ ∃ G' acc, Same G1 G' ∧ Ct K Z G' H' (wipe σ [x]) (wipeS (ρs i) [x]) ∧ H' D = some (.lst acc) ∧ G' D = none ∧ RpAll K G' acc (lcOut keep f i) ∧ ∀ j, ¬ Hd (wipe σ [x]) (wipeS (ρs i) [x]) j D,
    ⟨ds.length, by simp, Nat.zero_le _, G1, [], Same.refl G1, c2.wipe [x], upd_same, gD, .nil, fun j a => noD j (hd_wipe a)⟩, ?_⟩
  rintro i m H' ⟨rfl, hi, G', acc, s', c', hacc, gD', rx, no'⟩
  by_cases hlt : i < ds.length
  · have ca := c'.aside hacc gD' no'
    obtain ⟨w1, w2⟩ := wk i G' H' _ _ _ s' ca
    obtain ⟨go, yl⟩ := w2 ds[i] (List.getElem?_eq_getElem hlt)
    refine .inr ⟨go, fun H'' => ∃ G'' acc', Same G1 G'' ∧ Ct K Z G'' H'' (wipe σ [x]) (wipeS (ρs (i + 1)) [x]) ∧ H'' D = some (.lst acc') ∧ G'' D = none ∧ RpAll K G'' acc' (lcOut keep f (i + 1)) ∧ ∀ j, ¬ Hd (wipe σ [x]) (wipeS (ρs (i + 1)) [x]) j D,
      fun H'' k => ⟨ds.length - (i + 1), by omega, rfl, hlt, k⟩, fun y H'' hy => ?_⟩
    obtain ⟨Gy, sy, cy, ry⟩ := yl y H'' hy
    have hx' : (wipeS (ρs i) [x])[x]?.isSome = true := isSome_set (hx i)
    have cb := cy.setD (i := x) hx' ry
    refine ⟨wipe_back, ?_⟩
    obtain ⟨ρa, ht, hy1, hy0⟩ := body i _ (List.getElem?_eq_getElem hlt)
    refine ht _ Gy _ _ cb _ fun G3 H3 s3 c3 => ?_
    cases hk : keep i with
    | false =>
      refine iteF ?_
      obtain ⟨c4, h4, g4, n4⟩ := c3.unaside zk
      have c5 := c4.wipe [x]
      rw [wipe_back, hy0 hk] at c5
      refine ⟨G3, acc, s'.trans (sy.trans s3), c5, h4, g4, ?_, fun j a => n4 j ?_⟩
      · rw [lcOut_succ, hk]
        rw [if_neg Bool.false_ne_true, List.append_nil]
        exact rx.to (sy.trans s3)
      · rw [← wipe_back (σ := σ) (x := x) (y := y), ← hy0 hk] at a
        exact hd_wipe a
    | true =>
      refine iteT ?_
      obtain ⟨ρb, he, ew⟩ := hy1 hk
      refine he _ G3 H3 _ c3 _ fun w G4 H4 s4 c4 r4 => ?_
      obtain ⟨c5, h5, g5, n5⟩ := c4.unaside zk
      refine ⟨acc, h5, by
        rw [rx.length]
        exact Nat.lt_of_le_of_lt (lcOut_len keep f i) (Nat.lt_of_lt_of_le (Nat.lt_trans hlt hl) (by decide)), ?_⟩
      have c6 := (c5.asideSet (o' := .lst (acc ++ [w])) h5 g5 n5 z0 zk).wipe [x]
      rw [wipe_back, ew] at c6
      refine ⟨G4, acc ++ [w], s'.trans (sy.trans (s3.trans s4)), c6, upd_same, g5, ?_, fun j a => n5 j ?_⟩
      · rw [lcOut_succ, hk, if_pos rfl]
        exact (rx.to (sy.trans (s3.trans s4))).app (.cons r4 .nil)
      · rw [← wipe_back (σ := σ) (x := x) (y := y), ← ew] at a
        exact hd_wipe a
  · have e : i = ds.length := by omega
    subst e
    have ca := c'.aside hacc gD' no'
    obtain ⟨w1, _⟩ := wk _ G' H' _ _ _ s' ca
    exact .inl ⟨w1 rfl, q D acc G' H' (s1.trans s') c'.unwipe gD' hacc rx ⟨z0, zk⟩ fun j a => no' j (hd_unwipe a)⟩
theorem et_yes : EvT K tYes ρ true ρ := fun _ G H _ c Q q => q G H (Same.refl G) c
theorem lcOut_all (f : Nat → Dat) (g : Dat → Dat) (h : ∀ (i : Nat) (d : Dat), ds[i]? = some d → f i = g d) : lcOut (fun _ => true) f ds.length = ds.map g := by
  unfold lcOut
  rw [List.filter_eq_self.mpr (fun _ _ => rfl)]
  apply List.ext_getElem?
  intro i
  by_cases hi : i < ds.length
  · rw [List.getElem?_map, List.getElem?_map, List.getElem?_range hi, List.getElem?_eq_getElem hi]
    show some (f i) = some (g ds[i])
    rw [h i _ (List.getElem?_eq_getElem hi)]
  · rw [List.getElem?_eq_none (by simp; omega), List.getElem?_eq_none (by simp; omega)]
/-- [e for x in ..], nothing changed on the way -/
theorem ef_lcMap {wi : TI} {x : Nat} (g : Dat → Dat) (h : Src K wi ρ ds ρ1) (hx : ρ1[x]?.isSome = true) (hl : ds.length < 100000)
    (body : ∀ d, d ∈ ds → Ev K te ((wipeS ρ1 [x]).set x (.dat d)) (g d) ((wipeS ρ1 [x]).set x (.dat d))) : EvF K (tLc wi (gName x) tYes te [x]) ρ (ds.map g) (wipeS ρ1 [x]) := by
  have e := ef_lc (tt := tYes) (te := te) (x := x) (fun _ => ρ1) (fun _ => true) (fun i => g (ds.getD i .non)) h (fun _ => hx) hl (fun i d hd => ⟨_, et_yes, fun _ => ⟨_, (body d (List.mem_of_getElem? hd)).to (by rw [List.getD_eq_getElem?_getD, hd]; rfl), by
    show (((ρ1.set x .no).set x (.dat d)).set x .no) = ρ1.set x .no
    rw [List.set_set, List.set_set]⟩, fun q => by cases q⟩)
  rwa [lcOut_all _ g (fun i d hd => by rw [List.getD_eq_getElem?_getD, hd]; rfl)] at e
theorem lcOut_some (k : Nat → Bool) (f : Nat → Dat) (p : Dat → Bool) (g : Dat → Dat) : ∀ (es : List Dat), (∀ (i : Nat) (d : Dat), es[i]? = some d → k i = p d ∧ f i = g d) → lcOut k f es.length = (es.filter p).map g := by
  intro es h
  have key : ∀ n, n ≤ es.length → lcOut k f n = ((es.take n).filter p).map g := by
    intro n
    induction n with
    | zero => intro _; rfl
    | succ n ih =>
      intro hn
      have hlt : n < es.length := hn
      obtain ⟨h1, h2⟩ := h n _ (List.getElem?_eq_getElem hlt)
      rw [lcOut_succ, ih (Nat.le_of_lt hlt), List.take_add_one, List.getElem?_eq_getElem hlt, List.filter_append, List.map_append, h1, h2]
      congr 1
      show (if p es[n] = true then [g es[n]] else []) = List.map g (List.filter p [es[n]])
      cases hp : p es[n] <;> simp [hp]
  rw [key _ (Nat.le_refl _), List.take_length]
/-- [e for x in .. if t] -/
theorem ef_lcIf {wi : TI} {x : Nat} (p : Dat → Bool) (g : Dat → Dat) (h : Src K wi ρ ds ρ1) (hx : ρ1[x]?.isSome = true) (hl : ds.length < 100000)
    (test : ∀ d, d ∈ ds → EvT K tt ((wipeS ρ1 [x]).set x (.dat d)) (p d) ((wipeS ρ1 [x]).set x (.dat d)))
    (body : ∀ d, d ∈ ds → p d = true → Ev K te ((wipeS ρ1 [x]).set x (.dat d)) (g d) ((wipeS ρ1 [x]).set x (.dat d))) : EvF K (tLc wi (gName x) tt te [x]) ρ ((ds.filter p).map g) (wipeS ρ1 [x]) := by
  have back : ∀ d, wipeS ((wipeS ρ1 [x]).set x (.dat d)) [x] = wipeS ρ1 [x] := fun d => by
    show (((ρ1.set x .no).set x (.dat d)).set x .no) = ρ1.set x .no
    rw [List.set_set, List.set_set]
  have gd : ∀ (i : Nat) (d : Dat), ds[i]? = some d → ds.getD i .non = d := fun i d hd => by rw [List.getD_eq_getElem?_getD, hd]; rfl
  have e := ef_lc (tt := tt) (te := te) (x := x) (fun _ => ρ1) (fun i => p (ds.getD i .non)) (fun i => g (ds.getD i .non)) h (fun _ => hx) hl (fun i d hd => by
    rw [gd i d hd]
    refine ⟨_, test d (List.mem_of_getElem? hd), fun k => ⟨_, body d (List.mem_of_getElem? hd) k, back d⟩, fun _ => back d⟩)
  rwa [lcOut_some _ _ p g ds (fun i d hd => by rw [gd i d hd]; exact ⟨rfl, rfl⟩)] at e
/-! a def's body -/
/-- the promise's lists as they are in the end -/
inductive Fin : List Sl → List Sl → List Sl → Prop
  | nil {ρ : List Sl} : Fin [] [] ρ
  | no {a s : Sl} {as bs ρ : List Sl} : Fin as bs ρ → Fin (a :: as) (.no :: bs) (s :: ρ)
  | par {j : Nat} {ds es : List Dat} {as bs ρ : List Sl} : Fin as bs ρ → Fin (.par j ds :: as) (.par j es :: bs) (.par j es :: ρ)
theorem Fin.len {as bs ρ : List Sl} (h : Fin as bs ρ) : bs.length = as.length := by
  induction h with
  | nil => rfl
  | no _ ih => simp [ih]
  | par _ ih => simp [ih]
theorem Fin.get {as bs ρ : List Sl} (h : Fin as bs ρ) : ∀ {i : Nat} {s : Sl}, bs[i]? = some s → s.isNo = false → ∃ j ds es, s = .par j es ∧ as[i]? = some (.par j ds) ∧ ρ[i]? = some (.par j es) := by
  induction h with
  | nil => intro i s e; simp at e
  | no _ ih =>
    intro i s e n
    cases i with
    | zero => simp at e; subst e; cases n
    | succ i => simpa using ih (by simpa using e) n
  | par _ ih =>
    intro i s e n
    cases i with
    | zero => simp at e; subst e; exact ⟨_, _, _, rfl, rfl, rfl⟩
    | succ i => simpa using ih (by simpa using e) n
theorem fin_ct {as bs : List Sl} {vs : List V} {σ' : L2.St} (c0 : Ct K Z G H (vs.map some) as) (c1 : Ct K Z G' H' σ' ρ) (f : Fin as bs ρ) : Ct K Z G' H' (vs.map some) bs := by
  have key : ∀ {i : Nat} {s : Sl}, bs[i]? = some s → s.isNo = false → ∃ v, (vs.map some)[i]? = some (some v) ∧ SlOk K Z G' H' v s ∧ ∀ p, v = .ref p → Hd σ' ρ i p := fun {i s} e n => by
    obtain ⟨j, ds, es, rfl, ea, er⟩ := f.get e n
    obtain ⟨v, ev, p, xs, rfl, z, _⟩ := c0.sl i _ ea rfl
    obtain ⟨v', ev', p', xs', rfl, z', g', h', r'⟩ := c1.sl i _ er rfl
    have : p = p' := by rw [z] at z'; exact Option.some.inj z'
    subst this
    exact ⟨_, ev, ⟨p, xs', rfl, z', g', h', r'⟩, fun q hq => by cases hq; exact ⟨ev', _, er, rfl⟩⟩
  have hd : ∀ {i : Nat} {p : Addr}, Hd (vs.map some) bs i p → Hd σ' ρ i p := fun {i p} h => by
    obtain ⟨e, s, a, o⟩ := h
    obtain ⟨v, ev, _, k⟩ := key a (Sl.own_not_no o)
    rw [e] at ev
    cases ev
    exact k p rfl
  exact ⟨by rw [c0.len, f.len], c1.gg, c1.gh, c1.hh, c1.ge, c1.fr, fun i s e n => by
    obtain ⟨v, ev, k, _⟩ := key e n
    exact ⟨v, ev, k⟩, fun i j p a b => c1.ds i j p (hd a) (hd b), c1.kp, c1.kg, fun i p a => c1.kn i p (hd a)⟩
/-- nothing is known of the other slots at the start -/
theorem start_ct {N : List Str} {vs : List V} {as : List Sl} {m : Nat} (c : Ct K Z G H (vs.map some) as) (e : start N vs = vs.map some ++ List.replicate m none) : Ct K Z G H (start N vs) (as ++ List.replicate m .no) := by
  rw [e]
  have hl := c.len
  have low : ∀ {i : Nat} {s : Sl}, (as ++ List.replicate m Sl.no)[i]? = some s → s.isNo = false → as[i]? = some s ∧ (vs.map some ++ List.replicate m none)[i]? = (vs.map some)[i]? := fun {i s} e n => by
    by_cases hi : i < as.length
    · rw [List.getElem?_append_left hi] at e
      exact ⟨e, List.getElem?_append_left (by rw [hl]; exact hi)⟩
    · rw [List.getElem?_append_right (by omega)] at e
      have := List.mem_of_getElem? e
      rw [List.mem_replicate] at this
      rw [this.2] at n
      cases n
  have hd : ∀ {i : Nat} {p : Addr}, Hd (vs.map some ++ List.replicate m none) (as ++ List.replicate m .no) i p → Hd (vs.map some) as i p := fun {i p} h => by
    obtain ⟨e, s, a, o⟩ := h
    obtain ⟨b, k⟩ := low a (Sl.own_not_no o)
    exact ⟨by rw [← k]; exact e, s, b, o⟩
  exact ⟨by simp [← hl], c.gg, c.gh, c.hh, c.ge, c.fr, fun i s e n => by
    obtain ⟨b, k⟩ := low e n
    obtain ⟨v, ev, w⟩ := c.sl i s b n
    exact ⟨v, by rw [k]; exact ev, w⟩, fun i j p a b => c.ds i j p (hd a) (hd b), c.kp, c.kg, fun i p a => c.kn i p (hd a)⟩
/-- how the promise's lists end: none is told of, or it is the changed one -/
inductive FinOk : List Sl → List Sl → Prop
  | nil : FinOk [] []
  | no {a : Sl} {as bs : List Sl} : FinOk as bs → FinOk (a :: as) (.no :: bs)
  | par {j : Nat} {ds es : List Dat} {as bs : List Sl} : FinOk as bs → FinOk (.par j ds :: as) (.par j es :: bs)
theorem FinOk.fin {as bs m : List Sl} (h : FinOk as bs) : Fin as bs (bs ++ m) := by
  induction h with
  | nil => exact .nil
  | no _ ih => exact .no ih
  | par _ ih => exact .par ih
/-- what is left of a def's body once its steps are known -/
theorem body_ok {R : List Sl → Dat → List Sl → Prop} {N : List Str} {vs : List V} {Q : VK} {E : XK} {n : Nat} (h : spG K R vs H Q E) (hn : ∀ as d as', R as d as' → as.length = n)
    (k : ∀ as d as', R as d as' → FinOk as as' ∧ Ex K t (as ++ List.replicate (N.length - n) .no) (.rt d (as' ++ List.replicate (N.length - n) .no))) : t { nx := fun _ H' => Q .non H', rt := Q } (start N vs) H := by
  obtain ⟨G, O, as, d, as', r, c, q⟩ := h
  obtain ⟨f, ex⟩ := k as d as' r
  have e : start N vs = vs.map some ++ List.replicate (N.length - n) none := by
    have l := c.len
    rw [List.length_map, hn _ _ _ r] at l
    show vs.map some ++ List.replicate (N.length - vs.length) none = _
    rw [l]
  exact ex _ G H _ (start_ct c e) _ fun σ' v G' H' s c' rv => q v G' H' (fin_ct c c' f.fin) rv
/-- if t: .. that leaves -/
theorem ex_ifL {a : Bool} (h : EvT K tt ρ a ρ1) (k1 : a = true → Ex K t ρ1 o) (k2 : a = false → Ex K u ρ1 o) (no : o.isNx = false) : Ex K (tSeq (tIfS tt t tNext) u) ρ o := by
  cases a with
  | true => exact ex_out (ex_if h (fun _ => k1 rfl) fun q => by cases q) no
  | false => exact ex_seq (ex_if h (fun q => by cases q) fun _ => ex_next) (k2 rfl)
theorem ex_retW {d' : Dat} (h : Ev K te ρ d ρ1) (e : d = d') (l : Le ρ2 ρ1) : Ex K (tRet te) ρ (.rt d' ρ2) := by
  subst e
  exact (ex_ret h).weakR l
/-- arguments that are data alone -/
def agD : List Ag → Option (List Dat)
  | [] => some []
  | .d d :: r => match agD r with
    | some ds => some (d :: ds)
    | none => none
  | .s _ :: _ => none
theorem agD_map : ∀ {as : List Ag} {ds : List Dat}, agD as = some ds → as = ds.map Ag.d
  | [], ds, h => by
    have h : some [] = some ds := h
    cases h
    rfl
  | .d d :: r, ds, h => by
    unfold agD at h
    cases q : agD r with
    | none => rw [q] at h; cases h
    | some es =>
      rw [q] at h
      have h : some (d :: es) = some ds := h
      cases h
      rw [agD_map q]
      rfl
  | .s _ :: _, ds, h => by cases h
variable {ag : List Ag} {tg : TA}
theorem ef_lstA (h : EvA K tg ρ ag ρ1) (hd : agD ag = some ds) (hl : ds.length ≤ 100000) : EvF K (tLst tg) ρ ds ρ1 := ef_lst (agD_map hd ▸ h) hl
theorem ev_lstA (h : EvA K tg ρ ag ρ1) (hd : agD ag = some ds) (hl : ds.length ≤ 100000) : Ev K (tLst tg) ρ (.lst ds) ρ1 := ev_lst (agD_map hd ▸ h) hl
theorem ev_tupA (h : EvA K tg ρ ag ρ1) (hd : agD ag = some ds) (hl : ds.length ≤ 100000) : Ev K (tTup tg) ρ (.tup ds) ρ1 := ev_tup (agD_map hd ▸ h) hl
theorem ev_callA {R : List Sl → Dat → List Sl → Prop} {E : XK} {as' : List Sl} (ha : EvA K tg ρ ag ρ1) (hd : agD ag = some ds) (hR : R (ds.map Sl.dat) d as') : Ev K (tCall (spG K R) [] E tg) ρ d ρ1 := ev_call (agD_map hd ▸ ha) hR
/-- sep.join(xs) -/
theorem ev_join {r : V → List V → Hp → VK → Prop} {a : Ag} {x : Str} {ys : List Str} (hr : r = fun x xs H Q => ∃ a p, ∃ ys : List Str, x = .str a ∧ xs = [.ref p] ∧ (SqL K H p (ys.map V.str) ∨ SqT K H p (ys.map V.str)) ∧
      (ys.map (·.length)).sum + ys.length * a.length ≤ 16777216 ∧ Q (.str (Txt.join a ys)) H) (ha : Ev K ta ρ (.str x) ρ1) (hb : EvL K tb ρ1 a ρ2) (l : look ρ2 a = some (ys.map Dat.str)) (hl : (ys.map (·.length)).sum + ys.length * x.length ≤ 16777216) :
    Ev K (tM1 r ta tb) ρ (.str (Txt.join x ys)) ρ2 := fun Z G H σ c Q q => by
  subst hr
  refine ha Z G H σ c _ fun v G1 H1 s1 c1 r1 => ?_
  cases r1
  refine ⟨⟨x, rfl⟩, ?_⟩
  refine hb Z G1 H1 σ c1 _ fun w G2 H2 s2 c2 r2 => ?_
  obtain ⟨p, xs, rfl, hp, rx⟩ := c2.read r2 l
  have e := rx.strsEq
  subst e
  exact ⟨x, p, ys, rfl, rfl, .inl hp, hl, q _ _ _ (s1.trans s2) c2 (.str _)⟩
def onI (f : Int → Dat) : Dat → Dat
  | .int i => f i
  | _ => .non
theorem rngD_mem {lo : Int} {n : Nat} {d : Dat} (h : d ∈ rngD lo n) : ∃ i, i < n ∧ d = .int (lo + (i : Nat)) := by
  obtain ⟨i, hi⟩ := List.mem_iff_getElem?.mp h
  obtain ⟨a, b⟩ := rngD_get hi
  exact ⟨i, a, b⟩
theorem rngD_map {lo : Int} {n : Nat} {f : Int → Dat} : (rngD lo n).map (onI f) = (List.range n).map fun i => f (lo + (i : Nat)) := by
  unfold rngD
  rw [List.map_map]
  rfl
theorem isSome_of_lt {ρ : List Sl} {i : Nat} (h : i < ρ.length) : ρ[i]?.isSome = true := by rw [List.getElem?_eq_getElem h]; rfl
/-- type(x) -/
theorem ev_ty1 {T : String} (ha : Ev K ta ρ d ρ1) (h : d.tyn = some T) : Ev K (tCB (rTyp K) (tCons ta tNil)) ρ (.ty T) ρ1 := fun Z G H σ c Q q => by
  refine ha Z G H σ c _ fun v G1 H1 s1 c1 r1 => ?_
  have e : TyB K H1 v T := by
    cases r1 with
    | non => cases h; exact .non
    | bl b => cases h; exact .bl b
    | int b => cases h; exact .int b
    | str b => cases h; exact .str b
    | lst e _ => cases h; exact .lst (.inl (.inl (c1.gh _ _ e)))
    | tup e _ => cases h; exact .tup (.inl (.inl (c1.gh _ _ e)))
    | emp e => cases h; exact .dK (c1.gh _ _ e)
    | _ => cases h
  exact ⟨v, T, rfl, e, q _ _ _ s1 c1 (.ty T)⟩
theorem rv_isnt {a b : String} : RV K rNT ρ (.ty a) (.ty b) (.bl (!decide (a = b))) := rv_pure fun G H x y s rx ry => by
  cases rx; cases ry
  exact ⟨_, .bl _, fun Q q => ⟨a, b, rfl, rfl, q⟩⟩
theorem rv_isTy {a b : String} {r : R2} (hr : r = fun x y H Q => ∃ a b, x = .ty a ∧ y = .ty b ∧ Q (.bl (decide (a = b))) H) : RV K r ρ (.ty a) (.ty b) (.bl (decide (a = b))) := by
  subst hr
  exact rv_pure fun G H x y s rx ry => by
    cases rx; cases ry
    exact ⟨_, .bl _, fun Q q => ⟨a, b, rfl, rfl, q⟩⟩
/-- len of a text -/
theorem ev_lenS {r : List V → Hp → VK → Prop} {z : Str} (hr : r = fun xs H Q => ∃ z, xs = [.str z] ∧ z.length ≤ sizeLine ∧ Q (.int z.length) H) (ha : Ev K ta ρ (.str z) ρ1) (hz : z.length ≤ 100000) : Ev K (tCB r (tCons ta tNil)) ρ (.int z.length) ρ1 := fun Z G H σ c Q q => by
  subst hr
  refine ha Z G H σ c _ fun v G1 H1 s1 c1 r1 => ?_
  cases r1
  exact ⟨z, rfl, sz_ok hz, q _ _ _ s1 c1 (.int _)⟩
/-- the signs of a text -/
def signs (x : Str) : List Dat := x.cps.toList.map fun c => .str ⟨#[c]⟩
theorem src_str {z : Str} (h : Ev K te ρ (.str z) ρ1) : Src K (iStr te) ρ (signs z) ρ1 := fun Z G H σ c R q => by
  refine h Z G H σ c _ fun v G1 H1 s1 c1 r1 => ?_
  cases r1
  refine ⟨z, rfl, q _ G1 H1 s1 c1 fun i Gx Hx σx ρx Zx s c2 => ⟨fun e => ?_, fun d hd => ?_⟩⟩
  · show z.cps.size ≤ i
    rw [e]
    simp [signs]
  · unfold signs at hd
    rw [List.getElem?_map] at hd
    have hi : i < z.cps.size := by
      cases e : z.cps.toList[i]? with
      | none => rw [e] at hd; cases hd
      | some x =>
        have := (List.getElem?_eq_some_iff.mp e).1
        simpa using this
    refine ⟨hi, fun y Hy hy => ?_⟩
    obtain ⟨e1, x, hx, e2⟩ := hy
    subst e1 e2
    have : z.cps.toList[i]? = some x := by simpa using hx
    rw [this] at hd
    have hd : Dat.str ⟨#[x]⟩ = d := Option.some.inj hd
    subst hd
    exact ⟨Gx, Same.refl _, c2, .str _⟩
end
/-! ### len(set(ints)) -/
def distinct (ns : List Int) : List Int := PyProof.Rows.firstMet (fun i => ns.getD i 0) ns.length
def tLenSetG (K : PySem.W.Frag) (ta : TE) : TE := fun σ H Q => ta σ H fun x H1 => ∃ (l : Addr) (ns : List Int), x = .ref l ∧ SqL K H1 l (ns.map V.int) ∧ ns.length ≤ 4000 ∧ Q (.int ((distinct ns).length : Nat)) H1
theorem pe_lenSetG {X : Cx} {a : Expr} {ta : TE} {p p2 q pos : Pos} (hg : Gl X "len") (hm : X.mg "len" = none) (hg2 : Gl X "set") (hm2 : X.mg "set" = none) (ha : PE X a ta) (hc : X.calm = true := by rfl)
    (na : starEach [a] X.env = (false, eval a X.env) :: starEach [] X.env := by rfl) : PE X (.Call (.Name "len" p) [.Call (.Name "set" p2) [a] [] q] [] pos) (tLenSetG X.K ta) := by
  refine ⟨fun pins s σ H Q I h => ?_⟩
  refine PyProof.Rows.Call_ (ld_blt I hg hm PySem.boot_len ?_)
  refine PyProof.Rows.callWith_builtin1 (PyProof.Rows.args_cons ?_ rfl) rfl rfl
  refine PyProof.Rows.Call_ (ld_blt I hg2 hm2 PyProof.Rows.boot_set ?_)
  refine PyProof.Rows.callWith_type1 (PyProof.Rows.args_cons (thn (ha.run pins s σ H _ I h) fun v s1 ⟨x, H1, I1, r1, q1⟩ => PyProof.Rows.args_nil ?_) na) na rfl
  obtain ⟨l, ns, rfl, hq, hl, q1⟩ := q1
  cases r1
  obtain ⟨its, r, pl, hz⟩ := I1.list hq
  have hlen : its.toArray.size = ns.length := by rw [List.size_toArray, ← r.length, List.length_map]
  refine PySem.call_set_list (I1.ok.hd hc) pl.isList (by simpa using L2.intsAre_of r) (by rw [hlen]; unfold scanBound; omega) fun h' tk hS hk => ?_
  refine PyProof.Rows.args_nil ?_
  rw [hlen] at hS
  have hle := PyProof.Rows.firstMet_length_le (fun i => ns.getD i 0) ns.length
  obtain ⟨o, es, ep, t, ho, hex, hd, _, _, _, hf, hn⟩ := hS
  have I2 : Inv X pins σ H1 { s1 with heap := h', toks := tk } := I1.kept fun b o e => hk b o (Heap.lt_size e) e
  exact call_len_set ho hex hd hf (by rw [hn] <;> omega) ⟨.int (distinct ns).length, H1, I2.tok _, ⟨_, by rw [hn]; rfl⟩, q1⟩
section
variable {K : PySem.W.Frag} {ρ ρ1 : List Sl} {ta : TE}
theorem ev_lenSet {ns : List Int} {a : Ag} (ha : EvL K ta ρ a ρ1) (l : look ρ1 a = some (ns.map Dat.int)) (hl : ns.length ≤ 4000) : Ev K (tLenSetG K ta) ρ (.int ((distinct ns).length : Nat)) ρ1 := fun Z G H σ c Q q => by
  refine ha Z G H σ c _ fun v G1 H1 s1 c1 r1 => ?_
  obtain ⟨p, xs, rfl, hp, rx⟩ := c1.read r1 l
  have e := rx.intsEq
  subst e
  exact ⟨p, ns, rfl, hp, hl, q _ _ _ s1 c1 (.int _)⟩
theorem distinct_le (ns : List Int) : (distinct ns).length ≤ ns.length := PyProof.Rows.firstMet_length_le _ _
theorem distinct_step (ns : List Int) : ∀ i, i ≤ ns.length → (PyProof.Rows.firstMet (fun i => ns.getD i 0) i).length = i → (ns.take i).Nodup := by
  intro i
  induction i with
  | zero => intro _ _; simp
  | succ i ih =>
    intro hi he
    have hlt : i < ns.length := hi
    have hle := PyProof.Rows.firstMet_length_le (fun i => ns.getD i 0) i
    have eg : ns.getD i 0 = ns[i] := by rw [List.getD_eq_getElem?_getD, List.getElem?_eq_getElem hlt]; rfl
    have an := PyProof.Rows.firstMet_any (fun i => ns.getD i 0) i (ns.getD i 0)
    rw [PyProof.Rows.firstMet_succ] at he
    have st : PyProof.Rows.step_dedup (PyProof.Rows.firstMet (fun i => ns.getD i 0) i) (ns.getD i 0) = if (PyProof.Rows.firstMet (fun i => ns.getD i 0) i).any (· == ns.getD i 0) then PyProof.Rows.firstMet (fun i => ns.getD i 0) i else PyProof.Rows.firstMet (fun i => ns.getD i 0) i ++ [ns.getD i 0] := rfl
    rw [st] at he
    cases hb : (PyProof.Rows.firstMet (fun i => ns.getD i 0) i).any (· == ns.getD i 0) with
    | true =>
      rw [hb] at he
      have he : (PyProof.Rows.firstMet (fun i => ns.getD i 0) i).length = i + 1 := he
      omega
    | false =>
      rw [hb] at he
      have he' : (PyProof.Rows.firstMet (fun i => ns.getD i 0) i).length = i := by simpa using he
      have nd := ih (Nat.le_of_lt hlt) he'
      rw [List.take_add_one, List.getElem?_eq_getElem hlt]
      show (ns.take i ++ [ns[i]]).Nodup
      refine List.nodup_append.mpr ⟨nd, by simp, fun a ha b hb' => ?_⟩
      have : b = ns[i] := by simpa using hb'
      subst this
      intro e
      rw [an] at hb
      have : ((List.range i).map fun i => ns.getD i 0).any (· == ns.getD i 0) = true := by
        obtain ⟨j, hj⟩ := List.mem_iff_getElem?.mp ha
        rw [List.getElem?_take] at hj
        by_cases hji : j < i
        · rw [if_pos hji] at hj
          refine List.any_eq_true.mpr ⟨ns.getD j 0, List.mem_map.mpr ⟨j, List.mem_range.mpr hji, rfl⟩, ?_⟩
          rw [List.getD_eq_getElem?_getD, hj, eg]
          simpa using e
        · rw [if_neg hji] at hj; cases hj
      rw [this] at hb
      cases hb
theorem distinct_nodup {ns : List Int} : (distinct ns).length = ns.length ↔ ns.Nodup := by
  constructor
  · intro h
    have := distinct_step ns ns.length (Nat.le_refl _) h
    rwa [List.take_length] at this
  · intro h
    unfold distinct
    rw [RZ.firstMet_nodup h ns.length (Nat.le_refl _), List.take_length]
variable {ρ' : List Sl} {tt tu : TT} {tb : TE} {d : Dat}
theorem et_orT (h : EvT K tt ρ true ρ') : EvT K (tOr tt tu) ρ true ρ' := fun Z G H σ c Q q => h Z G H σ c _ fun G1 H1 s1 c1 => iteT (q _ _ s1 c1)
theorem et_andF (h : EvT K tt ρ false ρ') : EvT K (tAnd tt tu) ρ false ρ' := fun Z G H σ c Q q => h Z G H σ c _ fun G1 H1 s1 c1 => iteF (q _ _ s1 c1)
theorem ev_andF (h : Ev K ta ρ (.bl false) ρ') : Ev K (tAndV ta tb) ρ (.bl false) ρ' := fun Z G H σ c Q q => h Z G H σ c _ fun v G1 H1 s1 c1 r1 => by
  cases r1
  exact ⟨false, rfl, iteF (q _ _ _ s1 c1 (.bl _))⟩
theorem ev_orT (h : Ev K ta ρ (.bl true) ρ') : Ev K (tOrV ta tb) ρ (.bl true) ρ' := fun Z G H σ c Q q => h Z G H σ c _ fun v G1 H1 s1 c1 r1 => by
  cases r1
  exact ⟨true, rfl, iteT (q _ _ _ s1 c1 (.bl _))⟩
/-! what may be handed in: any plain thing of a moderate size -/
mutual
def Tame : Nat → Dat → Prop
  | _, .non => True
  | _, .bl _ => True
  | _, .int _ => True
  | _, .emp => True
  | _, .str x => x.length ≤ 1000
  | n + 1, .lst ds => ds.length ≤ 1000 ∧ TameAll n ds
  | n + 1, .tup ds => ds.length ≤ 1000 ∧ TameAll n ds
  | _, _ => False
def TameAll : Nat → List Dat → Prop
  | _, [] => True
  | n, d :: ds => Tame n d ∧ TameAll n ds
end
theorem tameAll_mem {n : Nat} : ∀ {ds : List Dat}, TameAll n ds → ∀ d ∈ ds, Tame n d
  | [], _, d, h => by cases h
  | e :: ds, h, d, hm => by
    simp only [TameAll] at h
    rcases List.mem_cons.mp hm with rfl | hm
    · exact h.1
    · exact tameAll_mem h.2 d hm
theorem tameAll_of {n : Nat} : ∀ {ds : List Dat}, (∀ d ∈ ds, Tame n d) → TameAll n ds
  | [], _ => by simp only [TameAll]
  | d :: ds, h => by
    simp only [TameAll]
    exact ⟨h d List.mem_cons_self, tameAll_of fun e he => h e (List.mem_cons_of_mem _ he)⟩
theorem tame_lst {n : Nat} {ds : List Dat} : Tame (n + 1) (.lst ds) = (ds.length ≤ 1000 ∧ TameAll n ds) := by simp only [Tame]
theorem tame_tup {n : Nat} {ds : List Dat} : Tame (n + 1) (.tup ds) = (ds.length ≤ 1000 ∧ TameAll n ds) := by simp only [Tame]
theorem tame_str {n : Nat} {x : Str} : Tame n (.str x) = (x.length ≤ 1000) := by simp only [Tame]
theorem tame_tyn {n : Nat} {d : Dat} (h : Tame n d) : ∃ T, d.tyn = some T := by
  cases d <;> first | exact ⟨_, rfl⟩ | (simp only [Tame] at h)
theorem tame_len {n : Nat} {ds : List Dat} (h : Tame n (.lst ds)) : ds.length ≤ 1000 ∧ ∃ m, n = m + 1 ∧ TameAll m ds := by
  cases n with
  | zero => simp only [Tame] at h
  | succ n => rw [tame_lst] at h; exact ⟨h.1, n, rfl, h.2⟩
end

/-! ### instances: made by __init__, their fields and methods -/
section
variable (K : PySem.W.Frag)
/-- a part of an __init__: the instance stands aside, in slot 0; its fields ns hold ds, and ns', ds' behind it -/
def ExI (C : Addr) (t : TS) (ρ : List Sl) (ns : List Str) (ds : List Dat) (ρ' : List Sl) (ns' : List Str) (ds' : List Dat) : Prop :=
  ∀ (Z : Zs) (G H : Hp) (σ : L2.St) (x dx : Addr) (fs : List (Str × V)), Ct K Z G H σ ρ → σ[0]? = some (some (.ref x)) → H x = some (.ins C dx fs) → G x = none → Z.H0 x = none → Z.Kp x = none → (∀ i, ¬ Hd σ ρ i x) → fs.map (·.1) = ns → RpAll K G (fs.map (·.2)) ds →
    ∀ D : Ends, (∀ (σ' : L2.St) (G' H' : Hp) (fs' : List (Str × V)), Same G G' → Ct K Z G' H' σ' ρ' → σ'[0]? = some (some (.ref x)) → H' x = some (.ins C dx fs') → G' x = none → (∀ i, ¬ Hd σ' ρ' i x) → fs'.map (·.1) = ns' → RpAll K G' (fs'.map (·.2)) ds' → D.nx σ' H') → t D σ H
/-- an __init__'s promise: of the data es it makes an instance with fields ns that hold ds -/
def spInit (C : Addr) (R : List Dat → List Str → List Dat → Prop) : Sp := fun vs H Q _ => ∃ (G H0 : Hp) (x dx : Addr) (vs' : List V) (es : List Dat) (ns : List Str) (ds : List Dat), R es ns ds ∧ vs = .ref x :: vs' ∧ Same G H0 ∧ H0 x = none ∧ H0 dx = none ∧ dx ≠ x ∧
  H = upd (upd H0 dx (.own x)) x (.ins C dx []) ∧ RpAll K G vs' es ∧ ∀ (v : V) (G' H' : Hp), v = .non → Ct K ⟨G, H0, [], fun _ => none⟩ G' H' [] [] → Rp K G' (.ref x) (.ins C ns ds) → Q v H'
end
section
variable {K : PySem.W.Frag} {C : Addr} {Z : Zs} {G G' H H' : Hp} {σ : L2.St} {ρ ρ' ρ1 ρ2 : List Sl} {te ta tv : TE} {tt : TT} {t u : TS} {tg : TA} {d : Dat} {ds ds1 ds2 es : List Dat} {ns ns1 ns2 : List Str} {f m : Str} {ag : List Ag}
theorem exi_seq (h : ExI K C t ρ ns ds ρ1 ns1 ds1) (k : ExI K C u ρ1 ns1 ds1 ρ2 ns2 ds2) : ExI K C (tSeq t u) ρ ns ds ρ2 ns2 ds2 := fun Z G H σ x dx fs c e0 hx gx z zk no hn hr D q => by
  refine h Z G H σ x dx fs c e0 hx gx z zk no hn hr { D with nx := u D } fun σ1 G1 H1 fs1 s1 c1 e1 hx1 gx1 no1 hn1 hr1 => ?_
  exact k Z G1 H1 σ1 x dx fs1 c1 e1 hx1 gx1 z zk no1 hn1 hr1 D fun σ2 G2 H2 fs2 s2 => q σ2 G2 H2 fs2 (s1.trans s2)
theorem putF_new : ∀ {fs : List (Str × V)} {v : V}, f ∉ fs.map (·.1) → putF f v fs = fs ++ [(f, v)]
  | [], _, _ => rfl
  | (g, x) :: r, v, h => by
    have h1 : ¬ g = f := fun e => h (by rw [e]; exact List.mem_cons_self)
    have h2 : f ∉ r.map (·.1) := fun e => h (List.mem_cons_of_mem _ e)
    show (if g = f then _ else _) = _
    rw [if_neg h1, putF_new h2]
    rfl
theorem exi_fld (hv : Ev K tv ρ d ρ1) (hc : Cls K C) (hn : NoAttr K C f) (hf : f ∉ ns) (hl : ns.length < 1000) : ExI K C (sFld K (tVar 0) tv f) ρ ns ds ρ1 (ns ++ [f]) (ds ++ [d]) := fun Z G H σ x dx fs c e0 hx gx z zk no hn' hr D q => by
  have ca := c.aside hx gx no
  refine hv _ G H σ ca _ fun y G1 H1 s1 c1 r1 => ?_
  obtain ⟨c2, h2, g2, no2⟩ := c1.unaside zk
  refine ⟨.ref x, e0, x, C, dx, fs, rfl, h2, hc, hn, by rw [← hn'] at hl; simpa using hl, ?_⟩
  refine q σ G1 _ (fs ++ [(f, y)]) s1 (c2.asideSet h2 g2 no2 z zk) e0 ?_ g2 no2 ?_ ?_
  · rw [upd_same, putF_new (by rw [hn']; exact hf)]
  · rw [List.map_append, hn']
    rfl
  · rw [List.map_append]
    exact (hr.to s1).app (.cons r1 .nil)
/-- a test whose branch isn't taken -/
theorem exi_no {t1 : TS} (h : EvT K tt ρ false ρ1) (k : ExI K C u ρ1 ns ds ρ2 ns2 ds2) : ExI K C (tSeq (tIfS tt t1 tNext) u) ρ ns ds ρ2 ns2 ds2 := fun Z G H σ x dx fs c e0 hx gx z zk no hn hr D q => by
  have ca := c.aside hx gx no
  refine h _ G H σ ca _ fun G1 H1 s1 c1 => ?_
  obtain ⟨c2, h2, g2, no2⟩ := c1.unaside zk
  refine iteF ?_
  exact k Z G1 H1 σ x dx fs c2 e0 h2 g2 z zk no2 hn (hr.to s1) D fun σ2 G2 H2 fs2 s2 => q σ2 G2 H2 fs2 (s1.trans s2)
theorem ct_nil (gh : Same G H) : Ct K ⟨G, H, [], fun _ => none⟩ G H [] [] :=
  ⟨rfl, Same.refl G, gh, fun _ _ e _ => e, fun _ n => n, fun _ _ n => n, fun i s e => by simp at e, fun i j p a => by obtain ⟨e, _⟩ := a; simp at e, fun _ _ e => (by cases e), fun _ n => absurd rfl n, fun _ _ _ => rfl⟩
theorem Ct.nil (c : Ct K Z G H σ ρ) : Ct K Z G H [] [] :=
  ⟨rfl, c.gg, c.gh, c.hh, c.ge, c.fr, fun i s e => by simp at e, fun i j p a => by obtain ⟨e, _⟩ := a; simp at e, c.kp, c.kg, fun i p a => by obtain ⟨e, _⟩ := a; simp at e⟩
/-- an __init__'s body keeps its promise -/
theorem init_ok {R : List Dat → List Str → List Dat → Prop} {N : List Str} {vs : List V} {Q : VK} {E : XK} {n : Nat} (h : spInit K C R vs H Q E) (hn : ∀ es ns ds, R es ns ds → es.length = n)
    (k : ∀ es ns ds, R es ns ds → ∃ ρ', ExI K C t ([.no] ++ es.map Sl.dat ++ List.replicate (N.length - (n + 1)) .no) [] [] ρ' ns ds) : t { nx := fun _ H' => Q .non H', rt := Q } (start N vs) H := by
  obtain ⟨G, H0, x, dx, vs', es, ns, ds, r, rfl, gh, hx, hdx, ne, rfl, ra, q⟩ := h
  obtain ⟨ρ', ex⟩ := k es ns ds r
  have l : vs'.length = n := by rw [ra.length, hn _ _ _ r]
  have c0 : Ct K ⟨G, H0, [], fun _ => none⟩ G H0 (vs'.map some) (es.map Sl.dat) := start_all gh ra
  have c1 : Ct K ⟨G, H0, [], fun _ => none⟩ G (upd (upd H0 dx (.own x)) x (.ins C dx [])) (vs'.map some) (es.map Sl.dat) := (c0.grow (o := .own x) hdx).grow (by rw [upd_ne ne.symm]; exact hx)
  have gx : G x = none := c0.freshG hx
  have sl : ∀ {i : Nat} {s : Sl}, ([.no] ++ es.map Sl.dat ++ List.replicate (N.length - (n + 1)) Sl.no : List Sl)[i]? = some s → s.isNo = false → ∃ j d, i = j + 1 ∧ es[j]? = some d ∧ s = .dat d := fun {i s} e hs => by
    cases i with
    | zero =>
      have e : some Sl.no = some s := e
      cases e
      cases hs
    | succ j =>
      have e : (es.map Sl.dat ++ List.replicate (N.length - (n + 1)) Sl.no)[j]? = some s := e
      by_cases hj : j < es.length
      · rw [List.getElem?_append_left (by simpa using hj), List.getElem?_map, List.getElem?_eq_getElem hj] at e
        exact ⟨j, _, rfl, List.getElem?_eq_getElem hj, (Option.some.inj e).symm⟩
      · rw [List.getElem?_append_right (by simpa using hj)] at e
        have := List.mem_of_getElem? e
        rw [List.mem_replicate] at this
        rw [this.2] at hs
        cases hs
  have est : L2.start N (.ref x :: vs') = [some (.ref x)] ++ vs'.map some ++ List.replicate (N.length - (n + 1)) none := by
    show (V.ref x :: vs').map some ++ List.replicate (N.length - (V.ref x :: vs').length) none = _
    rw [List.length_cons, l]
    rfl
  have nohd : ∀ {i : Nat} {p : Addr}, ¬ Hd (L2.start N (.ref x :: vs')) ([.no] ++ es.map Sl.dat ++ List.replicate (N.length - (n + 1)) .no) i p := fun {i p} a => by
    obtain ⟨_, s, e, o⟩ := a
    obtain ⟨j, d, _, _, rfl⟩ := sl e (Sl.own_not_no o)
    cases o
  have c2 : Ct K ⟨G, H0, [], fun _ => none⟩ G (upd (upd H0 dx (.own x)) x (.ins C dx [])) (L2.start N (.ref x :: vs')) ([.no] ++ es.map Sl.dat ++ List.replicate (N.length - (n + 1)) .no) :=
    ⟨by rw [est]; simp [l, hn _ _ _ r], c1.gg, c1.gh, c1.hh, c1.ge, c1.fr, fun i s e hs => by
      obtain ⟨j, d, rfl, hd, rfl⟩ := sl e hs
      obtain ⟨v, hv, rv⟩ := ra.get hd
      refine ⟨v, ?_, rv⟩
      rw [est]
      show (vs'.map some ++ List.replicate (N.length - (n + 1)) none)[j]? = _
      have hj : j < vs'.length := (List.getElem?_eq_some_iff.mp hv).1
      rw [List.getElem?_append_left (by simpa using hj), List.getElem?_map, hv]
      rfl, fun i j p a => (nohd a).elim, c1.kp, c1.kg, fun i p a => (nohd a).elim⟩
  refine ex _ G _ _ x dx [] c2 (by rw [est]; rfl) upd_same gx hx rfl (fun i a => nohd a) rfl .nil _ fun σ' G' H' fs' s' c' e' hx' gx' no' hn' hr' => ?_
  obtain ⟨c3, s3⟩ := c'.adopt hx' hx rfl no' gx'
  exact q .non _ H' rfl c3.nil (.ins upd_same hn' (hr'.to s3))
/-- C(..) -/
theorem ev_make {R : List Dat → List Str → List Dat → Prop} {E : XK} (ha : EvA K tg ρ ag ρ1) (hd : agD ag = some es) (hR : R es ns ds) : Ev K (tMake C (spInit K C R) [] E tg) ρ (.ins C ns ds) ρ1 := fun Z G H σ c Q q => by
  have ha := agD_map hd ▸ ha
  refine ha Z G H σ c _ fun vs G1 H1 s1 c1 r1 => ?_
  have r := rp_args r1
  intro x dx hx hdx ne
  rw [List.append_nil]
  refine ⟨G1, H1, x, dx, vs, es, ns, ds, hR, rfl, c1.gh, hx, hdx, ne, rfl, r, fun v G2 H2 ev c2 r2 => ⟨ev, ?_⟩⟩
  obtain ⟨s2, c3⟩ := c1.after0 (vs := []) c2
  exact q _ G2 H2 (s1.trans s2) c3 r2
theorem look_zip : ∀ {fs : List (Str × V)} {ns : List Str} {ds : List Dat}, fs.map (·.1) = ns → RpAll K G (fs.map (·.2)) ds → ∀ {d : Dat}, (ns.zip ds).lookup f = some d → ∃ v, fs.lookup f = some v ∧ Rp K G v d
  | [], _, _, rfl, h, d, e => by cases h; cases e
  | (g, y) :: r, _, _, rfl, h, d, e => by
    cases h with
    | @cons _ _ d0 ds0 a b =>
      have e : List.lookup f ((g, d0) :: (r.map (·.1)).zip ds0) = some d := e
      rw [List.lookup_cons] at e
      rw [List.lookup_cons]
      cases q : f == g with
      | true => rw [q] at e; cases e; exact ⟨y, rfl, a⟩
      | false => rw [q] at e; exact look_zip rfl b e
/-- o.f -/
theorem ev_fld (ha : Ev K ta ρ (.ins C ns ds) ρ1) (hc : Cls K C) (hn : NoAttr K C f) (hl : (ns.zip ds).lookup f = some d) : Ev K (tFld K ta f) ρ d ρ1 := fun Z G H σ c Q q => by
  refine ha Z G H σ c _ fun v G1 H1 s1 c1 r1 => ?_
  cases r1 with
  | @ins a _ dx fs _ _ e n r =>
    obtain ⟨w, hw, rw⟩ := look_zip n r hl
    exact ⟨a, C, dx, fs, w, rfl, c1.gh _ _ e, hc, hn, hw, q _ _ _ s1 c1 rw⟩
theorem look_none : ∀ {fs : List (Str × V)}, m ∉ fs.map (·.1) → fs.lookup m = none
  | [], _ => rfl
  | (g, y) :: r, h => by
    have h1 : (m == g) = false := beq_eq_false_iff_ne.mpr fun e => h (by rw [e]; exact List.mem_cons_self)
    rw [List.lookup_cons, h1]
    exact look_none fun e => h (List.mem_cons_of_mem _ e)
/-- o.m(..) -/
theorem ev_meth {R : List Sl → Dat → List Sl → Prop} {E : XK} {as' : List Sl} (ha : Ev K ta ρ (.ins C ns ds) ρ1) (hb : EvA K tg ρ1 ag ρ2) (hd : agD ag = some es) (hm : m ∉ ns) (hR : R (.dat (.ins C ns ds) :: es.map Sl.dat) d as') : Ev K (tMeth C m (spG K R) [] E ta tg) ρ d ρ2 := fun Z G H σ c Q q => by
  have hb := agD_map hd ▸ hb
  refine ha Z G H σ c _ fun v G1 H1 s1 c1 r1 => ?_
  have r1' := r1
  cases r1 with
  | @ins a _ dx fs _ _ e n r =>
    refine ⟨a, dx, fs, rfl, c1.gh _ _ e, look_none (by rw [n]; exact hm), ?_⟩
    refine hb Z G1 H1 σ c1 _ fun vs G2 H2 s2 c2 r2 => ?_
    rw [List.append_nil]
    have ra : RpAll K G2 (.ref a :: vs) (.ins C ns ds :: es) := .cons (r1'.to s2) (rp_args r2)
    refine ⟨G2, [], _, d, as', hR, start_all c2.gh ra, fun v G3 H3 c3 r3 => ?_⟩
    obtain ⟨s3, c4⟩ := c2.after0 c3
    exact q v G3 H3 ((s1.trans s2).trans s3) c4 r3
end

section
variable {K : PySem.W.Frag} {ρ ρ1 ρ2 : List Sl} {ta tb : TE} {ds es : List Dat}
theorem ef_rep {n : Int} {a : Ag} (ha : EvL K ta ρ a ρ1) (hb : Ev K tb ρ1 (.int n) ρ2) (la : lookS ρ2 a = some ds) (h1 : -1000 ≤ n) (h2 : n ≤ 1000) (hl : ds.length * n.toNat ≤ 100000) : EvF K (tOp rRep ta tb) ρ (rep ds n.toNat) ρ2 := fun Z G H σ c Q q => by
  refine ha Z G H σ c _ fun x G1 H1 s1 c1 r1 => ?_
  refine hb Z G1 H1 σ c1 _ fun y G2 H2 s2 c2 r2 => ?_
  obtain ⟨p, xs, rfl, hp, rx⟩ := c2.readS (r1.to s2) la
  cases r2
  refine ⟨p, n, xs, rfl, rfl, hp, by omega, by omega, by rw [rx.length]; exact sz_ok hl, fun q' hn => ?_⟩
  obtain ⟨a, b, z, no⟩ := fresh_of c2 (xs := (List.replicate n.toNat xs).flatten) hn
  exact q q' _ G2 _ (s1.trans s2) a b upd_same (rp_rep rx _) z no
theorem ev_rep {n : Int} {a : Ag} (ha : EvL K ta ρ a ρ1) (hb : Ev K tb ρ1 (.int n) ρ2) (la : lookS ρ2 a = some ds) (h1 : -1000 ≤ n) (h2 : n ≤ 1000) (hl : ds.length * n.toNat ≤ 100000) : Ev K (tOp rRep ta tb) ρ (.lst (rep ds n.toNat)) ρ2 := ev_of_fresh (ef_rep ha hb la h1 h2 hl)
/-- {} -/
theorem ev_emp : Ev K tDNewK ρ .emp ρ := fun Z G H σ c Q q => by
  intro p hp
  obtain ⟨c2, s2⟩ := c.grown (o := .dK []) hp
  exact q _ _ _ s2 c2 (.emp upd_same)
theorem cutD_len (xs : List Dat) (lo hi : Option Int) : (cutD xs lo hi).length ≤ xs.length := by
  unfold cutD
  rw [List.length_take, List.length_drop]
  omega
end
/-! ### the rules with the written part named -/
section
variable (K : PySem.W.Frag) {X : Cx} {tg it e : Expr} {ta tb te to : TE} {t : TA} {f : Str} {T : String} {r : V → List V → Hp → VK → Prop} {n : Nat} {u : TGs}
theorem kEqD (hu : X.A.units + 64 < cLine) (h : X.K = K := by rfl) : OpR X (compareOp .Eq) (rEqD K) := h ▸ op_eqD hu
theorem kNeD (hu : X.A.units + 64 < cLine) (h : X.K = K := by rfl) : OpR X (compareOp .NotEq) (rNeD K) := h ▸ op_neD hu
theorem kInD (hu : X.A.units + 65 < cLine) (h : X.K = K := by rfl) : OpR X (compareOp .In) (rInD K) := h ▸ op_inD hu
theorem kNotInD (hu : X.A.units + 65 < cLine) (h : X.K = K := by rfl) : OpR X (compareOp .NotIn) (rNotInD K) := h ▸ op_notInD hu
theorem kIn (h : X.K = K := by rfl) : OpR X (compareOp .In) (rIn K false) := h ▸ op_in_seq
theorem kNotIn (h : X.K = K := by rfl) : OpR X (compareOp .NotIn) (rIn K true) := h ▸ op_notIn_seq
theorem kIxL (h : X.K = K := by rfl) : IxR X (rIxL K) := h ▸ ix_list
theorem kIxT (h : X.K = K := by rfl) : IxR X (rIxT K) := h ▸ ix_tup
theorem kSlL (h : X.K = K := by rfl) : SlR X (rSlL K) := h ▸ sl_list
theorem kSlA (h : X.K = K := by rfl) : SlR X (rSlA K) := h ▸ sl_tupA
theorem kCatA (h : X.K = K := by rfl) : OpR X (binaryOp .Add) (rCatA K) := h ▸ op_catA
abbrev rLenQ (K : PySem.W.Frag) : List V → Hp → VK → Prop := fun xs H Q => ∃ p ys, xs = [.ref p] ∧ (SqL K H p ys ∨ SqT K H p ys) ∧ Q (.int ys.length) H
theorem kLen (h : X.K = K := by rfl) : CallR X (.builtin "len") (rLenQ K) := h ▸ call_len_seq
abbrev rListQ (K : PySem.W.Frag) : List V → Hp → VK → Prop := fun xs H Q => ∃ p ys, xs = [.ref p] ∧ (SqL K H p ys ∨ SqT K H p ys) ∧ ∀ l, H l = none → Q (.ref l) (upd H l (.lst ys))
theorem kList (h : X.K = K := by rfl) : CallR X (.type "list") (rListQ K) := h ▸ call_list_of
abbrev rTupQ (K : PySem.W.Frag) : List V → Hp → VK → Prop := fun xs H Q => ∃ p ys, xs = [.ref p] ∧ ((SqL K H p ys ∧ ∀ l, H l = none → Q (.ref l) (upd H l (.tup ys))) ∨ (SqT K H p ys ∧ Q (.ref p) H))
theorem kTuple (h : X.K = K := by rfl) : CallR X (.type "tuple") (rTupQ K) := h ▸ call_tuple_of
theorem kIsi (h : X.K = K := by rfl) : CallR X (.builtin "isinstance") (rIsi K) := h ▸ call_isi
theorem kType (h : X.K = K := by rfl) : CallR X (.type "type") (rTyp K) := h ▸ call_type1
theorem kAll (hc : X.calm = true) (h : X.K = K := by rfl) : CallR X (.builtin "all") (rAll K) := h ▸ cr_all hc
theorem kAny (hc : X.calm = true) (h : X.K = K := by rfl) : CallR X (.builtin "any") (rAny K) := h ▸ cr_any hc
theorem kIndexD (hu : X.A.units + 65 < cLine) (h : X.K = K := by rfl) : MtR X "list.index" (rIndexD K) := h ▸ mt_indexD hu
theorem kCount (h : X.K = K := by rfl) : MtR X "list.count" (rCntI K) := h ▸ mt_lcount
theorem kFld (p : PE X e (tFld X.K ta f)) (h : X.K = K := by rfl) : PE X e (tFld K ta f) := h ▸ p
theorem kBM (p : PE X e (tBM X.K T r to t)) (h : X.K = K := by rfl) : PE X e (tBM K T r to t) := h ▸ p
theorem kBM0 (p : PE X e (tBM0 X.K T r to)) (h : X.K = K := by rfl) : PE X e (tBM0 K T r to) := h ▸ p
abbrev rJoinQ (K : PySem.W.Frag) : V → List V → Hp → VK → Prop := fun x xs H Q => ∃ a p, ∃ ys : List Str, x = .str a ∧ xs = [.ref p] ∧ (SqL K H p (ys.map V.str) ∨ SqT K H p (ys.map V.str)) ∧
      (ys.map (·.length)).sum + ys.length * a.length ≤ 16777216 ∧ Q (.str (Txt.join a ys)) H
theorem kJoin (p : PE X e (tM1 (rJoinQ X.K) to te)) (h : X.K = K := by rfl) : PE X e (tM1 (rJoinQ K) to te) := h ▸ p
theorem kLenSet (p : PE X e (tLenSetG X.K ta)) (h : X.K = K := by rfl) : PE X e (tLenSetG K ta) := h ▸ p
theorem kiList (p : PI X tg it (iList X.K te)) (h : X.K = K := by rfl) : PI X tg it (iList K te) := h ▸ p
theorem kiTup (p : PI X tg it (iTup X.K te)) (h : X.K = K := by rfl) : PI X tg it (iTup K te) := h ▸ p
theorem kiEnum (p : PI X tg it (iEnum X.K t)) (h : X.K = K := by rfl) : PI X tg it (iEnum K t) := h ▸ p
theorem kiZip (p : PI X tg it (iZip X.K t)) (h : X.K = K := by rfl) : PI X tg it (iZip K t) := h ▸ p
theorem kgTup (p : PG X e (gTup X.K n u)) (h : X.K = K := by rfl) : PG X e (gTup K n u) := h ▸ p
theorem ksFld {st : Stmt} {tv : TE} (p : PS X st (sFld X.K ta tv f)) (h : X.K = K := by rfl) : PS X st (sFld K ta tv f) := h ▸ p
end
/-! ### exceptions -/
/-- isinstance(e, (A, B, ..)) of the exception in hand -/
def rIsET (K : PySem.W.Frag) (D a : Addr) : List V → Hp → VK → Prop := fun xs H Q => ∃ (p : Addr) (cs : List V) (its : List Value) (b : Bool), xs = [.ref a, .ref p] ∧ H p = some (.tup cs) ∧ (∀ us, Vals cs us → us = its) ∧ PySem.W.kitAny K (.ref D) its = some b ∧ Q (.bl b) H
theorem call_isET {X : Cx} {a D : Addr} {oe : Obj} {pn : List (Addr × Obj)} (C : ExcC X.K D) (hz : Zc (.ref D) none oe) (hf : ∃ vs, oe.data = .fields vs) : CallR (X.suite a ((a, oe) :: pn)) (.builtin "isinstance") (rIsET X.K D a) := by
  rintro pins s σ H xs us Q I hv ⟨p, cs, its, b, rfl, hp, hits, hk, q⟩
  cases hv with
  | cons h1 h2 =>
  cases h2 with
  | cons h3 h4 =>
  cases h4
  cases h1
  cases h3
  have hpin := (I.pin (a, oe) (by simp)).1
  obtain ⟨ts, tv, tt, _⟩ := I.tuple (.inl (.inl hp))
  have e := hits _ tv
  obtain ⟨o, to, tc, n, td⟩ := tt
  obtain ⟨oc, od, odt, osl⟩ := o
  obtain ⟨vs, hf⟩ := hf
  have hcl : (PySem.W.clsIn X.K D).isSome = true := by
    have := C.hd
    unfold PySem.W.hasDictIn at this
    cases q : PySem.W.clsIn X.K D with
    | none => rw [q] at this; cases this
    | some _ => rfl
  refine PySem.W.kia_tup (PySem.W.kitx_exc (x := a) (ox := oe) (od := none) hcl C.hg C.hk C.hs C.ha C.hn C.ht C.hm) I.kIn ⟨hpin, hz.1, ?_, ?_⟩ (tp := p) (its := its) (n := n) (sl := osl) (dd := od) ?_ hk (by intro h; cases h) fun tk => ?_
  · unfold PySem.W.notCls
    rw [hf]
  · rw [hz.2]; trivial
  · rw [to, ← e]
    cases tc
    cases td
    rfl
  · exact ⟨.bl b, H, I.tok tk, rfl, q⟩
/-- C(..) that may refuse -/
theorem pe_makeX {X : Cx} {k : Nat} {f C : Addr} {fd : FuncData} {ps : List Str} {sp : Sp} {E : L2.St → XK} {x : Str} {p pos : Pos} {e : Expr} {es : List Expr} {t : TA}
    (mk : Mk X.K C f) (F : FnOk X.prog X.w X.K X.mg X.base (CX X.prog X.w) k f fd ps sp) (hr : Room (k + 1) X.A) (hg : Gl X x) (hm : X.mg x = some (.ref C)) (hb : Binds X.K fd ps []) (hx : ∀ σ, PassesAt (CX X.prog X.w) X σ (E σ)) (ha : PA X (e :: es) t)
    (h1 : (x == ("__debug__" : Str)) = false := by decide) (h2 : starEach (e :: es) X.env = (false, eval e X.env) :: starEach es X.env := by rfl) (h3 : (backTo pos (starEach es X.env)).any (·.1) = false := by rfl) :
    PE X (.Call (.Name x p) (e :: es) [] pos) (tMake C sp [] (fun cls d H => ∀ σ', σ'.length = X.N.length → E σ' cls d H) t) :=
  pe_make mk F hr hg hm hb .nil (fun pins σ H s e s' I h => hx σ pins H s e s' I (by
    obtain ⟨a, B, H', cls, d, q1, q2, q3, q4, q5, q6, q7, q8⟩ := h
    exact ⟨a, B, H', cls, d, q1, q2, q3, q4, q5, q6, q7, q8 σ I.len⟩)) ha h1 h2 h3
/-- a call that raises CB -/
def spX (K : PySem.W.Frag) (CB : Addr) (R : List Sl → Prop) : Sp := fun vs H _ E => ∃ (G : Hp) (O : List Addr) (as : List Sl), R as ∧ Ct K ⟨G, H, O, fun _ => none⟩ G H (vs.map some) as ∧
  ∀ (G' H' : Hp), Ct K ⟨G, H, O, fun _ => none⟩ G' H' (vs.map some) (as.map fun _ => .no) → E (.ref CB) none H'
/-- an __init__ that refuses -/
def spInitX (K : PySem.W.Frag) (C CB : Addr) (R : List Dat → Prop) : Sp := fun vs H _ E => ∃ (G H0 : Hp) (x dx : Addr) (vs' : List V) (es : List Dat), R es ∧ vs = .ref x :: vs' ∧ Same G H0 ∧ H0 x = none ∧ H0 dx = none ∧ dx ≠ x ∧
  H = upd (upd H0 dx (.own x)) x (.ins C dx []) ∧ RpAll K G vs' es ∧ ∀ (G' H' : Hp), Ct K ⟨G, H0, [], fun _ => none⟩ G' H' [] [] → E (.ref CB) none H'
/-- a statement raises CB, E being what the def's caller wishes -/
def ExR (K : PySem.W.Frag) (CB : Addr) (E : XK) (t : TS) (ρ : List Sl) : Prop := ∀ (Z : Zs) (G H : Hp) (σ : L2.St), Ct K Z G H σ ρ → ∀ D : Ends, (∀ (σ' : L2.St) (G' H' : Hp), Same G G' → Ct K Z G' H' σ' (ρ.map fun _ => .no) → E (.ref CB) none H') → t D σ H
section
variable {K : PySem.W.Frag} {CB : Addr} {E : XK} {ρ ρ1 : List Sl} {t u : TS} {tt : TT}
theorem Ct.blank {Z : Zs} {G H : Hp} {σ : L2.St} (c : Ct K Z G H σ ρ) : Ct K Z G H σ (ρ.map fun _ => .no) := c.weak (by
  clear c
  induction ρ with
  | nil => exact .nil
  | cons s r ih => exact .no ih)
theorem exr_raise : ExR K CB E (fun _ _ H => E (.ref CB) none H) ρ := fun Z G H σ c D q => q σ G H (Same.refl G) c.blank
theorem exr_head (h : ExR K CB E t ρ) : ExR K CB E (tSeq t u) ρ := fun Z G H σ c D q => h Z G H σ c _ q
theorem exr_if (h : EvT K tt ρ true ρ) (k : ExR K CB E t ρ) : ExR K CB E (tIfS tt t u) ρ := fun Z G H σ c D q => h Z G H σ c _ fun G1 H1 s1 c1 => iteT (k Z G1 H1 σ c1 D fun σ' G2 H2 s2 => q σ' G2 H2 (s1.trans s2))
end
section
variable {K : PySem.W.Frag} {C CB : Addr} {Z : Zs} {G G' H H' : Hp} {σ : L2.St} {ρ ρ' ρ1 ρ2 : List Sl} {te ta tv : TE} {tt : TT} {t u : TS} {tg : TA} {d : Dat} {ds es : List Dat} {ag : List Ag}
theorem Ct.reslot (c : Ct K Z G H σ ρ) {σ' : L2.St} {n : Nat} (h : σ'.length = n) : Ct K Z G H σ' (List.replicate n .no) := by
  have k : ∀ {i : Nat} {s : Sl}, (List.replicate n Sl.no)[i]? = some s → s = .no := fun {i s} e => by
    have := List.mem_of_getElem? e
    rw [List.mem_replicate] at this
    exact this.2
  have kh : ∀ {i : Nat} {p : Addr}, ¬ Hd σ' (List.replicate n Sl.no) i p := fun {i p} a => by
    obtain ⟨_, s, e, o⟩ := a
    rw [k e] at o
    cases o
  exact ⟨by rw [h, List.length_replicate], c.gg, c.gh, c.hh, c.ge, c.fr, fun i s e m => (by rw [k e] at m; cases m), fun i j p a => (kh a).elim, c.kp, c.kg, fun i p a => (kh a).elim⟩
/-- how an __init__'s body begins -/
theorem init_start {N : List Str} {x dx : Addr} {H0 : Hp} {vs' : List V} {n : Nat} (gh : Same G H0) (hx : H0 x = none) (hdx : H0 dx = none) (ne : dx ≠ x) (ra : RpAll K G vs' es) (hn : es.length = n) :
    Ct K ⟨G, H0, [], fun _ => none⟩ G (upd (upd H0 dx (.own x)) x (.ins C dx [])) (L2.start N (.ref x :: vs')) ([.no] ++ es.map Sl.dat ++ List.replicate (N.length - (n + 1)) .no) := by
  have l : vs'.length = n := by rw [ra.length, hn]
  have c0 : Ct K ⟨G, H0, [], fun _ => none⟩ G H0 (vs'.map some) (es.map Sl.dat) := start_all gh ra
  have c1 : Ct K ⟨G, H0, [], fun _ => none⟩ G (upd (upd H0 dx (.own x)) x (.ins C dx [])) (vs'.map some) (es.map Sl.dat) := (c0.grow (o := .own x) hdx).grow (by rw [upd_ne ne.symm]; exact hx)
  have sl : ∀ {i : Nat} {s : Sl}, ([.no] ++ es.map Sl.dat ++ List.replicate (N.length - (n + 1)) Sl.no : List Sl)[i]? = some s → s.isNo = false → ∃ j d, i = j + 1 ∧ es[j]? = some d ∧ s = .dat d := fun {i s} e hs => by
    cases i with
    | zero =>
      have e : some Sl.no = some s := e
      cases e
      cases hs
    | succ j =>
      have e : (es.map Sl.dat ++ List.replicate (N.length - (n + 1)) Sl.no)[j]? = some s := e
      by_cases hj : j < es.length
      · rw [List.getElem?_append_left (by simpa using hj), List.getElem?_map, List.getElem?_eq_getElem hj] at e
        exact ⟨j, _, rfl, List.getElem?_eq_getElem hj, (Option.some.inj e).symm⟩
      · rw [List.getElem?_append_right (by simpa using hj)] at e
        have := List.mem_of_getElem? e
        rw [List.mem_replicate] at this
        rw [this.2] at hs
        cases hs
  have est : L2.start N (.ref x :: vs') = [some (.ref x)] ++ vs'.map some ++ List.replicate (N.length - (n + 1)) none := by
    show (V.ref x :: vs').map some ++ List.replicate (N.length - (V.ref x :: vs').length) none = _
    rw [List.length_cons, l]
    rfl
  have nohd : ∀ {i : Nat} {p : Addr}, ¬ Hd (L2.start N (.ref x :: vs')) ([.no] ++ es.map Sl.dat ++ List.replicate (N.length - (n + 1)) .no) i p := fun {i p} a => by
    obtain ⟨_, s, e, o⟩ := a
    obtain ⟨j, d, _, _, rfl⟩ := sl e (Sl.own_not_no o)
    cases o
  exact ⟨by rw [est]; simp [l, hn], c1.gg, c1.gh, c1.hh, c1.ge, c1.fr, fun i s e hs => by
      obtain ⟨j, d, rfl, hd, rfl⟩ := sl e hs
      obtain ⟨v, hv, rv⟩ := ra.get hd
      refine ⟨v, ?_, rv⟩
      rw [est]
      show (vs'.map some ++ List.replicate (N.length - (n + 1)) none)[j]? = _
      have hj : j < vs'.length := (List.getElem?_eq_some_iff.mp hv).1
      rw [List.getElem?_append_left (by simpa using hj), List.getElem?_map, hv]
      rfl, fun i j p a => (nohd a).elim, c1.kp, c1.kg, fun i p a => (nohd a).elim⟩
/-- an __init__'s body that refuses -/
theorem initX_ok {R : List Dat → Prop} {N : List Str} {vs : List V} {Q : VK} {E : XK} {n : Nat} (h : spInitX K C CB R vs H Q E) (hn : ∀ es, R es → es.length = n)
    (k : ∀ es, R es → ExR K CB E t ([.no] ++ es.map Sl.dat ++ List.replicate (N.length - (n + 1)) .no)) : t { nx := fun _ H' => Q .non H', rt := Q } (L2.start N vs) H := by
  obtain ⟨G, H0, x, dx, vs', es, r, rfl, gh, hx, hdx, ne, rfl, ra, q⟩ := h
  exact k es r _ G _ _ (init_start gh hx hdx ne ra (hn _ r)) _ fun σ' G' H' s c => q G' H' c.nil
theorem initX_len {R : List Dat → Prop} {n : Nat} (h : ∀ es, R es → es.length = n) : ∀ vs H Q E, spInitX K C CB R vs H Q E → vs.length = n + 1 := by
  rintro vs H Q E ⟨G, H0, x, dx, vs', es, r, rfl, _, _, _, _, _, ra, _⟩
  rw [List.length_cons, ra.length, h _ r]
/-- try: C(..) except X as e: suite, where C refuses -/
theorem ex_tryMake {R : List Dat → Prop} {cv : Value} {i n : Nat} {ts : Addr → Value → Option Addr → TS} {Wout : WX} (ha : EvA K tg ρ ag ρ1) (hd : agD ag = some es) (hR : R es) (hm : PySem.W.exmOne K (.ref CB) cv = some true) (hi : i < n)
    (suite : ∀ a, Ex K (ts a (.ref CB) none) ((List.replicate n .no).set i (.dat (.cls a))) (.rt d ρ2)) :
    Ex K (fun D σ H => tDrop (tMake C (spInitX K C CB R) [] (fun cls dd H => ∀ σ', σ'.length = n → wAs K cv i ts Wout D cls dd σ' H) tg) D σ H) ρ (.rt d ρ2) := fun Z G H σ c D q => by
  have ha := agD_map hd ▸ ha
  refine ha Z G H σ c _ fun vs G1 H1 s1 c1 r1 => ?_
  have r := rp_args r1
  intro x dx hx hdx ne
  rw [List.append_nil]
  refine ⟨G1, H1, x, dx, vs, es, hR, rfl, c1.gh, hx, hdx, ne, rfl, r, fun G2 H2 c2 => ?_⟩
  obtain ⟨s2, c3⟩ := c1.after0 (vs := []) c2
  intro σ' hσ
  refine ⟨true, hm, fun _ a _ => ?_, fun h => by cases h⟩
  have c4 := (c3.reslot hσ).setD (i := i) (v := .ref a) (d := .cls a) (by rw [List.getElem?_replicate, if_pos hi]; rfl) (.cls a)
  exact suite a Z G2 H2 _ c4 _ fun σ2 v G3 H3 s3 c5 r5 => q σ2 v G3 H3 ((s1.trans s2).trans s3) c5 r5
theorem ev_isE {D a : Addr} {i : Nat} {c : V} {cv : Value} {b : Bool} (h : ρ[i]? = some (.dat (.cls a))) (hc : ∀ u, RelV c u → u = cv) (hk : PySem.W.kitOne K (.ref D) cv = some b) : Ev K (tCB (rIsE K D a) (tCons (tVar i) (tCons (tC c) tNil))) ρ (.bl b) ρ := fun Z G H σ ct Q q => by
  obtain ⟨v, e, r⟩ := ct.dat h
  cases r
  exact ⟨_, e, c, cv, b, rfl, hc, hk, q _ G H (Same.refl G) ct (.bl b)⟩
theorem ev_isET {D a : Addr} {i : Nat} {As : List Addr} {b : Bool} (h : ρ[i]? = some (.dat (.cls a))) (hb : Ev K ta ρ (.tup (As.map Dat.cls)) ρ1) (hk : PySem.W.kitAny K (.ref D) (As.map Value.ref) = some b) : Ev K (tCB (rIsET K D a) (tCons (tVar i) (tCons ta tNil))) ρ (.bl b) ρ1 := fun Z G H σ ct Q q => by
  obtain ⟨v, e, r⟩ := ct.dat h
  cases r
  refine ⟨_, e, ?_⟩
  refine hb Z G H σ ct _ fun w G1 H1 s1 c1 r1 => ?_
  cases r1 with
  | tup hp ra =>
    have hv : ∀ (As : List Addr) (cs : List V), RpAll K G1 cs (As.map Dat.cls) → ∀ us, Vals cs us → us = As.map Value.ref := by
      intro As
      induction As with
      | nil => intro cs h us hu; cases h; cases hu; rfl
      | cons A As ih =>
        intro cs h us hu
        cases h with
        | cons h1 h2 =>
          cases h1
          cases hu with
          | cons u1 u2 =>
            cases u1
            rw [ih _ h2 _ u2]
            rfl
    exact ⟨_, _, _, b, rfl, c1.gh _ _ hp, hv As _ ra, hk, q _ G1 H1 s1 c1 (.bl b)⟩
theorem ev_cref {A : Addr} : Ev K (tC (.ref A)) ρ (.cls A) ρ := ev_c fun _ => .cls A
theorem ex_seqRt (h : Ex K t ρ (.rt d ρ1)) : Ex K (tSeq t u) ρ (.rt d ρ1) := fun Z G H σ c D q => h Z G H σ c { D with nx := u D } fun σ' v G' H' s c' r => q σ' v G' H' s c' r
end
/-! ### what is new since the def began -/
def Nw (B G : Hp) : Hp := fun b => match B b with
  | none => G b
  | some _ => none
section
variable {B G G' : Hp}
theorem nw_none {b : Addr} (h : B b = none) : Nw B G b = G b := by unfold Nw; rw [h]
theorem nw_some {b : Addr} {o : HO} (h : Nw B G b = some o) : B b = none ∧ G b = some o := by
  unfold Nw at h
  cases e : B b with
  | none => rw [e] at h; exact ⟨rfl, h⟩
  | some _ => rw [e] at h; cases h
theorem nw_sub : Same (Nw B G) G := fun b o e => (nw_some e).2
theorem nw_same (s : Same G G') : Same (Nw B G) (Nw B G') := fun b o e => by
  obtain ⟨h, k⟩ := nw_some e
  rw [nw_none h]
  exact s b o k
theorem nw_base {B' : Hp} (h : ∀ b, B b ≠ none → B' b ≠ none) : Same (Nw B' G) (Nw B G) := fun b o e => by
  obtain ⟨k, e⟩ := nw_some e
  have : B b = none := by
    cases q : B b with
    | none => rfl
    | some _ => exact absurd k (h b (by rw [q]; intro z; cases z))
  rw [nw_none this]
  exact e
end
def Atom : Dat → Bool
  | .non => true | .bl _ => true | .int _ => true | .str _ => true | .ty _ => true | .cls _ => true
  | _ => false
section
variable (K : PySem.W.Frag)
def EvN (te : TE) (ρ : List Sl) (d : Dat) (ρ' : List Sl) : Prop := ∀ (Z : Zs) (G H : Hp) (σ : L2.St), Ct K Z G H σ ρ → ∀ Q : VK, (∀ (v : V) (G' H' : Hp), Same G G' → Ct K Z G' H' σ ρ' → Rp K (Nw Z.H0 G') v d → Q v H') → te σ H Q
def EvFN (te : TE) (ρ : List Sl) (ds : List Dat) (ρ' : List Sl) : Prop := ∀ (Z : Zs) (G H : Hp) (σ : L2.St), Ct K Z G H σ ρ → ∀ Q : VK,
  (∀ (p : Addr) (xs : List V) (G' H' : Hp), Same G G' → Ct K Z G' H' σ ρ' → G' p = none → H' p = some (.lst xs) → RpAll K (Nw Z.H0 G') xs ds → Z.H0 p = none ∧ Z.Kp p = none → (∀ i, ¬ Hd σ ρ' i p) → Q (.ref p) H') → te σ H Q
def EvAN (ta : TA) (ρ : List Sl) (ds : List Dat) (ρ' : List Sl) : Prop := ∀ (Z : Zs) (G H : Hp) (σ : L2.St), Ct K Z G H σ ρ → ∀ Q : List V → Hp → Prop, (∀ (vs : List V) (G' H' : Hp), Same G G' → Ct K Z G' H' σ ρ' → RpAll K (Nw Z.H0 G') vs ds → Q vs H') → ta σ H Q
def ExIN (C : Addr) (t : TS) (ρ : List Sl) (ns : List Str) (ds : List Dat) (ρ' : List Sl) (ns' : List Str) (ds' : List Dat) : Prop :=
  ∀ (Z : Zs) (G H : Hp) (σ : L2.St) (x dx : Addr) (fs : List (Str × V)), Ct K Z G H σ ρ → σ[0]? = some (some (.ref x)) → H x = some (.ins C dx fs) → G x = none → Z.H0 x = none → Z.Kp x = none → (∀ i, ¬ Hd σ ρ i x) → fs.map (·.1) = ns → RpAll K (Nw Z.H0 G) (fs.map (·.2)) ds →
    ∀ D : Ends, (∀ (σ' : L2.St) (G' H' : Hp) (fs' : List (Str × V)), Same G G' → Ct K Z G' H' σ' ρ' → σ'[0]? = some (some (.ref x)) → H' x = some (.ins C dx fs') → G' x = none → (∀ i, ¬ Hd σ' ρ' i x) → fs'.map (·.1) = ns' → RpAll K (Nw Z.H0 G') (fs'.map (·.2)) ds' → D.nx σ' H') → t D σ H
/-- a def's promise: what it hands back is new -/
def spN (R : List Dat → Dat → Prop) : Sp := fun vs H Q _ => ∃ (G : Hp) (as : List Dat) (d : Dat), R as d ∧ Same G H ∧ RpAll K G vs as ∧
  ∀ (v : V) (G' H' : Hp), Ct K ⟨G, H, [], fun _ => none⟩ G' H' (vs.map some) (List.replicate vs.length .no) → Rp K (Nw H G') v d → Q v H'
def spInitN (C : Addr) (R : List Dat → List Str → List Dat → Prop) : Sp := fun vs H Q _ => ∃ (G H0 : Hp) (x dx : Addr) (vs' : List V) (es : List Dat) (ns : List Str) (ds : List Dat), R es ns ds ∧ vs = .ref x :: vs' ∧ Same G H0 ∧ H0 x = none ∧ H0 dx = none ∧ dx ≠ x ∧
  H = upd (upd H0 dx (.own x)) x (.ins C dx []) ∧ RpAll K G vs' es ∧ ∀ (v : V) (G' H' : Hp), v = .non → Ct K ⟨G, H0, [], fun _ => none⟩ G' H' [] [] → Rp K (Nw H0 G') (.ref x) (.ins C ns ds) → Q v H'
end
section
variable {K : PySem.W.Frag} {C : Addr} {Z : Zs} {G G' H H' : Hp} {σ : L2.St} {ρ ρ' ρ1 ρ2 : List Sl} {te ta tb tv : TE} {tt : TT} {t u : TS} {tg : TA} {d : Dat} {ds ds1 ds2 es bs : List Dat} {ns ns1 ns2 : List Str} {f m : Str} {ag : List Ag}
theorem rp_atom {v : V} (h : Atom d = true) (r : Rp K G v d) : Rp K G' v d := by
  cases r <;> first | (constructor; done) | cases h
theorem rpAll_atoms : ∀ {vs : List V} {ds : List Dat}, ds.all Atom = true → RpAll K G vs ds → RpAll K G' vs ds
  | _, [], _, h => by cases h; exact .nil
  | _, d :: ds, a, h => by
    rw [List.all_cons, Bool.and_eq_true] at a
    cases h with | cons h1 h2 => exact .cons (rp_atom a.1 h1) (rpAll_atoms a.2 h2)
theorem EvN.to {d' : Dat} (h : EvN K te ρ d ρ') (e : d = d') : EvN K te ρ d' ρ' := e ▸ h
theorem evn_atom (h : Ev K te ρ d ρ') (a : Atom d = true) : EvN K te ρ d ρ' := fun Z G H σ c Q q => h Z G H σ c _ fun v G1 H1 s1 c1 r1 => q v G1 H1 s1 c1 (rp_atom a r1)
theorem ev_of_evn (h : EvN K te ρ d ρ') : Ev K te ρ d ρ' := fun Z G H σ c Q q => h Z G H σ c _ fun v G1 H1 s1 c1 r1 => q v G1 H1 s1 c1 (r1.to nw_sub)
theorem efn_atoms (h : EvF K te ρ ds ρ') (a : ds.all Atom = true) : EvFN K te ρ ds ρ' := fun Z G H σ c Q q => h Z G H σ c _ fun p xs G1 H1 s1 c1 g1 h1 r1 z no => q p xs G1 H1 s1 c1 g1 h1 (rpAll_atoms a r1) z no
theorem evn_of_fresh (h : EvFN K te ρ ds ρ') : EvN K te ρ (.lst ds) ρ' := fun Z G H σ c Q q => by
  refine h Z G H σ c _ fun p xs G1 H1 s1 c1 g1 h1 r1 z no => ?_
  obtain ⟨c2, s2⟩ := c1.adopt h1 z.1 z.2 no g1
  exact q _ _ _ (s1.trans s2) c2 (.lst (by rw [nw_none z.1]; exact upd_same) (r1.to (nw_same s2)))
theorem ean_nil : EvAN K tNil ρ [] ρ := fun _ G H _ c Q q => q [] G H (Same.refl G) c .nil
theorem ean_cons {t : TA} (ha : EvN K te ρ d ρ1) (hb : EvAN K t ρ1 ds ρ2) : EvAN K (tCons te t) ρ (d :: ds) ρ2 := fun Z G H σ c Q q => by
  refine ha Z G H σ c _ fun v G1 H1 s1 c1 r1 => ?_
  refine hb Z G1 H1 σ c1 _ fun vs G2 H2 s2 c2 r2 => ?_
  exact q _ G2 H2 (s1.trans s2) c2 (.cons (r1.to (nw_same s2)) r2)
theorem efn_lst {t : TA} (h : EvAN K t ρ ds ρ1) (hl : ds.length ≤ 100000) : EvFN K (tLst t) ρ ds ρ1 := fun Z G H σ c Q q => by
  refine h Z G H σ c _ fun vs G1 H1 s1 c1 r1 => ?_
  refine ⟨by rw [r1.length]; exact sz_ok hl, fun p hp => ?_⟩
  obtain ⟨a, b, z, no⟩ := fresh_of c1 (xs := vs) hp
  exact q p vs G1 _ s1 a b upd_same r1 z no
theorem efn_cat (ha : EvN K ta ρ (.lst ds) ρ1) (hb : EvN K tb ρ1 (.lst es) ρ2) (hl : ds.length + es.length ≤ 100000) : EvFN K (tOp rCat ta tb) ρ (ds ++ es) ρ2 := fun Z G H σ c Q q => by
  refine ha Z G H σ c _ fun x G1 H1 s1 c1 r1 => ?_
  refine hb Z G1 H1 σ c1 _ fun y G2 H2 s2 c2 r2 => ?_
  have r1 := r1.to (nw_same s2)
  cases r1 with
  | @lst p xs _ hp rx =>
    cases r2 with
    | @lst p' ys _ hp' ry =>
      refine ⟨p, p', xs, ys, rfl, rfl, c2.gh _ _ (nw_sub _ _ hp), c2.gh _ _ (nw_sub _ _ hp'), by rw [rx.length, ry.length]; exact sz_ok hl, fun n hn => ?_⟩
      obtain ⟨a, b, z, no⟩ := fresh_of c2 (xs := xs ++ ys) hn
      exact q n _ G2 _ (s1.trans s2) a b upd_same (rx.app ry) z no
theorem efn_lc {wi : TI} {x : Nat} (ρs : Nat → List Sl) (keep : Nat → Bool) (f : Nat → Dat) (h : Src K wi ρ ds (ρs 0)) (hx : ∀ i, (ρs i)[x]?.isSome = true) (hl : ds.length < 100000)
    (body : ∀ i d, ds[i]? = some d → ∃ ρa, EvT K tt ((wipeS (ρs i) [x]).set x (.dat d)) (keep i) ρa ∧ (keep i = true → ∃ ρb, EvN K te ρa (f i) ρb ∧ wipeS ρb [x] = wipeS (ρs (i + 1)) [x]) ∧ (keep i = false → wipeS ρa [x] = wipeS (ρs (i + 1)) [x])) :
    EvFN K (tLc wi (gName x) tt te [x]) ρ (lcOut keep f ds.length) (wipeS (ρs ds.length) [x]) := fun Z G H σ c Q q => by
  refine h Z G H σ c _ fun J G1 H1 s1 c1 wk D hD => ?_
  obtain ⟨c2, gD, ⟨z0, zk⟩, noD⟩ := fresh_of c1 (xs := []) hD
  refine ⟨fun i m H' => m = ds.length - i ∧ i ≤ ds.length ∧ ∃ G' acc, Same G1 G' ∧ Ct K Z G' H' (wipe σ [x]) (wipeS (ρs i) [x]) ∧ H' D = some (.lst acc) ∧ G' D = none ∧ RpAll K (Nw Z.H0 G') acc (lcOut keep f i) ∧ ∀ j, ¬ Hd (wipe σ [x]) (wipeS (ρs i) [x]) j D,
    ⟨ds.length, by simp, Nat.zero_le _, G1, [], Same.refl G1, c2.wipe [x], upd_same, gD, .nil, fun j a => noD j (hd_wipe a)⟩, ?_⟩
  rintro i m H' ⟨rfl, hi, G', acc, s', c', hacc, gD', rx, no'⟩
  by_cases hlt : i < ds.length
  · have ca := c'.aside hacc gD' no'
    obtain ⟨w1, w2⟩ := wk i G' H' _ _ _ s' ca
    obtain ⟨go, yl⟩ := w2 ds[i] (List.getElem?_eq_getElem hlt)
    refine .inr ⟨go, fun H'' => ∃ G'' acc', Same G1 G'' ∧ Ct K Z G'' H'' (wipe σ [x]) (wipeS (ρs (i + 1)) [x]) ∧ H'' D = some (.lst acc') ∧ G'' D = none ∧ RpAll K (Nw Z.H0 G'') acc' (lcOut keep f (i + 1)) ∧ ∀ j, ¬ Hd (wipe σ [x]) (wipeS (ρs (i + 1)) [x]) j D,
      fun H'' k => ⟨ds.length - (i + 1), by omega, rfl, hlt, k⟩, fun y H'' hy => ?_⟩
    obtain ⟨Gy, sy, cy, ry⟩ := yl y H'' hy
    have hx' : (wipeS (ρs i) [x])[x]?.isSome = true := isSome_set (hx i)
    have cb := cy.setD (i := x) hx' ry
    refine ⟨wipe_back, ?_⟩
    obtain ⟨ρa, ht, hy1, hy0⟩ := body i _ (List.getElem?_eq_getElem hlt)
    refine ht _ Gy _ _ cb _ fun G3 H3 s3 c3 => ?_
    cases hk : keep i with
    | false =>
      refine iteF ?_
      obtain ⟨c4, h4, g4, n4⟩ := c3.unaside zk
      have c5 := c4.wipe [x]
      rw [wipe_back, hy0 hk] at c5
      refine ⟨G3, acc, s'.trans (sy.trans s3), c5, h4, g4, ?_, fun j a => n4 j ?_⟩
      · rw [lcOut_succ, hk]
        rw [if_neg Bool.false_ne_true, List.append_nil]
        exact rx.to (nw_same (sy.trans s3))
      · rw [← wipe_back (σ := σ) (x := x) (y := y), ← hy0 hk] at a
        exact hd_wipe a
    | true =>
      refine iteT ?_
      obtain ⟨ρb, he, ew⟩ := hy1 hk
      refine he _ G3 H3 _ c3 _ fun w G4 H4 s4 c4 r4 => ?_
      obtain ⟨c5, h5, g5, n5⟩ := c4.unaside zk
      refine ⟨acc, h5, by
        rw [rx.length]
        exact Nat.lt_of_le_of_lt (lcOut_len keep f i) (Nat.lt_of_lt_of_le (Nat.lt_trans hlt hl) (by decide)), ?_⟩
      have c6 := (c5.asideSet (o' := .lst (acc ++ [w])) h5 g5 n5 z0 zk).wipe [x]
      rw [wipe_back, ew] at c6
      refine ⟨G4, acc ++ [w], s'.trans (sy.trans (s3.trans s4)), c6, upd_same, g5, ?_, fun j a => n5 j ?_⟩
      · rw [lcOut_succ, hk, if_pos rfl]
        exact (rx.to (nw_same (sy.trans (s3.trans s4)))).app (.cons r4 .nil)
      · rw [← wipe_back (σ := σ) (x := x) (y := y), ← ew] at a
        exact hd_wipe a
  · have e : i = ds.length := by omega
    subst e
    have ca := c'.aside hacc gD' no'
    obtain ⟨w1, _⟩ := wk _ G' H' _ _ _ s' ca
    exact .inl ⟨w1 rfl, q D acc G' H' (s1.trans s') c'.unwipe gD' hacc rx ⟨z0, zk⟩ fun j a => no' j (hd_unwipe a)⟩
theorem efn_lcMap {wi : TI} {x : Nat} (g : Dat → Dat) (h : Src K wi ρ ds ρ1) (hx : ρ1[x]?.isSome = true) (hl : ds.length < 100000)
    (body : ∀ d, d ∈ ds → EvN K te ((wipeS ρ1 [x]).set x (.dat d)) (g d) ((wipeS ρ1 [x]).set x (.dat d))) : EvFN K (tLc wi (gName x) tYes te [x]) ρ (ds.map g) (wipeS ρ1 [x]) := by
  have e := efn_lc (tt := tYes) (te := te) (x := x) (fun _ => ρ1) (fun _ => true) (fun i => g (ds.getD i .non)) h (fun _ => hx) hl (fun i d hd => ⟨_, et_yes, fun _ => ⟨_, (body d (List.mem_of_getElem? hd)).to (by rw [List.getD_eq_getElem?_getD, hd]; rfl), by
    show (((ρ1.set x .no).set x (.dat d)).set x .no) = ρ1.set x .no
    rw [List.set_set, List.set_set]⟩, fun q => by cases q⟩)
  rwa [lcOut_all _ g (fun i d hd => by rw [List.getD_eq_getElem?_getD, hd]; rfl)] at e
theorem exin_seq (h : ExIN K C t ρ ns ds ρ1 ns1 ds1) (k : ExIN K C u ρ1 ns1 ds1 ρ2 ns2 ds2) : ExIN K C (tSeq t u) ρ ns ds ρ2 ns2 ds2 := fun Z G H σ x dx fs c e0 hx gx z zk no hn hr D q => by
  refine h Z G H σ x dx fs c e0 hx gx z zk no hn hr { D with nx := u D } fun σ1 G1 H1 fs1 s1 c1 e1 hx1 gx1 no1 hn1 hr1 => ?_
  exact k Z G1 H1 σ1 x dx fs1 c1 e1 hx1 gx1 z zk no1 hn1 hr1 D fun σ2 G2 H2 fs2 s2 => q σ2 G2 H2 fs2 (s1.trans s2)
theorem exin_fld (hv : EvN K tv ρ d ρ1) (hc : Cls K C) (hn : NoAttr K C f) (hf : f ∉ ns) (hl : ns.length < 1000) : ExIN K C (sFld K (tVar 0) tv f) ρ ns ds ρ1 (ns ++ [f]) (ds ++ [d]) := fun Z G H σ x dx fs c e0 hx gx z zk no hn' hr D q => by
  have ca := c.aside hx gx no
  refine hv _ G H σ ca _ fun y G1 H1 s1 c1 r1 => ?_
  obtain ⟨c2, h2, g2, no2⟩ := c1.unaside zk
  refine ⟨.ref x, e0, x, C, dx, fs, rfl, h2, hc, hn, by rw [← hn'] at hl; simpa using hl, ?_⟩
  refine q σ G1 _ (fs ++ [(f, y)]) s1 (c2.asideSet h2 g2 no2 z zk) e0 ?_ g2 no2 ?_ ?_
  · rw [upd_same, putF_new (by rw [hn']; exact hf)]
  · rw [List.map_append, hn']
    rfl
  · rw [List.map_append]
    exact (hr.to (nw_same s1)).app (.cons r1 .nil)
theorem exin_no {t1 : TS} (h : EvT K tt ρ false ρ1) (k : ExIN K C u ρ1 ns ds ρ2 ns2 ds2) : ExIN K C (tSeq (tIfS tt t1 tNext) u) ρ ns ds ρ2 ns2 ds2 := fun Z G H σ x dx fs c e0 hx gx z zk no hn hr D q => by
  have ca := c.aside hx gx no
  refine h _ G H σ ca _ fun G1 H1 s1 c1 => ?_
  obtain ⟨c2, h2, g2, no2⟩ := c1.unaside zk
  refine iteF ?_
  exact k Z G1 H1 σ x dx fs c2 e0 h2 g2 z zk no2 hn (hr.to (nw_same s1)) D fun σ2 G2 H2 fs2 s2 => q σ2 G2 H2 fs2 (s1.trans s2)

theorem nw_at {B : Hp} {p : Addr} {o : HO} (h : B p = none) : Nw B (upd G p o) p = some o := by rw [nw_none h]; exact upd_same
theorem initN_len {R : List Dat → List Str → List Dat → Prop} {n : Nat} (h : ∀ es ns ds, R es ns ds → es.length = n) : ∀ vs H Q E, spInitN K C R vs H Q E → vs.length = n + 1 := by
  rintro vs H Q E ⟨G, H0, x, dx, vs', es, ns, ds, r, rfl, _, _, _, _, _, ra, _⟩
  rw [List.length_cons, ra.length, h _ _ _ r]
theorem initN_ok {R : List Dat → List Str → List Dat → Prop} {N : List Str} {vs : List V} {Q : VK} {E : XK} {n : Nat} (h : spInitN K C R vs H Q E) (hn : ∀ es ns ds, R es ns ds → es.length = n)
    (k : ∀ es ns ds, R es ns ds → ∃ ρ', ExIN K C t ([.no] ++ es.map Sl.dat ++ List.replicate (N.length - (n + 1)) .no) [] [] ρ' ns ds) : t { nx := fun _ H' => Q .non H', rt := Q } (start N vs) H := by
  obtain ⟨G, H0, x, dx, vs', es, ns, ds, r, rfl, gh, hx, hdx, ne, rfl, ra, q⟩ := h
  obtain ⟨ρ', ex⟩ := k es ns ds r
  have c2 := init_start (C := C) (N := N) gh hx hdx ne ra (hn _ _ _ r)
  have gx : G x = none := by
    cases e : G x with
    | none => rfl
    | some o => rw [gh _ _ e] at hx; cases hx
  have nohd : ∀ {i : Nat} {p : Addr}, ¬ Hd (L2.start N (.ref x :: vs')) ([.no] ++ es.map Sl.dat ++ List.replicate (N.length - (n + 1)) .no) i p := fun {i p} a => by
    obtain ⟨_, s, e, o⟩ := a
    have := List.mem_of_getElem? e
    rw [List.mem_append, List.mem_append, List.mem_singleton, List.mem_replicate, List.mem_map] at this
    rcases this with (rfl | ⟨d, _, rfl⟩) | ⟨_, rfl⟩ <;> cases o
  refine ex _ G _ _ x dx [] c2 (by rfl) upd_same gx hx rfl (fun i a => nohd a) rfl .nil _ fun σ' G' H' fs' s' c' e' hx' gx' no' hn' hr' => ?_
  obtain ⟨c3, s3⟩ := c'.adopt hx' hx rfl no' gx'
  exact q .non _ H' rfl c3.nil (.ins (nw_at hx) hn' (hr'.to (nw_same s3)))
theorem evn_make {R : List Dat → List Str → List Dat → Prop} {E : XK} (ha : EvA K tg ρ ag ρ1) (hd : agD ag = some es) (hR : R es ns ds) : EvN K (tMake C (spInitN K C R) [] E tg) ρ (.ins C ns ds) ρ1 := fun Z G H σ c Q q => by
  have ha := agD_map hd ▸ ha
  refine ha Z G H σ c _ fun vs G1 H1 s1 c1 r1 => ?_
  have r := rp_args r1
  intro x dx hx hdx ne
  rw [List.append_nil]
  refine ⟨G1, H1, x, dx, vs, es, ns, ds, hR, rfl, c1.gh, hx, hdx, ne, rfl, r, fun v G2 H2 ev c2 r2 => ⟨ev, ?_⟩⟩
  obtain ⟨s2, c3⟩ := c1.after0 (vs := []) c2
  exact q _ G2 H2 (s1.trans s2) c3 (r2.to (nw_base c1.ge))
theorem evn_meth {R : List Dat → Dat → Prop} {E : XK} (ha : Ev K ta ρ (.ins C ns ds) ρ1) (hb : EvA K tg ρ1 ag ρ2) (hd : agD ag = some es) (hm : m ∉ ns) (hR : R (.ins C ns ds :: es) d) : EvN K (tMeth C m (spN K R) [] E ta tg) ρ d ρ2 := fun Z G H σ c Q q => by
  have hb := agD_map hd ▸ hb
  refine ha Z G H σ c _ fun v G1 H1 s1 c1 r1 => ?_
  have r1' := r1
  cases r1 with
  | @ins a _ dx fs _ _ e n r =>
    refine ⟨a, dx, fs, rfl, c1.gh _ _ e, look_none (by rw [n]; exact hm), ?_⟩
    refine hb Z G1 H1 σ c1 _ fun vs G2 H2 s2 c2 r2 => ?_
    rw [List.append_nil]
    have ra : RpAll K G2 (.ref a :: vs) (.ins C ns ds :: es) := .cons (r1'.to s2) (rp_args r2)
    refine ⟨G2, _, d, hR, c2.gh, ra, fun v G3 H3 c3 r3 => ?_⟩
    obtain ⟨s3, c4⟩ := c2.after0 c3
    exact q v G3 H3 ((s1.trans s2).trans s3) c4 (r3.to (nw_base c2.ge))
theorem spN_len {R : List Dat → Dat → Prop} {n : Nat} (h : ∀ as d, R as d → as.length = n) : ∀ vs H Q E, spN K R vs H Q E → vs.length = n := by
  rintro vs H Q E ⟨G, as, d, r, _, ra, _⟩
  rw [ra.length, h _ _ r]
theorem bodyN_ok {R : List Dat → Dat → Prop} {N : List Str} {vs : List V} {Q : VK} {E : XK} {n : Nat} (h : spN K R vs H Q E) (hn : ∀ as d, R as d → as.length = n)
    (k : ∀ as d, R as d → ∃ ρ1, EvN K te (as.map Sl.dat ++ List.replicate (N.length - n) .no) d ρ1) : tRet te { nx := fun _ H' => Q .non H', rt := Q } (start N vs) H := by
  obtain ⟨G, as, d, r, gh, ra, q⟩ := h
  obtain ⟨ρ1, ev⟩ := k as d r
  have c := start_all gh ra
  have e : start N vs = vs.map some ++ List.replicate (N.length - n) none := by
    show vs.map some ++ List.replicate (N.length - vs.length) none = _
    rw [ra.length, hn _ _ r]
  exact ev _ G H _ (start_ct c e) _ fun v G' H' s c' rv => q v G' H' (c'.reslot (by rw [List.length_map])) rv
end
/-! ### step by step over the heap itself: for lists in lists that are changed -/
inductive SlAll (K : PySem.W.Frag) (G : Hp) : L2.St → List Sl → Prop
  | nil : SlAll K G [] []
  | no {o : Option V} {σ : L2.St} {ρ : List Sl} : SlAll K G σ ρ → SlAll K G (o :: σ) (.no :: ρ)
  | dat {v : V} {d : Dat} {σ : L2.St} {ρ : List Sl} : Rp K G v d → SlAll K G σ ρ → SlAll K G (some v :: σ) (.dat d :: ρ)
section
variable {K : PySem.W.Frag} {Z : Zs} {G G' H H' X : Hp} {σ σ' : L2.St} {ρ ρ' : List Sl} {te ta : TE} {tt : TT} {t u : TS} {d : Dat} {D : Ends} {i : Nat} {p a : Addr} {v : V} {b : Bool} {o : Out}
theorem SlAll.len (h : SlAll K G σ ρ) : σ.length = ρ.length := by
  induction h with
  | nil => rfl
  | no _ ih => exact congrArg (· + 1) ih
  | dat _ _ ih => exact congrArg (· + 1) ih
theorem SlAll.get (h : SlAll K G σ ρ) : ∀ (i : Nat) (s : Sl), ρ[i]? = some s → s.isNo = false → ∃ v d, s = .dat d ∧ σ[i]? = some (some v) ∧ Rp K G v d := by
  induction h with
  | nil => intro i s e; simp at e
  | no _ ih =>
    intro i s e n
    cases i with
    | zero =>
      have e : some Sl.no = some s := e
      cases e
      cases n
    | succ i => exact ih i s e n
  | @dat v d σ ρ r _ ih =>
    intro i s e n
    cases i with
    | zero =>
      have e : some (Sl.dat d) = some s := e
      cases e
      exact ⟨v, d, rfl, rfl, r⟩
    | succ i => exact ih i s e n
theorem ct_here (gh : Same G H) (h : SlAll K G σ ρ) : Ct K ⟨G, H, [], fun _ => none⟩ G H σ ρ := by
  have nohd : ∀ {i : Nat} {p : Addr}, ¬ Hd σ ρ i p := fun {i p} a => by
    obtain ⟨_, s, e, o⟩ := a
    obtain ⟨_, _, rfl, _⟩ := h.get i s e (Sl.own_not_no o)
    cases o
  exact ⟨h.len, Same.refl G, gh, fun _ _ e _ => e, fun _ n => n, fun _ _ n => n, fun i s e n => by
    obtain ⟨v, d, rfl, e2, r⟩ := h.get i s e n
    exact ⟨v, e2, r⟩, fun i j p a => (nohd a).elim, fun _ _ e => (by cases e), fun _ n => absurd rfl n, fun _ _ _ => rfl⟩
theorem Ct.fin (c : Ct K Z G H σ ρ) (s : Same H H') {n : Nat} (hσ : σ'.length = n) : Ct K Z G H' σ' (List.replicate n .no) := by
  have k : ∀ {i : Nat} {s : Sl}, (List.replicate n Sl.no)[i]? = some s → s = .no := fun {i s} e => by
    have := List.mem_of_getElem? e
    rw [List.mem_replicate] at this
    exact this.2
  have kh : ∀ {i : Nat} {p : Addr}, ¬ Hd σ' (List.replicate n Sl.no) i p := fun {i p} a => by
    obtain ⟨_, s, e, o⟩ := a
    rw [k e] at o
    cases o
  refine ⟨by rw [hσ, List.length_replicate], c.gg, fun b o e => s b o (c.gh b o e), fun b o e n => s b o (c.hh b o e n), fun b n => ?_, c.fr, fun i s e m => (by rw [k e] at m; cases m), fun i j p a => (kh a).elim, fun b o e => s b o (c.kp b o e), c.kg, fun i p a => (kh a).elim⟩
  have := c.ge b n
  cases q : H b with
  | none => exact absurd q this
  | some o =>
    rw [s b o q]
    intro z
    cases z
theorem raw_setN (h : EvN K te ρ d ρ') (sl : SlAll K H σ ρ) (k : ∀ (v : V) (X H' : Hp), Same H H' → Same X H' → (∀ b o, X b = some o → H b = none) → Rp K X v d → u D (σ.set i (some v)) H') : tSeq (tAsg te (gName i)) u D σ H :=
  h _ H H σ (ct_here (Same.refl H) sl) _ fun v G1 H1 _ c1 r1 => k v _ H1 (fun b o e => c1.hh b o e (by simp)) (nw_sub.trans c1.gh) (fun b o e => (nw_some e).1) r1
theorem raw_set (h : Ev K te ρ d ρ') (sl : SlAll K H σ ρ) (k : ∀ (v : V) (H' : Hp), Same H H' → Rp K H' v d → u D (σ.set i (some v)) H') : tSeq (tAsg te (gName i)) u D σ H :=
  h _ H H σ (ct_here (Same.refl H) sl) _ fun v G1 H1 _ c1 r1 => k v H1 (fun b o e => c1.hh b o e (by simp)) (r1.to c1.gh)
theorem raw_ifF (h : EvT K tt ρ false ρ') (sl : SlAll K H σ ρ) (k : ∀ (H' : Hp), Same H H' → u D σ H') : tSeq (tIfS tt t tNext) u D σ H :=
  h _ H H σ (ct_here (Same.refl H) sl) _ fun G1 H1 _ c1 => iteF (k H1 (fun b o e => c1.hh b o e (by simp)))
/-- the expression is the object at p, and nothing happens -/
def At (te : TE) (σ : L2.St) (H : Hp) (p : Addr) : Prop := ∀ Q : VK, Q (.ref p) H → te σ H Q
theorem at_var (e : σ[i]? = some (some (.ref p))) : At (tVar i) σ H p := fun Q q => ⟨_, e, q⟩
theorem at_ix {ps : List V} {j : Int} (h : At te σ H a) (ha : H a = some (.lst ps)) (hj : L2.atI ps j = some (.ref p)) : At (tOp (rIxL K) te (tC (.int j))) σ H p := fun Q q => h _ ⟨a, ps, j, _, rfl, rfl, .inl (.inl ha), hj, q⟩
theorem raw_app1 {xs : List V} (h : At te σ H p) (hp : H p = some (.lst xs)) (hl : xs.length ≤ 100000) (q : D.nx σ (upd H p (.lst (xs ++ [v])))) : tDrop (tBM K "list" rAppend te (tCons (tC v) tNil)) D σ H :=
  h _ ⟨.inl ⟨rfl, xs, .inl (.inl hp)⟩, p, xs, v, rfl, rfl, hp, Nat.lt_of_le_of_lt hl (by decide), q⟩
theorem raw_app {xs : List V} (h : At te σ H p) (hp : H p = some (.lst xs)) (hl : xs.length ≤ 100000) (q : u D σ (upd H p (.lst (xs ++ [v])))) : tSeq (tDrop (tBM K "list" rAppend te (tCons (tC v) tNil))) u D σ H :=
  h _ ⟨.inl ⟨rfl, xs, .inl (.inl hp)⟩, p, xs, v, rfl, rfl, hp, Nat.lt_of_le_of_lt hl (by decide), q⟩
theorem raw_pop {xs : List V} (h : At te σ H p) (hp : H p = some (.lst xs)) (hl : 0 < xs.length) (q : u D σ (upd H p (.lst xs.dropLast))) : tSeq (tDrop (tBM0 K "list" rPop te)) u D σ H :=
  h _ ⟨.inl ⟨rfl, xs, .inl (.inl hp)⟩, p, xs, xs[xs.length - 1], rfl, rfl, hp, List.getElem?_eq_getElem (by omega), q⟩
theorem raw_ixset {xs : List V} {k : Int} {m : Nat} (h : At te σ H p) (hp : H p = some (.lst xs)) (hk : ixN xs.length k = some m) (q : u D σ (upd H p (.lst (xs.set m v)))) : tSeq (tAsg (tC v) (gSub te (tC (.int k)) rSetL)) u D σ H :=
  h _ ⟨p, xs, k, m, rfl, rfl, hp, hk, q⟩
theorem same_upd {o : HO} (s : Same H H') (n : H p = none) : Same H (upd H' p o) := fun b u e => by
  rw [upd_ne (show b ≠ p from fun q => by rw [q, n] at e; cases e)]
  exact s b u e
theorem raw_ex (h : Ex K t ρ (.rt d ρ')) (sl : SlAll K H σ ρ) (k : ∀ (σ' : L2.St) (v : V) (H' : Hp), Same H H' → σ'.length = ρ'.length → Rp K H' v d → D.rt v H') : t D σ H :=
  h _ H H σ (ct_here (Same.refl H) sl) D fun σ' v G1 H1 _ c1 r1 => k σ' v H1 (fun b o e => c1.hh b o e (by simp)) c1.len (r1.to c1.gh)
/-- for x in (a list of lists): x.append(v) -/
theorem raw_forApp {x : Nat} {ps : List V} {N : Nat} (e : σ[i]? = some (some (.ref a))) (hix : i ≠ x) (hx : x < σ.length) (ha : H a = some (.lst ps)) (hps : ∀ y ∈ ps, ∃ r ys, y = .ref r ∧ r ≠ a ∧ H r = some (.lst ys) ∧ ys.length ≤ N) (hl : N + ps.length ≤ 100000)
    (k : ∀ (σ' : L2.St) (H' : Hp), (∀ j, j ≠ x → σ'[j]? = σ[j]?) → σ'.length = σ.length → (∀ b, (∀ y ∈ ps, y ≠ .ref b) → H' b = H b) → H' a = some (.lst ps) → (∀ r ys, .ref r ∈ ps → H r = some (.lst ys) → ∃ n, n ≤ ps.length ∧ H' r = some (.lst (ys ++ List.replicate n v))) → u D σ' H') :
    tSeq (tFor (iList K (tVar i)) (gName x) (tDrop (tBM K "list" rAppend (tVar x) (tCons (tC v) tNil)))) u D σ H := by
  refine ⟨.ref a, e, a, rfl, ⟨ps, .inl (.inl ha)⟩, fun n m σ' H' => m = ps.length - n ∧ n ≤ ps.length ∧ (∀ j, j ≠ x → σ'[j]? = σ[j]?) ∧ σ'.length = σ.length ∧ (∀ b, (∀ y ∈ ps, y ≠ .ref b) → H' b = H b) ∧ H' a = some (.lst ps) ∧ ∀ r ys, .ref r ∈ ps → H r = some (.lst ys) → ∃ l, l ≤ n ∧ H' r = some (.lst (ys ++ List.replicate l v)),
    ⟨ps.length, by simp, Nat.zero_le _, fun _ _ => rfl, rfl, fun _ _ => rfl, ha, fun r ys _ h => ⟨0, Nat.le_refl _, by rw [h]; simp⟩⟩, ?_⟩
  rintro n m σ1 H1 ⟨rfl, hn, h1, h2, h3, h4, h5⟩
  by_cases hlt : n < ps.length
  · refine .inr ⟨⟨ps, ps[n], .inl (.inl h4), List.getElem?_eq_getElem hlt⟩, fun σ' H' => (∀ j, j ≠ x → σ'[j]? = σ[j]?) ∧ σ'.length = σ.length ∧ (∀ b, (∀ y ∈ ps, y ≠ .ref b) → H' b = H b) ∧ H' a = some (.lst ps) ∧ ∀ r ys, .ref r ∈ ps → H r = some (.lst ys) → ∃ l, l ≤ n + 1 ∧ H' r = some (.lst (ys ++ List.replicate l v)),
      fun σ' H' kk => ⟨ps.length - (n + 1), by omega, rfl, hlt, kk⟩, ?_⟩
    rintro y H2 ⟨rfl, hy⟩
    have ey := hy ps (.inl (.inl h4))
    rw [List.getElem?_eq_getElem hlt] at ey
    obtain rfl := Option.some.inj ey
    have hmem : ps[n] ∈ ps := List.getElem_mem hlt
    obtain ⟨r, ys, er, ra, hr, hlen⟩ := hps _ hmem
    obtain ⟨l, hl2, hr2⟩ := h5 r ys (er ▸ hmem) hr
    have hre : V.ref r ∈ ps := er ▸ hmem
    show tDrop (tBM K "list" rAppend (tVar x) (tCons (tC v) tNil)) _ (σ1.set x (some ps[n])) H2
    rw [er]
    have hat : At (tVar x) (σ1.set x (some (.ref r))) H2 r := at_var (List.getElem?_set_self (by rw [h2]; exact hx))
    refine raw_app1 hat hr2 ?_ ?_
    · rw [List.length_append, List.length_replicate]
      omega
    · refine ⟨fun j hj => by rw [List.getElem?_set_ne (Ne.symm hj)]; exact h1 j hj, by rw [List.length_set]; exact h2, fun b hb => ?_, ?_, fun r2 ys2 hm2 hr3 => ?_⟩
      · rw [upd_ne (show b ≠ r from fun q => hb _ hre (by rw [q]))]
        exact h3 b hb
      · rw [upd_ne ra.symm]
        exact h4
      · by_cases q : r2 = r
        · subst q
          rw [hr] at hr3
          cases hr3
          exact ⟨l + 1, by omega, by rw [upd_same, List.append_assoc, List.replicate_succ']⟩
        · obtain ⟨l2, a1, a2⟩ := h5 r2 ys2 hm2 hr3
          exact ⟨l2, by omega, by rw [upd_ne q]; exact a2⟩
  · exact .inl ⟨⟨ps, .inl (.inl h4), by omega⟩, k σ1 H1 h1 h2 h3 h4 fun r ys hm hr => by
      obtain ⟨l, h6, h7⟩ := h5 r ys hm hr
      exact ⟨l, by omega, h7⟩⟩
end
/-! ### more: a star in a display, zip, two names in a comprehension, a def that refuses within a try -/
section
variable {K : PySem.W.Frag} {C CB : Addr} {Z : Zs} {G G' H H' : Hp} {σ : L2.St} {ρ ρ' ρ1 ρ2 : List Sl} {te ta tb tv : TE} {tt : TT} {t u : TS} {tg : TA} {d : Dat} {ds es : List Dat} {ag as : List Ag}
theorem paired_app {G : Hp} : ∀ {xs : List V} {ds : List Dat} {ys : List V} {as : List Ag}, RpAll K G xs ds → Paired (AgAt K G σ) ys as → Paired (AgAt K G σ) (xs ++ ys) (ds.map Ag.d ++ as)
  | _, [], _, _, h, k => by cases h; exact k
  | _, d :: ds, _, _, h, k => by cases h with | cons a b => exact .cons a (paired_app b k)
theorem ea_star {a : Ag} (ha : EvL K te ρ a ρ1) (l : look ρ1 a = some ds) (hb : EvA K tg ρ1 as ρ2) : EvA K (StX.tStar K te tg) ρ (ds.map Ag.d ++ as) ρ2 := fun Z G H σ c Q q => by
  refine ha Z G H σ c _ fun x G1 H1 s1 c1 r1 => ?_
  obtain ⟨p, xs, rfl, hs, rx⟩ := c1.read r1 l
  refine ⟨p, xs, rfl, .inr hs, ?_⟩
  refine hb Z G1 H1 σ c1 _ fun ys G2 H2 s2 c2 r2 => ?_
  exact q _ G2 H2 (s1.trans s2) c2 (paired_app (rx.to s2) r2)
/-- isinstance(o, C), o an instance of C -/
theorem ev_isC {ns : List Str} (ha : Ev K ta ρ (.ins C ns ds) ρ1) (hc : Cls K C) (h1 : PySem.W.findIn K (.ref C) "__class__" = some (some (.builtin "object.__class__"))) (h2 : PySem.W.specialIn K (.builtin "object.__class__") "__get__" = some (some (.builtin "getset_descriptor.__get__")))
    (h3 : PySem.W.takesIn K (.builtin "object.__class__") = some true) (h4 : PySem.W.mroIn K C (.type "object") = some true) : Ev K (tCB (rIsi K) (tCons ta (tCons (tC (.ref C)) tNil))) ρ (.bl true) ρ1 := fun Z G H σ c Q q => by
  refine ha Z G H σ c _ fun v G1 H1 s1 c1 r1 => ?_
  cases r1 with
  | ins e n r =>
    refine ⟨_, .ref C, .ref C, .ref C, true, rfl, .own C, .base (.ins (c1.gh _ _ e) hc h1 h2 h3 h4), ?_, q _ _ _ s1 c1 (.bl true)⟩
    unfold PySem.W.kitOne
    rw [if_pos (by simp)]
def zipD (ds es : List Dat) : List Dat := List.zipWith (fun a b => .tup [a, b]) ds es
theorem src_zip (ha : Ev K ta ρ d ρ1) (hb : Ev K tb ρ1 d2 ρ2) (la : d.items = some ds) (lb : d2.items = some es) : Src K (iZip K (tCons ta (tCons tb tNil))) ρ (zipD ds es) ρ2 := fun Z G H σ c R q => by
  refine ha Z G H σ c _ fun v G1 H1 s1 c1 r1 => ?_
  refine hb Z G1 H1 σ c1 _ fun v2 G2 H2 s2 c2 r2 => ?_
  have r1 := r1.to s2
  obtain ⟨p, xs, rfl, hs, rx⟩ := c2.read (a := .d d) r1 la
  obtain ⟨p2, ys, rfl, hs2, ry⟩ := c2.read (a := .d d2) r2 lb
  refine ⟨p, p2, xs, ys, rfl, hs, hs2, q _ G2 H2 (s1.trans s2) c2 fun i Gx Hx σx ρx Zx s cx => ?_⟩
  obtain ⟨p', xs', e', hs', rx'⟩ := cx.read (a := .d d) (r1.to s) la
  obtain ⟨p2', ys', e2', hs2', ry'⟩ := cx.read (a := .d d2) (r2.to s) lb
  cases e'
  cases e2'
  refine ⟨fun e => ⟨xs', ys', hs', hs2', ?_⟩, fun d' hd => ?_⟩
  · rw [rx'.length, ry'.length]
    have e : i = min ds.length es.length := by rw [e]; exact List.length_zipWith
    omega
  · rw [zipD, List.getElem?_zipWith] at hd
    cases q1 : ds[i]? with
    | none => rw [q1] at hd; cases hd
    | some d1 =>
      cases q2 : es[i]? with
      | none => rw [q1, q2] at hd; cases hd
      | some e1 =>
        rw [q1, q2] at hd
        cases hd
        obtain ⟨x, hx, rd⟩ := rx'.get q1
        obtain ⟨y, hy, re⟩ := ry'.get q2
        refine ⟨⟨xs', ys', x, y, hs', hs2', hx, hy⟩, fun v Hy hv => ?_⟩
        obtain ⟨T, x2, y2, rfl, hT, rfl, h1, h2⟩ := hv
        have ex : x2 = x := Option.some.inj ((h1 xs' hs').symm.trans hx)
        have ey : y2 = y := Option.some.inj ((h2 ys' hs2').symm.trans hy)
        subst ex
        subst ey
        obtain ⟨c3, s3⟩ := cx.grown (o := .tup [x2, y2]) hT
        exact ⟨_, s3, c3, .tup upd_same (.cons (rd.to s3) (.cons (re.to s3) .nil))⟩
theorem wipe_back2 {x y : Nat} {a b : V} (h : x ≠ y) : L2.wipe (((L2.wipe σ [x, y]).set x (some a)).set y (some b)) [x, y] = L2.wipe σ [x, y] := by
  show ((((((σ.set y none).set x none).set x (some a)).set y (some b)).set y none).set x none) = (σ.set y none).set x none
  rw [List.set_set, List.set_set, List.set_comm _ _ h, List.set_set, List.set_set]
theorem wipeS_back2 {x y : Nat} {a b : Sl} (h : x ≠ y) : wipeS (((wipeS ρ [x, y]).set x a).set y b) [x, y] = wipeS ρ [x, y] := by
  show ((((((ρ.set y .no).set x .no).set x a).set y b).set y .no).set x .no) = (ρ.set y .no).set x .no
  rw [List.set_set, List.set_set, List.set_comm _ _ h, List.set_set, List.set_set]
/-- [e for x, y in ..] -/
theorem ef_lcMap2 {wi : TI} {x y : Nat} {pairs : List (Dat × Dat)} (g : Dat → Dat → Dat) (hxy : x ≠ y) (h : Src K wi ρ (pairs.map fun p => .tup [p.1, p.2]) ρ1) (hx : x < ρ1.length) (hy : y < ρ1.length) (hl : pairs.length < 100000)
    (body : ∀ p ∈ pairs, Ev K te (((wipeS ρ1 [x, y]).set x (.dat p.1)).set y (.dat p.2)) (g p.1 p.2) (((wipeS ρ1 [x, y]).set x (.dat p.1)).set y (.dat p.2))) :
    EvF K (tLc wi (gTup K 2 (gCons (gName x) (gCons (gName y) gNil))) tYes te [x, y]) ρ (pairs.map fun p => g p.1 p.2) (wipeS ρ1 [x, y]) := fun Z G H σ c Q q => by
  refine h Z G H σ c _ fun J G1 H1 s1 c1 wk D hD => ?_
  obtain ⟨c2, gD, ⟨z0, zk⟩, noD⟩ := fresh_of c1 (xs := []) hD
  have lw : (wipeS ρ1 [x, y]).length = ρ1.length := wipeS_len _ _
  refine ⟨fun i m H' => m = pairs.length - i ∧ i ≤ pairs.length ∧ ∃ G' acc, Same G1 G' ∧ Ct K Z G' H' (wipe σ [x, y]) (wipeS ρ1 [x, y]) ∧ H' D = some (.lst acc) ∧ G' D = none ∧ RpAll K G' acc ((pairs.take i).map fun p => g p.1 p.2) ∧ ∀ j, ¬ Hd (wipe σ [x, y]) (wipeS ρ1 [x, y]) j D,
    ⟨pairs.length, by simp, Nat.zero_le _, G1, [], Same.refl G1, c2.wipe [x, y], upd_same, gD, .nil, fun j a => noD j (hd_wipe a)⟩, ?_⟩
  rintro i m H' ⟨rfl, hi, G', acc, s', c', hacc, gD', rx, no'⟩
  by_cases hlt : i < pairs.length
  · have ca := c'.aside hacc gD' no'
    obtain ⟨w1, w2⟩ := wk i G' H' _ _ _ s' ca
    obtain ⟨go, yl⟩ := w2 (.tup [pairs[i].1, pairs[i].2]) (by rw [List.getElem?_map, List.getElem?_eq_getElem hlt]; rfl)
    refine .inr ⟨go, fun H'' => ∃ G'' acc', Same G1 G'' ∧ Ct K Z G'' H'' (wipe σ [x, y]) (wipeS ρ1 [x, y]) ∧ H'' D = some (.lst acc') ∧ G'' D = none ∧ RpAll K G'' acc' ((pairs.take (i + 1)).map fun p => g p.1 p.2) ∧ ∀ j, ¬ Hd (wipe σ [x, y]) (wipeS ρ1 [x, y]) j D,
      fun H'' k => ⟨pairs.length - (i + 1), by omega, rfl, hlt, k⟩, fun v H'' hy2 => ?_⟩
    obtain ⟨Gy, sy, cy, ry⟩ := yl v H'' hy2
    obtain ⟨a, xs, rfl, hs, hl2, r⟩ := rp_tup cy.gh ry
    cases r with
    | @cons v1 _ _ _ ra r =>
    cases r with
    | @cons v2 _ _ _ rb r =>
    cases r
    have cb := (cy.setD (i := x) (by rw [List.getElem?_eq_getElem (by rw [lw]; exact hx)]; rfl) ra).setD (i := y) (by rw [List.getElem?_eq_getElem (by rw [List.length_set, lw]; exact hy)]; rfl) rb
    refine ⟨a, _, rfl, hs, hl2, _, _, rfl, _, _, rfl, rfl, wipe_back2 hxy, ?_⟩
    refine et_yes _ Gy _ _ cb _ fun G3 H3 s3 c3 => ?_
    refine iteT ?_
    refine body _ (List.getElem_mem hlt) _ G3 _ _ c3 _ fun w G4 H4 s4 c4 r4 => ?_
    obtain ⟨c5, h5, g5, n5⟩ := c4.unaside zk
    refine ⟨acc, h5, ?_, ?_⟩
    · rw [rx.length, List.length_map, List.length_take]
      exact Nat.lt_of_le_of_lt (Nat.min_le_right _ _) (Nat.lt_of_lt_of_le hl (by decide))
    · have c6 := (c5.asideSet (o' := .lst (acc ++ [w])) h5 g5 n5 z0 zk).wipe [x, y]
      rw [wipe_back2 hxy, wipeS_back2 hxy] at c6
      refine ⟨G4, acc ++ [w], s'.trans (sy.trans (s3.trans s4)), c6, upd_same, g5, ?_, fun j a => n5 j ?_⟩
      · rw [List.take_add_one, List.getElem?_eq_getElem hlt, List.map_append]
        exact (rx.to (sy.trans (s3.trans s4))).app (.cons r4 .nil)
      · rw [← wipe_back2 (σ := σ) (x := x) (y := y) (a := v1) (b := v2) hxy, ← wipeS_back2 (ρ := ρ1) (x := x) (y := y) (a := .dat pairs[i].1) (b := .dat pairs[i].2) hxy] at a
        exact hd_wipe a
  · have e : i = pairs.length := by omega
    subst e
    have ca := c'.aside hacc gD' no'
    obtain ⟨w1, _⟩ := wk _ G' H' _ _ _ s' ca
    rw [List.take_length] at rx
    exact .inl ⟨w1 (by rw [List.length_map]), q D acc G' H' (s1.trans s') c'.unwipe gD' hacc rx ⟨z0, zk⟩ fun j a => no' j (hd_unwipe a)⟩
/-- try: f(..) except X as e: suite, where f refuses -/
theorem ex_tryCall {R : List Sl → Prop} {cv : Value} {i : Nat} {ts : Addr → Value → Option Addr → TS} {Wout : WX} (ha : EvA K tg ρ ag ρ1) (hd : agD ag = some es) (hR : R (es.map Sl.dat)) (hm : PySem.W.exmOne K (.ref CB) cv = some true) (hi : ρ1[i]?.isSome = true)
    (suite : ∀ a, Ex K (ts a (.ref CB) none) (ρ1.set i (.dat (.cls a))) (.rt d ρ2)) :
    Ex K (fun D σ H => tDrop (tCallS (spX K CB R) (fun σ cls dd H => wAs K cv i ts Wout D cls dd σ H) tg) D σ H) ρ (.rt d ρ2) := fun Z G H σ c D q => by
  have ha := agD_map hd ▸ ha
  refine ha Z G H σ c _ fun vs G1 H1 s1 c1 r1 => ?_
  have r := rp_args r1
  refine ⟨G1, [], _, hR, start_all c1.gh r, fun G2 H2 c2 => ?_⟩
  obtain ⟨s2, c3⟩ := c1.after0 c2
  refine ⟨true, hm, fun _ a _ => ?_, fun h => by cases h⟩
  exact suite a Z G2 H2 _ (c3.setD hi (.cls a)) _ fun σ2 v G3 H3 s3 c5 r5 => q σ2 v G3 H3 ((s1.trans s2).trans s3) c5 r5
end
theorem kStar {X : Cx} (K : PySem.W.Frag) {es : List Expr} {te : TE} {t : TA} (p : PA X es (StX.tStar X.K te t)) (h : X.K = K := by rfl) : PA X es (StX.tStar K te t) := h ▸ p
/-! ### defs that refuse, defs whose answer is new -/
section
variable {K : PySem.W.Frag} {C CB : Addr} {Z : Zs} {G G' H H' : Hp} {σ : L2.St} {ρ ρ' ρ1 ρ2 : List Sl} {te ta tb tv : TE} {tt : TT} {t t1 u : TS} {tg : TA} {d : Dat} {ds es : List Dat}
theorem spX_len {R : List Sl → Prop} {n : Nat} (h : ∀ as, R as → as.length = n) : ∀ vs H Q E, spX K CB R vs H Q E → vs.length = n := by
  rintro vs H Q E ⟨G, O, as, r, c, _⟩
  have := c.len
  rw [List.length_map] at this
  rw [this, h _ r]
theorem bodyX_ok {R : List Sl → Prop} {N : List Str} {vs : List V} {Q : VK} {E : XK} {n : Nat} (h : spX K CB R vs H Q E) (hn : ∀ as, R as → as.length = n)
    (k : ∀ as, R as → ExR K CB E t (as ++ List.replicate (N.length - n) .no)) : t { nx := fun _ H' => Q .non H', rt := Q } (start N vs) H := by
  obtain ⟨G, O, as, r, c, q⟩ := h
  have l := c.len
  rw [List.length_map] at l
  have e : start N vs = vs.map some ++ List.replicate (N.length - n) none := by
    show vs.map some ++ List.replicate (N.length - vs.length) none = _
    rw [l, hn _ r]
  refine k as r _ G H _ (start_ct c e) _ fun σ' G' H' s c' => q G' H' ?_
  have := c'.reslot (σ' := vs.map some) (n := as.length) (by rw [List.length_map, l])
  rw [List.map_const']
  exact this
theorem evn_tup {t : TA} (h : EvAN K t ρ ds ρ1) (hl : ds.length ≤ 100000) : EvN K (tTup t) ρ (.tup ds) ρ1 := fun Z G H σ c Q q => by
  refine h Z G H σ c _ fun vs G1 H1 s1 c1 r1 => ?_
  refine ⟨by rw [r1.length]; exact sz_ok hl, fun p hp => ?_⟩
  obtain ⟨c2, s2⟩ := c1.grown (o := .tup vs) hp
  exact q _ _ _ (s1.trans s2) c2 (.tup (nw_at (c1.fresh0 hp)) (r1.to (nw_same s2)))
def ExN (K : PySem.W.Frag) (t : TS) (ρ : List Sl) (d : Dat) : Prop := ∀ (Z : Zs) (G H : Hp) (σ : L2.St), Ct K Z G H σ ρ → ∀ D : Ends, (∀ (σ' : L2.St) (ρ' : List Sl) (v : V) (G' H' : Hp), Same G G' → Ct K Z G' H' σ' ρ' → Rp K (Nw Z.H0 G') v d → D.rt v H') → t D σ H
theorem exn_ret (h : EvN K te ρ d ρ1) : ExN K (tRet te) ρ d := fun Z G H σ c D q => h Z G H σ c _ fun v G1 H1 s1 c1 r1 => q σ ρ1 v G1 H1 s1 c1 r1
theorem exn_no (h : EvT K tt ρ false ρ1) (k : ExN K u ρ1 d) : ExN K (tSeq (tIfS tt t1 tNext) u) ρ d := fun Z G H σ c D q => by
  refine h Z G H σ c _ fun G1 H1 s1 c1 => ?_
  refine iteF ?_
  exact k Z G1 H1 σ c1 D fun σ' ρ' v G2 H2 s2 => q σ' ρ' v G2 H2 (s1.trans s2)
theorem bodyN2_ok {R : List Dat → Dat → Prop} {N : List Str} {vs : List V} {Q : VK} {E : XK} {n : Nat} (h : spN K R vs H Q E) (hn : ∀ as d, R as d → as.length = n)
    (k : ∀ as d, R as d → ExN K t (as.map Sl.dat ++ List.replicate (N.length - n) .no) d) : t { nx := fun _ H' => Q .non H', rt := Q } (start N vs) H := by
  obtain ⟨G, as, d, r, gh, ra, q⟩ := h
  have c := start_all gh ra
  have e : start N vs = vs.map some ++ List.replicate (N.length - n) none := by
    show vs.map some ++ List.replicate (N.length - vs.length) none = _
    rw [ra.length, hn _ _ r]
  exact k as d r _ G H _ (start_ct c e) _ fun σ' ρ' v G' H' s c' rv => q v G' H' (c'.reslot (by rw [List.length_map])) rv
theorem evn_call {R : List Dat → Dat → Prop} {E : XK} {ag : List Ag} (hb : EvA K tg ρ ag ρ1) (hd : agD ag = some es) (hR : R es d) : EvN K (tCall (spN K R) [] E tg) ρ d ρ1 := fun Z G H σ c Q q => by
  have hb := agD_map hd ▸ hb
  refine hb Z G H σ c _ fun vs G2 H2 s2 c2 r2 => ?_
  rw [List.append_nil]
  refine ⟨G2, _, d, hR, c2.gh, rp_args r2, fun v G3 H3 c3 r3 => ?_⟩
  obtain ⟨s3, c4⟩ := c2.after0 c3
  exact q v G3 H3 (s2.trans s3) c4 (r3.to (nw_base c2.ge))
end
/-! ### index, index from a place on, count -/
section
variable {X : Cx}
def rIndexF (K : PySem.W.Frag) : V → List V → Hp → VK → Prop := fun x xs H Q => ∃ (a : Addr) (ys : List V) (y : V) (lo j : Nat) (z : V), x = V.ref a ∧ xs = [y, .int lo] ∧ SqL K H a ys ∧ flatV y = true ∧ ys.all flatV = true ∧ lo ≤ j ∧ ys[j]? = some z ∧ eqV z y = true ∧
  (∀ (m : Nat) (z' : V), lo ≤ m → m < j → ys[m]? = some z' → eqV z' y = false) ∧ Q (.int (j : Nat)) H
theorem mt_indexF : MtR X "list.index" (rIndexF X.K) := by
  intro pins s σ H x xs v us Q I rx rxs h
  obtain ⟨a, ys, y, lo, j, z, rfl, rfl, hs, fy, fys, hlo, hz, hzj, hno, q⟩ := h
  cases rx
  cases rxs with
  | cons ry rt =>
    rename_i uy ut
    cases rt with
    | cons rl rt =>
      rename_i ul ut
      cases rt
      obtain ⟨tl, rfl⟩ := rl
      obtain ⟨its, rv, ⟨⟨cls, dd, data, sl⟩, n, ho, hc, hdn, hd⟩, hlen⟩ := I.list hs
      simp only at hc hd
      subst hc hd
      obtain ⟨u, hu, ru⟩ := rv.get hz
      obtain ⟨hjl, hje⟩ := List.getElem?_eq_some_iff.mp hu
      have hvl := rv.length
      have hj : j < its.toArray.size := by simpa using hjl
      have hsl := sizeLine_eq
      have hlo' : SeqAt.searchFrom (lo : Int) its.toArray.size = lo := SeqAt.searchFrom_nat lo _
      refine call_meets PySem.F.slot_list_index ⟨_, ho, rfl⟩ PySem.F.entry_list_index (PySem.F.args_list_index_3 _ _ _)
        (SeqAt.list_index3_found a its.toArray n dd sl uy (fun m => eqU y (its.toArray.getD m .none)) (lo : Int) tl j hj (by rw [hlo']; exact hlo) (by omega) ?_ ?_) ⟨ho, fun m hm => ?_, ?_⟩
      · have e1 : its.toArray.getD j .none = u := by
          rw [Array.getD_eq_getD_getElem?, Array.getElem?_eq_getElem hj]
          simpa using hje
        show eqU y (its.toArray.getD j .none) = true
        rw [e1, eqU_of ru (flat_at fys hz)]
        exact hzj
      · intro m hm hml hmj
        rw [hlo'] at hml
        have hml2 : m < its.length := by simpa using hm
        have hmy : m < ys.length := by omega
        have hy' : ys[m]? = some ys[m] := List.getElem?_eq_getElem hmy
        obtain ⟨u2, hu2, ru2⟩ := rv.get hy'
        obtain ⟨_, hme⟩ := List.getElem?_eq_some_iff.mp hu2
        have e1 : its.toArray.getD m .none = u2 := by
          rw [Array.getD_eq_getD_getElem?, Array.getElem?_eq_getElem hm]
          simpa using hme
        show eqU y (its.toArray.getD m .none) = false
        rw [e1, eqU_of ru2 (flat_at fys hy')]
        exact hno m _ hml hmj hy'
      · have e1 : its.toArray.getD m .none = its.toArray[m] := by
          rw [Array.getD_eq_getD_getElem?, Array.getElem?_eq_getElem hm]
          rfl
        show SeqAt.EqAt _ _ its.toArray[m] uy (eqU y (its.toArray.getD m .none))
        rw [e1]
        exact mem_eqAt ry fy rv fys _ (by simp)
      · exact ⟨.int (j : Nat), H, I.tok _, ⟨_, rfl⟩, q⟩
theorem kIndex (K : PySem.W.Frag) (h : X.K = K := by rfl) : MtR X "list.index" (rIndex K) := h ▸ mt_index
theorem kIndexF (K : PySem.W.Frag) (h : X.K = K := by rfl) : MtR X "list.index" (rIndexF K) := h ▸ mt_indexF
end
section
variable {K : PySem.W.Frag} {Z : Zs} {G G' H H' : Hp} {σ : L2.St} {ρ ρ' ρ1 ρ2 ρ3 : List Sl} {te ta tb tc : TE} {tt tu : TT} {t u tbd : TS} {d d1 d2 d3 : Dat} {ds es : List Dat} {b : Bool} {i : Nat} {o : Out}
theorem flat_ints (zs : List Int) : (zs.map V.int).all flatV = true := by
  rw [List.all_map, List.all_eq_true]
  intro _ _
  rfl
/-- xs.index(y) of ints -/
theorem ev_index {a : Ag} {zs : List Int} {y : Int} {j : Nat} (ha : EvL K ta ρ a ρ1) (hb : Ev K tb ρ1 (.int y) ρ2) (l1 : look ρ1 a = some (zs.map Dat.int)) (l : look ρ2 a = some (zs.map Dat.int)) (hj : zs[j]? = some y) (hno : ∀ m, m < j → zs[m]? ≠ some y) :
    Ev K (tBM K "list" (rIndex K) ta (tCons tb tNil)) ρ (.int j) ρ2 := fun Z G H σ c Q q => by
  refine ha Z G H σ c _ fun v G1 H1 s1 c1 r1 => ?_
  obtain ⟨p, xs, rfl, hs, rx⟩ := c1.read r1 l1
  refine ⟨.inl ⟨rfl, _, hs⟩, ?_⟩
  refine hb Z G1 H1 σ c1 _ fun w G2 H2 s2 c2 r2 => ?_
  obtain ⟨p', xs', e', hs', rx'⟩ := c2.read (r1.to s2) l
  cases e'
  cases RpAll.intsEq rx'
  cases r2
  refine ⟨p, zs.map V.int, .int y, j, .int y, rfl, rfl, hs', rfl, flat_ints zs, by rw [List.getElem?_map, hj]; rfl, by simp [eqV], fun m z' hm hz => ?_, q _ _ _ (s1.trans s2) c2 (.int _)⟩
  rw [List.getElem?_map] at hz
  cases e : zs[m]? with
  | none => rw [e] at hz; cases hz
  | some k =>
    rw [e] at hz
    cases hz
    have : k ≠ y := fun q => hno m hm (by rw [e, q])
    simpa [eqV] using this
/-- xs.index(y, lo) of ints -/
theorem ev_indexF {a : Ag} {zs : List Int} {y : Int} {lo j : Nat} (ha : EvL K ta ρ a ρ1) (hb : Ev K tb ρ1 (.int y) ρ2) (hc : Ev K tc ρ2 (.int lo) ρ3) (l1 : look ρ1 a = some (zs.map Dat.int)) (l : look ρ3 a = some (zs.map Dat.int)) (hlo : lo ≤ j) (hj : zs[j]? = some y) (hno : ∀ m, lo ≤ m → m < j → zs[m]? ≠ some y) :
    Ev K (tBM K "list" (rIndexF K) ta (tCons tb (tCons tc tNil))) ρ (.int j) ρ3 := fun Z G H σ c Q q => by
  refine ha Z G H σ c _ fun v G1 H1 s1 c1 r1 => ?_
  obtain ⟨p, xs, rfl, hs, rx⟩ := c1.read r1 l1
  refine ⟨.inl ⟨rfl, _, hs⟩, ?_⟩
  refine hb Z G1 H1 σ c1 _ fun w G2 H2 s2 c2 r2 => ?_
  refine hc Z G2 H2 σ c2 _ fun w2 G3 H3 s3 c3 r3 => ?_
  obtain ⟨p', xs', e', hs', rx'⟩ := c3.read (r1.to (s2.trans s3)) l
  cases e'
  cases RpAll.intsEq rx'
  cases r2
  cases r3
  refine ⟨p, zs.map V.int, .int y, lo, j, .int y, rfl, rfl, hs', rfl, flat_ints zs, hlo, by rw [List.getElem?_map, hj]; rfl, by simp [eqV], fun m z' hl hm hz => ?_, q _ _ _ (s1.trans (s2.trans s3)) c3 (.int _)⟩
  rw [List.getElem?_map] at hz
  cases e : zs[m]? with
  | none => rw [e] at hz; cases hz
  | some k =>
    rw [e] at hz
    cases hz
    have : k ≠ y := fun q => hno m hl hm (by rw [e, q])
    simpa [eqV] using this
/-- xs.count(y) of ints -/
theorem ev_count {a : Ag} {zs : List Int} {y : Int} (ha : EvL K ta ρ a ρ1) (hb : Ev K tb ρ1 (.int y) ρ2) (l1 : look ρ1 a = some (zs.map Dat.int)) (l : look ρ2 a = some (zs.map Dat.int)) :
    Ev K (tBM K "list" (rCntI K) ta (tCons tb tNil)) ρ (.int (zs.count y : Nat)) ρ2 := fun Z G H σ c Q q => by
  refine ha Z G H σ c _ fun v G1 H1 s1 c1 r1 => ?_
  obtain ⟨p, xs, rfl, hs, rx⟩ := c1.read r1 l1
  refine ⟨.inl ⟨rfl, _, hs⟩, ?_⟩
  refine hb Z G1 H1 σ c1 _ fun w G2 H2 s2 c2 r2 => ?_
  obtain ⟨p', xs', e', hs', rx'⟩ := c2.read (r1.to s2) l
  cases e'
  cases RpAll.intsEq rx'
  cases r2
  exact ⟨p, zs, y, rfl, rfl, hs', q _ _ _ (s1.trans s2) c2 (.int _)⟩
end
/-! ### loops that look at each item, and leave where one is not as it should be -/
section
variable {K : PySem.W.Frag} {Z : Zs} {G G' H H' : Hp} {σ : L2.St} {ρ ρ' ρ0 ρ1 ρ2 ρ3 : List Sl} {te ta tb tc : TE} {tt tu : TT} {t u tbd : TS} {d r d1 d2 d3 : Dat} {ds es : List Dat} {b : Bool} {i : Nat} {o : Out}
theorem Src.weak {wi : TI} (h : Src K wi ρ ds ρ0) (l : Le ρ1 ρ0) : Src K wi ρ ds ρ1 := fun Z G H σ c R q => h Z G H σ c R fun J G1 H1 s1 c1 wk => q J G1 H1 s1 (c1.weak l) wk
theorem ex_forT {wi : TI} {x : Nat} (p : Dat → Bool) (h : Src K wi ρ ds ρ0) (l : Le ρ1 ρ0) (hx : x < ρ1.length) (ha : ds.all p = true) (k : ∀ d ∈ ds, p d = true → Ex K tbd (ρ1.set x (.dat d)) (.nx ρ1)) : Ex K (tFor wi (gName x) tbd) ρ (.nx ρ1) :=
  ex_for (n := ds.length) (fun _ => ρ1) (h.weak l) (fun _ => isSome_of_lt hx) (Nat.le_refl _) (fun i d hi hd => .inl (k d (List.mem_of_getElem? hd) (List.all_eq_true.mp ha d (List.mem_of_getElem? hd)))) (.done rfl)
theorem ex_forF {wi : TI} {x : Nat} (p : Dat → Bool) (h : Src K wi ρ ds ρ0) (l : Le ρ1 ρ0) (hx : x < ρ1.length) (ha : ds.all p = false) (k : ∀ d ∈ ds, p d = true → Ex K tbd (ρ1.set x (.dat d)) (.nx ρ1)) (kf : ∀ d ∈ ds, p d = false → Ex K tbd (ρ1.set x (.dat d)) (.rt r ρ')) : Ex K (tFor wi (gName x) tbd) ρ (.rt r ρ') := by
  have hn : ds.findIdx (fun d => !p d) < ds.length := by
    rw [List.findIdx_lt_length]
    obtain ⟨d, hd, hp⟩ := List.all_eq_false.mp ha
    exact ⟨d, hd, by simpa using hp⟩
  have hat : ds[ds.findIdx (fun d => !p d)]? = some ds[ds.findIdx (fun d => !p d)] := List.getElem?_eq_getElem hn
  have hp : (!p ds[ds.findIdx (fun d => !p d)]) = true := List.findIdx_getElem (p := fun d => !p d)
  refine ex_for (n := ds.findIdx (fun d => !p d)) (fun _ => ρ1) (h.weak l) (fun _ => isSome_of_lt hx) (Nat.le_of_lt hn) (fun i d hi hd => .inl (k d (List.mem_of_getElem? hd) ?_)) (.ret hat (kf _ (List.getElem_mem hn) (by simpa using hp)))
  obtain ⟨hl, e⟩ := List.getElem?_eq_some_iff.mp hd
  have := List.not_of_lt_findIdx (p := fun d => !p d) hi
  rw [e] at this
  simpa using this
end
section
variable {K : PySem.W.Frag} {Z : Zs} {G G' H H' : Hp} {σ : L2.St} {ρ ρ' ρ0 ρ1 ρ2 ρ3 : List Sl} {te ta tb tc : TE} {tt tu : TT} {t u tbd : TS} {d r d1 d2 d3 : Dat} {ds es : List Dat} {b : Bool} {i : Nat} {o : Out}
/-- a test that isn't met; one that is, and leaves -/
theorem ex_no (h : EvT K tt ρ false ρ1) (k : Ex K u ρ1 o) : Ex K (tSeq (tIfS tt t tNext) u) ρ o :=
  ex_seq (ex_if h (fun q => by cases q) fun _ => ex_next) k
theorem ex_yes (h : EvT K tt ρ true ρ1) (k : Ex K t ρ1 o) (no : o.isNx = false) : Ex K (tSeq (tIfS tt t tNext) u) ρ o :=
  ex_out (ex_if h (fun _ => k) fun q => by cases q) no
/-- what goes on, or leaves with r -/
theorem ex_seqC (h : Ex K t ρ (bif b then .nx ρ1 else .rt r ρ')) (k : b = true → Ex K u ρ1 o) (e : b = false → o = .rt r ρ') : Ex K (tSeq t u) ρ o := by
  cases b with
  | true => exact ex_seq h (k rfl)
  | false =>
    rw [e rfl]
    exact ex_out h rfl
theorem ex_forC {wi : TI} {x : Nat} (p : Dat → Bool) (h : Src K wi ρ ds ρ0) (l : Le ρ1 ρ0) (hx : x < ρ1.length) (k : ∀ d ∈ ds, Ex K tbd (ρ1.set x (.dat d)) (bif p d then .nx ρ1 else .rt r ρ')) : Ex K (tFor wi (gName x) tbd) ρ (bif ds.all p then .nx ρ1 else .rt r ρ') := by
  cases ha : ds.all p with
  | true => exact ex_forT p h l hx ha fun d hd hp => by have := k d hd; rwa [hp] at this
  | false => exact ex_forF p h l hx ha (fun d hd hp => by have := k d hd; rwa [hp] at this) fun d hd hp => by have := k d hd; rwa [hp] at this
theorem ex_ifC (h : EvT K tt ρ (!b) ρ2) (l : Le ρ1 ρ2) (k : b = false → Ex K t ρ2 (.rt r ρ')) : Ex K (tIfS tt t tNext) ρ (bif b then .nx ρ1 else .rt r ρ') := by
  cases b with
  | true => exact ex_if h (fun q => by cases q) fun _ => Ex.weak ex_next l
  | false => exact ex_if h (fun _ => k rfl) fun q => by cases q
end
/-! ### defs that hand back a new list which nothing holds -/
def spF (K : PySem.W.Frag) (R : List Dat → List Dat → Prop) : Sp := fun vs H Q _ => ∃ (G : Hp) (as ds : List Dat), R as ds ∧ Same G H ∧ RpAll K G vs as ∧
  ∀ (p : Addr) (xs : List V) (G' H' : Hp), Ct K ⟨G, H, [], fun _ => none⟩ G' H' (vs.map some) (List.replicate vs.length .no) → H p = none → G' p = none → H' p = some (.lst xs) → RpAll K G' xs ds → Q (.ref p) H'
theorem spF_len {K : PySem.W.Frag} {R : List Dat → List Dat → Prop} {n : Nat} (h : ∀ as ds, R as ds → as.length = n) : ∀ vs H Q E, spF K R vs H Q E → vs.length = n := by
  rintro vs H Q E ⟨G, as, d, r, _, ra, _⟩
  rw [ra.length, h _ _ r]
section
variable {K : PySem.W.Frag} {Z : Zs} {G G' H H' : Hp} {σ : L2.St} {ρ ρ' ρ0 ρ1 ρ2 ρ3 : List Sl} {te ta tb tc : TE} {tg : TA} {tt tu : TT} {t u tbd : TS} {d r d1 d2 d3 : Dat} {ds es : List Dat} {b : Bool} {i : Nat} {o : Out} {ag : List Ag}
theorem ef_call {R : List Dat → List Dat → Prop} {E : XK} (ha : EvA K tg ρ ag ρ1) (hd : agD ag = some es) (hR : R es ds) : EvF K (tCall (spF K R) [] E tg) ρ ds ρ1 := fun Z G H σ c Q q => by
  have ha := agD_map hd ▸ ha
  refine ha Z G H σ c _ fun vs G2 H2 s2 c2 r2 => ?_
  rw [List.append_nil]
  refine ⟨G2, _, ds, hR, c2.gh, rp_args r2, fun p xs G3 H3 c3 np gp hp rx => ?_⟩
  obtain ⟨s3, c4⟩ := c2.after0 c3
  refine q p xs G3 H3 (s2.trans s3) c4 gp hp rx ⟨c2.fresh0 np, c2.freshK np⟩ fun i hi => ?_
  obtain ⟨e, s, es, eo⟩ := hi
  obtain ⟨p', xs', ds', e', _, hp', _⟩ := c2.ow es eo
  rw [e] at e'
  cases e'
  rw [np] at hp'
  cases hp'
/-- an owned list is handed on as a new one -/
theorem ef_own (h : ρ[i]? = some (.own ds) := by rfl) : EvF K (tVar i) ρ ds (ρ.set i .no) := fun Z G H σ c Q q => by
  obtain ⟨v, ev, p, xs, rfl, z, g, hp, rx⟩ := c.sl i _ h rfl
  have hd : Hd σ ρ i p := ⟨ev, _, h, rfl⟩
  have c2 : Ct K Z G H σ (ρ.set i .no) := c.weak (by
    have key : ∀ (ρ : List Sl) (i : Nat), Le (ρ.set i .no) ρ := by
      intro ρ
      induction ρ with
      | nil => intro i; exact Le.nil
      | cons s ρ ih =>
        intro i
        cases i with
        | zero => exact Le.no (Le.refl ρ)
        | succ i => exact Le.eq (ih i)
    exact key ρ i)
  refine ⟨_, ev, q p xs G H (Same.refl G) c2 g hp rx ⟨z, c.kn i p hd⟩ fun j hj => ?_⟩
  obtain ⟨e, s, es, eo⟩ := hj
  by_cases hji : i = j
  · subst hji
    rw [List.getElem?_set_self (by exact (List.getElem?_eq_some_iff.mp h).1)] at es
    cases es
    cases eo
  · rw [List.getElem?_set_ne hji] at es
    exact hji (c.ds i j p hd ⟨e, s, es, eo⟩)
theorem ex_retF (h : EvF K te ρ ds ρ1) (l : Le ρ2 ρ1) : Ex K (tRet te) ρ (.rf ds ρ2) := fun Z G H σ c D q => h Z G H σ c _ fun p xs G' H' s c' g hp r z _ => q σ p xs G' H' s (c'.weak l) g z.1 hp r
theorem bodyF_ok {R : List Dat → List Dat → Prop} {N : List Str} {vs : List V} {Q : VK} {E : XK} {n : Nat} (h : spF K R vs H Q E) (hn : ∀ as ds, R as ds → as.length = n)
    (k : ∀ as ds, R as ds → Ex K t (as.map Sl.dat ++ List.replicate (N.length - n) .no) (.rf ds (List.replicate N.length .no))) : t { nx := fun _ H' => Q .non H', rt := Q } (start N vs) H := by
  obtain ⟨G, as, ds, r, gh, ra, q⟩ := h
  have c := start_all gh ra
  have e : start N vs = vs.map some ++ List.replicate (N.length - n) none := by
    show vs.map some ++ List.replicate (N.length - vs.length) none = _
    rw [ra.length, hn _ _ r]
  exact k as ds r _ G H _ (start_ct c e) _ fun σ' p xs G' H' s c' g z hp rv => q p xs G' H' (c'.reslot (by rw [List.length_map])) z g hp rv
/-! ### tuples sliced, a flat thing in a tuple, a text split, a list turned about, a range downwards -/
theorem ev_slA {tl th : TO} {lo hi : Option Int} (ha : Ev K ta ρ (.tup ds) ρ1) (hl : EvO K tl ρ1 lo ρ2) (hh : EvO K th ρ2 hi ρ3) : Ev K (tSl (rSlA K) ta tl th) ρ (.tup (cutD ds lo hi)) ρ3 := fun Z G H σ c Q q => by
  refine ha Z G H σ c _ fun x G1 H1 s1 c1 r1 => ?_
  refine hl Z G1 H1 σ c1 _ fun G2 H2 s2 c2 => ?_
  refine hh Z G2 H2 σ c2 _ fun G3 H3 s3 c3 => ?_
  obtain ⟨a, xs, rfl, hs, lx, rx⟩ := rp_tup c3.gh (r1.to (s2.trans s3))
  refine ⟨a, xs, rfl, hs, fun hq => ?_, fun _ p hp => ?_⟩
  · have hq2 : cutD ds lo hi = ds := by
      unfold cutD
      rw [← lx, hq.1, hq.2, List.drop_zero, Nat.sub_zero, lx, List.take_length]
    rw [hq2] at q
    exact q _ G3 H3 ((s1.trans s2).trans s3) c3 (r1.to (s2.trans s3))
  · obtain ⟨c4, s4⟩ := c3.grown (o := .tup (cutV xs lo hi)) hp
    exact q _ _ _ ((s1.trans s2).trans (s3.trans s4)) c4 (.tup upd_same ((rp_cut rx lo hi).to s4))
def Flat : Dat → Bool
  | .non => true
  | .bl _ => true
  | .int _ => true
  | .str _ => true
  | _ => false
def flv : Dat → V
  | .non => .non
  | .bl b => .bl b
  | .int i => .int i
  | .str x => .str x
  | _ => .non
theorem rp_flat {v : V} (f : Flat d = true) (r : Rp K G v d) : v = flv d := by
  cases d <;> first | (cases f; done) | (cases r; rfl)
theorem flat_flv (f : Flat d = true) : flatV (flv d) = true := by
  cases d <;> first | (cases f; done) | rfl
theorem rp_flats : ∀ {vs : List V} {ds : List Dat}, ds.all Flat = true → RpAll K G vs ds → vs = ds.map flv
  | _, [], _, h => by cases h; rfl
  | _, d :: ds, f, h => by
    rw [List.all_cons, Bool.and_eq_true] at f
    cases h with
    | cons a b => rw [rp_flat f.1 a, rp_flats f.2 b]; rfl
theorem flat_flvs : ∀ {ds : List Dat}, ds.all Flat = true → (ds.map flv).all flatV = true := fun {ds} f => by
  rw [List.all_map, List.all_eq_true]
  intro d hd
  exact flat_flv (List.all_eq_true.mp f d hd)
theorem ev_inT (ha : Ev K ta ρ d ρ1) (hb : Ev K tb ρ1 (.tup ds) ρ2) (f : Flat d = true) (fs : ds.all Flat = true) : Ev K (tOp (rIn K false) ta tb) ρ (.bl (inV (flv d) (ds.map flv))) ρ2 := fun Z G H σ c Q q => by
  refine ha Z G H σ c _ fun x G1 H1 s1 c1 r1 => ?_
  refine hb Z G1 H1 σ c1 _ fun y G2 H2 s2 c2 r2 => ?_
  obtain ⟨a, xs, rfl, hs, _, rx⟩ := rp_tup c2.gh r2
  cases rp_flats fs rx
  cases rp_flat f r1
  exact ⟨a, _, rfl, .inr hs, flat_flv f, flat_flvs fs, q _ _ _ (s1.trans s2) c2 (.bl _)⟩
theorem ev_notInT (ha : Ev K ta ρ d ρ1) (hb : Ev K tb ρ1 (.tup ds) ρ2) (f : Flat d = true) (fs : ds.all Flat = true) : Ev K (tOp (rIn K true) ta tb) ρ (.bl (!inV (flv d) (ds.map flv))) ρ2 := fun Z G H σ c Q q => by
  refine ha Z G H σ c _ fun x G1 H1 s1 c1 r1 => ?_
  refine hb Z G1 H1 σ c1 _ fun y G2 H2 s2 c2 r2 => ?_
  obtain ⟨a, xs, rfl, hs, _, rx⟩ := rp_tup c2.gh r2
  cases rp_flats fs rx
  cases rp_flat f r1
  exact ⟨a, _, rfl, .inr hs, flat_flv f, flat_flvs fs, q _ _ _ (s1.trans s2) c2 (.bl _)⟩
/-- x.split(sep) -/
theorem ef_split {r : V → List V → Hp → VK → Prop} {x y : Str} (hr : r = fun x xs H Q => ∃ a b, x = .str a ∧ xs = [.str b] ∧ (b.length == 0) = false ∧ a.length + 2 ≤ sizeLine ∧ rNewStrs (Txt.split a b) H Q)
    (ha : Ev K ta ρ (.str x) ρ1) (hb : Ev K tb ρ1 (.str y) ρ2) (hy : (y.length == 0) = false) (hx : x.length ≤ 1000) : EvF K (tM1 r ta tb) ρ ((Txt.split x y).map Dat.str) ρ2 := fun Z G H σ c Q q => by
  subst hr
  refine ha Z G H σ c _ fun v G1 H1 s1 c1 r1 => ?_
  cases r1
  refine ⟨⟨x, rfl⟩, ?_⟩
  refine hb Z G1 H1 σ c1 _ fun w G2 H2 s2 c2 r2 => ?_
  cases r2
  refine ⟨x, y, rfl, rfl, hy, sz_ok (by omega), fun p hp => ?_⟩
  obtain ⟨a, b, z, no⟩ := fresh_of c2 (xs := (Txt.split x y).map V.str) hp
  refine q p _ G2 _ (s1.trans s2) a b upd_same ?_ z no
  generalize Txt.split x y = ys
  induction ys with
  | nil => exact .nil
  | cons y ys ih => exact .cons (.str y) ih
/-- xs.reverse(), xs a list of the slot's own -/
theorem ex_reverse {s : Sl} (hs : ρ[i]? = some s := by rfl) (l : slItems (some s) = some ds := by rfl) :
    Ex K (tDrop (tBM0 K "list" rReverse (tVar i))) ρ (.nx (ρ.set i (s.put ds.reverse))) := fun Z G H σ c D q => by
  have os : s.isOwn = true := by cases s <;> first | rfl | cases l
  obtain ⟨p, xs, ds0, ep, _, hp, rx, _, _, hc⟩ := c.ow hs os
  have e0 : ds0 = ds := by
    rcases hc with ⟨rfl, _⟩ | ⟨j, rfl, _⟩ <;> (cases l; rfl)
  subst e0
  refine ⟨.ref p, ep, .inl ⟨rfl, xs, .inl (.inl hp)⟩, p, xs, rfl, rfl, hp, ?_⟩
  exact q σ G _ (Same.refl G) (c.write hs os ep (rpAll_reverse rx))
where
  rpAll_reverse {K : PySem.W.Frag} {G : Hp} {xs : List V} {ds : List Dat} (r : RpAll K G xs ds) : RpAll K G xs.reverse ds.reverse := by
    have key : ∀ {xs : List V} {ds : List Dat}, RpAll K G xs ds → RpAll K G xs.reverse ds.reverse := by
      intro xs
      induction xs with
      | nil => intro ds r; cases r; exact .nil
      | cons x xs ih =>
        intro ds r
        cases r with
        | cons a b =>
          rw [List.reverse_cons, List.reverse_cons]
          exact (ih b).app (.cons a .nil)
    exact key r
/-- hi, hi - 1, .. n of them -/
def rngC (lo c : Int) (n : Nat) : List Dat := (List.range n).map fun i => .int (lo + (i : Nat) * c)
theorem rngC_len (lo c : Int) (n : Nat) : (rngC lo c n).length = n := by simp [rngC]
theorem rngC_get {lo c : Int} {n i : Nat} {d : Dat} (h : (rngC lo c n)[i]? = some d) : i < n ∧ d = .int (lo + (i : Nat) * c) := by
  unfold rngC at h
  rw [List.getElem?_map] at h
  cases e : (List.range n)[i]? with
  | none => rw [e] at h; cases h
  | some k =>
    rw [e] at h
    cases h
    obtain ⟨hl, hk⟩ := List.getElem?_eq_some_iff.mp e
    rw [List.getElem_range] at hk
    rw [List.length_range] at hl
    subst hk
    exact ⟨hl, rfl⟩
theorem walks_rangeC {lo cc : Int} {n : Nat} : Walks K Z G (Itc lo cc n) (rngC lo cc n) := fun i Gx Hx σx ρx Zx s c => by
  refine ⟨fun e => ?_, fun d hd => ?_⟩
  · rw [rngC_len] at e
    show n ≤ i
    omega
  · obtain ⟨hi, rfl⟩ := rngC_get hd
    refine ⟨hi, fun y Hy hy => ?_⟩
    obtain ⟨e1, e2⟩ := hy
    subst e1 e2
    exact ⟨Gx, Same.refl Gx, c, .int _⟩
theorem src_rngDown {lo hi : Int} (ha : Ev K ta ρ (.int lo) ρ1) (hb : Ev K tb ρ1 (.int hi) ρ2) (hc : Ev K tc ρ2 (.int (-1)) ρ3) (h1 : -1000000 ≤ lo) (h2 : lo ≤ 1000000) (h3 : -1000000 ≤ hi) (h4 : hi ≤ 1000000) : Src K (iRng3 (tCons ta (tCons tb (tCons tc tNil)))) ρ (rngC lo (-1) (lo - hi).toNat) ρ3 := fun Z G H σ c R q => by
  refine ha Z G H σ c _ fun v G1 H1 s1 c1 r1 => ?_
  refine hb Z G1 H1 σ c1 _ fun w G2 H2 s2 c2 r2 => ?_
  refine hc Z G2 H2 σ c2 _ fun z G3 H3 s3 c3 r3 => ?_
  cases r1; cases r2; cases r3
  exact ⟨lo, hi, -1, _, rfl, RgC.neg (by omega) (by omega) (by omega) (by omega), q _ G3 H3 (s1.trans (s2.trans s3)) c3 walks_rangeC⟩
end
section
variable {K : PySem.W.Frag} {Z : Zs} {G G' H H' : Hp} {σ : L2.St} {ρ ρ' ρ0 ρ1 ρ2 ρ3 : List Sl} {te ta tb tc : TE} {tg : TA} {tt tu : TT} {t u tbd : TS} {d r d1 d2 d3 : Dat} {ds es : List Dat} {b : Bool} {i : Nat} {o : Out} {ag : List Ag}
/-- [e for x in ..], item by item -/
theorem ef_lcIx {wi : TI} {x : Nat} (fs : List Dat) (h : Src K wi ρ ds ρ1) (hx : ρ1[x]?.isSome = true) (hf : fs.length = ds.length) (hl : ds.length < 100000)
    (body : ∀ (i : Nat) (d e : Dat), ds[i]? = some d → fs[i]? = some e → Ev K te ((wipeS ρ1 [x]).set x (.dat d)) e ((wipeS ρ1 [x]).set x (.dat d))) : EvF K (tLc wi (gName x) tYes te [x]) ρ fs (wipeS ρ1 [x]) := by
  have e := ef_lc (tt := tYes) (te := te) (x := x) (fun _ => ρ1) (fun _ => true) (fun i => fs.getD i .non) h (fun _ => hx) hl (fun i d hd => ⟨_, et_yes, fun _ => ⟨_, body i d (fs.getD i .non) hd (by
    have hi := (List.getElem?_eq_some_iff.mp hd).1
    rw [List.getD_eq_getElem?_getD, List.getElem?_eq_getElem (by omega)]; rfl), by
    show (((ρ1.set x .no).set x (.dat d)).set x .no) = ρ1.set x .no
    rw [List.set_set, List.set_set]⟩, fun q => by cases q⟩)
  have : lcOut (fun _ => true) (fun i => fs.getD i .non) ds.length = fs := by
    unfold lcOut
    rw [List.filter_eq_self.mpr (fun _ _ => rfl)]
    refine List.ext_getElem (by rw [List.length_map, List.length_range, hf]) fun i h1 h2 => ?_
    rw [List.getElem_map, List.getElem_range, List.getD_eq_getElem?_getD, List.getElem?_eq_getElem h2]
    rfl
  rwa [this] at e
/-- a word against a word -/
theorem et_word {x y : Str} (h : ρ[i]? = some (.dat (.str x)) := by rfl) (sx : PyData.strOk x = true) (sy : PyData.strOk y = true) (e : (x == y) = b) : EvT K (tTest (tOp (rEqD K) (tVar i) (tC (.str y)))) ρ b ρ :=
  EvT.to (et_test (ev_eq (ev_var h) ev_str (by simpa only [Shp] using sx) (by simpa only [Shp] using sy))) (by rw [eqd_str]; exact e)
theorem ev_word {x y : Str} (h : ρ[i]? = some (.dat (.str x)) := by rfl) (sx : PyData.strOk x = true) (sy : PyData.strOk y = true) (e : (x == y) = b) : Ev K (tOp (rEqD K) (tVar i) (tC (.str y))) ρ (.bl b) ρ :=
  Ev.to (ev_eq (ev_var h) ev_str (by simpa only [Shp] using sx) (by simpa only [Shp] using sy)) (by rw [eqd_str, e])
end
section
variable {K : PySem.W.Frag} {Z : Zs} {G G' H H' : Hp} {σ : L2.St} {ρ ρ' ρ0 ρ1 ρ2 ρ3 : List Sl} {te ta tb tc : TE} {tg : TA} {tt tu : TT} {t u tbd : TS} {d d1 d2 d3 : Dat} {ds es : List Dat} {b : Bool} {i : Nat} {o : Out} {ag : List Ag}
/-- a loop that leaves at the first item of a kind -/
theorem ex_forFind {wi : TI} {x : Nat} (p : Dat → Bool) (r : Dat → Dat) (h : Src K wi ρ ds ρ0) (l : Le ρ1 ρ0) (hx : x < ρ1.length) (k : ∀ d ∈ ds, p d = false → Ex K tbd (ρ1.set x (.dat d)) (.nx ρ1)) (kt : ∀ d ∈ ds, p d = true → Ex K tbd (ρ1.set x (.dat d)) (.rt (r d) ρ')) :
    Ex K (tFor wi (gName x) tbd) ρ (match ds.find? p with | some d => .rt (r d) ρ' | none => .nx ρ1) := by
  cases e : ds.find? p with
  | none =>
    have hn := List.find?_eq_none.mp e
    exact ex_forT (fun d => !p d) h l hx (List.all_eq_true.mpr fun d hd => by simpa using hn d hd) fun d hd hp => k d hd (by simpa using hp)
  | some d =>
    obtain ⟨hpd, as, bs, hds, has⟩ := List.find?_eq_some_iff_append.mp e
    have hn : as.length < ds.length := by rw [hds, List.length_append, List.length_cons]; omega
    have hat : ds[as.length]? = some d := by rw [hds, List.getElem?_append_right (Nat.le_refl _), Nat.sub_self]; rfl
    refine ex_for (n := as.length) (fun _ => ρ1) (h.weak l) (fun _ => isSome_of_lt hx) (Nat.le_of_lt hn) (fun i d' hi hd => .inl (k d' (List.mem_of_getElem? hd) ?_)) (.ret hat (kt d (List.mem_of_getElem? hat) hpd))
    rw [hds, List.getElem?_append_left hi] at hd
    simpa using has d' (List.mem_of_getElem? hd)
/-- [e for x in ..] while something is changed -/
theorem ef_lcS {wi : TI} {x : Nat} (ρs : Nat → List Sl) (fs : List Dat) (h : Src K wi ρ ds (ρs 0)) (hx : ∀ i, (ρs i)[x]?.isSome = true) (hf : fs.length = ds.length) (hl : ds.length < 100000)
    (body : ∀ (i : Nat) (d e : Dat), ds[i]? = some d → fs[i]? = some e → Ev K te ((wipeS (ρs i) [x]).set x (.dat d)) e ((wipeS (ρs (i + 1)) [x]).set x (.dat d))) : EvF K (tLc wi (gName x) tYes te [x]) ρ fs (wipeS (ρs ds.length) [x]) := by
  have e := ef_lc (tt := tYes) (te := te) (x := x) ρs (fun _ => true) (fun i => fs.getD i .non) h hx hl (fun i d hd => ⟨_, et_yes, fun _ => ⟨_, body i d (fs.getD i .non) hd (by
    have hi := (List.getElem?_eq_some_iff.mp hd).1
    rw [List.getD_eq_getElem?_getD, List.getElem?_eq_getElem (by omega)]; rfl), by
    show ((((ρs (i + 1)).set x .no).set x (.dat d)).set x .no) = (ρs (i + 1)).set x .no
    rw [List.set_set, List.set_set]⟩, fun q => by cases q⟩)
  have : lcOut (fun _ => true) (fun i => fs.getD i .non) ds.length = fs := by
    unfold lcOut
    rw [List.filter_eq_self.mpr (fun _ _ => rfl)]
    refine List.ext_getElem (by rw [List.length_map, List.length_range, hf]) fun i h1 h2 => ?_
    rw [List.getElem_map, List.getElem_range, List.getD_eq_getElem?_getD, List.getElem?_eq_getElem h2]
    rfl
  rwa [this] at e
end
section
variable {K : PySem.W.Frag} {Z : Zs} {G G' H H' : Hp} {σ : L2.St} {ρ ρ' ρ0 ρ1 ρ2 ρ3 : List Sl} {te ta tb tc : TE} {tg : TA} {tt tu : TT} {t u tbd : TS} {d r d1 d2 d3 : Dat} {ds es : List Dat} {b : Bool} {i : Nat} {o : Out} {ag : List Ag}
/-- a new list of atoms, as a new answer -/
theorem evn_callF {R : List Dat → List Dat → Prop} {E : XK} (ha : EvA K tg ρ ag ρ1) (hd : agD ag = some es) (hR : R es ds) (at_ : ds.all Atom = true) : EvN K (tCall (spF K R) [] E tg) ρ (.lst ds) ρ1 := evn_of_fresh (efn_atoms (ef_call ha hd hR) at_)
theorem atoms_bls (bs : List Bool) : (bs.map Dat.bl).all Atom = true := by
  rw [List.all_map, List.all_eq_true]
  intro _ _
  rfl
end
end Bg

namespace Bg
open PySem L2
/-! ### zip of any lists and tuples -/
structure Zc where
  it : Addr
  l : Addr
  tp : Bool
  xs : Array Value
def ZSeq (h : Heap) (c : Zc) : Prop := if c.tp = true then h.IsTuple c.l c.xs else h.IsList c.l c.xs
def ZIt (h : Heap) (c : Zc) (k : Nat) : Prop := if c.tp = true then h.IsTupleIter c.it c.l k else h.IsListIter c.it c.l k
theorem ZSeq.to {h h' : Heap} {c : Zc} (q : ZSeq h c) (k : ∀ o, h.get? c.l = some o → h'.get? c.l = some o) : ZSeq h' c := by
  unfold ZSeq at *
  split at q
  · rename_i e; rw [if_pos e]; exact q.at k
  · rename_i e; rw [if_neg e]; exact q.at k
theorem ZIt.to {h h' : Heap} {c : Zc} {i : Nat} (q : ZIt h c i) (k : ∀ o, h.get? c.it = some o → h'.get? c.it = some o) : ZIt h' c i := by
  unfold ZIt at *
  split at q
  · rename_i e; rw [if_pos e]; exact q.at k
  · rename_i e; rw [if_neg e]; exact q.at k
def zits (cs : List Zc) : List Addr := cs.map (·.it)
structure ZApart (z TI TO : Addr) (cs : List Zc) : Prop where
  nd : (z :: TI :: TO :: zits cs).Nodup
  ap : ∀ c ∈ cs, c.l ∉ (z :: TO :: zits cs)
section
variable {prog : Program} {w : World} {A : Around} {E : Value → Shared → Prop} {s : Shared}
theorem nextOf_zc {c : Zc} {k : Nat} {Q : Value → Shared → Prop} (hh : A.handled = none) (hi : ZIt s.heap c k) (hs : ZSeq s.heap c)
    (hQ : ∀ x, c.xs[k]? = some x → ∀ h', ZIt h' c (k + 1) → Heap.SameBut c.it s.heap h' → Q x { s with heap := h' })
    (hE : c.xs[k]? = none → ∀ h' e, Heap.ExtBut c.it s.heap h' → (∃ o, h'.get? e = some o ∧ o.cls = .type "StopIteration") → E (.ref e) { s with heap := h' }) :
    wpAny (model prog w) A (Builtin.SmallTypes.nextOf (.ref c.it)) Q E s := by
  unfold ZIt at hi
  unfold ZSeq at hs
  by_cases e : c.tp = true
  · rw [if_pos e] at hi hs
    cases hx : c.xs[k]? with
    | none => exact RZ.nextOf_tuple_end hh hi hs hx (hE hx)
    | some x => exact RZ.nextOf_tuple_item hi hs hx fun h' a b => hQ x hx h' (by unfold ZIt; rw [if_pos e]; exact a) b
  · rw [if_neg e] at hi hs
    cases hx : c.xs[k]? with
    | none => exact wpAny_nextOf_list_end hh hi hs hx (hE hx)
    | some x => exact wpAny_nextOf_list_item hi hs hx fun h' a b => hQ x hx h' (by unfold ZIt; rw [if_neg e]; exact a) b
abbrev IsTupA (h : Heap) (T : Addr) (xs : Array Value) : Prop := h.get? T = some { cls := .type "tuple", data := .seq xs }
/-- how far the zip's own loop has come -/
structure ZLoop (z TI TO : Addr) (cs : List Zc) (k : Nat) (h0 : Heap) (j : Nat) (h : Heap) : Prop where
  zip : IsZip h z TI TO .ellipsis
  to : ∃ arr : Array Value, IsTupA h TO arr ∧ arr.size = cs.length ∧ ∀ (i : Nat) (c : Zc), i < j → cs[i]? = some c → ∃ y, arr[i]? = some y ∧ c.xs[k]? = some y
  its : ∀ (i : Nat) (c : Zc), cs[i]? = some c → ZIt h c (if i < j then k + 1 else k)
  seqs : ∀ c ∈ cs, ZSeq h c
  keep : ∀ a o, a ≠ z → a ≠ TO → a ∉ zits cs → h0.get? a = some o → h.get? a = some o
  size : h.objs.size = h0.objs.size
theorem zipN_next {z TI TO : Addr} {cs : List Zc} {k : Nat} {arr0 : Array Value} {Q : Value → Shared → Prop} (hh : A.handled = none) (D : ZApart z TI TO cs) (hne : cs ≠ []) (hl : cs.length ≤ 100)
    (hz : IsZip s.heap z TI TO .none) (hTI : IsTupA s.heap TI (cs.map fun c => Value.ref c.it).toArray) (hTO : IsTupA s.heap TO arr0) (hsz : arr0.size = cs.length)
    (hi : ∀ c ∈ cs, ZIt s.heap c k ∧ ZSeq s.heap c)
    (hQ : ∀ (arr : Array Value) h', arr.size = cs.length → (∀ (i : Nat) (c : Zc), cs[i]? = some c → ∃ y, arr[i]? = some y ∧ c.xs[k]? = some y) → IsZip h' z TI TO (rawInt s.heap.objs.size) → IsTupA h' TO arr → (∀ c ∈ cs, ZIt h' c (k + 1)) → IsTupA h' s.heap.objs.size arr →
      (∀ a o, a ≠ z → a ≠ TO → a ∉ zits cs → s.heap.get? a = some o → h'.get? a = some o) → Q (.ref s.heap.objs.size) { s with heap := h' })
    (hE : (∃ c ∈ cs, c.xs[k]? = none) → ∀ h' e, (∀ a o, a ≠ z → a ≠ TO → a ∉ zits cs → s.heap.get? a = some o → h'.get? a = some o) → (∃ o, h'.get? e = some o ∧ o.cls = .type "StopIteration") → E (.ref e) { s with heap := h' }) :
    wpAny (model prog w) A (Builtin.«zip.__next__» ⟨[.ref z], []⟩) (fun fin s' => ∃ v, fin = .done (.ret v) ∧ Q v s') E s := by
  have nd := D.nd
  rw [List.nodup_cons, List.nodup_cons, List.nodup_cons] at nd
  obtain ⟨nz, nTI, nTO, nits⟩ := nd
  have TIz : TI ≠ z := fun e => nz (by rw [e]; simp)
  have TOz : TO ≠ z := fun e => nz (by rw [e]; simp)
  have zi : z ∉ zits cs := fun e => nz (by simp [e])
  have TOi : TO ∉ zits cs := nTO
  have mem_it : ∀ c ∈ cs, c.it ∈ zits cs := fun c hc => List.mem_map_of_mem hc
  have lz : ∀ c ∈ cs, c.l ≠ z := fun c hc e => D.ap c hc (by rw [e]; simp)
  have lTO : ∀ c ∈ cs, c.l ≠ TO := fun c hc e => D.ap c hc (by rw [e]; simp)
  have li : ∀ c ∈ cs, c.l ∉ zits cs := fun c hc e => D.ap c hc (by simp [e])
  show wpAny _ _ (field (.ref z) 2 >>= _) _ _ _
  refine wpAny_bind (wpAny_field hz rfl (x := .bool false) rfl ?_)
  show wpAny _ _ (field (.ref z) 3 >>= _) _ _ _
  refine wpAny_bind (wpAny_field hz rfl (x := .ref TI) rfl ?_)
  refine wpAny_bind (wpAny_seqItems hTI rfl ?_)
  have hemp : ¬ ((cs.map fun c => Value.ref c.it).toArray.isEmpty = true) := by
    cases cs with
    | nil => exact absurd rfl hne
    | cons c cs => simp
  show wpAny _ _ (if (cs.map fun c => Value.ref c.it).toArray.isEmpty = true then _ else _) _ _ _
  rw [if_neg hemp]
  show wpAny _ _ (Builtin.SmallTypes.ownedTupleIsFree (.ref z) >>= _) _ _ _
  refine wpAny_bind ?_
  unfold Builtin.SmallTypes.ownedTupleIsFree
  refine wpAny_bind (wpAny_field hz rfl (x := .none) rfl (wpAny_pure ?_))
  simp only [if_true]
  refine wpAny_bind (wpAny_rule ?_)
  refine wpAny_bind (wpAny_field hz rfl (x := .ref TO) rfl ?_)
  refine wpAny_bind (wpAny_setField_rec hz (by simp) fun h₁ hz₁ hs₁ => ?_)
  replace hz₁ : IsZip h₁ z TI TO .ellipsis := hz₁
  refine wpAny_bind ?_
  have start : ZLoop z TI TO cs k s.heap 0 h₁ := {
    zip := hz₁
    to := ⟨arr0, hs₁.extBut _ _ TOz hTO, hsz, fun i c h => by omega⟩
    its := fun i c hc => by
      have hm := List.mem_of_getElem? hc
      rw [if_neg (by omega)]
      exact (hi c hm).1.to fun o e => hs₁.extBut _ _ (fun q => zi (q ▸ mem_it c hm)) e
    seqs := fun c hc => (hi c hc).2.to fun o e => hs₁.extBut _ _ (lz c hc) e
    keep := fun a o a1 _ _ e => hs₁.extBut _ _ a1 e
    size := hs₁.1 }
  have lz0 : ((cs.map fun c => Value.ref c.it).zipIdx).length = cs.length := by rw [List.length_zipIdx, List.length_map]
  refine wpAny_forIn_list _ (fun rest b s1 => ∃ j h, s1 = { s with heap := h } ∧ b = (none, ()) ∧ j ≤ cs.length ∧ rest = ((cs.map fun c => Value.ref c.it).zipIdx).drop j ∧ ZLoop z TI TO cs k s.heap j h) _ (fun x rest b s1 hI => ?_) (fun b s1 hI => ?_) _ _ ⟨0, h₁, rfl, rfl, Nat.zero_le _, rfl, start⟩
  · obtain ⟨j, h, rfl, rfl, hj, hr, L⟩ := hI
    have hjl : j < cs.length := by
      have := congrArg List.length hr
      rw [List.length_cons, List.length_drop, lz0] at this
      omega
    have hcj : cs[j]? = some cs[j] := List.getElem?_eq_getElem hjl
    generalize hc : cs[j] = c at hcj
    have hm : c ∈ cs := List.mem_of_getElem? hcj
    have hx : x = (Value.ref c.it, j) ∧ rest = ((cs.map fun c => Value.ref c.it).zipIdx).drop (j + 1) := by
      rw [List.drop_eq_getElem_cons (by rw [lz0]; exact hjl)] at hr
      have h1 := List.head_eq_of_cons_eq hr
      refine ⟨?_, List.tail_eq_of_cons_eq hr⟩
      rw [h1, List.getElem_zipIdx, List.getElem_map, hc]
      simp
    obtain ⟨rfl, rfl⟩ := hx
    have hit := L.its j c hcj
    rw [if_neg (by omega)] at hit
    refine wpAny_bind (wpAny_onRaise ?_)
    show wpAny _ _ (Builtin.SmallTypes.nextOf (.ref c.it) >>= _) _ _ _
    refine wpAny_bind (nextOf_zc hh hit (L.seqs c hm) (fun y hy h₂ hi₂ hs₂ => wpAny_pure ?_) (fun hy h₂ e hs₂ he => ?_))
    · obtain ⟨arr, hTO2, hasz, harr⟩ := L.to
      have hTO₂ : IsTupA h₂ TO arr := hs₂.extBut _ _ (fun q => TOi (q ▸ mem_it c hm)) hTO2
      refine wpAny_bind (wpAny_seqItems hTO₂ rfl ?_)
      refine wpAny_bind (wpAny_updateSeq hTO₂ rfl ?_ (by rw [hasz, sizeLine_eq]; omega) (by rw [Array.size_setIfInBounds, hasz, sizeLine_eq]; omega))
      have hTO₃ : IsTupA (h₂.update TO (Obj.mapSeq fun xs => xs.setIfInBounds j y)) TO (arr.setIfInBounds j y) := by
        show _ = _
        rw [Heap.get?_update_self _ hTO₂ rfl]
        simp [Obj.mapSeq]
      have hs₃ : Heap.SameBut TO h₂ (h₂.update TO (Obj.mapSeq fun xs => xs.setIfInBounds j y)) := Heap.SameBut.update ..
      refine wpAny_bind (wpAny_letGo (wpAny_pure ?_))
      refine ⟨j + 1, _, rfl, rfl, hjl, rfl, ?_⟩
      exact {
        zip := hs₃.extBut _ _ TOz.symm (hs₂.extBut _ _ (fun q => zi (q ▸ mem_it c hm)) L.zip)
        to := ⟨_, hTO₃, by rw [Array.size_setIfInBounds, hasz], fun i c' hi' hc' => by
          by_cases hij : i = j
          · subst hij
            rw [hcj] at hc'
            cases hc'
            exact ⟨y, by rw [Array.getElem?_setIfInBounds_self_of_lt (by omega)], hy⟩
          · obtain ⟨y', h1, h2⟩ := harr i c' (by omega) hc'
            exact ⟨y', by rw [Array.getElem?_setIfInBounds_ne (fun q => hij q.symm)]; exact h1, h2⟩⟩
        its := fun i c' hc' => by
          have hm' := List.mem_of_getElem? hc'
          by_cases hij : i = j
          · subst hij
            rw [hcj] at hc'
            cases hc'
            rw [if_pos (by omega)]
            exact hi₂.to fun o e => hs₃.extBut _ _ (fun q => TOi (q ▸ mem_it c hm)) e
          · have hne' : c'.it ≠ c.it := fun q => by
              have h1 : (zits cs)[i]? = some c'.it := by unfold zits; rw [List.getElem?_map, hc']; rfl
              have h2 : (zits cs)[j]? = some c.it := by unfold zits; rw [List.getElem?_map, hcj]; rfl
              rw [← q] at h2
              obtain ⟨l1, e1⟩ := List.getElem?_eq_some_iff.mp h1
              obtain ⟨l2, e2⟩ := List.getElem?_eq_some_iff.mp h2
              exact hij ((List.getElem_inj nits).mp (e1.trans e2.symm))
            have := L.its i c' hc'
            have e3 : (if i < j + 1 then k + 1 else k) = if i < j then k + 1 else k := by
              by_cases h1 : i < j
              · rw [if_pos h1, if_pos (by omega)]
              · rw [if_neg h1, if_neg (by omega)]
            rw [e3]
            exact this.to fun o e => hs₃.extBut _ _ (fun q => TOi (q ▸ mem_it c' hm')) (hs₂.extBut _ _ hne' e)
        seqs := fun c' hc' => (L.seqs c' hc').to fun o e => hs₃.extBut _ _ (lTO c' hc') (hs₂.extBut _ _ (fun q => li c' hc' (q ▸ mem_it c hm)) e)
        keep := fun a o a1 a2 a3 e => hs₃.extBut _ _ a2 (hs₂.extBut _ _ (fun q => a3 (q ▸ mem_it c hm)) (L.keep a o a1 a2 a3 e))
        size := by rw [hs₃.1, hs₂.1]; exact L.size }
    · obtain ⟨oe, hoe, hce⟩ := he
      have hz₂ : IsZip h₂ z TI TO .ellipsis := hs₂ _ _ (fun q => zi (q ▸ mem_it c hm)) L.zip
      have hez : e ≠ z := fun x => by subst x; rw [hz₂] at hoe; cases hoe; simp at hce
      refine wpAny_setField_rec hz₂ (by simp) fun h₃ _ hs₃ => hE ⟨c, hm, hy⟩ h₃ e (fun a o a1 a2 a3 x => hs₃.extBut _ _ a1 (hs₂ _ _ (fun q => a3 (q ▸ mem_it c hm)) (L.keep a o a1 a2 a3 x))) ⟨oe, hs₃.extBut _ _ hez hoe, hce⟩
  · obtain ⟨j, h, rfl, rfl, hj, hr, L⟩ := hI
    have hjl : j = cs.length := by
      have := congrArg List.length hr
      rw [List.length_nil, List.length_drop, lz0] at this
      omega
    subst hjl
    obtain ⟨arr, hTO2, hasz, harr⟩ := L.to
    have hil : ∀ {i : Nat} {c : Zc}, cs[i]? = some c → i < cs.length := fun h => (List.getElem?_eq_some_iff.mp h).1
    refine wpAny_bind (wpAny_seqItems hTO2 rfl ?_)
    refine wpAny_bind (wpAny_newTuple ?_ (by rw [Array.length_toList, hasz, sizeLine_eq]; omega))
    show wpAny _ _ (Builtin.SmallTypes.ownedTupleHandOut (.ref z) (.ref h.objs.size) >>= _) _ _ _
    have hzlt : z < h.objs.size := Heap.lt_size L.zip
    refine wpAny_bind ?_
    unfold Builtin.SmallTypes.ownedTupleHandOut
    have hz₆ : IsZip (h.push { cls := .type "tuple", data := .seq arr.toList.toArray }) z TI TO .ellipsis := Heap.get?_push_of_some _ L.zip
    refine wpAny_bind (wpAny_setField_rec hz₆ (by simp) fun h₇ hz₇ hs₇ => ?_)
    replace hz₇ : IsZip h₇ z TI TO (rawInt h.objs.size) := hz₇
    refine wpAny_setField_rec hz₇ (by simp) fun h₈ hz₈ hs₈ => ?_
    replace hz₈ : IsZip h₈ z TI TO (rawInt h.objs.size) := hz₈
    have up : ∀ c o, c ≠ z → h.get? c = some o → h₈.get? c = some o := fun c o c1 e => hs₈.extBut _ _ c1 (hs₇.extBut _ _ c1 (Heap.get?_push_of_some _ e))
    have earr : arr.toList.toArray = arr := by simp
    have hT₈ : IsTupA h₈ h.objs.size arr := by
      have q : h₈.get? h.objs.size = some { cls := .type "tuple", data := .seq arr.toList.toArray } := hs₈.extBut _ _ (Nat.ne_of_gt hzlt) (hs₇.extBut _ _ (Nat.ne_of_gt hzlt) (Heap.get?_push_size _ rfl))
      rw [earr] at q
      exact q
    rw [L.size] at hz₈ hT₈
    refine wpAny_pure ⟨_, rfl, ?_⟩
    show Q (.ref h.objs.size) _
    rw [L.size]
    exact hQ arr h₈ hasz (fun i c hc => harr i c (hil hc) hc) hz₈ (up _ _ TOz hTO2) (fun c hc => by
      obtain ⟨i, hi'⟩ := List.getElem?_of_mem hc
      have := L.its i c hi'
      rw [if_pos (hil hi')] at this
      exact this.to fun o e => up _ o (fun q => zi (q ▸ mem_it c hc)) e) hT₈ fun a o a1 a2 a3 e => up a o a1 (L.keep a o a1 a2 a3 e)

theorem pyNext_zipN_item {z TI TO : Addr} {cs : List Zc} {k : Nat} {arr0 : Array Value} {Q : Option Value → Shared → Prop} (hh : A.handled = none) (D : ZApart z TI TO cs) (hne : cs ≠ []) (hl : cs.length ≤ 100)
    (hz : IsZip s.heap z TI TO .none) (hTI : IsTupA s.heap TI (cs.map fun c => Value.ref c.it).toArray) (hTO : IsTupA s.heap TO arr0) (hsz : arr0.size = cs.length)
    (hi : ∀ c ∈ cs, ZIt s.heap c k ∧ ZSeq s.heap c) (hx : ∀ c ∈ cs, c.xs[k]? ≠ none)
    (hQ : ∀ (arr : Array Value) h', arr.size = cs.length → (∀ (i : Nat) (c : Zc), cs[i]? = some c → ∃ y, arr[i]? = some y ∧ c.xs[k]? = some y) → IsZip h' z TI TO (rawInt s.heap.objs.size) → IsTupA h' TO arr → (∀ c ∈ cs, ZIt h' c (k + 1)) → IsTupA h' s.heap.objs.size arr →
      (∀ a o, a ≠ z → a ≠ TO → a ∉ zits cs → s.heap.get? a = some o → h'.get? a = some o) → Q (some (.ref s.heap.objs.size)) { s with heap := h' }) :
    wpAny (model prog w) A (pyNext (.ref z)) Q E s := by
  have hT : s.TypeIs (.ref z) "zip" := ⟨_, hz, rfl⟩
  unfold pyNext
  exact wpAny_bind (wpAny_attempt (wpAny_callSpecial?_slot (name := Str.ofString "__next__") hT F.slot_zip_next
    (wpAny_call_entry F.slot_zip_next hT F.entry_zip_next
      (zipN_next (A := A.in1) hh D hne hl hz hTI hTO hsz hi (fun arr h' a1 a2 a3 a4 a5 a6 a7 => wpAny_pure (hQ arr h' a1 a2 a3 a4 a5 a6 a7)) fun ⟨c, hc, e⟩ => absurd e (hx c hc)) (F.args_zip_next_1 _))))
theorem pyNext_zipN_end {z TI TO : Addr} {cs : List Zc} {k : Nat} {arr0 : Array Value} {Q : Option Value → Shared → Prop} (hh : A.handled = none) (D : ZApart z TI TO cs) (hne : cs ≠ []) (hl : cs.length ≤ 100)
    (hz : IsZip s.heap z TI TO .none) (hTI : IsTupA s.heap TI (cs.map fun c => Value.ref c.it).toArray) (hTO : IsTupA s.heap TO arr0) (hsz : arr0.size = cs.length)
    (hi : ∀ c ∈ cs, ZIt s.heap c k ∧ ZSeq s.heap c) (hx : ∃ c ∈ cs, c.xs[k]? = none)
    (hQ : ∀ h', (∀ a o, a ≠ z → a ≠ TO → a ∉ zits cs → s.heap.get? a = some o → h'.get? a = some o) → Q none { s with heap := h' }) :
    wpAny (model prog w) A (pyNext (.ref z)) Q E s := by
  have hT : s.TypeIs (.ref z) "zip" := ⟨_, hz, rfl⟩
  unfold pyNext
  refine wpAny_bind (wpAny_attempt (wpAny_callSpecial?_slot (name := Str.ofString "__next__") hT F.slot_zip_next
    (wpAny_call_entry F.slot_zip_next hT F.entry_zip_next (zipN_next (A := A.in1) hh D hne hl hz hTI hTO hsz hi (fun arr h' a1 a2 a3 a4 a5 a6 a7 => ?_) fun _ h' e hk he => ?_) (F.args_zip_next_1 _))))
  · obtain ⟨c, hc, e⟩ := hx
    obtain ⟨i, hi'⟩ := List.getElem?_of_mem hc
    obtain ⟨y, _, h2⟩ := a2 i c hi'
    rw [e] at h2
    cases h2
  · obtain ⟨o, ho, hc⟩ := he
    refine wpAny_bind (wpAny_isInstance (T := "StopIteration") (b := true) ⟨o, ho, hc⟩ isSubtype_stop ?_)
    exact wpAny_pure (hQ _ hk)
end

/-! over the hand layer -/
def SqS (K : PySem.W.Frag) (H : Hp) (p : Addr × Bool) (xs : List V) : Prop := if p.2 = true then SqT K H p.1 xs else SqL K H p.1 xs
def ItzN (K : PySem.W.Frag) (as : List (Addr × Bool)) : It :=
  ⟨fun i H => ∀ p ∈ as, ∃ (xs : List V) (x : V), SqS K H p xs ∧ xs[i]? = some x,
    fun i H v H' => ∃ (T : Addr) (ys : List V), v = .ref T ∧ H T = none ∧ H' = upd H T (.tup ys) ∧ ys.length = as.length ∧ ∀ (j : Nat) (p : Addr × Bool) (y : V), as[j]? = some p → ys[j]? = some y → ∀ xs, SqS K H p xs → xs[i]? = some y,
    fun i H => (∀ p ∈ as, ∃ xs : List V, SqS K H p xs) ∧ ∃ p ∈ as, ∃ xs : List V, SqS K H p xs ∧ xs.length ≤ i⟩
theorem sqs_read {X : Cx} {pins : List (Addr × Obj)} {σ : L2.St} {H : Hp} {s : Shared} {p : Addr × Bool} {xs : List V} (I : Inv X pins σ H s) (h : SqS X.K H p xs) :
    ∃ its : List Value, Vals xs its ∧ ∀ it : Addr, ZSeq s.heap ⟨it, p.1, p.2, its.toArray⟩ := by
  unfold SqS at h
  by_cases e : p.2 = true
  · rw [if_pos e] at h
    obtain ⟨its, rv, q, _⟩ := I.tuple h
    exact ⟨its, rv, fun it => by unfold ZSeq; rw [if_pos e]; exact q⟩
  · rw [if_neg e] at h
    obtain ⟨its, rv, q, _⟩ := I.list h
    exact ⟨its, rv, fun it => by unfold ZSeq; rw [if_neg e]; exact q.isList⟩
theorem sqs_inj {X : Cx} {pins : List (Addr × Obj)} {σ : L2.St} {H : Hp} {s : Shared} {p : Addr × Bool} {xs ys : List V} (I : Inv X pins σ H s) (h : SqS X.K H p xs) (h' : SqS X.K H p ys) : xs = ys := by
  unfold SqS at h h'
  split at h
  · rename_i e; rw [if_pos e] at h'; exact I.tuple_inj h h'
  · rename_i e; rw [if_neg e] at h'; exact I.list_inj h h'
/-- the iterators and what they go over -/
abbrev Zt := Addr × (Addr × Bool)
def Zt.cmp (f : Addr × Bool → Array Value) (t : Zt) : Zc := ⟨t.1, t.2.1, t.2.2, f t.2⟩
def ZtIt (h : Heap) (t : Zt) (k : Nat) : Prop := if t.2.2 = true then h.IsTupleIter t.1 t.2.1 k else h.IsListIter t.1 t.2.1 k
structure ZtApart (z TI TO : Addr) (ts : List Zt) : Prop where
  nd : (z :: TI :: TO :: ts.map (·.1)).Nodup
  ap : ∀ t ∈ ts, t.2.1 ∉ (z :: TO :: ts.map (·.1))
theorem zits_cmp (f : Addr × Bool → Array Value) (ts : List Zt) : zits (ts.map (Zt.cmp f)) = ts.map (·.1) := by
  unfold zits
  rw [List.map_map]
  rfl
theorem ZtApart.cmp {z TI TO : Addr} {ts : List Zt} (D : ZtApart z TI TO ts) (f : Addr × Bool → Array Value) : ZApart z TI TO (ts.map (Zt.cmp f)) := by
  refine ⟨by rw [zits_cmp]; exact D.nd, fun c hc => ?_⟩
  obtain ⟨t, ht, rfl⟩ := List.mem_map.mp hc
  rw [zits_cmp]
  exact D.ap t ht
theorem turn_zipN {P : Program} {w : World} {K : PySem.W.Frag} {elts : List Expr} {kk : Nat} {tpos : Pos} {z TI TO : Addr} {ts : List Zt} (D : ZtApart z TI TO ts) (hne : ts ≠ []) (hl : ts.length ≤ 100) :
    Turn P w K (.Tuple elts kk tpos) (ItzN K (ts.map (·.2))) (z :: TI :: TO :: ts.map (·.1)) z (fun i h => IsZip h z TI TO .none ∧ IsTupA h TI (ts.map fun t => Value.ref t.1).toArray ∧ (∃ arr, IsTupA h TO arr ∧ arr.size = ts.length) ∧ ∀ t ∈ ts, ZtIt h t i) where
  mem := by simp
  obj := fun i h st c hc => by
    obtain ⟨hz, hTI, ⟨arr, hTO, _⟩, hi⟩ := st
    simp only [List.mem_cons] at hc
    rcases hc with q | q | q | q
    · rw [q]; exact ⟨_, hz, fun v q => nomatch q⟩
    · rw [q]; exact ⟨_, hTI, fun v q => nomatch q⟩
    · rw [q]; exact ⟨_, hTO, fun v q => nomatch q⟩
    · obtain ⟨t, ht, rfl⟩ := List.mem_map.mp q
      have := hi t ht
      unfold ZtIt at this
      split at this
      · obtain ⟨o1, e1, _, d1⟩ := this
        exact ⟨o1, e1, fun v q => by rw [d1] at q; cases q⟩
      · obtain ⟨o1, e1, _, d1⟩ := this
        exact ⟨o1, e1, fun v q => by rw [d1] at q; cases q⟩
  keep := fun i h h' st k => by
    obtain ⟨hz, hTI, ⟨arr, hTO, hs⟩, hi⟩ := st
    refine ⟨k z (by simp) _ hz, k TI (by simp) _ hTI, ⟨arr, k TO (by simp) _ hTO, hs⟩, fun t ht => ?_⟩
    have hm : t.1 ∈ z :: TI :: TO :: ts.map (·.1) := by
      have := List.mem_map_of_mem (f := fun t : Zt => t.1) ht
      simp only [List.mem_cons]
      exact .inr (.inr (.inr this))
    have := hi t ht
    unfold ZtIt at *
    split at this
    · rename_i e; rw [if_pos e]; exact this.at fun o q => k t.1 hm o q
    · rename_i e; rw [if_neg e]; exact this.at fun o q => k t.1 hm o q
  item := by
    intro X hP hw hK hc i pins s σ H E I hf st hg
    subst hP hw hK
    obtain ⟨hz, hTI, ⟨arr0, hTO, hsz⟩, hi⟩ := st
    classical
    have hrd : ∀ p : Addr × Bool, ∃ its : List Value, p ∈ ts.map (·.2) → ∃ xs, SqS X.K H p xs ∧ Vals xs its ∧ (∀ it : Addr, ZSeq s.heap ⟨it, p.1, p.2, its.toArray⟩) ∧ ∃ x, xs[i]? = some x := fun p => by
      by_cases hp : p ∈ ts.map (·.2)
      · obtain ⟨xs, x, hq, hx⟩ := hg p hp
        obtain ⟨its, rv, hZ⟩ := sqs_read I hq
        exact ⟨its, fun _ => ⟨xs, hq, rv, hZ, x, hx⟩⟩
      · exact ⟨[], fun q => absurd q hp⟩
    let f : Addr × Bool → Array Value := fun p => (hrd p).choose.toArray
    have hfz : ∀ t ∈ ts, ∃ xs, SqS X.K H t.2 xs ∧ Vals xs (f t.2).toList ∧ ZSeq s.heap (Zt.cmp f t) ∧ ∃ x, xs[i]? = some x := fun t ht => by
      obtain ⟨xs, a, b, c, d⟩ := (hrd t.2).choose_spec (List.mem_map_of_mem ht)
      exact ⟨xs, a, by show Vals xs ((hrd t.2).choose.toArray).toList; simpa using b, c t.1, d⟩
    have hzl : z < s.heap.objs.size := Heap.lt_size hz
    refine pyNext_zipN_item (cs := ts.map (Zt.cmp f)) (k := i) (I.ok.hd hc) (D.cmp f) (by simpa using hne) (by rw [List.length_map]; exact hl) hz (by rw [List.map_map]; exact hTI) hTO (by rw [List.length_map]; exact hsz) (fun c hcm => ?_) (fun c hcm => ?_) fun arr h' harr hat z' TO' hi' hT hk => ?_
    · obtain ⟨t, ht, rfl⟩ := List.mem_map.mp hcm
      obtain ⟨xs, _, _, hZ, _⟩ := hfz t ht
      exact ⟨hi t ht, hZ⟩
    · obtain ⟨t, ht, rfl⟩ := List.mem_map.mp hcm
      obtain ⟨xs, _, rv, _, x, hx⟩ := hfz t ht
      obtain ⟨u, hu, _⟩ := rv.get hx
      show (f t.2)[i]? ≠ none
      rw [← Array.getElem?_toList, hu]
      exact fun q => nomatch q
    · rw [zits_cmp] at hk
      refine ⟨_, rfl, wpAny_letOwnedTupleGo_zip (s := { s with heap := h' }) z' fun h'' z'' sb => ?_⟩
      have hT2 : h''.get? s.heap.objs.size = some { cls := .type "tuple", data := .seq arr } := (sb.2 _ (Nat.ne_of_gt hzl)).trans hT
      rw [List.length_map] at harr
      -- the items at this turn
      have hys : ∃ ys : List V, Vals ys arr.toList ∧ ∀ (j : Nat) (t : Zt) (y : V), ts[j]? = some t → ys[j]? = some y → ∀ xs, SqS X.K H t.2 xs → xs[i]? = some y := by
        have step : ∀ n, n ≤ ts.length → ∃ ys : List V, Vals ys (arr.toList.take n) ∧ ∀ (j : Nat) (t : Zt) (y : V), ts[j]? = some t → ys[j]? = some y → ∀ xs, SqS X.K H t.2 xs → xs[i]? = some y := by
          intro n
          induction n with
          | zero => exact fun _ => ⟨[], .nil, fun j t y _ hy => by simp at hy⟩
          | succ n ih =>
            intro hn
            obtain ⟨ys, rv, hy⟩ := ih (by omega)
            have hlt : n < arr.toList.length := by rw [Array.length_toList, harr]; exact hn
            have ht : ts[n]? = some ts[n] := List.getElem?_eq_getElem hn
            obtain ⟨xs, hq, rx, _, x, hx⟩ := hfz ts[n] (List.getElem_mem hn)
            obtain ⟨u, hu, ru⟩ := rx.get hx
            obtain ⟨y', hy1, hy2⟩ := hat n (Zt.cmp f ts[n]) (by rw [List.getElem?_map, ht]; rfl)
            have hu2 : y' = u := by
              have : (f ts[n].2)[i]? = some y' := hy2
              rw [← Array.getElem?_toList, hu] at this
              exact (Option.some.inj this).symm
            have hlen : ys.length = n := by
              have := rv.length
              rw [List.length_take, Nat.min_eq_left (Nat.le_of_lt hlt)] at this
              exact this
            refine ⟨ys ++ [x], ?_, fun j t y ht' hy' => ?_⟩
            · rw [List.take_add_one, show arr.toList[n]? = some y' from by rw [Array.getElem?_toList]; exact hy1, hu2]
              exact rv.append (.cons ru .nil)
            · by_cases hj : j < n
              · rw [List.getElem?_append_left (by omega)] at hy'
                exact hy j t y ht' hy'
              · rw [List.getElem?_append_right (by omega), hlen] at hy'
                have hj2 : j = n := by
                  have := (List.getElem?_eq_some_iff.mp hy').1
                  simp at this
                  omega
                subst hj2
                rw [Nat.sub_self] at hy'
                cases hy'
                rw [ht] at ht'
                cases ht'
                intro xs' hq'
                rw [sqs_inj I hq' hq]
                exact hx
        obtain ⟨ys, rv, hy⟩ := step ts.length (Nat.le_refl _)
        rw [List.take_of_length_le (by rw [Array.length_toList, harr]; exact Nat.le_refl _)] at rv
        exact ⟨ys, rv, hy⟩
      obtain ⟨ys, rv, hys⟩ := hys
      have hyl : ys.length = ts.length := by rw [rv.length, Array.length_toList, harr]
      have new : ObjOk X.prog X.w (upd H s.heap.objs.size (.tup ys)) h'' s.heap.objs.size (.tup ys) :=
        ⟨by rw [hyl, sizeLine_eq]; omega, arr.toList, rv, ⟨_, hT2, rfl, _, by simp; rfl⟩⟩
      have I1 : Inv X pins σ (upd H s.heap.objs.size (.tup ys)) { s with heap := h'' } :=
        I.turnedNew (t' := s.toks) (ch := z :: TI :: TO :: ts.map (·.1)) (fun c o hb q => by
          simp only [List.mem_cons, not_or] at hb
          exact (sb.2 c hb.1).trans (hk c o hb.1 hb.2.2.1 hb.2.2.2 q)) hf (Nat.le_refl _) new
      have nd := D.nd
      rw [List.nodup_cons, List.nodup_cons, List.nodup_cons] at nd
      simp only [List.mem_cons, not_or] at nd
      refine ⟨.ref s.heap.objs.size, _, I1, rfl, ⟨_, ys, rfl, I.hok.fresh (Nat.le_refl _), rfl, by rw [List.length_map]; exact hyl, fun j p y hp hy xs hq => ?_⟩, ⟨z'', ?_, ⟨arr, ?_, harr⟩, fun t ht => ?_⟩, fun c hcm => ?_⟩
      · rw [List.getElem?_map] at hp
        cases e : ts[j]? with
        | none => rw [e] at hp; cases hp
        | some t =>
          rw [e] at hp
          cases hp
          exact hys j t y e hy xs hq
      · exact (sb.2 _ (fun q => nd.1.1 q.symm)).trans (hk _ _ (fun q => nd.1.1 q.symm) nd.2.1.1 nd.2.1.2 hTI)
      · exact (sb.2 _ (fun q => nd.1.2.1 q.symm)).trans TO'
      · have := hi' (Zt.cmp f t) (List.mem_map_of_mem ht)
        have hne : t.1 ≠ z := fun q => nd.1.2.2 (q ▸ List.mem_map_of_mem (f := fun t : Zt => t.1) ht)
        exact ZIt.to (c := Zt.cmp f t) this fun o q => (sb.2 _ hne).trans q
      · have hlt : c < s.heap.objs.size := by
          simp only [List.mem_cons] at hcm
          rcases hcm with q | q | q | q
          · rw [q]; exact hzl
          · rw [q]; exact Heap.lt_size hTI
          · rw [q]; exact Heap.lt_size hTO
          · obtain ⟨t, ht, rfl⟩ := List.mem_map.mp q
            have := hi t ht
            unfold ZtIt at this
            split at this
            · obtain ⟨_, e1, _⟩ := this; exact Heap.lt_size e1
            · obtain ⟨_, e1, _⟩ := this; exact Heap.lt_size e1
        rw [upd_ne (Nat.ne_of_lt hlt)]
        exact (hf c hcm).1
  done := by
    intro X hP hw hK hc i pins s σ H E I hf st hg
    subst hP hw hK
    obtain ⟨hz, hTI, ⟨arr0, hTO, hsz⟩, hi⟩ := st
    obtain ⟨hall, p0, hp0, xs0, hq0, hend⟩ := hg
    classical
    have hrd : ∀ p : Addr × Bool, ∃ its : List Value, p ∈ ts.map (·.2) → ∃ xs, SqS X.K H p xs ∧ Vals xs its ∧ (∀ it : Addr, ZSeq s.heap ⟨it, p.1, p.2, its.toArray⟩) := fun p => by
      by_cases hp : p ∈ ts.map (·.2)
      · obtain ⟨xs, hq⟩ := hall p hp
        obtain ⟨its, rv, hZ⟩ := sqs_read I hq
        exact ⟨its, fun _ => ⟨xs, hq, rv, hZ⟩⟩
      · exact ⟨[], fun q => absurd q hp⟩
    let f : Addr × Bool → Array Value := fun p => (hrd p).choose.toArray
    have hfz : ∀ t ∈ ts, ∃ xs, SqS X.K H t.2 xs ∧ Vals xs (f t.2).toList ∧ ZSeq s.heap (Zt.cmp f t) := fun t ht => by
      obtain ⟨xs, a, b, c⟩ := (hrd t.2).choose_spec (List.mem_map_of_mem ht)
      exact ⟨xs, a, by show Vals xs ((hrd t.2).choose.toArray).toList; simpa using b, c t.1⟩
    obtain ⟨t0, ht0, rfl⟩ := List.mem_map.mp hp0
    refine pyNext_zipN_end (cs := ts.map (Zt.cmp f)) (k := i) (I.ok.hd hc) (D.cmp f) (by simpa using hne) (by rw [List.length_map]; exact hl) hz (by rw [List.map_map]; exact hTI) hTO (by rw [List.length_map]; exact hsz) (fun c hcm => ?_) ⟨Zt.cmp f t0, List.mem_map_of_mem ht0, ?_⟩ fun h' hk => ?_
    · obtain ⟨t, ht, rfl⟩ := List.mem_map.mp hcm
      obtain ⟨xs, _, _, hZ⟩ := hfz t ht
      exact ⟨hi t ht, hZ⟩
    · obtain ⟨xs, hq, rv, _⟩ := hfz t0 ht0
      rw [sqs_inj I hq0 hq] at hend
      show (f t0.2)[i]? = none
      rw [← Array.getElem?_toList]
      exact List.getElem?_eq_none (by rw [← rv.length]; exact hend)
    · rw [zits_cmp] at hk
      exact ⟨rfl, I.turnedL (t' := s.toks) (ch := z :: TI :: TO :: ts.map (·.1)) (fun c o hb q => by
        simp only [List.mem_cons, not_or] at hb
        exact hk c o hb.1 hb.2.2.1 hb.2.2.2 q) hf⟩
  self := fun A i s Q E st h => wpAny_pyIter_zip st.1 h
theorem typeCall_zip_3 (a b c : Value) : checkTypeCall "zip" ⟨[a, b, c], []⟩ = pure () := by kernel_rfl
theorem newCall_zip_3 (a b c : Value) : checkBuiltinCall "zip.__new__" ⟨[.type "zip", a, b, c], []⟩ = pure () := by kernel_rfl
theorem args_object_init_4 (a b c d : Value) : argsOk "object.__init__" ⟨[a, b, c, d], []⟩ := by
  unfold argsOk; rw [signature?_of (id := "object.__init__") (n := ['_', '_', 't', 'i', 'n', 'i', '_', '_']) (o := ['t', 'c', 'e', 'j', 'b', 'o']) (by kernel_rfl) F.owner_object]; kernel_rfl
abbrev ZipLTH1 (h : Heap) (l1 : Addr) : Heap := h.push { cls := .type "list_iterator", data := .fields #[.ref l1, .int 0 0] }
abbrev ZipLTH2 (h : Heap) (l1 l2 : Addr) : Heap := (ZipLTH1 h l1).push { cls := .type "tuple_iterator", data := .fields #[.ref l2, .int 0 0] }
abbrev ZipLTHI (h : Heap) (l1 l2 : Addr) : Heap := (ZipLTH2 h l1 l2).push { cls := .type "tuple", data := .seq #[.ref h.objs.size, .ref (ZipLTH1 h l1).objs.size] }
abbrev ZipLTHO (h : Heap) (l1 l2 : Addr) : Heap := (ZipLTHI h l1 l2).push { cls := .type "tuple", data := .seq #[.none, .none] }
abbrev ZipLTHZ (h : Heap) (l1 l2 : Addr) : Heap := (ZipLTHO h l1 l2).push { cls := .type "zip", data := .fields #[.none, .bool false, .bool false, .ref (ZipLTH2 h l1 l2).objs.size, .ref (ZipLTHI h l1 l2).objs.size] }
theorem meets_ZipLT_new (l1 l2 : Addr) (xs1 xs2 : Array Value) : Meets (Builtin.«zip.__new__» ⟨[.type "zip", .ref l1, .ref l2], []⟩) (fun _ R s => s.heap.IsList l1 xs1 ∧ s.heap.IsTuple l2 xs2 ∧ R (.ok (.ret (.ref (ZipLTHO s.heap l1 l2).objs.size))) { s with heap := ZipLTHZ s.heap l1 l2 }) :=
  .of_wp fun prog w A R s h => by
    obtain ⟨hp, g, d, tk, os⟩ := s; obtain ⟨q1, q2, h⟩ := h
    have hsub := sub_zip
    have L1 : Heap.IsList (Shared.heap ⟨hp, g, d, tk, os⟩) l1 xs1 := q1
    have L2 : Heap.IsTuple (Shared.heap ⟨(ZipLTH1 hp l1), g, d, tk, os⟩) l2 xs2 := (Heap.IsTuple.push q2 _)
    wp_walk using wpAny_pyIter_list L1, wpAny_pyIter_tuple L2
    exact ⟨_, rfl, h⟩
section
variable {prog : Program} {w : World} {A : Around} {E : Value → Shared → Prop} {s : Shared}
theorem call_ZipLT {l1 l2 : Addr} {xs1 xs2 : Array Value} {Q : Value → Shared → Prop} (q1 : s.heap.IsList l1 xs1) (q2 : s.heap.IsTuple l2 xs2)
    (h : ∀ h', IsZip h' (s.heap.objs.size + 4) (s.heap.objs.size + 2) (s.heap.objs.size + 3) .none → IsTupA h' (s.heap.objs.size + 2) #[.ref s.heap.objs.size, .ref (s.heap.objs.size + 1)] → IsTupA h' (s.heap.objs.size + 3) #[.none, .none] → h'.IsListIter s.heap.objs.size l1 0 → h'.IsTupleIter (s.heap.objs.size + 1) l2 0 → h'.objs.size = s.heap.objs.size + 5 → (∀ c o, s.heap.get? c = some o → h'.get? c = some o) → Q (.ref (s.heap.objs.size + 4)) { s with heap := h' }) :
    wpAny (model prog w) A (call (.type "zip") [.ref l1, .ref l2]) Q E s := by
  refine callType_new F.called_zip (by decide) (F.typeCall_zip_2 _ _) (F.newCall_zip_2 _ _) (fun obj => F.args_object_init_3 obj _ _) F.entry_zip_new
    (meets_ZipLT_new l1 l2 xs1 xs2) ⟨q1, q2, ?_⟩
  have z1 : (ZipLTH1 s.heap l1).objs.size = s.heap.objs.size + 1 := Heap.size_push ..
  have z2 : (ZipLTH2 s.heap l1 l2).objs.size = s.heap.objs.size + 2 := by rw [Heap.size_push, z1]
  have z3 : (ZipLTHI s.heap l1 l2).objs.size = s.heap.objs.size + 3 := by rw [Heap.size_push, z2]
  have z4 : (ZipLTHO s.heap l1 l2).objs.size = s.heap.objs.size + 4 := by rw [Heap.size_push, z3]
  have z5 : (ZipLTHZ s.heap l1 l2).objs.size = s.heap.objs.size + 5 := by rw [Heap.size_push, z4]
  have g1 : (ZipLTHZ s.heap l1 l2).get? s.heap.objs.size = some _ := Heap.get?_push_of_some _ (Heap.get?_push_of_some _ (Heap.get?_push_of_some _ (Heap.get?_push_of_some _ (Heap.get?_push_size _ rfl))))
  have g2 : (ZipLTHZ s.heap l1 l2).get? (ZipLTH1 s.heap l1).objs.size = some _ := Heap.get?_push_of_some _ (Heap.get?_push_of_some _ (Heap.get?_push_of_some _ (Heap.get?_push_size _ rfl)))
  have g3 : (ZipLTHZ s.heap l1 l2).get? (ZipLTH2 s.heap l1 l2).objs.size = some _ := Heap.get?_push_of_some _ (Heap.get?_push_of_some _ (Heap.get?_push_size _ rfl))
  have g4 : (ZipLTHZ s.heap l1 l2).get? (ZipLTHI s.heap l1 l2).objs.size = some _ := Heap.get?_push_of_some _ (Heap.get?_push_size _ rfl)
  have g5 : (ZipLTHZ s.heap l1 l2).get? (ZipLTHO s.heap l1 l2).objs.size = some _ := Heap.get?_push_size _ rfl
  show _ ∧ _
  rw [z1] at g2
  rw [z2] at g3
  rw [z3] at g4
  rw [z4] at g5
  rw [z1] at g3
  rw [z2, z3] at g5
  rw [z4]
  exact ⟨⟨_, g5, rfl⟩, h _ g5 g3 g4 ⟨_, g1, rfl, rfl⟩ ⟨_, g2, rfl, rfl⟩ z5 fun c o x => Heap.get?_push_of_some _ (Heap.get?_push_of_some _ (Heap.get?_push_of_some _ (Heap.get?_push_of_some _ (Heap.get?_push_of_some _ (x)))))⟩
end
def iZipLT (K : PySem.W.Frag) (ta : TA) : TI := fun σ H R => ta σ H fun vs H1 => ∃ a1 a2 ys1 ys2, vs = [.ref a1, .ref a2] ∧ SqL K H1 a1 ys1 ∧ SqT K H1 a2 ys2 ∧ R (ItzN K [(a1, false), (a2, true)]) H1
theorem pi_ZipLT {X : Cx} {e1 e2 : Expr} {ta : TA} {p pos tpos : Pos} {elts : List Expr} {kk : Nat} (hg : Gl X "zip") (hm : X.mg "zip" = none) (ha : PA X [e1, e2] ta)
    (hs : starEach [e1, e2] X.env = (false, eval e1 X.env) :: starEach [e2] X.env := by rfl) (hpl : (backTo pos (starEach [e2] X.env)).any (·.1) = false := by rfl) :
    PI X (.Tuple elts kk tpos) (.Call (.Name "zip" p) [e1, e2] [] pos) (iZipLT X.K ta) := by
  refine ⟨fun pins s σ H R I h => ?_⟩
  refine PyProof.Rows.Call_ (ld_blt I hg hm PyProof.Rows.boot_zip (PyProof.Rows.callWith_type1 (thn (ha.run pos pins s σ H _ I h) fun us s1 ⟨vs, H1, I1, r1, q1⟩ => ?_) hs hpl))
  obtain ⟨a1, a2, ys1, ys2, ex, hq1, hq2, q⟩ := q1
  subst ex
  cases r1 with
  | cons r0a r1 =>
    cases r1 with
    | cons r1a r1 =>
      cases r1
      cases r0a
      cases r1a
      obtain ⟨its1, rv1, p1, _⟩ := I1.list hq1
      have la1 : @LT.lt Nat _ a1 s1.heap.objs.size := p1.lt
      obtain ⟨its2, rv2, p2, _⟩ := I1.tuple hq2
      have la2 : @LT.lt Nat _ a2 s1.heap.objs.size := by obtain ⟨_, e, _⟩ := p2; exact Heap.lt_size e
      refine call_ZipLT p1.isList p2 fun h' hz hTI hTO h1 h2 hsz hk => wpAny_pyIter_zip hz ?_
      have I2 : Inv X pins σ H1 { s1 with heap := h' } := I1.kept (t' := s1.toks) hk
      refine ⟨s1.heap.objs.size + 4, _, _, _, H1, rfl, I2, turn_zipN (TI := s1.heap.objs.size + 2) (TO := s1.heap.objs.size + 3) (ts := [(s1.heap.objs.size, (a1, false)), (s1.heap.objs.size + 1, (a2, true))]) ⟨?_, ?_⟩ (by simp) (by simp), ⟨hz, hTI, ⟨_, hTO, rfl⟩, ?_⟩, fun c hcm => ?_, q⟩
      · simp only [List.map_cons, List.map_nil, List.nodup_cons, List.mem_cons, List.not_mem_nil, or_false, not_or, List.nodup_nil, and_true]
        repeat' apply And.intro
        all_goals (first | exact not_false | (intro (e : @Eq Nat _ _); omega))
      · intro t ht
        simp only [List.mem_cons, List.not_mem_nil, or_false] at ht
        rcases ht with rfl | rfl <;> (simp only [List.map_cons, List.map_nil, List.mem_cons, List.not_mem_nil, or_false, not_or]; (repeat' apply And.intro) <;> (first | exact not_false | (intro (e : @Eq Nat _ _); omega)))
      · intro t ht
        simp only [List.mem_cons, List.not_mem_nil, or_false] at ht
        rcases ht with rfl | rfl
        · exact h1
        · exact h2
      · have hle : s1.heap.objs.size ≤ c := by
          simp only [List.map_cons, List.map_nil, List.mem_cons, List.not_mem_nil, or_false] at hcm
          rcases hcm with e | e | e | e | e <;> (have e : @Eq Nat _ _ := e; omega)
        exact I1.fpOk hle (I1.hok.fresh hle)
abbrev Zip3H1 (h : Heap) (l1 : Addr) : Heap := h.push { cls := .type "list_iterator", data := .fields #[.ref l1, .int 0 0] }
abbrev Zip3H2 (h : Heap) (l1 l2 : Addr) : Heap := (Zip3H1 h l1).push { cls := .type "list_iterator", data := .fields #[.ref l2, .int 0 0] }
abbrev Zip3H3 (h : Heap) (l1 l2 l3 : Addr) : Heap := (Zip3H2 h l1 l2).push { cls := .type "list_iterator", data := .fields #[.ref l3, .int 0 0] }
abbrev Zip3HI (h : Heap) (l1 l2 l3 : Addr) : Heap := (Zip3H3 h l1 l2 l3).push { cls := .type "tuple", data := .seq #[.ref h.objs.size, .ref (Zip3H1 h l1).objs.size, .ref (Zip3H2 h l1 l2).objs.size] }
abbrev Zip3HO (h : Heap) (l1 l2 l3 : Addr) : Heap := (Zip3HI h l1 l2 l3).push { cls := .type "tuple", data := .seq #[.none, .none, .none] }
abbrev Zip3HZ (h : Heap) (l1 l2 l3 : Addr) : Heap := (Zip3HO h l1 l2 l3).push { cls := .type "zip", data := .fields #[.none, .bool false, .bool false, .ref (Zip3H3 h l1 l2 l3).objs.size, .ref (Zip3HI h l1 l2 l3).objs.size] }
theorem meets_Zip3_new (l1 l2 l3 : Addr) (xs1 xs2 xs3 : Array Value) : Meets (Builtin.«zip.__new__» ⟨[.type "zip", .ref l1, .ref l2, .ref l3], []⟩) (fun _ R s => s.heap.IsList l1 xs1 ∧ s.heap.IsList l2 xs2 ∧ s.heap.IsList l3 xs3 ∧ R (.ok (.ret (.ref (Zip3HO s.heap l1 l2 l3).objs.size))) { s with heap := Zip3HZ s.heap l1 l2 l3 }) :=
  .of_wp fun prog w A R s h => by
    obtain ⟨hp, g, d, tk, os⟩ := s; obtain ⟨q1, q2, q3, h⟩ := h
    have hsub := sub_zip
    have L1 : Heap.IsList (Shared.heap ⟨hp, g, d, tk, os⟩) l1 xs1 := q1
    have L2 : Heap.IsList (Shared.heap ⟨(Zip3H1 hp l1), g, d, tk, os⟩) l2 xs2 := (Heap.IsList.push q2 _)
    have L3 : Heap.IsList (Shared.heap ⟨(Zip3H2 hp l1 l2), g, d, tk, os⟩) l3 xs3 := (Heap.IsList.push (Heap.IsList.push q3 _) _)
    wp_walk using wpAny_pyIter_list L1, wpAny_pyIter_list L2, wpAny_pyIter_list L3
    exact ⟨_, rfl, h⟩
section
variable {prog : Program} {w : World} {A : Around} {E : Value → Shared → Prop} {s : Shared}
theorem call_Zip3 {l1 l2 l3 : Addr} {xs1 xs2 xs3 : Array Value} {Q : Value → Shared → Prop} (q1 : s.heap.IsList l1 xs1) (q2 : s.heap.IsList l2 xs2) (q3 : s.heap.IsList l3 xs3)
    (h : ∀ h', IsZip h' (s.heap.objs.size + 5) (s.heap.objs.size + 3) (s.heap.objs.size + 4) .none → IsTupA h' (s.heap.objs.size + 3) #[.ref s.heap.objs.size, .ref (s.heap.objs.size + 1), .ref (s.heap.objs.size + 2)] → IsTupA h' (s.heap.objs.size + 4) #[.none, .none, .none] → h'.IsListIter s.heap.objs.size l1 0 → h'.IsListIter (s.heap.objs.size + 1) l2 0 → h'.IsListIter (s.heap.objs.size + 2) l3 0 → h'.objs.size = s.heap.objs.size + 6 → (∀ c o, s.heap.get? c = some o → h'.get? c = some o) → Q (.ref (s.heap.objs.size + 5)) { s with heap := h' }) :
    wpAny (model prog w) A (call (.type "zip") [.ref l1, .ref l2, .ref l3]) Q E s := by
  refine callType_new F.called_zip (by decide) (typeCall_zip_3 _ _ _) (newCall_zip_3 _ _ _) (fun obj => args_object_init_4 obj _ _ _) F.entry_zip_new
    (meets_Zip3_new l1 l2 l3 xs1 xs2 xs3) ⟨q1, q2, q3, ?_⟩
  have z1 : (Zip3H1 s.heap l1).objs.size = s.heap.objs.size + 1 := Heap.size_push ..
  have z2 : (Zip3H2 s.heap l1 l2).objs.size = s.heap.objs.size + 2 := by rw [Heap.size_push, z1]
  have z3 : (Zip3H3 s.heap l1 l2 l3).objs.size = s.heap.objs.size + 3 := by rw [Heap.size_push, z2]
  have z4 : (Zip3HI s.heap l1 l2 l3).objs.size = s.heap.objs.size + 4 := by rw [Heap.size_push, z3]
  have z5 : (Zip3HO s.heap l1 l2 l3).objs.size = s.heap.objs.size + 5 := by rw [Heap.size_push, z4]
  have z6 : (Zip3HZ s.heap l1 l2 l3).objs.size = s.heap.objs.size + 6 := by rw [Heap.size_push, z5]
  have g1 : (Zip3HZ s.heap l1 l2 l3).get? s.heap.objs.size = some _ := Heap.get?_push_of_some _ (Heap.get?_push_of_some _ (Heap.get?_push_of_some _ (Heap.get?_push_of_some _ (Heap.get?_push_of_some _ (Heap.get?_push_size _ rfl)))))
  have g2 : (Zip3HZ s.heap l1 l2 l3).get? (Zip3H1 s.heap l1).objs.size = some _ := Heap.get?_push_of_some _ (Heap.get?_push_of_some _ (Heap.get?_push_of_some _ (Heap.get?_push_of_some _ (Heap.get?_push_size _ rfl))))
  have g3 : (Zip3HZ s.heap l1 l2 l3).get? (Zip3H2 s.heap l1 l2).objs.size = some _ := Heap.get?_push_of_some _ (Heap.get?_push_of_some _ (Heap.get?_push_of_some _ (Heap.get?_push_size _ rfl)))
  have g4 : (Zip3HZ s.heap l1 l2 l3).get? (Zip3H3 s.heap l1 l2 l3).objs.size = some _ := Heap.get?_push_of_some _ (Heap.get?_push_of_some _ (Heap.get?_push_size _ rfl))
  have g5 : (Zip3HZ s.heap l1 l2 l3).get? (Zip3HI s.heap l1 l2 l3).objs.size = some _ := Heap.get?_push_of_some _ (Heap.get?_push_size _ rfl)
  have g6 : (Zip3HZ s.heap l1 l2 l3).get? (Zip3HO s.heap l1 l2 l3).objs.size = some _ := Heap.get?_push_size _ rfl
  show _ ∧ _
  rw [z1] at g2
  rw [z2] at g3
  rw [z3] at g4
  rw [z4] at g5
  rw [z5] at g6
  rw [z1, z2] at g4
  rw [z3, z4] at g6
  rw [z5]
  exact ⟨⟨_, g6, rfl⟩, h _ g6 g4 g5 ⟨_, g1, rfl, rfl⟩ ⟨_, g2, rfl, rfl⟩ ⟨_, g3, rfl, rfl⟩ z6 fun c o x => Heap.get?_push_of_some _ (Heap.get?_push_of_some _ (Heap.get?_push_of_some _ (Heap.get?_push_of_some _ (Heap.get?_push_of_some _ (Heap.get?_push_of_some _ (x))))))⟩
end
def iZip3 (K : PySem.W.Frag) (ta : TA) : TI := fun σ H R => ta σ H fun vs H1 => ∃ a1 a2 a3 ys1 ys2 ys3, vs = [.ref a1, .ref a2, .ref a3] ∧ SqL K H1 a1 ys1 ∧ SqL K H1 a2 ys2 ∧ SqL K H1 a3 ys3 ∧ R (ItzN K [(a1, false), (a2, false), (a3, false)]) H1
theorem pi_Zip3 {X : Cx} {e1 e2 e3 : Expr} {ta : TA} {p pos tpos : Pos} {elts : List Expr} {kk : Nat} (hg : Gl X "zip") (hm : X.mg "zip" = none) (ha : PA X [e1, e2, e3] ta)
    (hs : starEach [e1, e2, e3] X.env = (false, eval e1 X.env) :: starEach [e2, e3] X.env := by rfl) (hpl : (backTo pos (starEach [e2, e3] X.env)).any (·.1) = false := by rfl) :
    PI X (.Tuple elts kk tpos) (.Call (.Name "zip" p) [e1, e2, e3] [] pos) (iZip3 X.K ta) := by
  refine ⟨fun pins s σ H R I h => ?_⟩
  refine PyProof.Rows.Call_ (ld_blt I hg hm PyProof.Rows.boot_zip (PyProof.Rows.callWith_type1 (thn (ha.run pos pins s σ H _ I h) fun us s1 ⟨vs, H1, I1, r1, q1⟩ => ?_) hs hpl))
  obtain ⟨a1, a2, a3, ys1, ys2, ys3, ex, hq1, hq2, hq3, q⟩ := q1
  subst ex
  cases r1 with
  | cons r0a r1 =>
    cases r1 with
    | cons r1a r1 =>
      cases r1 with
      | cons r2a r1 =>
        cases r1
        cases r0a
        cases r1a
        cases r2a
        obtain ⟨its1, rv1, p1, _⟩ := I1.list hq1
        have la1 : @LT.lt Nat _ a1 s1.heap.objs.size := p1.lt
        obtain ⟨its2, rv2, p2, _⟩ := I1.list hq2
        have la2 : @LT.lt Nat _ a2 s1.heap.objs.size := p2.lt
        obtain ⟨its3, rv3, p3, _⟩ := I1.list hq3
        have la3 : @LT.lt Nat _ a3 s1.heap.objs.size := p3.lt
        refine call_Zip3 p1.isList p2.isList p3.isList fun h' hz hTI hTO h1 h2 h3 hsz hk => wpAny_pyIter_zip hz ?_
        have I2 : Inv X pins σ H1 { s1 with heap := h' } := I1.kept (t' := s1.toks) hk
        refine ⟨s1.heap.objs.size + 5, _, _, _, H1, rfl, I2, turn_zipN (TI := s1.heap.objs.size + 3) (TO := s1.heap.objs.size + 4) (ts := [(s1.heap.objs.size, (a1, false)), (s1.heap.objs.size + 1, (a2, false)), (s1.heap.objs.size + 2, (a3, false))]) ⟨?_, ?_⟩ (by simp) (by simp), ⟨hz, hTI, ⟨_, hTO, rfl⟩, ?_⟩, fun c hcm => ?_, q⟩
        · simp only [List.map_cons, List.map_nil, List.nodup_cons, List.mem_cons, List.not_mem_nil, or_false, not_or, List.nodup_nil, and_true]
          repeat' apply And.intro
          all_goals (first | exact not_false | (intro (e : @Eq Nat _ _); omega))
        · intro t ht
          simp only [List.mem_cons, List.not_mem_nil, or_false] at ht
          rcases ht with rfl | rfl | rfl <;> (simp only [List.map_cons, List.map_nil, List.mem_cons, List.not_mem_nil, or_false, not_or]; (repeat' apply And.intro) <;> (first | exact not_false | (intro (e : @Eq Nat _ _); omega)))
        · intro t ht
          simp only [List.mem_cons, List.not_mem_nil, or_false] at ht
          rcases ht with rfl | rfl | rfl
          · exact h1
          · exact h2
          · exact h3
        · have hle : s1.heap.objs.size ≤ c := by
            simp only [List.map_cons, List.map_nil, List.mem_cons, List.not_mem_nil, or_false] at hcm
            rcases hcm with e | e | e | e | e | e <;> (have e : @Eq Nat _ _ := e; omega)
          exact I1.fpOk hle (I1.hok.fresh hle)

theorem kiZipLT {X : Cx} {tg it : Expr} {t : TA} (K : PySem.W.Frag) (p : PI X tg it (iZipLT X.K t)) (h : X.K = K := by rfl) : PI X tg it (iZipLT K t) := h ▸ p
theorem kiZip3 {X : Cx} {tg it : Expr} {t : TA} (K : PySem.W.Frag) (p : PI X tg it (iZip3 X.K t)) (h : X.K = K := by rfl) : PI X tg it (iZip3 K t) := h ▸ p
section
variable {K : PySem.W.Frag} {Z : Zs} {G G1 G' H H' : Hp} {σ : L2.St} {ρ ρ' ρ0 ρ1 ρ2 ρ3 : List Sl} {te ta tb tc : TE} {d d1 d2 d3 : Dat} {ds es fs : List Dat}
theorem walks_zipN {ps : List ((Addr × Bool) × List Dat)} {n : Nat} (hp : ∀ p ∈ ps, ∀ (Gx Hx : Hp) (σx : L2.St) (ρx : List Sl) (Zx : Zs), Same G1 Gx → Ct K Zx Gx Hx σx ρx → ∃ xs, SqS K Hx p.1 xs ∧ RpAll K Gx xs p.2)
    (hn : ∀ p ∈ ps, n ≤ p.2.length) (he : ∃ p ∈ ps, p.2.length = n) : Walks K Z G1 (ItzN K (ps.map (·.1))) ((List.range n).map fun i => .tup (ps.map fun p => p.2.getD i .non)) := fun i Gx Hx σx ρx Zx s c => by
  refine ⟨fun e => ?_, fun d hd => ?_⟩
  · rw [List.length_map, List.length_range] at e
    refine ⟨fun p hpm => ?_, ?_⟩
    · obtain ⟨q, hq, rfl⟩ := List.mem_map.mp hpm
      obtain ⟨xs, a, _⟩ := hp q hq Gx Hx σx ρx Zx s c
      exact ⟨xs, a⟩
    · obtain ⟨p, hpm, hl⟩ := he
      obtain ⟨xs, a, b⟩ := hp p hpm Gx Hx σx ρx Zx s c
      exact ⟨p.1, List.mem_map_of_mem hpm, xs, a, by rw [b.length, hl, e]; exact Nat.le_refl _⟩
  · rw [List.getElem?_map] at hd
    cases e : (List.range n)[i]? with
    | none => rw [e] at hd; cases hd
    | some k =>
      rw [e] at hd
      cases hd
      obtain ⟨hl, hk⟩ := List.getElem?_eq_some_iff.mp e
      rw [List.getElem_range] at hk
      rw [List.length_range] at hl
      subst hk
      have item : ∀ p ∈ ps, ∃ xs x, SqS K Hx p.1 xs ∧ xs[i]? = some x ∧ Rp K Gx x (p.2.getD i .non) := fun p hpm => by
        obtain ⟨xs, a, b⟩ := hp p hpm Gx Hx σx ρx Zx s c
        have hlt : i < p.2.length := Nat.lt_of_lt_of_le hl (hn p hpm)
        obtain ⟨x, hx, rx⟩ := b.get (List.getElem?_eq_getElem hlt)
        exact ⟨xs, x, a, hx, by rw [List.getD_eq_getElem?_getD, List.getElem?_eq_getElem hlt]; exact rx⟩
      refine ⟨fun p hpm => ?_, fun v Hy hv => ?_⟩
      · obtain ⟨q, hq, rfl⟩ := List.mem_map.mp hpm
        obtain ⟨xs, x, a, b, _⟩ := item q hq
        exact ⟨xs, x, a, b⟩
      · obtain ⟨T, ys, rfl, hT, rfl, hyl, hy⟩ := hv
        obtain ⟨c3, s3⟩ := c.grown (o := .tup ys) hT
        refine ⟨_, s3, c3, .tup upd_same ?_⟩
        refine RpAll.of_get (by rw [hyl, List.length_map, List.length_map]) fun j v d hv hd => ?_
        rw [List.getElem?_map] at hd
        cases e2 : ps[j]? with
        | none => rw [e2] at hd; cases hd
        | some p =>
          rw [e2] at hd
          cases hd
          obtain ⟨xs, x, a, b, r⟩ := item p (List.mem_of_getElem? e2)
          have := hy j p.1 v (by rw [List.getElem?_map, e2]; rfl) hv xs a
          rw [b] at this
          cases this
          exact r.to s3
theorem sq_lst {a : Addr} (r : Rp K G1 (.ref a) d) (la : d.items = some ds) : ∀ (Gx Hx : Hp) (σx : L2.St) (ρx : List Sl) (Zx : Zs), Same G1 Gx → Ct K Zx Gx Hx σx ρx → ∃ xs, SqS K Hx (a, false) xs ∧ RpAll K Gx xs ds := fun Gx Hx σx ρx Zx s c => by
  obtain ⟨p, xs, e, hs, rx⟩ := c.read (a := .d d) (r.to s) la
  cases e
  exact ⟨xs, by unfold SqS; rw [if_neg (by simp)]; exact hs, rx⟩
theorem sq_tup {a : Addr} (r : Rp K G1 (.ref a) (.tup ds)) : ∀ (Gx Hx : Hp) (σx : L2.St) (ρx : List Sl) (Zx : Zs), Same G1 Gx → Ct K Zx Gx Hx σx ρx → ∃ xs, SqS K Hx (a, true) xs ∧ RpAll K Gx xs ds := fun Gx Hx σx ρx Zx s c => by
  obtain ⟨p, xs, e, hs, _, rx⟩ := rp_tup c.gh (r.to s)
  cases e
  exact ⟨xs, by unfold SqS; rw [if_pos rfl]; exact hs, rx⟩
theorem zipD_range (ds es : List Dat) : zipD ds es = (List.range (min ds.length es.length)).map fun i => .tup [ds.getD i .non, es.getD i .non] := by
  unfold zipD
  refine List.ext_getElem (by rw [List.length_zipWith, List.length_map, List.length_range]) fun i h1 h2 => ?_
  rw [List.length_zipWith] at h1
  rw [List.getElem_zipWith, List.getElem_map, List.getElem_range, List.getD_eq_getElem?_getD, List.getD_eq_getElem?_getD, List.getElem?_eq_getElem (by omega), List.getElem?_eq_getElem (by omega)]
  rfl
/-- zip(a list, a tuple) -/
theorem src_zipLT (ha : Ev K ta ρ d ρ1) (hb : Ev K tb ρ1 (.tup es) ρ2) (la : d.items = some ds) : Src K (iZipLT K (tCons ta (tCons tb tNil))) ρ (zipD ds es) ρ2 := fun Z G H σ c R q => by
  refine ha Z G H σ c _ fun v G1 H1 s1 c1 r1 => ?_
  refine hb Z G1 H1 σ c1 _ fun v2 G2 H2 s2 c2 r2 => ?_
  have r1 := r1.to s2
  obtain ⟨p, xs, rfl, hs, rx⟩ := c2.read (a := .d d) r1 la
  obtain ⟨p2, ys, rfl, hs2, _, ry⟩ := rp_tup c2.gh r2
  refine ⟨p, p2, xs, ys, rfl, hs, hs2, q _ G2 H2 (s1.trans s2) c2 ?_⟩
  rw [zipD_range]
  exact walks_zipN (ps := [((p, false), ds), ((p2, true), es)]) (fun z hz => by
    simp only [List.mem_cons, List.not_mem_nil, or_false] at hz
    rcases hz with rfl | rfl
    · exact sq_lst r1 la
    · exact sq_tup r2) (fun z hz => by
    simp only [List.mem_cons, List.not_mem_nil, or_false] at hz
    rcases hz with rfl | rfl
    · exact Nat.min_le_left _ _
    · exact Nat.min_le_right _ _) (by
    rcases Nat.le_total ds.length es.length with h | h
    · exact ⟨_, List.mem_cons_self, by rw [Nat.min_eq_left h]⟩
    · exact ⟨_, List.mem_cons_of_mem _ List.mem_cons_self, by rw [Nat.min_eq_right h]⟩)
/-- zip of three lists -/
def zip3D (n : Nat) (ds es fs : List Dat) : List Dat := (List.range n).map fun i => .tup [ds.getD i .non, es.getD i .non, fs.getD i .non]
theorem src_zip3 {n : Nat} (ha : Ev K ta ρ d ρ1) (hb : Ev K tb ρ1 d2 ρ2) (hc : Ev K tc ρ2 d3 ρ3) (la : d.items = some ds) (lb : d2.items = some es) (lc : d3.items = some fs) (l1 : ds.length = n) (l2 : es.length = n) (l3 : fs.length = n) :
    Src K (iZip3 K (tCons ta (tCons tb (tCons tc tNil)))) ρ (zip3D n ds es fs) ρ3 := fun Z G H σ c R q => by
  refine ha Z G H σ c _ fun v G1 H1 s1 c1 r1 => ?_
  refine hb Z G1 H1 σ c1 _ fun v2 G2 H2 s2 c2 r2 => ?_
  refine hc Z G2 H2 σ c2 _ fun v3 G3 H3 s3 c3 r3 => ?_
  have r1 := r1.to (s2.trans s3)
  have r2 := r2.to s3
  obtain ⟨p, xs, rfl, hs, rx⟩ := c3.read (a := .d d) r1 la
  obtain ⟨p2, ys, rfl, hs2, ry⟩ := c3.read (a := .d d2) r2 lb
  obtain ⟨p3, zs, rfl, hs3, rz⟩ := c3.read (a := .d d3) r3 lc
  refine ⟨p, p2, p3, xs, ys, zs, rfl, hs, hs2, hs3, q _ G3 H3 (s1.trans (s2.trans s3)) c3 ?_⟩
  exact walks_zipN (ps := [((p, false), ds), ((p2, false), es), ((p3, false), fs)]) (fun z hz => by
    simp only [List.mem_cons, List.not_mem_nil, or_false] at hz
    rcases hz with rfl | rfl | rfl
    · exact sq_lst r1 la
    · exact sq_lst r2 lb
    · exact sq_lst r3 lc) (fun z hz => by
    simp only [List.mem_cons, List.not_mem_nil, or_false] at hz
    rcases hz with rfl | rfl | rfl
    · exact Nat.le_of_eq l1.symm
    · exact Nat.le_of_eq l2.symm
    · exact Nat.le_of_eq l3.symm) ⟨_, List.mem_cons_self, l1⟩
end
end Bg

namespace Bg
open PySem L2
/-! ### comprehensions of two clauses -/
section
variable {K : PySem.W.Frag} {Z : Zs} {G G' H H' : Hp} {σ : L2.St} {ρ ρ' ρ0 ρ1 ρ2 ρ3 : List Sl} {te ta tb tc : TE} {tg : TA} {tt tu : TT} {t u tbd : TS} {d r d1 d2 d3 : Dat} {ds es : List Dat} {b : Bool} {i : Nat} {o : Out} {ag : List Ag}
theorem wipe_xy {x y : Nat} (h : x ≠ y) {v : V} : L2.wipe ((L2.wipe σ [x, y]).set x (some v)) [x, y] = L2.wipe σ [x, y] := by
  show ((((σ.set y none).set x none).set x (some v)).set y none).set x none = (σ.set y none).set x none
  rw [List.set_set, List.set_comm _ _ h, List.set_set, List.set_set]
theorem wipeS_xy {x y : Nat} (h : x ≠ y) {s : Sl} : wipeS ((wipeS ρ [x, y]).set x s) [x, y] = wipeS ρ [x, y] := by
  show ((((ρ.set y .no).set x .no).set x s).set y .no).set x .no = (ρ.set y .no).set x .no
  rw [List.set_set, List.set_comm _ _ h, List.set_set, List.set_set]
def lc2Out (ds : List Dat) (es : Dat → List Dat) (keep : Dat → Dat → Bool) (g : Dat → Dat → Dat) : List Dat := ds.flatMap fun d => ((es d).filter (keep d)).map (g d)
theorem ef_lc2 {wi wi1 : TI} {x y : Nat} (hxy : x ≠ y) (es : Dat → List Dat) (keep : Dat → Dat → Bool) (g : Dat → Dat → Dat) (N : Nat) (h : Src K wi ρ ds ρ1) (hx : x < ρ1.length) (hy : y < ρ1.length) (hl : ds.length < 100000) (hN : ∀ i, i ≤ ds.length → (lc2Out (ds.take i) es keep g).length ≤ N) (hN2 : N < 100000) (hes : ∀ d ∈ ds, (es d).length + N < 100000)
    (h1 : ∀ d ∈ ds, Src K wi1 ((wipeS ρ1 [x, y]).set x (.dat d)) (es d) ((wipeS ρ1 [x, y]).set x (.dat d)))
    (ht : ∀ d ∈ ds, ∀ e ∈ es d, EvT K tt (((wipeS ρ1 [x, y]).set x (.dat d)).set y (.dat e)) (keep d e) (((wipeS ρ1 [x, y]).set x (.dat d)).set y (.dat e)))
    (hb : ∀ d ∈ ds, ∀ e ∈ es d, keep d e = true → Ev K te (((wipeS ρ1 [x, y]).set x (.dat d)).set y (.dat e)) (g d e) (((wipeS ρ1 [x, y]).set x (.dat d)).set y (.dat e))) :
    EvF K (tLc2 wi (gName x) tYes wi1 (gName y) tt te [x, y] [y]) ρ (lc2Out ds es keep g) (wipeS ρ1 [x, y]) := fun Z G H σ c Q q => by
  refine h Z G H σ c _ fun J G1 H1 s1 c1 wk D hD => ?_
  obtain ⟨c2, gD, ⟨z0, zk⟩, noD⟩ := fresh_of c1 (xs := []) hD
  have lw : (wipeS ρ1 [x, y]).length = ρ1.length := wipeS_len _ _
  have hwx : (wipeS ρ1 [x, y])[x]?.isSome = true := isSome_of_lt (by omega)
  refine ⟨fun i m H' => m = ds.length - i ∧ i ≤ ds.length ∧ ∃ G' acc, Same G1 G' ∧ Ct K Z G' H' (L2.wipe σ [x, y]) (wipeS ρ1 [x, y]) ∧ H' D = some (.lst acc) ∧ G' D = none ∧ RpAll K G' acc (lc2Out (ds.take i) es keep g) ∧ ∀ j, ¬ Hd (L2.wipe σ [x, y]) (wipeS ρ1 [x, y]) j D,
    ⟨ds.length, by simp, Nat.zero_le _, G1, [], Same.refl G1, c2.wipe [x, y], upd_same, gD, .nil, fun j a => noD j (hd_wipe a)⟩, ?_⟩
  rintro i m H' ⟨rfl, hi, G', acc, s', c', hacc, gD', rx, no'⟩
  have ca := c'.aside hacc gD' no'
  obtain ⟨w1, w2⟩ := wk i G' H' _ _ _ s' ca
  by_cases hlt : i < ds.length
  · have hdi : ds[i]? = some ds[i] := List.getElem?_eq_getElem hlt
    obtain ⟨go, yl⟩ := w2 ds[i] hdi
    have hdm : ds[i] ∈ ds := List.getElem_mem hlt
    have htake : ds.take (i + 1) = ds.take i ++ [ds[i]] := by rw [List.take_add_one, hdi]; rfl
    generalize hd : ds[i] = d at *
    refine .inr ⟨go, fun H'' => ∃ G'' acc', Same G1 G'' ∧ Ct K Z G'' H'' (L2.wipe σ [x, y]) (wipeS ρ1 [x, y]) ∧ H'' D = some (.lst acc') ∧ G'' D = none ∧ RpAll K G'' acc' (lc2Out (ds.take (i + 1)) es keep g) ∧ ∀ j, ¬ Hd (L2.wipe σ [x, y]) (wipeS ρ1 [x, y]) j D,
      fun H'' k => ⟨ds.length - (i + 1), by omega, rfl, hlt, k⟩, fun vx H'' hvx => ?_⟩
    obtain ⟨Gy, sy, cy, ry⟩ := yl vx H'' hvx
    have cb := cy.setD (i := x) hwx ry
    refine ⟨wipe_xy hxy, ?_⟩
    refine et_yes (K := K) _ Gy _ _ cb _ fun Gz Hz sz cz => ?_
    refine iteT ?_
    have sy := sy.trans sz
    refine h1 d hdm _ Gz _ _ cz _ fun J1 G2 H2 s2 c2 wk1 => ?_
    obtain ⟨c3, h3, g3, n3⟩ := c2.unaside zk
    -- the inner walk
    refine ⟨fun j k H5 => k = (es d).length - j ∧ j ≤ (es d).length ∧ ∃ G5 acc5, Same G2 G5 ∧ Ct K Z G5 H5 ((L2.wipe σ [x, y]).set x (some vx)) ((wipeS ρ1 [x, y]).set x (.dat d)) ∧ H5 D = some (.lst acc5) ∧ G5 D = none ∧ RpAll K G5 acc5 (lc2Out (ds.take i) es keep g ++ (((es d).take j).filter (keep d)).map (g d)) ∧ ∀ l, ¬ Hd ((L2.wipe σ [x, y]).set x (some vx)) ((wipeS ρ1 [x, y]).set x (.dat d)) l D,
      ⟨(es d).length, by simp, Nat.zero_le _, G2, acc, Same.refl G2, c3, h3, g3, by rw [List.take_zero]; simpa using (rx.to (sy.trans s2)), n3⟩, ?_⟩
    rintro j k H5 ⟨rfl, hj, G5, acc5, s5, c5, h5, g5, rx5, no5⟩
    have ca5 := c5.aside h5 g5 no5
    obtain ⟨v1, v2⟩ := wk1 j G5 H5 _ _ _ s5 ca5
    by_cases hjl : j < (es d).length
    · have hej : (es d)[j]? = some (es d)[j] := List.getElem?_eq_getElem hjl
      obtain ⟨go1, yl1⟩ := v2 (es d)[j] hej
      have hem : (es d)[j] ∈ es d := List.getElem_mem hjl
      have htk : (es d).take (j + 1) = (es d).take j ++ [(es d)[j]] := by rw [List.take_add_one, hej]; rfl
      generalize (es d)[j] = e at *
      refine .inr ⟨go1, fun H6 => ∃ G6 acc6, Same G2 G6 ∧ Ct K Z G6 H6 ((L2.wipe σ [x, y]).set x (some vx)) ((wipeS ρ1 [x, y]).set x (.dat d)) ∧ H6 D = some (.lst acc6) ∧ G6 D = none ∧ RpAll K G6 acc6 (lc2Out (ds.take i) es keep g ++ (((es d).take (j + 1)).filter (keep d)).map (g d)) ∧ ∀ l, ¬ Hd ((L2.wipe σ [x, y]).set x (some vx)) ((wipeS ρ1 [x, y]).set x (.dat d)) l D,
        fun H6 k => ⟨(es d).length - (j + 1), by omega, rfl, hjl, k⟩, fun vy H6 hvy => ?_⟩
      obtain ⟨G6, s6, c6, r6⟩ := yl1 vy H6 hvy
      have ew : L2.wipe ((L2.wipe σ [x, y]).set x (some vx)) [y] = (L2.wipe σ [x, y]).set x (some vx) := by
        show (((σ.set y none).set x none).set x (some vx)).set y none = ((σ.set y none).set x none).set x (some vx)
        rw [List.set_set, List.set_comm _ _ hxy, List.set_set]
      rw [ew]
      have cy6 := c6.setD (i := y) (isSome_of_lt (by rw [List.length_set]; omega)) r6
      have eb : L2.wipe (((L2.wipe σ [x, y]).set x (some vx)).set y (some vy)) [y] = (L2.wipe σ [x, y]).set x (some vx) := by
        show ((((σ.set y none).set x none).set x (some vx)).set y (some vy)).set y none = ((σ.set y none).set x none).set x (some vx)
        rw [List.set_set, List.set_set, List.set_comm _ _ hxy, List.set_set]
      have ebS : wipeS (((wipeS ρ1 [x, y]).set x (.dat d)).set y (.dat e)) [y] = (wipeS ρ1 [x, y]).set x (.dat d) := by
        show ((((ρ1.set y .no).set x .no).set x (.dat d)).set y (.dat e)).set y .no = ((ρ1.set y .no).set x .no).set x (.dat d)
        rw [List.set_set, List.set_set, List.set_comm _ _ hxy, List.set_set]
      refine ⟨eb, ?_⟩
      refine ht d hdm e hem _ G6 _ _ cy6 _ fun G7 H7 s7 c7 => ?_
      cases hk : keep d e with
      | false =>
        refine iteF ?_
        obtain ⟨c8, h8, g8, n8⟩ := c7.unaside zk
        have c9 := c8.wipe [y]
        rw [eb, ebS] at c9
        refine ⟨G7, acc5, s5.trans (s6.trans s7), c9, h8, g8, ?_, fun l a => n8 l ?_⟩
        · rw [htk, List.filter_append, List.filter_cons, hk, if_neg Bool.false_ne_true, List.filter_nil, List.append_nil]
          exact rx5.to (s6.trans s7)
        · rw [← eb, ← ebS] at a
          exact hd_wipe a
      | true =>
        refine iteT ?_
        refine hb d hdm e hem hk _ G7 H7 _ c7 _ fun w G8 H8 s8 c8 r8 => ?_
        obtain ⟨c9, h9, g9, n9⟩ := c8.unaside zk
        have hlen : acc5.length < 100000 := by
          rw [rx5.length, List.length_append, List.length_map]
          have a1 := hN i hi
          have a2 := List.length_filter_le (keep d) ((es d).take j)
          have a3 : ((es d).take j).length ≤ (es d).length := by rw [List.length_take]; omega
          have a4 := hes d hdm
          omega
        refine ⟨acc5, h9, Nat.lt_of_lt_of_le hlen (by decide), ?_⟩
        have c10 := (c9.asideSet (o' := .lst (acc5 ++ [w])) h9 g9 n9 z0 zk).wipe [y]
        rw [eb, ebS] at c10
        refine ⟨G8, acc5 ++ [w], s5.trans (s6.trans (s7.trans s8)), c10, upd_same, g9, ?_, fun l a => n9 l ?_⟩
        · rw [htk, List.filter_append, List.filter_cons, hk, if_pos rfl, List.filter_nil, List.map_append, ← List.append_assoc]
          exact (rx5.to (s6.trans (s7.trans s8))).app (.cons r8 .nil)
        · rw [← eb, ← ebS] at a
          exact hd_wipe a
    · have ej : j = (es d).length := by omega
      subst ej
      have c6 := c5.wipe [x, y]
      rw [wipe_xy hxy, wipeS_xy hxy] at c6
      refine .inl ⟨v1 rfl, G5, acc5, s'.trans (sy.trans (s2.trans s5)), c6, h5, g5, ?_, fun l a => no5 l ?_⟩
      · have eo : lc2Out (ds.take (i + 1)) es keep g = lc2Out (ds.take i) es keep g ++ ((es d).filter (keep d)).map (g d) := by
          rw [htake]
          unfold lc2Out
          rw [List.flatMap_append, List.flatMap_cons, List.flatMap_nil, List.append_nil]
        rw [eo]
        rw [List.take_length] at rx5
        exact rx5
      · rw [← wipe_xy (σ := σ) hxy (v := vx), ← wipeS_xy (ρ := ρ1) hxy (s := .dat d)] at a
        exact hd_wipe a
  · have e : i = ds.length := by omega
    subst e
    rw [List.take_length] at rx
    exact .inl ⟨w1 rfl, q D acc G' H' (s1.trans s') c'.unwipe gD' hacc rx ⟨z0, zk⟩ fun j a => no' j (hd_unwipe a)⟩
end
section
variable {K : PySem.W.Frag} {t : TS} {ρ ρ1 ρ2 : List Sl}
/-- a def's body that may fall off its end -/
theorem body_okE {R : List Sl → Dat → List Sl → Prop} {N : List Str} {vs : List V} {H : Hp} {Q : VK} {E : XK} {n : Nat} (h : spG K R vs H Q E) (hn : ∀ as d as', R as d as' → as.length = n)
    (k : ∀ as d as', R as d as' → FinOk as as' ∧ (Ex K t (as ++ List.replicate (N.length - n) .no) (.rt d (as' ++ List.replicate (N.length - n) .no)) ∨ (d = .non ∧ Ex K t (as ++ List.replicate (N.length - n) .no) (.nx (as' ++ List.replicate (N.length - n) .no))))) : t { nx := fun _ H' => Q .non H', rt := Q } (start N vs) H := by
  obtain ⟨G, O, as, d, as', r, c, q⟩ := h
  obtain ⟨f, ex⟩ := k as d as' r
  have e : start N vs = vs.map some ++ List.replicate (N.length - n) none := by
    have l := c.len
    rw [List.length_map, hn _ _ _ r] at l
    show vs.map some ++ List.replicate (N.length - vs.length) none = _
    rw [l]
  rcases ex with ex | ⟨rfl, ex⟩
  · exact ex _ G H _ (start_ct c e) _ fun σ' v G' H' s c' rv => q v G' H' (fin_ct c c' f.fin) rv
  · exact ex _ G H _ (start_ct c e) _ fun σ' G' H' s c' => q .non G' H' (fin_ct c c' f.fin) .non
theorem ex_retNW (l : Le ρ2 ρ) : Ex K tRetN ρ (.rt .non ρ2) := Ex.weakR ex_retN l
end
section
variable {K : PySem.W.Frag} {te : TE} {tg : TA} {ρ ρ1 ρ2 : List Sl} {ds : List Dat} {as : List Ag}
theorem ea_starT (ha : Ev K te ρ (.tup ds) ρ1) (hb : EvA K tg ρ1 as ρ2) : EvA K (StX.tStar K te tg) ρ (ds.map Ag.d ++ as) ρ2 := fun Z G H σ c Q q => by
  refine ha Z G H σ c _ fun x G1 H1 s1 c1 r1 => ?_
  obtain ⟨p, xs, rfl, hs, _, rx⟩ := rp_tup c1.gh r1
  refine ⟨p, xs, rfl, .inl hs, ?_⟩
  refine hb _ G1 H1 _ c1 _ fun ys G2 H2 s2 c2 r2 => ?_
  exact q _ G2 H2 (s1.trans s2) c2 (paired_app (rx.to s2) r2)
end
section
variable {K : PySem.W.Frag} {te ta tb : TE} {tg : TA} {ρ ρ1 ρ2 : List Sl} {d z : Dat} {ds es : List Dat} {as : List Ag}
theorem pys_get : ∀ (ds : List Dat) (j : Nat), (Dat.pys ds)[j]? = (ds[j]?).map Dat.py
  | [], _ => rfl
  | d :: ds, 0 => rfl
  | d :: ds, j + 1 => pys_get ds j
/-- xs.index(x) of data of any depth -/
theorem ev_indexD {a : Ag} {j : Nat} (ha : EvL K ta ρ a ρ1) (hb : Ev K tb ρ1 d ρ2) (l1 : look ρ1 a = some ds) (l : look ρ2 a = some ds) (sd : Shp 60 d) (ss : ShpAll 59 ds) (hj : ds[j]? = some z) (he : eqd z d = true) (hno : ∀ (m : Nat) (z' : Dat), m < j → ds[m]? = some z' → eqd z' d = false) :
    Ev K (tBM K "list" (rIndexD K) ta (tCons tb tNil)) ρ (.int j) ρ2 := fun Z G H σ c Q q => by
  refine ha Z G H σ c _ fun v G1 H1 s1 c1 r1 => ?_
  obtain ⟨p, xs, rfl, hs, rx⟩ := c1.read r1 l1
  refine ⟨.inl ⟨rfl, _, hs⟩, ?_⟩
  refine hb Z G1 H1 σ c1 _ fun w G2 H2 s2 c2 r2 => ?_
  refine ⟨p, w, d.py, Dat.pys ds, j, z.py, rfl, rfl, rp_look c2 (r1.to s2) l ss, r2.dp c2.gh sd, ?_, shaped_of sd, by rw [pys_get, hj]; rfl, he, fun m z' hm hz => ?_, q _ _ _ (s1.trans s2) c2 (.int _)⟩
  · have := shaped_of (d := .lst ds) (by rw [shp_lst]; exact ss)
    simpa only [Dat.py] using this
  · rw [pys_get] at hz
    cases e : ds[m]? with
    | none => rw [e] at hz; cases hz
    | some x =>
      rw [e] at hz
      cases hz
      exact hno m x hm e
/-- x is None -/
def Dat.isNon : Dat → Bool
  | .non => true
  | _ => false
theorem rp_isNon {G : Hp} {v : V} (r : Rp K G v d) : decide (v = .non) = d.isNon := by cases r <;> rfl
theorem ev_isN {r : R2} (hr : r = fun x y H Q => y = .non ∧ Q (.bl (decide (x = .non))) H) (ha : Ev K ta ρ d ρ1) (hb : Ev K tb ρ1 .non ρ2) : Ev K (tOp r ta tb) ρ (.bl d.isNon) ρ2 := fun Z G H σ c Q q => by
  subst hr
  refine ha Z G H σ c _ fun v G1 H1 s1 c1 r1 => ?_
  refine hb Z G1 H1 σ c1 _ fun w G2 H2 s2 c2 r2 => ?_
  cases r2
  refine ⟨rfl, ?_⟩
  rw [rp_isNon r1]
  exact q _ _ _ (s1.trans s2) c2 (.bl _)
theorem ev_isntN {r : R2} (hr : r = fun x y H Q => y = .non ∧ Q (.bl (!decide (x = .non))) H) (ha : Ev K ta ρ d ρ1) (hb : Ev K tb ρ1 .non ρ2) : Ev K (tOp r ta tb) ρ (.bl (!d.isNon)) ρ2 := fun Z G H σ c Q q => by
  subst hr
  refine ha Z G H σ c _ fun v G1 H1 s1 c1 r1 => ?_
  refine hb Z G1 H1 σ c1 _ fun w G2 H2 s2 c2 r2 => ?_
  cases r2
  refine ⟨rfl, ?_⟩
  rw [rp_isNon r1]
  exact q _ _ _ (s1.trans s2) c2 (.bl _)
end
/-! ### for-loops whose target is a tuple -/
section
variable {K : PySem.W.Frag} {Z : Zs} {G G' H H' : Hp} {σ : L2.St} {ρ ρ' ρ0 ρ1 ρ2 ρ3 : List Sl} {te ta tb tc : TE} {tg : TA} {tt tu : TT} {t u tbd : TS} {d r d1 d2 d3 : Dat} {ds es : List Dat} {b : Bool} {i : Nat} {o : Out} {ag : List Ag}
/-- a target takes a datum -/
def Bnd (K : PySem.W.Frag) (g : TG) (d : Dat) (ρ ρ' : List Sl) : Prop := ∀ (Z : Zs) (G H : Hp) (σ : L2.St) (v : V), Ct K Z G H σ ρ → Rp K G v d → ∀ Q : L2.St → Hp → Prop, (∀ σ', Ct K Z G H σ' ρ' → Q σ' H) → g v σ H Q
theorem bnd_2 {x y : Nat} (hx : x < ρ.length) (hy : y < ρ.length) : Bnd K (gTup K 2 (gCons (gName x) (gCons (gName y) gNil))) (.tup [d1, d2]) ρ ((ρ.set x (.dat d1)).set y (.dat d2)) := fun Z G H σ v c rv Q q => by
  obtain ⟨a, xs, rfl, hs, hl, r⟩ := rp_tup c.gh rv
  cases r with
  | cons ra r => cases r with
    | cons rb r => cases r with
      | nil => exact ⟨a, _, rfl, hs, hl, _, _, rfl, _, _, rfl, rfl, q _ ((c.setD (isSome_of_lt hx) ra).setD (isSome_of_lt (by rw [List.length_set]; exact hy)) rb)⟩
theorem bnd_3 {x y z : Nat} (hx : x < ρ.length) (hy : y < ρ.length) (hz : z < ρ.length) : Bnd K (gTup K 3 (gCons (gName x) (gCons (gName y) (gCons (gName z) gNil)))) (.tup [d1, d2, d3]) ρ (((ρ.set x (.dat d1)).set y (.dat d2)).set z (.dat d3)) := fun Z G H σ v c rv Q q => by
  obtain ⟨a, xs, rfl, hs, hl, r⟩ := rp_tup c.gh rv
  cases r with
  | cons ra r => cases r with
    | cons rb r => cases r with
      | cons rc r => cases r with
        | nil => exact ⟨a, _, rfl, hs, hl, _, _, rfl, _, _, rfl, _, _, rfl, rfl, q _ (((c.setD (isSome_of_lt hx) ra).setD (isSome_of_lt (by rw [List.length_set]; exact hy)) rb).setD (isSome_of_lt (by rw [List.length_set, List.length_set]; exact hz)) rc)⟩
theorem bnd_1 {x : Nat} (hx : x < ρ.length) : Bnd K (gName x) d ρ (ρ.set x (.dat d)) := fun Z G H σ v c rv Q q => q _ (c.setD (isSome_of_lt hx) rv)
inductive LEndG (K : PySem.W.Frag) (tb : TS) (ds : List Dat) (ρs ρb : Nat → List Sl) (n : Nat) : Out → Prop
  | done : n = ds.length → LEndG K tb ds ρs ρb n (.nx (ρs n))
  | ret {r : Dat} {ρ' : List Sl} : n < ds.length → Ex K tb (ρb n) (.rt r ρ') → LEndG K tb ds ρs ρb n (.rt r ρ')
  | brk {ρ' : List Sl} : n < ds.length → Ex K tb (ρb n) (.bk ρ') → LEndG K tb ds ρs ρb n (.nx ρ')
theorem ex_forG {wi : TI} {g : TG} {n : Nat} (ρs ρb : Nat → List Sl) (h : Src K wi ρ ds (ρs 0)) (hb : ∀ i d, ds[i]? = some d → Bnd K g d (ρs i) (ρb i)) (hn : n ≤ ds.length)
    (body : ∀ i d, i < n → ds[i]? = some d → Ex K tbd (ρb i) (.nx (ρs (i + 1))) ∨ Ex K tbd (ρb i) (.ct (ρs (i + 1)))) (e : LEndG K tbd ds ρs ρb n o) : Ex K (tFor wi g tbd) ρ o := fun Z G H σ c D q => by
  refine h Z G H σ c _ fun J G1 H1 s1 c1 wk => ?_
  refine ⟨fun i m σ' H' => m = n - i ∧ i ≤ n ∧ ∃ G', Same G1 G' ∧ Ct K Z G' H' σ' (ρs i), ⟨n, by simp, Nat.zero_le _, G1, Same.refl G1, c1⟩, ?_⟩
  rintro i m σ' H' ⟨rfl, hi, G', s', c'⟩
  obtain ⟨w1, w2⟩ := wk i G' H' σ' (ρs i) Z s' c'
  by_cases hlt : i < n
  · have hid : i < ds.length := Nat.lt_of_lt_of_le hlt hn
    have hd : ds[i]? = some ds[i] := List.getElem?_eq_getElem hid
    obtain ⟨go, yl⟩ := w2 ds[i] hd
    refine .inr ⟨go, fun σ'' H'' => ∃ G'', Same G1 G'' ∧ Ct K Z G'' H'' σ'' (ρs (i + 1)), fun σ'' H'' k => ⟨n - (i + 1), by omega, rfl, hlt, k⟩, fun y H'' hy => ?_⟩
    obtain ⟨Gy, sy, cy, ry⟩ := yl y H'' hy
    refine hb i _ hd Z Gy _ _ y cy ry _ fun σb cb => ?_
    rcases body i _ hlt hd with hbd | hbd
    · exact hbd Z Gy _ _ cb _ fun σ2 G2 H2 s2 c2 => ⟨G2, s'.trans (sy.trans s2), c2⟩
    · exact hbd Z Gy _ _ cb _ fun σ2 G2 H2 s2 c2 => ⟨G2, s'.trans (sy.trans s2), c2⟩
  · have en : i = n := by omega
    subst en
    cases e with
    | done e => exact .inl ⟨w1 e, q σ' G' H' (s1.trans s') c'⟩
    | ret hl hbd =>
      have hd : ds[i]? = some ds[i] := List.getElem?_eq_getElem hl
      obtain ⟨go, yl⟩ := w2 _ hd
      refine .inr ⟨go, fun _ _ => False, fun _ _ k => k.elim, fun y H'' hy => ?_⟩
      obtain ⟨Gy, sy, cy, ry⟩ := yl y H'' hy
      refine hb i _ hd Z Gy _ _ y cy ry _ fun σb cb => ?_
      exact hbd Z Gy _ _ cb _ fun σ2 v G2 H2 s2 c2 => q σ2 v G2 H2 ((s1.trans s').trans (sy.trans s2)) c2
    | brk hl hbd =>
      have hd : ds[i]? = some ds[i] := List.getElem?_eq_getElem hl
      obtain ⟨go, yl⟩ := w2 _ hd
      refine .inr ⟨go, fun _ _ => False, fun _ _ k => k.elim, fun y H'' hy => ?_⟩
      obtain ⟨Gy, sy, cy, ry⟩ := yl y H'' hy
      refine hb i _ hd Z Gy _ _ y cy ry _ fun σb cb => ?_
      exact hbd Z Gy _ _ cb _ fun σ2 G2 H2 s2 c2 => q σ2 G2 H2 ((s1.trans s').trans (sy.trans s2)) c2
/-- each turn goes on or leaves with r -/
theorem ex_forGC {wi : TI} {g : TG} (p : Dat → Bool) (B : Dat → List Sl) (h : Src K wi ρ ds ρ0) (l : Le ρ1 ρ0) (hb : ∀ d ∈ ds, Bnd K g d ρ1 (B d)) (k : ∀ d ∈ ds, Ex K tbd (B d) (bif p d then .nx ρ1 else .rt r ρ')) : Ex K (tFor wi g tbd) ρ (bif ds.all p then .nx ρ1 else .rt r ρ') := by
  have hB : ∀ i d, ds[i]? = some d → Bnd K g d ρ1 (match ds[i]? with | some d => B d | none => ρ1) := fun i d hd => by rw [hd]; exact hb d (List.mem_of_getElem? hd)
  cases ha : ds.all p with
  | true =>
    refine ex_forG (n := ds.length) (fun _ => ρ1) (fun i => match ds[i]? with | some d => B d | none => ρ1) (h.weak l) hB (Nat.le_refl _) (fun i d hi hd => .inl ?_) (.done rfl)
    have hm := List.mem_of_getElem? hd
    have := k d hm
    rw [List.all_eq_true.mp ha d hm] at this
    rw [hd]
    exact this
  | false =>
    have hn : ds.findIdx (fun d => !p d) < ds.length := by
      rw [List.findIdx_lt_length]
      obtain ⟨d, hd, hp⟩ := List.all_eq_false.mp ha
      exact ⟨d, hd, by simpa using hp⟩
    have hat : ds[ds.findIdx (fun d => !p d)]? = some ds[ds.findIdx (fun d => !p d)] := List.getElem?_eq_getElem hn
    have hp : (!p ds[ds.findIdx (fun d => !p d)]) = true := List.findIdx_getElem (p := fun d => !p d)
    refine ex_forG (n := ds.findIdx (fun d => !p d)) (fun _ => ρ1) (fun i => match ds[i]? with | some d => B d | none => ρ1) (h.weak l) hB (Nat.le_of_lt hn) (fun i d hi hd => .inl ?_) (.ret hn ?_)
    · obtain ⟨hl, e⟩ := List.getElem?_eq_some_iff.mp hd
      have hnp := List.not_of_lt_findIdx (p := fun d => !p d) hi
      rw [e] at hnp
      have := k d (List.mem_of_getElem? hd)
      rw [show p d = true by simpa using hnp] at this
      rw [hd]
      exact this
    · have := k _ (List.getElem_mem hn)
      rw [show p ds[ds.findIdx (fun d => !p d)] = false by simpa using hp] at this
      show Ex K tbd (match ds[ds.findIdx (fun d => !p d)]? with | some d => B d | none => ρ1) _
      rw [hat]
      exact this
end
section
variable {K : PySem.W.Frag} {Z : Zs} {G G' H H' : Hp} {σ : L2.St} {ρ ρ' ρ0 ρ1 ρ2 ρ3 : List Sl} {te ta tb tc : TE} {tg : TA} {tt tu : TT} {t u tbd : TS} {d r d1 d2 d3 : Dat} {ds es : List Dat} {b : Bool} {i : Nat} {o : Out} {ag : List Ag}
/-- likewise, the turns told by their number -/
theorem ex_forGI {wi : TI} {g : TG} (p : Nat → Bool) (B : Nat → List Sl) (h : Src K wi ρ ds ρ0) (l : Le ρ1 ρ0) (hb : ∀ i d, ds[i]? = some d → Bnd K g d ρ1 (B i)) (k : ∀ i, i < ds.length → Ex K tbd (B i) (bif p i then .nx ρ1 else .rt r ρ')) : Ex K (tFor wi g tbd) ρ (bif (List.range ds.length).all p then .nx ρ1 else .rt r ρ') := by
  cases ha : (List.range ds.length).all p with
  | true =>
    refine ex_forG (n := ds.length) (fun _ => ρ1) B (h.weak l) hb (Nat.le_refl _) (fun i d hi hd => .inl ?_) (.done rfl)
    have := k i hi
    rwa [List.all_eq_true.mp ha i (List.mem_range.mpr hi)] at this
  | false =>
    have hn : (List.range ds.length).findIdx (fun i => !p i) < (List.range ds.length).length := by
      rw [List.findIdx_lt_length]
      obtain ⟨d, hd, hp⟩ := List.all_eq_false.mp ha
      exact ⟨d, hd, by simpa using hp⟩
    have hp : (!p (List.range ds.length)[(List.range ds.length).findIdx (fun i => !p i)]) = true := List.findIdx_getElem (p := fun d => !p d)
    rw [List.getElem_range] at hp
    have hn' : (List.range ds.length).findIdx (fun i => !p i) < ds.length := by simpa using hn
    refine ex_forG (n := (List.range ds.length).findIdx (fun i => !p i)) (fun _ => ρ1) B (h.weak l) hb (Nat.le_of_lt hn') (fun i d hi hd => .inl ?_) (.ret hn' ?_)
    · have hnp := List.not_of_lt_findIdx (p := fun d => !p d) hi
      rw [List.getElem_range] at hnp
      have := k i (by omega)
      rwa [show p i = true by simpa using hnp] at this
    · have := k _ hn'
      rwa [show p _ = false by simpa using hp] at this
end
section
variable {K : PySem.W.Frag} {te : TE} {tg : TA} {ρ ρ1 ρ2 : List Sl} {ds : List Dat} {as : List Ag}
theorem ea_starL {a : Ag} (ha : EvL K te ρ a ρ1) (l : look ρ1 a = some ds) (hb : EvA K tg ρ1 as ρ2) : EvA K (StX.tStar K te tg) ρ (ds.map Ag.d ++ as) ρ2 := fun Z G H σ c Q q => by
  refine ha Z G H σ c _ fun x G1 H1 s1 c1 r1 => ?_
  obtain ⟨p, xs, rfl, hs, rx⟩ := c1.read r1 l
  refine ⟨p, xs, rfl, .inr hs, ?_⟩
  refine hb _ G1 H1 _ c1 _ fun ys G2 H2 s2 c2 r2 => ?_
  exact q _ G2 H2 (s1.trans s2) c2 (paired_app (rx.to s2) r2)
end
section
variable {K : PySem.W.Frag} {te ta tb : TE} {tg : TA} {ρ ρ1 ρ2 : List Sl} {ds es : List Dat} {b : Bool}
/-- a tuple and a tuple -/
theorem ev_catT (ha : Ev K ta ρ (.tup ds) ρ1) (hb : Ev K tb ρ1 (.tup es) ρ2) (hl : ds.length + es.length ≤ 100000) : Ev K (tOp (rCatA K) ta tb) ρ (.tup (ds ++ es)) ρ2 := fun Z G H σ c Q q => by
  refine ha Z G H σ c _ fun x G1 H1 s1 c1 r1 => ?_
  refine hb Z G1 H1 σ c1 _ fun y G2 H2 s2 c2 r2 => ?_
  have r1 := r1.to s2
  obtain ⟨a, xs, rfl, hsa, la, rx⟩ := rp_tup c2.gh r1
  obtain ⟨b, ys, rfl, hsb, lb, ry⟩ := rp_tup c2.gh r2
  refine ⟨a, b, xs, ys, rfl, rfl, hsa, hsb, by rw [la, lb]; exact sz_ok hl, fun e => ?_, fun _ e => ?_, fun _ _ p hp => ?_⟩
  · subst e
    cases rx
    exact q _ _ _ (s1.trans s2) c2 r2
  · subst e
    cases ry
    exact q _ _ _ (s1.trans s2) c2 (by rw [List.append_nil]; exact r1)
  · obtain ⟨c3, s3⟩ := c2.grown (o := .tup (xs ++ ys)) hp
    exact q _ _ _ ((s1.trans s2).trans s3) c3 (.tup upd_same ((rx.to s3).app (ry.to s3)))
end
/-! ### xs[lo::step] -/
/-- the items at these places -/
def pickAt {α : Type} (xs : List α) (is : List Nat) : List α := is.filterMap (xs[·]?)
def stepIx (lo : Option Int) (st : Int) (n : Nat) : List Nat := sliceRange (sliceBounds lo none (some st) n).1 (sliceBounds lo none (some st) n).2.1 (sliceBounds lo none (some st) n).2.2
def tStepL (K : PySem.W.Frag) (st : Int) (te : TE) (tl : TO) : TE := fun σ H Q => te σ H fun x H1 => tl σ H1 fun lo H2 => ∃ a xs, x = .ref a ∧ SqL K H2 a xs ∧ ∀ p, H2 p = none → Q (.ref p) (upd H2 p (.lst (pickAt xs (stepIx lo st xs.length))))
theorem vals_pick {xs : List V} {us : List Value} (r : Vals xs us) : ∀ is : List Nat, Vals (pickAt xs is) (pickAt us is)
  | [] => .nil
  | i :: is => by
    have ih := vals_pick r is
    unfold pickAt at ih ⊢
    rw [List.filterMap_cons, List.filterMap_cons]
    cases hx : xs[i]? with
    | none =>
      have : us[i]? = none := by
        rw [List.getElem?_eq_none_iff] at hx ⊢
        rw [← r.length]
        exact hx
      rw [this]
      exact ih
    | some x =>
      obtain ⟨u, hu, ru⟩ := r.get hx
      rw [hu]
      exact .cons ru ih
theorem pick_len {α : Type} {xs : List α} {lo : Option Int} {st : Int} : (pickAt xs (stepIx lo st xs.length)).length ≤ xs.length := by
  by_cases h : ∃ v : Value, True
  · obtain ⟨v, _⟩ := h
    have h1 := slicePick_size_le ((xs.map fun _ => v).toArray) lo none (some st)
    unfold slicePick at h1
    rw [List.size_toArray, List.size_toArray, List.length_map] at h1
    have h2 : ∀ is : List Nat, (pickAt xs is).length = (is.filterMap ((xs.map fun _ => v).toArray[·]?)).length := by
      intro is
      unfold pickAt
      induction is with
      | nil => rfl
      | cons i is ih =>
        rw [List.filterMap_cons, List.filterMap_cons]
        have : (xs.map fun _ => v).toArray[i]? = (xs[i]?).map fun _ => v := by simp
        rw [this]
        cases xs[i]? with
        | none => exact ih
        | some x => simp only [Option.map_some, List.length_cons, ih]
    rw [h2]
    exact h1
  · exact absurd ⟨.none, trivial⟩ h
section
open PyProof.Rows
variable {X : Cx} {e : Expr} {l : Option Expr} {te : TE} {tl : TO}
theorem pe_stepL {st : Int} {k : Nat} {p1 p3 pos : Pos} (he : PE X e te) (hl : PO X l tl) (h0 : st ≠ 0) : PE X (.Subscript e (.Slice l none (some (.Constant (.int st) k p1)) p3) pos) (tStepL X.K st te tl) := by
  refine ⟨fun pins s σ H Q I h => Subscript_ (thn (he.run pins s σ H _ I h) fun v s1 ⟨x, H1, I1, r1, q1⟩ => ?_)⟩
  have hst : PO X (some (.Constant (.int st) k p1)) (tPart (tC (.int st))) := po_some pe_int
  refine wpAny_Slice (thn (hl.run pins s1 σ H1 _ I1 q1) fun vl s2 ⟨lo, H2, I2, pl, a, xs, ex, hx, q2⟩ => ?_)
  subst ex
  cases r1
  refine thn (po_none.run pins s2 σ H2 (fun o H3 => o = none ∧ H3 = H2) I2 ⟨rfl, rfl⟩) fun vu s3 ⟨u, H3, I3, pu, eu, e3⟩ => ?_
  subst eu e3
  refine thn (hst.run pins s3 σ H3 (fun o H4 => o = some st ∧ H4 = H3) I3 ⟨st, rfl, rfl, rfl⟩) fun vs s4 ⟨o, H4, I4, ps, eo, e4⟩ => ?_
  subst eo e4
  have I5 : Inv X pins σ H4 { s4 with heap := s4.heap.push { cls := .type "slice", data := .fields #[vl, vu, vs] } } := I4.kept (t' := s4.toks) fun b ob q => Heap.get?_push_of_some _ q
  obtain ⟨its, r, ht, hz⟩ := I5.list hx
  have hlen := r.length
  show wpAny (model X.prog X.w) X.A (subscriptTail e (.Slice l none (some (.Constant (.int st) k p1)) p3) (.ref a) (.ref s4.heap.objs.size)) (EP X pins σ Q) X.xe { s4 with heap := s4.heap.push { cls := .type "slice", data := .fields #[vl, vu, vs] } }
  refine tail_any (ops := [.ref a, .ref s4.heap.objs.size]) ht.isList.typeIs (PySem.slot_list_getitem.lookup) ?_ (by with_unfolding_all rfl)
  refine wpAny_getItem_list_slice ht.isList (Heap.IsSliceOf.new _ vl vu vs) pl pu ps (by simpa using h0) ?_ (by rw [List.size_toArray]; omega)
  have hp : slicePick its.toArray lo none (some st) = (pickAt its (stepIx lo st xs.length)).toArray := by
    unfold slicePick pickAt stepIx
    rw [List.size_toArray, hlen]
    simp
  rw [hp]
  refine ⟨.ref _, _, I5.laid (t' := s4.toks) (o := .lst (pickAt xs (stepIx lo st xs.length))) (fun b ob q => Heap.get?_push_of_some _ q) (Nat.le_refl _) ?_, rfl, q2 _ (I5.hok.fresh (Nat.le_refl _))⟩
  exact ⟨Nat.le_trans pick_len hz, _, 0, vals_pick r _, Heap.get?_push_size _ rfl⟩
end
theorem kStepL {X : Cx} {K : PySem.W.Frag} {e : Expr} {st : Int} {te : TE} {tl : TO} (p : PE X e (tStepL X.K st te tl)) (h : X.K = K := by rfl) : PE X e (tStepL K st te tl) := h ▸ p
section
variable {K : PySem.W.Frag} {G : Hp} {ta : TE} {tl : TO} {ρ ρ1 ρ2 : List Sl} {ds : List Dat} {lo : Option Int} {st : Int}
theorem rp_pick {xs : List V} (r : RpAll K G xs ds) : ∀ is : List Nat, RpAll K G (pickAt xs is) (pickAt ds is)
  | [] => .nil
  | i :: is => by
    have ih := rp_pick r is
    unfold pickAt at ih ⊢
    rw [List.filterMap_cons, List.filterMap_cons]
    cases hd : ds[i]? with
    | none =>
      have : xs[i]? = none := by
        rw [List.getElem?_eq_none_iff] at hd ⊢
        rw [r.length]
        exact hd
      rw [this]
      exact ih
    | some d =>
      obtain ⟨x, hx, rx⟩ := r.get hd
      rw [hx]
      exact .cons rx ih
theorem ef_stepL {a : Ag} (ha : EvL K ta ρ a ρ1) (hl : EvO K tl ρ1 lo ρ2) (l : look ρ2 a = some ds) : EvF K (tStepL K st ta tl) ρ (pickAt ds (stepIx lo st ds.length)) ρ2 := fun Z G H σ c Q q => by
  refine ha Z G H σ c _ fun x G1 H1 s1 c1 r1 => ?_
  refine hl Z G1 H1 σ c1 _ fun G2 H2 s2 c2 => ?_
  obtain ⟨p, xs, rfl, hp, rx⟩ := c2.read (r1.to s2) l
  refine ⟨p, xs, rfl, hp, fun n hn => ?_⟩
  rw [rx.length]
  obtain ⟨a, b, z, no⟩ := fresh_of c2 (xs := pickAt xs (stepIx lo st ds.length)) hn
  exact q n _ G2 _ (s1.trans s2) a b upd_same (rp_pick rx _) z no
theorem stepIx_mem {lo n i : Nat} (h : lo + 2 * i < n) : lo + 2 * i ∈ stepIx (some (lo : Int)) 2 n := by
  unfold stepIx sliceBounds sliceRange
  have h2 : (2 : Int) > 0 := by decide
  simp only [Option.getD_some, h2, if_true, show ¬ ((lo : Int) < 0) by omega, if_false]
  have e : max (0 : Int) (min (lo : Int) (n : Int)) = lo := by omega
  rw [e, if_pos (by omega)]
  rw [List.mem_map]
  refine ⟨i, List.mem_range.mpr ?_, by omega⟩
  omega
end
section
variable {K : PySem.W.Frag} {te ta tb : TE} {tg : TA} {ρ ρ1 ρ2 : List Sl} {i j : Int}
/-- max(a, b) -/
theorem ev_max {r : List V → Hp → VK → Prop} (hr : r = fun xs H Q => ∃ i j, xs = [V.int i, V.int j] ∧ Q (V.int (if j > i then j else i)) H) (ha : EvA K tg ρ [.d (.int i), .d (.int j)] ρ1) : Ev K (tCB r tg) ρ (.int (if j > i then j else i)) ρ1 := fun Z G H σ c Q q => by
  subst hr
  refine ha Z G H σ c _ fun vs G1 H1 s1 c1 r1 => ?_
  cases r1 with
  | cons ra r1 => cases r1 with
    | cons rb r1 =>
      cases r1
      cases ra
      cases rb
      exact ⟨i, j, rfl, q _ G1 H1 s1 c1 (.int _)⟩
end
end Bg

namespace Bg
open PySem L2
/-! ### sets of things whose hashes are all unlike: nothing is compared -/
section
open PySem.Spec PyProof.Rows
variable {P : Program} {w : World} {A : Around} {E : Value → Shared → Prop} {s : Shared} {a x : Addr} {L : List (Addr × Int)} {es : Array (Int × Value)} {ep : Nat} {t : SetTable} {h : Int}
def hrows (L : List (Addr × Int)) : List (Int × Value) := L.map fun p => (p.2, Value.ref p.1)
structure HTab (hp : Heap) (a : Addr) (L : List (Addr × Int)) (es : Array (Int × Value)) (ep : Nat) (t : SetTable) : Prop where
  ob : ∃ o, hp.get? a = some o ∧ o.ExactSet ∧ o.data = .set es ep t
  rows : es.toList = hrows L
  tab : TabOk t (L.map (·.2))
  plain : t.plain = true
  room : L.length * 5 < t.mask * 3
  few : L.length < 64
theorem HTab.size {hp : Heap} (R : HTab hp a L es ep t) : es.size = L.length := by
  have e := congrArg List.length R.rows
  simpa [hrows] using e
theorem HTab.fits {hp : Heap} (R : HTab hp a L es ep t) : t.fits es.size = true := by
  have h1 := R.tab.sz
  have h2 := R.size
  have h3 := R.room
  rw [List.length_map] at h1
  unfold SetTable.fits SetTable.fill
  rw [R.tab.dm, Bool.and_eq_true, beq_iff_eq, decide_eq_true_eq]
  exact ⟨by omega, by show _ + 0 ≤ _; omega⟩
theorem HTab.gave {hp : Heap} (R : HTab hp a L es ep t) : ¬ t.gaveWay = true := by
  unfold SetTable.gaveWay
  rw [mask_odd R.tab.mok]
  decide
theorem HTab.at {hp : Heap} (R : HTab hp a L es ep t) (i : Nat) : (es[i]?.map (·.1)).getD 0 = ((L.map (·.2))[i]?).getD 0 := by
  rw [← Array.getElem?_toList, R.rows]
  unfold hrows
  rw [List.getElem?_map, List.getElem?_map]
  cases L[i]? <;> rfl
theorem hs_search (R : HTab s.heap a L es ep t) (hn : h ∉ L.map (·.2)) {Q : SetFound → Shared → Prop}
    (q : ∀ K, way t.mask h K ∉ t.place.toList → (∀ c, c < K → way t.mask h c ∈ t.place.toList) → Q (.free (way t.mask h K) false) s) :
    wpAny (model P w) A (setSearch a (.ref x) h true) Q E s := by
  have hroom := R.room
  obtain ⟨K, k1, k2, k3⟩ := R.tab.first (by rw [List.length_map]; omega) h
  obtain ⟨o, ho, _, hd⟩ := R.ob
  unfold setSearch
  rw [show (100000 : Nat) = 99999 + 1 from rfl, setSearchFrom_succ]
  refine wpAny_bind (wpAny_setState_of ho hd R.fits ?_)
  dsimp only
  refine wp_if_neg R.gave ?_
  try refine wpAny_bind (wpAny_pure ?_)
  have spec := go_spec t R.tab.ris R.tab.dm (fun i => (es[i]?.map (·.1)).getD 0) h (10 * SetTable.turns t.mask) K (runAt t.mask (SetTable.bits h % (t.mask + 1)) (SetTable.bits h)) rfl k1 k3 k2
  rcases spec with ⟨c, i, _, hi, hh, _⟩ | ⟨_, hp⟩
  · refine absurd ?_ hn
    have hh : (es[i]?.map (·.1)).getD 0 = h := hh
    rw [R.at i] at hh
    have hil : i < (L.map (·.2)).length := by
      have := (List.getElem?_eq_some_iff.mp hi).1
      rw [← R.tab.sz]
      simpa using this
    rw [List.getElem?_eq_getElem hil] at hh
    exact List.mem_of_getElem? ((List.getElem?_eq_getElem hil).trans (congrArg some hh))
  · have hp : t.probe (fun i => (es[i]?.map (·.1)).getD 0) h ((none : Option SetTable.Probe).getD (t.probeStart h)) = some (.empty (way t.mask h K) none) := hp
    rw [hp]
    exact wpAny_pure (q K k2 k3)
theorem range_pick {α : Type} (L : List α) : (List.range L.length).filterMap (L[·]?) = L := by
  induction L with
  | nil => rfl
  | cons x L ih =>
    rw [List.length_cons, List.range_succ_eq_map, List.filterMap_cons]
    show x :: _ = _
    rw [List.filterMap_map]
    exact congrArg (x :: ·) ih
theorem hs_order {order : Array Nat} (hr : es.toList = hrows L) (hp : order.toList.Perm (List.range L.length)) :
    ∃ L2, (order.filterMap (es[·]?)).toList = hrows L2 ∧ L2.Perm L ∧ L2.map (·.2) = order.toList.map fun i => (es.map (·.1)).getD i 0 := by
  have ent : ∀ i, es[i]? = (L[i]?).map fun (p : Addr × Int) => (p.2, Value.ref p.1) := fun i => by
    rw [← Array.getElem?_toList, hr]
    unfold hrows
    rw [List.getElem?_map]
  refine ⟨order.toList.filterMap (L[·]?), ?_, ?_, ?_⟩
  · rw [Array.toList_filterMap]
    unfold hrows
    rw [List.map_filterMap]
    exact congrArg (fun f => order.toList.filterMap f) (funext ent)
  · have := hp.filterMap (L[·]?)
    rwa [range_pick] at this
  · have all : ∀ i ∈ order.toList, i < L.length := fun i hi => List.mem_range.mp (hp.mem_iff.mp hi)
    generalize order.toList = is at all
    induction is with
    | nil => rfl
    | cons i is ih =>
      have hi := all i List.mem_cons_self
      rw [List.filterMap_cons, List.getElem?_eq_getElem hi, List.map_cons, List.map_cons, ih fun j hj => all j (List.mem_cons_of_mem _ hj)]
      congr 1
      have e := ent i
      rw [List.getElem?_eq_getElem hi] at e
      rw [Array.getD_eq_getD_getElem?, Array.getElem?_map, e]
      rfl
theorem hs_relay {o : Obj} (ho : s.heap.get? a = some o) (hex : o.ExactSet) (hd : o.data = .set es ep t) (hr : es.toList = hrows L) (hsz : t.place.size = es.size) (hdm : t.dummies = #[]) (hfl : es.size ≤ t.mask) (pl : t.plain = true) (few : L.length < 64) {wanted M : Nat}
    (hw : SetTable.sizeAbove wanted - 1 = M) (hM : MaskOk M) (hw2 : SetTable.sizeAbove wanted ≤ 128) (hn : L.length * 5 < M * 3) {Q : Unit → Shared → Prop}
    (q : ∀ h' L' es' ep' t', Heap.SameBut a s.heap h' → HTab h' a L' es' ep' t' → L'.Perm L → Q () { s with heap := h' }) : wpAny (model P w) A (setRelay a wanted) Q E s := by
  have hl : es.size = L.length := by
    have e := congrArg List.length hr
    simpa [hrows] using e
  have hfits : t.fits es.size = true := by
    unfold SetTable.fits SetTable.fill
    rw [hdm, Bool.and_eq_true, beq_iff_eq, decide_eq_true_eq]
    exact ⟨hsz, by show _ + 0 ≤ _; omega⟩
  obtain ⟨t', order, e, hp, T, em, _, ep', _⟩ := relaid_ok t (hs := es.map (·.1)) (wanted := wanted) hw hM (by rw [Array.size_map]; omega)
  rw [Array.size_map, hl] at hp
  obtain ⟨L2, r1, r2, r3⟩ := hs_order hr hp
  rw [← r3] at T
  have hs2 : (order.filterMap (es[·]?)).size = es.size := by
    have h := congrArg List.length r1
    rw [Array.length_toList] at h
    rw [h, hl]
    show (List.map _ L2).length = _
    rw [List.length_map, r2.length_eq]
  rw [setRelay_eq]
  refine wpAny_bind (wpAny_setState_of ho hd hfits ?_)
  dsimp only
  refine wp_if_neg (by rw [sizeLine_eq]; omega) ?_
  try refine wpAny_bind (wpAny_pure ?_)
  rw [e]
  dsimp only
  refine wpAny_bind ?_
  refine wp_if_neg (by rw [hs2]; simp) ?_
  try refine wpAny_bind (wpAny_pure ?_)
  refine wpAny_pure ?_
  dsimp only
  refine wpAny_storeSet_of ho hd ?_ (by rw [hs2, hl, sizeLine_eq]; omega)
  exact q _ L2 _ (ep + 1) t' (Heap.SameBut.update ..) ⟨⟨_, store_at ho hd, ⟨hex.1, hex.2.1, hex.2.2⟩, rfl⟩, r1, T, by rw [ep']; exact pl, by rw [r2.length_eq, em]; exact hn, by rw [r2.length_eq]; exact few⟩ r2
theorem hs_add (R : HTab s.heap a L es ep t) (hn : h ∉ L.map (·.2)) (hfew : L.length + 1 < 64) (hv : ∀ (s' : Shared) (Q : Bool → Shared → Prop), s'.heap = s.heap → Q true s' → wpAny (model P w) A (hashByValue 8 (.ref x)) Q E s') {Q : Bool → Shared → Prop}
    (q : ∀ b h' L' es' ep' t', Heap.SameBut a s.heap h' → HTab h' a L' es' ep' t' → L'.Perm ((x, h) :: L) → Q b { s with heap := h' }) :
    wpAny (model P w) A (setAddHashed a (.ref x) h) Q E s := by
  obtain ⟨o, ho, hex, hd⟩ := R.ob
  have hl := R.size
  have hroom := R.room
  unfold setAddHashed
  refine wpAny_holding ?_
  rw [show (100000 : Nat) = 99999 + 1 from rfl, setAddHashedIn_succ]
  refine wpAny_bind (wpAny_setState_of ho hd R.fits ?_)
  dsimp only
  refine wp_if_neg (by simp [byScan, Value.scannable]) ?_
  try refine wpAny_bind (wpAny_pure ?_)
  refine wpAny_bind (hs_search R hn fun K hK hb => ?_)
  dsimp only
  refine wpAny_bind (wpAny_setState_of ho hd R.fits ?_)
  dsimp only
  obtain ⟨q1, q2, q3, q4, _, q6, _, _, q9⟩ := R.tab.put hK hb
  have hp1 : (t.put (way t.mask h K)).1.plain = true := by rw [q6]; exact R.plain
  generalize t.put (way t.mask h K) = pt at q1 q3 q4 q6 q9 hp1 ⊢
  obtain ⟨t1, p⟩ := pt
  dsimp only at q1 q3 q4 q6 q9 hp1 ⊢
  subst q1
  first
    | (refine wpAny_bind ?_; refine wp_if_pos hp1 ?_; refine hv s _ rfl ?_)
    | refine wp_if_pos hp1 (wpAny_bind (hv s _ rfl ?_))
  simp only [if_true]
  generalize SetTable.below t.place (way t.mask h K) = p at q2 q3 ⊢
  have hrow : (SetTable.insertAt es p (h, Value.ref x)).toList = hrows (L.take p ++ (x, h) :: L.drop p) := by
    rw [SetTable.toList_insertAt, R.rows]
    unfold hrows
    rw [List.map_append, List.map_cons, List.map_take, List.map_drop]
  have pm : (L.take p ++ (x, h) :: L.drop p).Perm ((x, h) :: L) := by
    have := List.perm_middle (a := (x, h)) (l₁ := L.take p) (l₂ := L.drop p)
    rwa [List.take_append_drop] at this
  have hlen := pm.length_eq
  rw [List.length_cons] at hlen
  have hhs : (L.take p ++ (x, h) :: L.drop p).map (·.2) = (L.map (·.2)).take p ++ h :: (L.map (·.2)).drop p := by
    rw [List.map_append, List.map_cons, List.map_take, List.map_drop]
  rw [← hhs] at q3
  generalize L.take p ++ (x, h) :: L.drop p = L1 at pm hlen q3 hrow
  have hes : (SetTable.insertAt es p (h, Value.ref x)).size = L.length + 1 := by
    have e := congrArg List.length hrow
    rw [Array.length_toList] at e
    rw [e]
    show (List.map _ L1).length = _
    rw [List.length_map, hlen]
  generalize SetTable.insertAt es p (h, Value.ref x) = es1 at hrow hes ⊢
  refine wpAny_bind (wpAny_storeSet_of ho hd ?_ (by rw [hes, sizeLine_eq]; omega))
  have sb : Heap.SameBut a s.heap (s.heap.update a (Obj.putSet es1 t1)) := Heap.SameBut.update ..
  have ho1 := store_at (es' := es1) (t' := t1) ho hd
  generalize s.heap.update a (Obj.putSet es1 t1) = h1 at sb ho1 ⊢
  rw [List.length_map] at q9
  by_cases hf : t1.tooFull = true
  · first
      | (refine wpAny_bind ?_; refine wp_if_pos (by simp [hf]) ?_)
      | (refine wp_if_pos (by simp [hf]) ?_; refine wpAny_bind ?_)
    have hfull : (L.length + 1) * 5 ≥ t1.mask * 3 := by
      have e := hf
      unfold SetTable.tooFull at e
      rwa [decide_eq_true_eq, q9] at e
    have hsz1 : t1.place.size = es1.size := by
      have e := q3.sz
      rw [List.length_map, hlen] at e
      rw [e, hes]
    rw [hl]
    have two : (t.mask = 7 ∧ L.length = 4) ∨ (t.mask = 31 ∧ L.length = 18) := by
      rw [q4] at hfull
      rcases R.tab.mok with e | e | e <;> rw [e] at hfull hroom
      · exact .inl ⟨e, by omega⟩
      · exact .inr ⟨e, by omega⟩
      · omega
    have go : ∀ M, SetTable.sizeAbove (SetTable.grown (L.length + 1)) - 1 = M → MaskOk M → SetTable.sizeAbove (SetTable.grown (L.length + 1)) ≤ 128 → (L.length + 1) * 5 < M * 3 →
        wpAny (model P w) A (setRelay a (SetTable.grown (L.length + 1))) (fun _ s' => wpAny (model P w) A (pure true) Q E s') E { s with heap := h1 } := fun M m1 m2 m3 m4 =>
      hs_relay (s := { s with heap := h1 }) ho1 ⟨hex.1, hex.2.1, hex.2.2⟩ rfl hrow hsz1 q3.dm (by rw [hes, q4]; rcases two with ⟨e, e2⟩ | ⟨e, e2⟩ <;> omega) hp1 (by rw [hlen]; exact hfew) m1 m2 m3 (by rw [hlen]; exact m4)
        fun h2 L2 es2 ep2 t2 sb2 R2 pm2 => wpAny_pure (q true h2 L2 es2 ep2 t2 (sb.trans sb2) R2 (pm2.trans pm))
    rcases two with ⟨_, e2⟩ | ⟨_, e2⟩
    · exact go 31 (by rw [e2, size_20]) (.inr (.inl rfl)) (by rw [e2, size_20]; decide) (by omega)
    · exact go 127 (by rw [e2, size_76]) (.inr (.inr rfl)) (by rw [e2, size_76]; decide) (by omega)
  · have hroom1 : L1.length * 5 < t1.mask * 3 := by
      have e := hf
      unfold SetTable.tooFull at e
      rw [decide_eq_true_eq, q9] at e
      omega
    first
      | refine wp_if_neg (by simp [hf]) ?_
      | (refine wpAny_bind ?_; refine wp_if_neg (by simp [hf]) ?_; refine wpAny_pure ?_)
    exact wpAny_pure (q true h1 L1 es1 (ep + 1) t1 sb ⟨⟨_, ho1, ⟨hex.1, hex.2.1, hex.2.2⟩, rfl⟩, hrow, q3, hp1, hroom1, by omega⟩ pm)
/-- what must be known of a key: its hash is told, and told by its value -/
def KeyAt (P : Program) (w : World) (h0 : Heap) (p : Addr × Int) : Prop := ∀ (A : Around) (E : Value → Shared → Prop) (s : Shared), A.units < cLine → (∀ b o, h0.get? b = some o → s.heap.get? b = some o) →
  (∀ Q : Int → Shared → Prop, (∀ tk, s.toks ≤ tk → Q p.2 { s with toks := tk }) → wpAny (model P w) A (pyHash (.ref p.1)) Q E s) ∧ ∀ Q : Bool → Shared → Prop, Q true s → wpAny (model P w) A (hashByValue 8 (.ref p.1)) Q E s
theorem HTab.to {hp hp' : Heap} (R : HTab hp a L es ep t) (k : ∀ o, hp.get? a = some o → hp'.get? a = some o) : HTab hp' a L es ep t := by
  obtain ⟨⟨o, ho, r⟩, r1, r2, r3, r4, r5⟩ := R
  exact ⟨⟨o, k o ho, r⟩, r1, r2, r3, r4, r5⟩
theorem hs_update {I S : Addr} {fp wr : List Addr} {G : Array GenState → Array GenState → Prop} {n : Nat} {Pv : Nat → Value → Prop} {St : Nat → Shared → Prop} {R : Result → Shared → Prop} (W : WalksS P w A.in1 I fp wr G n Pv St) (hS : S ∉ fp)
    (ks : List (Addr × Int)) (hn : n = ks.length) (few : ks.length < 64) (nd : (ks.map (·.2)).Nodup) (hv : ∀ i v, Pv i v → ∃ p, ks[i]? = some p ∧ v = .ref p.1) (h0 : Heap) (hk : ∀ p ∈ ks, KeyAt P w h0 p) (hS0 : h0.get? S = none) (hw0 : ∀ b ∈ wr, h0.get? b = none) (hu : A.in1.units < cLine) :
    ∀ (m i : Nat) (s : Shared), i + m = n → St i s → (∀ b o, h0.get? b = some o → s.heap.get? b = some o) → (∃ L es ep t, HTab s.heap S L es ep t ∧ L.Perm (ks.take i)) →
      (∀ s' L es ep t, Moved (S :: wr) G s s' → HTab s'.heap S L es ep t → L.Perm ks → (∀ b o, h0.get? b = some o → s'.heap.get? b = some o) → R (.ok (.ret .none)) s') → codeAny (model P w) A (.builtin "set.update.loop" ⟨[.ref S, .ref I], []⟩) R s := by
  have notS : S ∉ wr := fun hb => hS (W.sub _ hb)
  have stays : ∀ {s s' : Shared}, Moved wr G s s' → (∀ b o, h0.get? b = some o → s.heap.get? b = some o) → ∀ b o, h0.get? b = some o → s'.heap.get? b = some o := fun mv st b o e => mv.heap b o (fun hb => by rw [hw0 b hb] at e; cases e) (st b o e)
  intro m
  induction m with
  | zero =>
    rintro i s hi hst st ⟨L, es, ep, t, T, pm⟩ fin
    have hi : i = n := by omega
    rw [hi] at hst pm
    rw [hn, List.take_length] at pm
    refine codeAny_builtin F.entry_set_update_loop ?_
    rw [Around.under_plainId F.plain_set_update_loop _]
    show wpAny _ A.in1 (pyNext (.ref I) >>= _) _ _ s
    refine wpAny_bind (W.done s _ _ hst fun s' mv => ?_)
    show wpAny _ A.in1 (ret Value.none) _ _ s'
    exact wpAny_pure (fin s' L es ep t (mv.mono fun b hb => List.mem_cons_of_mem _ hb) (T.to fun o e => mv.heap S o notS e) pm (stays mv st))
  | succ m ih =>
    rintro i s hi hst st ⟨L, es, ep, t, T, pm⟩ fin
    refine codeAny_builtin F.entry_set_update_loop ?_
    rw [Around.under_plainId F.plain_set_update_loop _]
    show wpAny _ A.in1 (pyNext (.ref I) >>= _) _ _ s
    refine wpAny_bind (W.item i s _ _ (by omega) hst fun v s' hP hst' mv => ?_)
    obtain ⟨p, hp, rfl⟩ := hv i v hP
    have st' := stays mv st
    have T' : HTab s'.heap S L es ep t := T.to fun o e => mv.heap S o notS e
    have hpm := List.mem_of_getElem? hp
    show wpAny _ A.in1 (holding [Value.ref p.1] (setAdd S (.ref p.1)) >>= _) _ _ s'
    refine wpAny_bind (wpAny_holding ?_)
    unfold setAdd
    refine wpAny_holding (wpAny_bind ((hk p hpm _ _ s' hu st').1 _ fun tk htk => ?_))
    have tk1 : ks.take (i + 1) = ks.take i ++ [p] := by rw [List.take_add_one, hp]; rfl
    have nd1 : ((ks.take (i + 1)).map (·.2)).Nodup := by
      rw [List.map_take]
      exact nd.sublist (List.take_sublist _ _)
    have fresh : p.2 ∉ L.map (·.2) := fun hm => by
      rw [(pm.map (·.2)).mem_iff] at hm
      rw [tk1, List.map_append, List.nodup_append] at nd1
      exact nd1.2.2 _ hm _ (by simp) rfl
    have hlen : L.length ≤ i := by rw [pm.length_eq, List.length_take]; omega
    refine hs_add (s := { s' with toks := tk }) T' fresh (by omega) (fun s2 Q2 e2 q2 => (hk p hpm _ _ s2 hu fun b o e => by rw [e2]; exact st' b o e).2 Q2 q2) fun b h' L' es' ep' t' sb T2 pm2 => ?_
    have pm3 : L'.Perm (ks.take (i + 1)) := by
      rw [tk1]
      exact pm2.trans ((pm.cons p).trans (List.perm_append_singleton p (ks.take i)).symm)
    have st2 : ∀ b o, h0.get? b = some o → h'.get? b = some o := fun b o e => (sb.2 b fun z => by rw [z, hS0] at e; cases e).trans (st' b o e)
    refine wpAny_pure ⟨plainId_quiet F.plain_set_update_loop _, ih (i + 1) _ (by omega) (W.frame _ s' _ _ hst' htk fun b hb o e => (sb.2 b fun z : b = S => hS (by rw [← z]; exact hb)).trans e) st2 ⟨L', es', ep', t', T2, pm3⟩ fun s3 L3 es3 ep3 t3 mv3 T3 p3 st3 => ?_⟩
    exact fin s3 L3 es3 ep3 t3 (Moved.trans W.gtrans ((mv.mono fun b hb => List.mem_cons_of_mem _ hb).then_heap htk fun b o hb e => (sb.2 b fun z : b = S => hb (by rw [z]; exact List.mem_cons_self)).trans e) mv3) T3 p3 st3
/-- a set that nothing is in -/
abbrev setObj (w : World) : Obj := { cls := .type "set", dict := none, data := .set #[] 0 (.fresh 0 0 (!w.params.followText "set-order")) }
theorem htab_new {hp : Heap} (ho : hp.get? a = some (setObj w)) : HTab hp a [] #[] 0 (.fresh 0 0 (!w.params.followText "set-order")) :=
  ⟨⟨_, ho, ⟨rfl, rfl, rfl⟩, rfl⟩, rfl, ⟨List.Pairwise.nil, rfl, rfl, .inl rfl, (fun x hx => by cases hx), (fun i h j hi => by simp at hi)⟩, rfl, by show 0 * 5 < 7 * 3; decide, by show 0 < 64; decide⟩
theorem hs_call {l : Addr} {items : Array Value} (ks : List (Addr × Int)) {Q : Value → Shared → Prop} (hh : A.handled = none) (hl : s.heap.IsList l items) (hit : items.toList = ks.map fun p => Value.ref p.1) (hk : ∀ p ∈ ks, KeyAt P w s.heap p) (nd : (ks.map (·.2)).Nodup) (few : ks.length < 64) (hu : A.units + 3 < cLine)
    (q : ∀ (h' : Heap) (tk : Nat) (L : List (Addr × Int)) es ep t, HTab h' s.heap.objs.size L es ep t → L.Perm ks → (∀ b o, s.heap.get? b = some o → h'.get? b = some o) → Q (.ref s.heap.objs.size) { s with heap := h', toks := tk }) :
    wpAny (model P w) A (call (.type "set") [.ref l]) Q E s := by
  have hsz : items.size = ks.length := by simpa using congrArg List.length hit
  have old : ∀ b, s.heap.objs.size ≤ b → s.heap.get? b = none := fun b hb => by
    cases e : s.heap.get? b with
    | none => rfl
    | some o => exact absurd (Nat.lt_of_lt_of_le (Heap.lt_size e) hb) (Nat.lt_irrefl _)
  obtain ⟨c, tl, hmro⟩ := F.called_set.mro
  have hmade := F.called_set.made
  have hsub := F.called_set.sub
  refine wpAny_call (codeAny_of_tree ?_)
  show wpAny _ _ (callAny (.type "set") _) _ _ _
  refine wpAny_pure ⟨Code.quiet_builtin _ (by decide +kernel), codeAny_builtin F.entry_type_call ?_⟩
  rw [Around.under_plain (weight_type_call_type "set" [.ref l] []) rfl]
  have h1 := F.called_set.notType
  have h2 := F.called_set.canCreate
  have hct := F.typeCall_set_1 (.ref l)
  repeat (any_goals (first | assumption | wp_step))

  refine codeAny_mono (code_set_led1 (.ref l) (E := E) (Q₁ := fun v s1 => v = .ref s.heap.objs.size ∧ s1 = { s with heap := s.heap.push (setObj w) }) ⟨rfl, rfl⟩) fun r s1 hr => ?_
  cases r with
  | error e => exact hr
  | ok fl =>
    cases fl with
    | ret v =>
      obtain ⟨rfl, rfl⟩ := hr
      have hS : (s.heap.push (setObj w)).get? s.heap.objs.size = some (setObj w) := Heap.get?_push_size _ rfl
      have hT : Shared.TypeIs { s with heap := s.heap.push (setObj w) } (.ref s.heap.objs.size) "set" := ⟨_, hS, rfl⟩
      have hli := F.called_set.init.lookup
      have hbi := F.called_set.init.bind (.ref s.heap.objs.size)
      repeat (any_goals (first | assumption | wp_step))

      refine codeAny_mono (codeAny_call_builtin (R := wants (fun r s2 => r = .none ∧ ∃ h' tk L es ep t, s2 = { s with heap := h', toks := tk } ∧ HTab h' s.heap.objs.size L es ep t ∧ L.Perm ks ∧ ∀ b o, s.heap.get? b = some o → h'.get? b = some o) E) F.called_set.init.plain F.entry_set_init (check_set_init_1 hT ?_)) fun r2 s2 hr2 => ?_
      · obtain ⟨ol, hol, hcl, nl, hdl⟩ := hl
        obtain ⟨ocls, odict, odata, oslots⟩ := ol
        simp only at hcl hdl
        subst hcl; subst hdl
        have hlS : l < s.heap.objs.size := Heap.lt_size hol
        have hol' : (s.heap.push (setObj w)).get? l = some { cls := .type "list", dict := odict, data := .seq items nl, slots := oslots } := Heap.get?_push_of_some _ hol
        have hsls := F.sub_list_set
        have hslf := F.sub_list_frozenset
        have hne : (Value.type "list" == Value.type "dict") = false := by decide
        have hl1 : (s.heap.push (setObj w)).IsList l items := ⟨_, hol', rfl, nl, rfl⟩
        unfold Builtin.«set.__init__» noKeywords Builtin.Frozenset.updateFrom
        generalize hPI : pyIter = PI
        wp_walk
        subst hPI

        refine wpAny_pyIter_list hl1 (wpAny_bind (wpAny_runValue ?_))
        have hh3 : A.in1.in1.in1.handled = none := by simp [hh]
        have sz1 : (s.heap.push (setObj w)).objs.size = s.heap.objs.size + 1 := Heap.size_push ..
        have lne : l ≠ (s.heap.push (setObj w)).objs.size := Nat.ne_of_lt (by rw [sz1]; exact Nat.lt_succ_of_lt hlS)
        have Sne : s.heap.objs.size ∉ [(s.heap.push (setObj w)).objs.size, l] := by
          simp only [List.mem_cons, List.not_mem_nil, or_false, not_or]
          exact ⟨Nat.ne_of_lt (by rw [sz1]; exact Nat.lt_succ_self _), Nat.ne_of_gt hlS⟩
        have hv : ∀ (i : Nat) (v : Value), items[i]? = some v → ∃ p, ks[i]? = some p ∧ v = .ref p.1 := fun i v hv => by
          rw [← Array.getElem?_toList, hit, List.getElem?_map] at hv
          cases e : ks[i]? with
          | none => rw [e] at hv; cases hv
          | some p => rw [e] at hv; cases hv; exact ⟨p, rfl, rfl⟩
        refine hs_update ((Walks.list hh3 _ l lne items).toS) Sne ks hsz few nd hv s.heap hk (old _ (Nat.le_refl _)) (fun b hb => old b (by rw [List.mem_singleton.mp hb, sz1]; omega)) hu items.size 0 _ (by omega)
          ⟨⟨_, Heap.get?_push_size _ rfl, rfl, rfl⟩, (hl1.push _)⟩ (fun b o e => Heap.get?_push_of_some _ (Heap.get?_push_of_some _ e)) ⟨[], #[], 0, _, htab_new (Heap.get?_push_of_some _ hS), by rw [List.take_zero]⟩ ?_
        intro s' L es ep t mv T pm kp
        obtain ⟨h', g2, d', tk', os'⟩ := s'
        obtain rfl : g2 = s.gens := mv.gens
        obtain rfl : d' = s.drawn := mv.drawn
        obtain rfl : os' = s.os := mv.os
        show wpAny _ _ _ _ _ _
        refine wpAny_pure ?_
        show wpAny _ _ (ret Value.none) _ _ _
        exact wpAny_pure ⟨rfl, h', tk', L, es, ep, t, rfl, T, pm, kp⟩

      · cases r2 with
        | error e => exact hr2
        | ok fl2 =>
          cases fl2 with
          | ret r =>
            obtain ⟨rfl, h', tk, L, es, ep, t, rfl, T, pm, kp⟩ := hr2
            repeat (any_goals (first | assumption | wp_step))
            exact q _ _ _ _ _ _ T pm kp
          | _ => exact hr2.elim
    | _ => exact hr.elim
/-- the hash of a tuple of truths -/
def bhash (ks : List Bool) : Int := reduceHash (Builtin.Tuple.tupleHashOf (ks.map PpSet.hB))
theorem hashBy_bools {ks : List Bool} {b : Addr} {Q : Bool → Shared → Prop} (hk : IsTupleKey (PpSet.boolK P w) s.heap ks b) (q : Q true s) : wpAny (model P w) A (hashByValue 8 (.ref b)) Q E s := by
  have hT := hk.typeIs
  obtain ⟨o, items, n, ho, _, hd, hi⟩ := hk
  have hbs : ∀ v ∈ items.toList, ∃ c, v = Value.bool c := by
    clear hd ho
    generalize items.toList = vs at hi
    induction hi with
    | nil => intro v hv; cases hv
    | cons h1 _ ih =>
      intro v hv
      rcases List.mem_cons.mp hv with e | hv
      · exact ⟨_, e.trans (PpSet.isB_shape h1)⟩
      · exact ih v hv
  unfold hashByValue
  refine wpAny_bind (wpAny_specialOf hT F.slot_tuple_hash.lookup ?_)
  show wpAny _ _ (seqItems? (.ref b) >>= _) _ _ s
  refine wpAny_bind (wpAny_seqItems ho hd (wpAny_bind ?_))
  show wpAny _ _ (forIn items _ _) _ _ s
  rw [← Array.forIn_toList]
  refine wpAny_forIn_list _ (fun rest r s2 => r.1 = none ∧ s2 = s ∧ ∀ v ∈ rest, ∃ c, v = Value.bool c) _ ?_ ?_ _ _ ⟨rfl, rfl, hbs⟩
  · rintro v rest r s2 ⟨hr, rfl, all⟩
    obtain ⟨c, rfl⟩ := all v List.mem_cons_self
    rw [show hashByValue 7 (Value.bool c) = pure true by rfl]
    refine wpAny_bind (wpAny_pure ?_)
    simp only [Bool.not_true, Bool.false_eq_true, if_false]
    exact wpAny_pure ⟨rfl, rfl, fun u hu => all u (List.mem_cons_of_mem _ hu)⟩
  · rintro ⟨r1, r2⟩ s2 ⟨hr, rfl, _⟩
    simp only at hr
    subst hr
    exact wpAny_pure q
theorem keyAt_bools {h0 : Heap} {ks : List Bool} {b : Addr} (hk : IsTupleKey (PpSet.boolK P w) h0 ks b) : KeyAt P w h0 (b, bhash ks) := fun A E s hu keep => by
  have hk' : IsTupleKey (PpSet.boolK P w) s.heap ks b := by
    obtain ⟨o, items, n, ho, r⟩ := hk
    exact ⟨o, items, n, keep _ _ ho, r⟩
  exact ⟨fun Q q => wpAny_pyHash_tuple hu hk' (q _ (Nat.le_add_right _ _)), fun Q q => hashBy_bools hk' q⟩
end
/-! ### len(set(xs)), xs a list of tuples of truths, all unlike -/
theorem bools_of {P : Program} {w : World} : ∀ {ks : List Bool} {us : List Value}, Vals (ks.map V.bl) us → ItemsAre (PpSet.boolK P w) ks us
  | [], _, .nil => .nil
  | b :: ks, _, .cons r t => by
    cases r
    exact .cons (PpSet.boolK_is P w b) (bools_of t)
theorem refs_of {α : Type} : ∀ {ks : List (Addr × α)} {us : List Value}, Vals (ks.map fun p => V.ref p.1) us → us = ks.map fun p => Value.ref p.1
  | [], _, .nil => rfl
  | p :: ks, _, .cons r t => by
    cases r
    exact congrArg (Value.ref p.1 :: ·) (refs_of t)
def tLenSetB (K : PySem.W.Frag) (ta : TE) : TE := fun σ H Q => ta σ H fun x H1 => ∃ (l : Addr) (ks : List (Addr × List Bool)), x = .ref l ∧ SqL K H1 l (ks.map fun p => V.ref p.1) ∧ (∀ p ∈ ks, SqT K H1 p.1 (p.2.map V.bl)) ∧ (ks.map fun p => bhash p.2).Nodup ∧ ks.length < 64 ∧ Q (.int (ks.length : Nat)) H1
theorem pe_lenSetB {X : Cx} {a : Expr} {ta : TE} {p p2 q pos : Pos} (hg : Gl X "len") (hm : X.mg "len" = none) (hg2 : Gl X "set") (hm2 : X.mg "set" = none) (ha : PE X a ta) (hu : X.A.units + 64 < cLine) (hc : X.calm = true := by rfl)
    (na : starEach [a] X.env = (false, eval a X.env) :: starEach [] X.env := by rfl) : PE X (.Call (.Name "len" p) [.Call (.Name "set" p2) [a] [] q] [] pos) (tLenSetB X.K ta) := by
  refine ⟨fun pins s σ H Q I h => PyProof.Rows.Call_ (ld_blt I hg hm PySem.boot_len ?_)⟩
  refine PyProof.Rows.callWith_builtin1 (PyProof.Rows.args_cons ?_ rfl) rfl rfl
  refine PyProof.Rows.Call_ (ld_blt I hg2 hm2 PyProof.Rows.boot_set ?_)
  refine PyProof.Rows.callWith_type1 (PyProof.Rows.args_cons (thn (ha.run pins s σ H _ I h) fun v s1 ⟨x, H1, I1, r1, l, ks, ex, hq, hk, nd, few, q1⟩ => PyProof.Rows.args_nil ?_) na) na rfl
  subst ex
  cases r1
  obtain ⟨its, rv, pl, hz⟩ := I1.list hq
  refine hs_call (P := X.prog) (w := X.w) (ks.map fun p => (p.1, bhash p.2)) (I1.ok.hd hc) pl.isList (by rw [List.map_map]; exact refs_of rv) (fun p hp => ?_) (by rw [List.map_map]; exact nd) (by rw [List.length_map]; exact few) (by omega) fun h' tk L es ep t T pm keep => ?_
  · obtain ⟨k, hkm, rfl⟩ := List.mem_map.mp hp
    obtain ⟨ts, rt, ⟨o, ho, hcl, n, hd⟩, _⟩ := I1.tuple (hk k hkm)
    exact keyAt_bools ⟨o, ts.toArray, n, ho, hcl, hd, by simpa using bools_of rt⟩
  · refine PyProof.Rows.args_nil ?_
    have hn : es.size = ks.length := by rw [T.size, pm.length_eq, List.length_map]
    obtain ⟨o, ho, hex, hd⟩ := T.ob
    have I2 : Inv X pins σ H1 { s1 with heap := h', toks := tk } := I1.kept fun b o e => keep b o e
    exact call_len_set ho hex hd T.fits (by rw [hn] <;> omega) ⟨.int (ks.length : Nat), H1, I2.tok _, ⟨_, by rw [hn]⟩, q1⟩
theorem kLenSetB {X : Cx} {K : PySem.W.Frag} {e : Expr} {ta : TE} (p : PE X e (tLenSetB X.K ta)) (h : X.K = K := by rfl) : PE X e (tLenSetB K ta) := h ▸ p
section
variable {K : PySem.W.Frag} {ρ ρ1 : List Sl} {ta : TE} {G H : Hp}
theorem rp_bls : ∀ {g : List Bool} {xs : List V}, RpAll K G xs (g.map Dat.bl) → xs = g.map V.bl
  | [], _, r => by cases r; rfl
  | b :: g, _, r => by
    cases r with
    | cons a r =>
      cases a
      exact congrArg (V.bl b :: ·) (rp_bls r)
theorem rp_tups (s : Same G H) : ∀ {gs : List (List Bool)} {xs : List V}, RpAll K G xs (gs.map fun g => .tup (g.map Dat.bl)) → ∃ ks : List (Addr × List Bool), xs = (ks.map fun p => V.ref p.1) ∧ ks.map (·.2) = gs ∧ ∀ p ∈ ks, SqT K H p.1 (p.2.map V.bl)
  | [], _, r => by cases r; exact ⟨[], rfl, rfl, fun p hp => by cases hp⟩
  | g :: gs, _, r => by
    cases r with
    | cons a r =>
      obtain ⟨ks, rfl, e2, e3⟩ := rp_tups s r
      obtain ⟨b, ys, rfl, ht, _, ry⟩ := rp_tup s a
      have := rp_bls ry
      subst this
      exact ⟨(b, g) :: ks, rfl, congrArg (g :: ·) e2, fun p hp => by
        rcases List.mem_cons.mp hp with rfl | hp
        · exact ht
        · exact e3 p hp⟩
theorem ev_lenSetB {gs : List (List Bool)} {a : Ag} (ha : EvL K ta ρ a ρ1) (l : look ρ1 a = some (gs.map fun g => .tup (g.map Dat.bl))) (nd : (gs.map bhash).Nodup) (hl : gs.length < 64) : Ev K (tLenSetB K ta) ρ (.int (gs.length : Nat)) ρ1 := fun Z G H σ c Q q => by
  refine ha Z G H σ c _ fun v G1 H1 s1 c1 r1 => ?_
  obtain ⟨p, xs, rfl, hp, rx⟩ := c1.read r1 l
  obtain ⟨ks, rfl, e2, e3⟩ := rp_tups c1.gh rx
  have hlen : ks.length = gs.length := by rw [← e2, List.length_map]
  refine ⟨p, ks, rfl, hp, e3, ?_, by omega, ?_⟩
  · rw [← e2, List.map_map] at nd
    exact nd
  · rw [hlen]
    exact q _ _ _ s1 c1 (.int _)
end
end Bg

namespace My
open PySem L2 Bg
def topS (i : Nat) : Stmt := PySem.Challenge.pw_everafter_k05_right_guesses.main.body.getD i (.Pass ⟨0, 0, 0, 0⟩)
/-- a def that may be called -/
structure Cal (P : Program) (w : World) (K : PySem.W.Frag) (mg : Str → Option Value) (base : Heap) (x : Str) (k : Nat) (ps : List Str) (sp : Sp) (f : Addr) (fd : FuncData) : Prop where
  g : mg x = some (.ref f)
  kp : PySem.W.keepIn K (.ref f) = true
  b : Binds K fd ps []
  ok : FnOk P w K mg base CX0 k f fd ps sp
/-- a def that may be called and may raise -/
structure CalX (P : Program) (w : World) (K : PySem.W.Frag) (mg : Str → Option Value) (base : Heap) (CX : CXT) (x : Str) (k : Nat) (ps : List Str) (sp : Sp) (f : Addr) (fd : FuncData) : Prop where
  g : mg x = some (.ref f)
  kp : PySem.W.keepIn K (.ref f) = true
  b : Binds K fd ps []
  ok : FnOk P w K mg base CX k f fd ps sp
/-- a class that may be made, a method that may be called -/
structure CalI (P : Program) (w : World) (K : PySem.W.Frag) (mg : Str → Option Value) (base : Heap) (C : Addr) (k : Nat) (ps : List Str) (sp : Sp) (f : Addr) (fd : FuncData) : Prop where
  mkc : Mk K C f
  b : Binds K fd ps []
  ok : FnOk P w K mg base CX0 k f fd ps sp
structure CalIX (P : Program) (w : World) (K : PySem.W.Frag) (mg : Str → Option Value) (base : Heap) (CX : CXT) (C : Addr) (k : Nat) (ps : List Str) (sp : Sp) (f : Addr) (fd : FuncData) : Prop where
  mkc : Mk K C f
  b : Binds K fd ps []
  ok : FnOk P w K mg base CX k f fd ps sp
structure CalM (P : Program) (w : World) (K : PySem.W.Frag) (mg : Str → Option Value) (base : Heap) (C : Addr) (x : Str) (k : Nat) (ps : List Str) (sp : Sp) (f : Addr) (fd : FuncData) : Prop where
  m : Meth K C x f
  b : Binds K fd ps []
  ok : FnOk P w K mg base CX0 k f fd ps sp
theorem init_len {K : PySem.W.Frag} {C : Addr} {R : List Dat → List Str → List Dat → Prop} {n : Nat} (h : ∀ es ns ds, R es ns ds → es.length = n) : ∀ vs H Q E, spInit K C R vs H Q E → vs.length = n + 1 := by
  rintro vs H Q E ⟨G, H0, x, dx, vs', es, ns, ds, r, rfl, _, _, _, _, _, ra, _⟩
  rw [List.length_cons, ra.length, h _ _ _ r]
theorem cxK {CX : CXT} {P : Program} {w : World} {K : PySem.W.Frag} {mg : Str → Option Value} {base : Heap} {N : List Str} {q : Str} {sc : Scope} {f : Addr} {c : Value} {A : Around} {outer : List Env} {s : Shared} {H : Hp} {E : XK} : (cxOf CX P w K mg base N q sc f c A outer s H E).K = K := rfl
theorem wipeS_one {ρ : List Sl} {v : Nat} : wipeS ρ [v] = ρ.set v .no := rfl
theorem unit5 {k : Nat} {A : Around} (r : Room k A) : A.units + 65 < cLine := by
  have := r.un
  omega
theorem kcls {K : PySem.W.Frag} {t : Value} {C : Addr} {b : Bool} (i : PySem.W.isClsIn K C = true) (ty : PySem.W.typeIn K (.ref C) = some (.type "type")) (s : PySem.W.subIn K t (.ref C) = some b) : PySem.W.kitCls K t (.ref C) = some b := by
  show (if ((PySem.W.clsIn K C).isSome && PySem.W.typeIn K (.ref C) == some (.type "type")) = true then PySem.W.subIn K t (.ref C) else none) = some b
  rw [show (PySem.W.clsIn K C).isSome = true from i, ty]
  simpa using s
theorem kexm {K : PySem.W.Frag} {A B : Addr} (b : PySem.W.subIn K (.ref B) (.type "BaseException") = some true) (i : PySem.W.isClsIn K B = true) (ty : PySem.W.typeIn K (.ref B) = some (.type "type")) (s : PySem.W.subIn K (.ref A) (.ref B) = some true) : PySem.W.exmOne K (.ref A) (.ref B) = some true := by
  unfold PySem.W.exmOne
  rw [b]
  simpa using kcls i ty s
theorem kone_ty {K : PySem.W.Frag} {t : Addr} {T : String} {b : Bool} (m : PySem.W.kitMeta T = true) (s : PySem.W.subIn K (.ref t) (.type T) = some b) : PySem.W.kitOne K (.ref t) (.type T) = some b := by
  unfold PySem.W.kitOne
  rw [if_neg (by simp)]
  show (if PySem.W.kitMeta T = true then PySem.W.subIn K (.ref t) (.type T) else none) = some b
  rw [m]
  simpa using s
theorem kone_ref {K : PySem.W.Frag} {t C : Addr} {b : Bool} (ne : t ≠ C) (i : PySem.W.isClsIn K C = true) (ty : PySem.W.typeIn K (.ref C) = some (.type "type")) (s : PySem.W.subIn K (.ref t) (.ref C) = some b) : PySem.W.kitOne K (.ref t) (.ref C) = some b := by
  unfold PySem.W.kitOne
  rw [if_neg (by simpa using ne)]
  exact kcls i ty s
theorem kany_nil {K : PySem.W.Frag} {t : Value} : PySem.W.kitAny K t (([] : List Addr).map Value.ref) = some false := PySem.W.kitAny.eq_1 K t
theorem kany_cons {K : PySem.W.Frag} {t : Value} {A : Addr} {As : List Addr} (h : PySem.W.kitOne K t (.ref A) = some false) (k : PySem.W.kitAny K t (As.map Value.ref) = some false) : PySem.W.kitAny K t ((A :: As).map Value.ref) = some false := by
  rw [List.map_cons, PySem.W.kitAny.eq_2, h]
  exact k
/-! ### the steps of a body, by their shape -/
local macro_rules | `(tactic| walk_at "side") => `(tactic| ((try dsimp only); first | exact rfl | exact ⟨by decide, by decide⟩ | exact Or.inl ⟨by decide, by decide⟩ | exact Or.inr ⟨by decide, by decide⟩ | omega | decide | (simp only [List.length_append, List.length_map, List.length_cons, List.length_nil, List.length_range]; omega) | skip))
local macro_rules | `(tactic| walk_at "ev") => `(tactic| first
  | with_reducible exact ev_int
  | with_reducible exact ev_str
  | with_reducible exact ev_bl
  | with_reducible exact ev_non
  | with_reducible exact ev_ty
  | ((with_reducible refine' ev_var ?hv); (case' hv => exact rfl))
  | ((with_reducible refine' ev_i0 ?q1ha ?q1hb); (case' q1ha => walk_at "ev"); (case' q1hb => walk_at "ev"))
  | ((with_reducible refine' ev_b0 ?q2ha ?q2hb); (case' q2ha => walk_at "ev"); (case' q2hb => walk_at "ev"))
  | ((with_reducible refine' ev_i ?q3ha ?q3hb ?q3hc); (case' q3ha => walk_at "ev"); (case' q3hb => walk_at "ev"); (case' q3hc => walk_at "side"))
  | ((with_reducible refine' ev_neg ?q4ha); (case' q4ha => walk_at "ev"))
  | ((with_reducible refine' ev_eq ?q5ha ?q5hb ?q5h1 ?q5h2); (case' q5ha => walk_at "ev"); (case' q5hb => walk_at "ev"); (case' q5h1 => walk_at "shp"); (case' q5h2 => walk_at "shp"))
  | ((with_reducible refine' ev_ne ?q6ha ?q6hb ?q6h1 ?q6h2); (case' q6ha => walk_at "ev"); (case' q6hb => walk_at "ev"); (case' q6h1 => walk_at "shp"); (case' q6h2 => walk_at "shp"))
  | ((with_reducible refine' ev_ixL ?q7ha ?q7hb ?q7hl ?q7hj); (case' q7ha => walk_at "el"); (case' q7hb => walk_at "ev"); (case' q7hl => exact rfl); (case' q7hj => walk_at "side"))
  | ((with_reducible refine' ev_ixT ?q8ha ?q8hb ?q8hj); (case' q8ha => walk_at "ev"); (case' q8hb => walk_at "ev"); (case' q8hj => walk_at "side"))
  | ((with_reducible refine' ev_ixS ?q9ha ?q9hb ?q9hz ?q9hj); (case' q9ha => walk_at "ev"); (case' q9hb => walk_at "ev"); (case' q9hz => walk_at "side"); (case' q9hj => walk_at "side"))
  | ((with_reducible refine' ev_lenL ?q10hr ?q10ha ?q10hl); (case' q10hr => exact rfl); (case' q10ha => walk_at "el"); (case' q10hl => exact rfl))
  | ((with_reducible refine' ev_lstA ?q11ha ?q11hd ?q11hl); (case' q11ha => walk_at "ead"); (case' q11hd => exact rfl); (case' q11hl => walk_at "side"))
  | ((with_reducible refine' ev_tupA ?q12ha ?q12hd ?q12hl); (case' q12ha => walk_at "ead"); (case' q12hd => exact rfl); (case' q12hl => walk_at "side"))
  | ((with_reducible refine' ev_cat ?q13ha ?q13hb ?q13la ?q13lb ?q13hl); (case' q13ha => walk_at "el"); (case' q13hb => walk_at "el"); (case' q13la => exact rfl); (case' q13lb => exact rfl); (case' q13hl => walk_at "side"))
  | ((with_reducible refine' ev_slL ?q14ha ?q14hb ?q14hc ?q14hl); (case' q14ha => walk_at "el"); (case' q14hb => walk_at "eo"); (case' q14hc => walk_at "eo"); (case' q14hl => exact rfl))
  | ((with_reducible refine' ev_slS ?q15ha ?q15hb ?q15hc ?q15hl); (case' q15ha => walk_at "ev"); (case' q15hb => walk_at "eo"); (case' q15hc => walk_at "eo"); (case' q15hl => walk_at "side"))
  | ((with_reducible refine' ev_cats ?q16hr ?q16ha ?q16hb ?q16hl); (case' q16hr => exact rfl); (case' q16ha => walk_at "ev"); (case' q16hb => walk_at "ev"); (case' q16hl => walk_at "side"))
  | ((with_reducible refine' ev_list ?q17hr ?q17ha ?q17hl); (case' q17hr => exact rfl); (case' q17ha => walk_at "el"); (case' q17hl => exact rfl))
  | ((with_reducible refine' ev_isi ?q18ha ?q18hb ?q18hc); (case' q18ha => walk_at "ev"); (case' q18hb => walk_at "side"); (case' q18hc => walk_at "side"))
  | ((with_reducible refine' ev_not ?q19ha); (case' q19ha => walk_at "ev"))
  | ((with_reducible refine' ev_callA ?q20ha ?q20hd ?q20hR); (case' q20ha => walk_at "ead"); (case' q20hd => exact rfl); (case' q20hR => simp only [List.map_cons, List.map_nil]))
  | walk_at "draw"
  | ((with_reducible refine' ev_give ?hv); (case' hv => exact rfl))
  | ((with_reducible refine' ev_ty1 ?q60a ?q60b); (case' q60a => walk_at "ev"); (case' q60b => walk_at "tyn"))
  | ((with_reducible refine' ev_lenS ?q61a ?q61b ?q61c); (case' q61a => exact rfl); (case' q61b => walk_at "ev"); (case' q61c => walk_at "side"))
  | ((with_reducible refine' ev_lenSet ?q62a ?q62b ?q62c); (case' q62a => walk_at "el"); (case' q62b => exact rfl); (case' q62c => walk_at "side"))
  | ((with_reducible refine' ev_chain ?q63a ?q63b ?q63c ?q63d ?q63e); (case' q63a => walk_at "ev"); (case' q63b => walk_at "ev"); (case' q63c => walk_at "rv"); (case' q63d => (intro _; walk_at "ev")); (case' q63e => (intro _; walk_at "rv")))
  | ((with_reducible refine' ev_all ?q64a ?q64b); (case' q64a => walk_at "el"); (case' q64b => (try exact rfl)))
  | ((with_reducible refine' ev_rep ?q66a ?q66b ?q66c ?q66d ?q66e ?q66f); (case' q66a => walk_at "el"); (case' q66b => walk_at "ev"); (case' q66c => exact rfl); (case' q66d => walk_at "side"); (case' q66e => walk_at "side"); (case' q66f => walk_at "side"))
  | ((with_reducible refine' ev_tupleL ?q67a ?q67b ?q67c); (case' q67a => exact rfl); (case' q67b => walk_at "el"); (case' q67c => exact rfl))
  | with_reducible exact ev_emp
  | ((with_reducible refine' ev_op ?q65a ?q65b ?q65c); (case' q65a => walk_at "ev"); (case' q65b => walk_at "ev"); (case' q65c => walk_at "rv"))
  | skip)
local macro_rules | `(tactic| walk_at "rv") => `(tactic| first | exact rv_isnt | exact rv_isTy rfl | exact rv_leS rfl | exact rv_I0 (fun _ => .bl _) | skip)
local macro_rules | `(tactic| walk_at "tyn") => `(tactic| first | exact rfl | assumption | skip)
local macro_rules | `(tactic| walk_at "el") => `(tactic| first
  | ((with_reducible refine' el_s ?hs); (case' hs => exact ⟨_, rfl, rfl⟩))
  | ((with_reducible refine' el_d ?q21ha); (case' q21ha => walk_at "ev")))
local macro_rules | `(tactic| walk_at "eo") => `(tactic| first
  | with_reducible exact eo_no
  | ((with_reducible refine' eo_some ?q22ha); (case' q22ha => walk_at "ev")))
local macro_rules | `(tactic| walk_at "ea") => `(tactic| first
  | with_reducible exact ea_nil
  | ((with_reducible refine' ea_s ?q23hs ?q23hb); (case' q23hs => exact ⟨_, rfl, rfl⟩); (case' q23hb => walk_at "ea"))
  | ((with_reducible refine' ea_d ?q24ha ?q24hb); (case' q24ha => walk_at "ev"); (case' q24hb => walk_at "ea")))
local macro_rules | `(tactic| walk_at "ead") => `(tactic| first
  | with_reducible exact ea_nil
  | ((with_reducible refine' ea_d ?q54ha ?q54hb); (case' q54ha => walk_at "ev"); (case' q54hb => walk_at "ead")))
local macro_rules | `(tactic| walk_at "et") => `(tactic| first
  | ((with_reducible refine' et_not ?q25ha); (case' q25ha => walk_at "et"))
  | ((with_reducible refine' et_test ?q26ha); (case' q26ha => walk_at "ev"))
  | ((with_reducible refine' et_B ?q27ha); (case' q27ha => walk_at "ev"))
  | ((with_reducible refine' et_and ?q28ha ?q28hb); (case' q28ha => walk_at "et"); (case' q28hb => (intro _; walk_at "et")))
  | ((with_reducible refine' et_or ?q29ha ?q29hb); (case' q29ha => walk_at "et"); (case' q29hb => (intro _; walk_at "et")))
  | with_reducible exact et_yes)
local macro_rules | `(tactic| walk_at "shp") => `(tactic| first | (simp only [Shp]; done) | skip)
local macro_rules | `(tactic| walk_at "set") => `(tactic| ((with_reducible refine' ex_seq (ex_set ?ha ?hi) ?hb); (case' ha => walk_at "ev"); (case' hi => exact rfl)))
local macro_rules | `(tactic| walk_at "setF") => `(tactic| ((with_reducible refine' ex_seq (ex_setF ?ha ?hi) ?hb); (case' ha => walk_at "ef"); (case' hi => exact rfl)))
local macro_rules | `(tactic| walk_at "ef") => `(tactic| first
  | ((with_reducible refine' ef_lstA ?q32ha ?q32hd ?q32hl); (case' q32ha => walk_at "ead"); (case' q32hd => exact rfl); (case' q32hl => walk_at "side"))
  | ((with_reducible refine' ef_cat ?q33ha ?q33hb ?q33la ?q33lb ?q33hl); (case' q33ha => walk_at "el"); (case' q33hb => walk_at "el"); (case' q33la => exact rfl); (case' q33lb => exact rfl); (case' q33hl => walk_at "side"))
  | ((with_reducible refine' ef_list ?q34hr ?q34ha ?q34hl); (case' q34hr => exact rfl); (case' q34ha => walk_at "el"); (case' q34hl => exact rfl))
  | ((with_reducible refine' ef_slL ?q35ha ?q35hb ?q35hc ?q35hl); (case' q35ha => walk_at "el"); (case' q35hb => walk_at "eo"); (case' q35hc => walk_at "eo"); (case' q35hl => exact rfl)))
local macro_rules | `(tactic| walk_at "le") => `(tactic| first | exact Le.nil | ((refine' Le.no ?_); (walk_at "le")) | (refine' Le.eq ?_; walk_at "le"))
local macro_rules | `(tactic| walk_at "fin") => `(tactic| first | exact FinOk.nil | ((refine' FinOk.no ?_); (walk_at "fin")) | (refine' FinOk.par ?_; walk_at "fin"))
local macro_rules | `(tactic| walk_at "body") => `(tactic| (refine ⟨by walk_at "fin", ?_⟩; simp only [List.length_cons, List.length_nil, Nat.reduceAdd, Nat.reduceSub, List.replicate, List.cons_append, List.nil_append, cxK]))
local macro_rules | `(tactic| walk_at "bodyF") => `(tactic| simp only [List.map_cons, List.map_nil, List.length_cons, List.length_nil, Nat.reduceAdd, Nat.reduceSub, List.replicate, List.cons_append, List.nil_append, cxK])
local macro_rules | `(tactic| walk_at "ret") => `(tactic| ((with_reducible refine' ex_retW ?ha ?he ?hl); (case' ha => walk_at "ev"); (case' hl => walk_at "le"); (case' he => (try exact rfl))))
local macro_rules | `(tactic| walk_at "ifl") => `(tactic| ((with_reducible refine' ex_ifL ?ht ?h1 ?h2 ?hn); (case' ht => walk_at "et"); (case' hn => exact rfl)))
local macro_rules | `(tactic| walk_at "nrm") => `(tactic| try simp only [wipeS_one, List.set_cons_zero, List.set_cons_succ, Sl.put])
local macro_rules | `(tactic| walk_at "app") => `(tactic| ((with_reducible refine' ex_append ?q50a ?q50b ?q50c ?q50d ?q50e); (case' q50a => walk_at "ev"); (case' q50b => exact ⟨_, rfl, rfl⟩); (case' q50c => exact rfl); (case' q50d => exact rfl); (case' q50e => walk_at "side")))
local macro_rules | `(tactic| walk_at "draw") => `(tactic| ((with_reducible refine' ev_call1 (k := 1) ?q51a ?q51b ?q51c ?q51d ?q51e ?q51f ?q51g); (case' q51a => walk_at "ea"); (case' q51b => exact ⟨rfl, rfl⟩); (case' q51c => exact rfl); (case' q51d => exact ⟨_, _, rfl, rfl, rfl⟩); (case' q51e => exact rfl); (case' q51f => exact rfl); (case' q51g => exact rfl)))
local macro_rules | `(tactic| walk_at "appS") => `(tactic| ((with_reducible refine' ex_seq ?q52a ?q52b); (case' q52a => walk_at "app")))
local macro_rules | `(tactic| walk_at "wk") => `(tactic| (refine' Ex.weak ?q53a ?q53b))

/-! ### plain facts -/
theorem at_map {α : Type} {f : α → Dat} {xs : List α} {k : Nat} {x : α} (h : xs[k]? = some x) : atI (xs.map f) (k : Int) = some (f x) := atI_nat (by rw [List.getElem?_map, h]; rfl)
theorem at_ints {ns : List Int} {k : Nat} (h : k < ns.length) : atI (ns.map Dat.int) (k : Int) = some (.int (ns.getD k 0)) :=
  at_map (by rw [List.getD_eq_getElem?_getD, List.getElem?_eq_getElem h]; rfl)
theorem at_of_eq {ds : List Dat} {i j : Int} {d : Dat} (e : i = j) (h : atI ds j = some d) : atI ds i = some d := e ▸ h
theorem cps_append (x y : Str) : (x ++ y).cps.toList = x.cps.toList ++ y.cps.toList := by
  show (x.cps ++ y.cps).toList = _
  simp
theorem len_cps (x : Str) : x.length = x.cps.toList.length := by simp [Str.length]
theorem tyn_str {d : Dat} (h : d.tyn = some "str") : ∃ x, d = .str x := by
  cases d <;> first | exact ⟨_, rfl⟩ | (simp [Dat.tyn] at h)
theorem tyn_list {d : Dat} (h : d.tyn = some "list") : ∃ x, d = .lst x := by
  cases d <;> first | exact ⟨_, rfl⟩ | (simp [Dat.tyn] at h)
theorem tyn_int {d : Dat} (h : d.tyn = some "int") : ∃ x, d = .int x := by
  cases d <;> first | exact ⟨_, rfl⟩ | (simp [Dat.tyn] at h)
theorem at_mod {ds : List Dat} {x n : Int} (h : 0 < n) (hl : (ds.length : Int) = n) : atI ds (x % n) = some (ds.getD (x % n).toNat .non) := by
  have h1 : 0 ≤ x % n := Int.emod_nonneg _ (by omega)
  have h2 : x % n < n := Int.emod_lt_of_pos _ h
  generalize x % n = j at *
  obtain ⟨k, rfl⟩ := Int.eq_ofNat_of_zero_le h1
  have hk : k < ds.length := by omega
  exact atI_nat (by rw [Int.toNat_natCast, List.getD_eq_getElem?_getD, List.getElem?_eq_getElem hk]; rfl)
theorem sIx_neg1 (n d : Nat) : HT.sIx n d (some (-1)) = n - 1 := by
  simp only [HT.sIx]
  rw [if_pos (by decide)]
  omega
theorem sIx_nat (n d : Nat) (a : Nat) : HT.sIx n d (some (a : Int)) = min a n := by
  simp only [HT.sIx]
  rw [if_neg (by omega)]
  omega
theorem cutD_last (xs : List Dat) : cutD xs none (some (-1)) = xs.dropLast := by
  unfold cutD
  rw [sIx_neg1, List.dropLast_eq_take]
  simp [HT.sIx]
theorem cutD_to (xs : List Dat) (a : Nat) : cutD xs none (some (a : Int)) = xs.take a := by
  unfold cutD
  rw [sIx_nat]
  show (List.drop 0 xs).take (min a xs.length - 0) = _
  rw [List.drop_zero, Nat.sub_zero, ← List.take_take, List.take_length]
theorem cutD_fromLast (xs : List Dat) (a : Nat) (h : a < xs.length) : cutD xs (some (a : Int)) (some (-1)) = xs.dropLast.drop a := by
  unfold cutD
  rw [sIx_neg1, sIx_nat, Nat.min_eq_left (by omega), List.dropLast_eq_take, List.drop_take]
theorem cutD_from (xs : List Dat) (a : Nat) : cutD xs (some (a : Int)) none = xs.drop a := by
  unfold cutD
  have e : HT.sIx xs.length 0 (some (a : Int)) = min a xs.length := by
    simp only [HT.sIx]
    rw [if_neg (by omega)]
    omega
  rw [e]
  show (List.drop (min a xs.length) xs).take (xs.length - min a xs.length) = _
  by_cases h : a ≤ xs.length
  · rw [Nat.min_eq_left h, List.take_of_length_le (by rw [List.length_drop]; exact Nat.le_refl _)]
  · rw [Nat.min_eq_right (by omega), List.drop_length, List.drop_eq_nil_of_le (by omega), List.take_nil]
def intsN (ks : List Nat) : Dat := .lst (ks.map fun k => .int ((k : Nat) : Int))
def bls (bs : List Bool) : List Dat := bs.map Dat.bl
def onB (f : Bool → Bool) : Dat → Dat
  | .bl b => .bl (f b)
  | _ => .non
theorem bls_map (f : Bool → Bool) (bs : List Bool) : (bls bs).map (onB f) = bls (bs.map f) := by
  unfold bls
  rw [List.map_map, List.map_map]
  rfl
theorem bls_len (bs : List Bool) : (bls bs).length = bs.length := List.length_map ..
theorem at_bls {bs : List Bool} {k : Nat} (h : k < bs.length) : atI (bls bs) (k : Int) = some (.bl (bs.getD k false)) :=
  at_map (by rw [List.getD_eq_getElem?_getD, List.getElem?_eq_getElem h]; rfl)
theorem rep_bls (b : Bool) (n : Nat) : rep [.bl b] n = bls (List.replicate n b) := by
  unfold rep bls
  induction n with
  | zero => rfl
  | succ n ih => rw [List.replicate_succ, List.flatten_cons, ih, List.replicate_succ]; rfl
theorem bls_drop (bs : List Bool) (n : Nat) : (bls bs).drop n = bls (bs.drop n) := List.map_drop.symm
theorem bls_app (xs ys : List Bool) : bls xs ++ bls ys = bls (xs ++ ys) := List.map_append.symm
theorem any_bl_true (bs : List Bool) : ((bs.map Dat.bl).any fun e => eqd e (.bl true)) = bs.any id := by
  induction bs with
  | nil => rfl
  | cons b bs ih =>
    rw [List.map_cons, List.any_cons, ih, eqd_bl, List.any_cons]
    cases b <;> simp
theorem any_bl_falseB (bs : List Bool) : ((bs.map Dat.bl).any fun e => eqd e (.bl false)) = !bs.all id := by
  induction bs with
  | nil => rfl
  | cons b bs ih =>
    rw [List.map_cons, List.any_cons, ih, eqd_bl, List.all_cons]
    cases b <;> simp
theorem shp_bls (n : Nat) (bs : List Bool) : ShpAll n (bls bs) := shpAll_of fun d hd => by
  obtain ⟨b, _, rfl⟩ := List.mem_map.mp hd
  cases n <;> simp only [Shp]
def Strs (xs : List Str) : Prop := ∀ x ∈ xs, PyData.strOk x = true

structure Tx (K : PySem.W.Frag) (mg : Str → Option Value) : Prop where
  b_bool : mg "bool" = none
  b_int : mg "int" = none
  b_isinstance : mg "isinstance" = none
  b_len : mg "len" = none
  b_list : mg "list" = none
  b_max : mg "max" = none
  b_range : mg "range" = none
  b_set : mg "set" = none
  b_tuple : mg "tuple" = none
  b_zip : mg "zip" = none
section
variable {P : Program} {w : World} {K : PySem.W.Frag} {mg : Str → Option Value} {base : Heap}
def okCode (c : Nat) : Bool := decide (97 ≤ c) && decide (c ≤ 122)
def isMark : Dat → Bool
  | .str x => decide (x.length ≤ 6) && x.cps.toList.all okCode
  | _ => false
theorem mark_ok {x : Str} (h : isMark (.str x) = true) : x.length ≤ 6 ∧ PyData.strOk x = true := by
  have h : (decide (x.length ≤ 6) && x.cps.toList.all okCode) = true := h
  rw [Bool.and_eq_true, decide_eq_true_eq] at h
  refine ⟨h.1, ?_⟩
  unfold PyData.strOk
  rw [← Array.all_toList, List.all_eq_true]
  intro c hc
  have := List.all_eq_true.mp h.2 c hc
  unfold okCode at this
  rw [Bool.and_eq_true, decide_eq_true_eq, decide_eq_true_eq] at this
  exact decide_eq_true (by omega)
def okLet (x : Str) : Bool := x.cps.toList.all okCode
theorem okLet_cut {z : Str} {lo hi : Option Int} (h : okLet z = true) : okLet (cutS z lo hi) = true := by
  unfold okLet at *
  rw [List.all_eq_true] at *
  intro c hc
  refine h c ?_
  have hc : c ∈ (List.take _ (List.drop _ z.cps.toList)) := hc
  exact List.mem_of_mem_drop (List.mem_of_mem_take hc)
theorem okLet_app {x y : Str} (h : okLet x = true) (k : okLet y = true) : okLet (x ++ y) = true := by
  unfold okLet at *
  rw [cps_append, List.all_append, h, k]
  rfl
theorem okCode_26 (i : Int) : okCode (97 + (i % 26).toNat) = true := by
  have h1 : 0 ≤ i % 26 := Int.emod_nonneg _ (by decide)
  have h2 : i % 26 < 26 := Int.emod_lt_of_pos _ (by decide)
  unfold okCode
  rw [Bool.and_eq_true, decide_eq_true_eq, decide_eq_true_eq]
  omega
theorem isMark_of {x : Str} (h : x.length ≤ 6) (k : okLet x = true) : isMark (.str x) = true := by
  show (decide (x.length ≤ 6) && x.cps.toList.all okCode) = true
  rw [decide_eq_true h]
  exact k
inductive Say where
  | mark (m : Str) | yes | not (s : Say) | and (s t : Say) | or (s t : Say) | next (s : Say) | till (s t : Say) | always (s : Say) | again (s : Say)
  deriving DecidableEq
def Say.d : Say → Dat
  | .mark m => .tup [.str "mark", .str m]
  | .yes => .tup [.str "yes"]
  | .not s => .tup [.str "not", s.d]
  | .and s t => .tup [.str "and", s.d, t.d]
  | .or s t => .tup [.str "or", s.d, t.d]
  | .next s => .tup [.str "next", s.d]
  | .till s t => .tup [.str "till", s.d, t.d]
  | .always s => .tup [.str "always", s.d]
  | .again s => .tup [.str "again", s.d]
def Say.dep : Say → Nat
  | .mark _ => 1
  | .yes => 1
  | .not s => s.dep + 1
  | .and s t => max s.dep t.dep + 1
  | .or s t => max s.dep t.dep + 1
  | .next s => s.dep + 1
  | .till s t => max s.dep t.dep + 1
  | .always s => s.dep + 1
  | .again s => s.dep + 1
def markOk (m : Str) : Prop := isMark (.str m) = true ∧ m ≠ ""
def Say.Ok : Say → Prop
  | .mark m => markOk m
  | .yes => True
  | .not s => s.Ok
  | .and s t => s.Ok ∧ t.Ok
  | .or s t => s.Ok ∧ t.Ok
  | .next s => s.Ok
  | .till s t => s.Ok ∧ t.Ok
  | .always s => s.Ok
  | .again s => s.Ok
theorem dep_pos (s : Say) : 1 ≤ s.dep := by cases s <;> simp only [Say.dep] <;> omega
theorem shp_lit {n : Nat} (x : Str) (h : PyData.strOk x = true) : Shp n (.str x) := by simpa only [Shp] using h
theorem shp_tupl {n : Nat} {ds : List Dat} (h : ∀ d ∈ ds, Shp n d) : Shp (n + 1) (.tup ds) := by
  rw [shp_tup]
  exact shpAll_of h
theorem say_shp : ∀ (s : Say), s.Ok → Shp (s.dep + 1) s.d
  | .mark m, h => shp_tupl fun d hd => by
    simp only [List.mem_cons, List.not_mem_nil, or_false] at hd
    rcases hd with rfl | rfl
    · exact shp_lit _ (by decide +kernel)
    · exact shp_lit _ (mark_ok h.1).2
  | .yes, _ => shp_tupl fun d hd => by
    simp only [List.mem_cons, List.not_mem_nil, or_false] at hd
    subst hd
    exact shp_lit _ (by decide +kernel)
  | .not s, h => shp_tupl fun d hd => by
    simp only [List.mem_cons, List.not_mem_nil, or_false] at hd
    rcases hd with rfl | rfl
    · exact shp_lit _ (by decide +kernel)
    · exact say_shp s h
  | .next s, h => shp_tupl fun d hd => by
    simp only [List.mem_cons, List.not_mem_nil, or_false] at hd
    rcases hd with rfl | rfl
    · exact shp_lit _ (by decide +kernel)
    · exact say_shp s h
  | .always s, h => shp_tupl fun d hd => by
    simp only [List.mem_cons, List.not_mem_nil, or_false] at hd
    rcases hd with rfl | rfl
    · exact shp_lit _ (by decide +kernel)
    · exact say_shp s h
  | .again s, h => shp_tupl fun d hd => by
    simp only [List.mem_cons, List.not_mem_nil, or_false] at hd
    rcases hd with rfl | rfl
    · exact shp_lit _ (by decide +kernel)
    · exact say_shp s h
  | .and s t, h => shp_tupl fun d hd => by
    simp only [List.mem_cons, List.not_mem_nil, or_false] at hd
    have e : (Say.and s t).dep = max s.dep t.dep + 1 := rfl
    rcases hd with rfl | rfl | rfl
    · exact shp_lit _ (by decide +kernel)
    · exact shp_le (say_shp s h.1) (by omega)
    · exact shp_le (say_shp t h.2) (by omega)
  | .or s t, h => shp_tupl fun d hd => by
    simp only [List.mem_cons, List.not_mem_nil, or_false] at hd
    have e : (Say.or s t).dep = max s.dep t.dep + 1 := rfl
    rcases hd with rfl | rfl | rfl
    · exact shp_lit _ (by decide +kernel)
    · exact shp_le (say_shp s h.1) (by omega)
    · exact shp_le (say_shp t h.2) (by omega)
  | .till s t, h => shp_tupl fun d hd => by
    simp only [List.mem_cons, List.not_mem_nil, or_false] at hd
    have e : (Say.till s t).dep = max s.dep t.dep + 1 := rfl
    rcases hd with rfl | rfl | rfl
    · exact shp_lit _ (by decide +kernel)
    · exact shp_le (say_shp s h.1) (by omega)
    · exact shp_le (say_shp t h.2) (by omega)
/-! what a saying means of an endless run -/
def Hold (w : Nat → Str) : Say → Nat → Prop
  | .mark m, t => w t = m
  | .yes, _ => True
  | .not s, t => ¬ Hold w s t
  | .and s u, t => Hold w s t ∧ Hold w u t
  | .or s u, t => Hold w s t ∨ Hold w u t
  | .next s, t => Hold w s (t + 1)
  | .till s u, t => ∃ n, Hold w u (t + n) ∧ ∀ m, m < n → Hold w s (t + m)
  | .always s, t => ∀ n, Hold w s (t + n)
  | .again s, t => ∀ n, ∃ k, Hold w s (t + n + k)
noncomputable def hb (w : Nat → Str) (s : Say) (t : Nat) : Bool := @decide (Hold w s t) (Classical.propDecidable _)
theorem hb_eq {w : Nat → Str} {s : Say} {t : Nat} : hb w s t = true ↔ Hold w s t := by
  unfold hb
  exact @decide_eq_true_iff _ (Classical.propDecidable _)
theorem hb_ne {w : Nat → Str} {s : Say} {t : Nat} : hb w s t = false ↔ ¬ Hold w s t := by
  unfold hb
  exact @decide_eq_false_iff_not _ (Classical.propDecidable _)
theorem bool_iff {a b : Bool} (h : a = true ↔ b = true) : a = b := by
  cases a <;> cases b <;> simp_all
/-- what comes behind is all that counts -/
theorem hold_shift {w w' : Nat → Str} {a b : Nat} (h : ∀ n, w (a + n) = w' (b + n)) : ∀ (s : Say) (n : Nat), Hold w s (a + n) ↔ Hold w' s (b + n)
  | .mark m, n => by show w (a + n) = m ↔ w' (b + n) = m; rw [h n]
  | .yes, n => Iff.rfl
  | .not s, n => not_congr (hold_shift h s n)
  | .and s u, n => and_congr (hold_shift h s n) (hold_shift h u n)
  | .or s u, n => or_congr (hold_shift h s n) (hold_shift h u n)
  | .next s, n => hold_shift h s (n + 1)
  | .till s u, n => by
    show (∃ k, Hold w u (a + n + k) ∧ ∀ m, m < k → Hold w s (a + n + m)) ↔ ∃ k, Hold w' u (b + n + k) ∧ ∀ m, m < k → Hold w' s (b + n + m)
    refine exists_congr fun k => and_congr ?_ (forall_congr' fun m => imp_congr Iff.rfl ?_)
    · rw [Nat.add_assoc, Nat.add_assoc]; exact hold_shift h u (n + k)
    · rw [Nat.add_assoc, Nat.add_assoc]; exact hold_shift h s (n + m)
  | .always s, n => by
    show (∀ k, Hold w s (a + n + k)) ↔ ∀ k, Hold w' s (b + n + k)
    refine forall_congr' fun k => ?_
    rw [Nat.add_assoc, Nat.add_assoc]; exact hold_shift h s (n + k)
  | .again s, n => by
    show (∀ k, ∃ j, Hold w s (a + n + k + j)) ↔ ∀ k, ∃ j, Hold w' s (b + n + k + j)
    refine forall_congr' fun k => exists_congr fun j => ?_
    rw [Nat.add_assoc, Nat.add_assoc, Nat.add_assoc, Nat.add_assoc]; exact hold_shift h s (n + (k + j))
/-- the marks of an endless run -/
def wd (way ring : List Str) (t : Nat) : Str := if t < way.length then way.getD t "" else ring.getD ((t - way.length) % ring.length) ""
theorem wd_per (way ring : List Str) (n : Nat) : wd way ring (way.length + n) = wd way ring (way.length + ring.length + n) := by
  unfold wd
  rw [if_neg (by omega), if_neg (by omega)]
  have e1 : way.length + n - way.length = n := by omega
  have e2 : way.length + ring.length + n - way.length = n + ring.length := by omega
  rw [e1, e2, Nat.add_mod_right]
theorem wd_at (way ring : List Str) {t : Nat} (h : t < way.length + ring.length) : (way ++ ring)[t]? = some (wd way ring t) := by
  unfold wd
  by_cases h1 : t < way.length
  · rw [if_pos h1, List.getElem?_append_left h1, List.getD_eq_getElem?_getD, List.getElem?_eq_getElem h1]
    rfl
  · rw [if_neg h1, List.getElem?_append_right (by omega), Nat.mod_eq_of_lt (by omega), List.getD_eq_getElem?_getD, List.getElem?_eq_getElem (by omega)]
    rfl
theorem hold_per (way ring : List Str) (s : Say) (n : Nat) : Hold (wd way ring) s (way.length + n) ↔ Hold (wd way ring) s (way.length + ring.length + n) := hold_shift (wd_per way ring) s n
theorem hb_per (way ring : List Str) (s : Say) (n : Nat) : hb (wd way ring) s (way.length + ring.length + n) = hb (wd way ring) s (way.length + n) :=
  bool_iff (by rw [hb_eq, hb_eq]; exact (hold_per way ring s n).symm)
theorem hb_perk (way ring : List Str) (s : Say) (n : Nat) : ∀ k, hb (wd way ring) s (way.length + (n + k * ring.length)) = hb (wd way ring) s (way.length + n)
  | 0 => by rw [Nat.zero_mul, Nat.add_zero]
  | k + 1 => by
    have e : way.length + (n + (k + 1) * ring.length) = way.length + ring.length + (n + k * ring.length) := by
      rw [Nat.succ_mul]; omega
    rw [e, hb_per, hb_perk way ring s n k]
theorem hb_mod (way ring : List Str) (s : Say) (n : Nat) : hb (wd way ring) s (way.length + n) = hb (wd way ring) s (way.length + n % ring.length) := by
  have e : n = n % ring.length + (n / ring.length) * ring.length := by rw [Nat.mul_comm]; exact (Nat.mod_add_div n ring.length).symm
  conv => lhs; rw [e]
  exact hb_perk way ring s _ _
/-- the row of a saying: each moment of the way and of one round of the ring -/
noncomputable def rowB (s : Say) (way ring : List Str) : List Bool := (List.range (way.length + ring.length)).map (hb (wd way ring) s)
theorem rowB_len (s : Say) (way ring : List Str) : (rowB s way ring).length = way.length + ring.length := by unfold rowB; rw [List.length_map, List.length_range]
theorem rowB_get (s : Say) (way ring : List Str) {t : Nat} (h : t < way.length + ring.length) : (rowB s way ring)[t]? = some (hb (wd way ring) s t) := by
  unfold rowB
  rw [List.getElem?_map, List.getElem?_range h]
  rfl
theorem row_ext {s : Say} {way ring : List Str} {bs : List Bool} (hl : bs.length = way.length + ring.length) (h : ∀ t, t < way.length + ring.length → bs[t]? = some (hb (wd way ring) s t)) : bs = rowB s way ring := by
  refine List.ext_getElem? fun i => ?_
  by_cases hi : i < way.length + ring.length
  · rw [h i hi, rowB_get s way ring hi]
  · rw [List.getElem?_eq_none (by omega), List.getElem?_eq_none (by rw [rowB_len]; omega)]
theorem row_not (s : Say) (way ring : List Str) : (rowB s way ring).map (fun b => !b) = rowB (.not s) way ring := by
  unfold rowB
  rw [List.map_map]
  refine List.map_congr_left fun t _ => bool_iff ?_
  show (!hb _ s t) = true ↔ _
  rw [hb_eq, Bool.not_eq_true', hb_ne]
  rfl
theorem row_and (s u : Say) (way ring : List Str) : List.zipWith (fun a b => a && b) (rowB s way ring) (rowB u way ring) = rowB (.and s u) way ring := by
  unfold rowB
  rw [List.zipWith_map, List.zipWith_self]
  refine List.map_congr_left fun t _ => bool_iff ?_
  rw [hb_eq, Bool.and_eq_true, hb_eq, hb_eq]
  rfl
theorem row_or (s u : Say) (way ring : List Str) : List.zipWith (fun a b => a || b) (rowB s way ring) (rowB u way ring) = rowB (.or s u) way ring := by
  unfold rowB
  rw [List.zipWith_map, List.zipWith_self]
  refine List.map_congr_left fun t _ => bool_iff ?_
  rw [hb_eq, Bool.or_eq_true, hb_eq, hb_eq]
  rfl
theorem row_yes (way ring : List Str) : List.replicate (way.length + ring.length) true = rowB .yes way ring := by
  refine row_ext (by rw [List.length_replicate]) fun t ht => ?_
  rw [List.getElem?_replicate, if_pos ht]
  exact congrArg some ((hb_eq (w := wd way ring) (s := .yes) (t := t)).mpr trivial).symm
theorem row_mark (m : Str) (way ring : List Str) : (way ++ ring).map (fun x => x == m) = rowB (.mark m) way ring := by
  refine row_ext (by rw [List.length_map, List.length_append]) fun t ht => ?_
  rw [List.getElem?_map, wd_at way ring ht]
  refine congrArg some (bool_iff ?_)
  rw [hb_eq, beq_iff_eq]
  rfl
/-- the moment behind t, of the way and one round of the ring -/
def nxt (way ring : List Str) (t : Nat) : Nat := if t + 1 < way.length + ring.length then t + 1 else way.length
theorem hb_nxt (way ring : List Str) (s : Say) {t : Nat} (h : t < way.length + ring.length) : hb (wd way ring) s (t + 1) = hb (wd way ring) s (nxt way ring t) := by
  unfold nxt
  by_cases h1 : t + 1 < way.length + ring.length
  · rw [if_pos h1]
  · rw [if_neg h1]
    have e : t + 1 = way.length + ring.length + 0 := by omega
    rw [e]
    exact hb_per way ring s 0
theorem row_next (s : Say) (way ring : List Str) (hr : 1 ≤ ring.length) : (rowB s way ring).drop 1 ++ [hb (wd way ring) s way.length] = rowB (.next s) way ring := by
  have hl := rowB_len s way ring
  refine row_ext (by rw [List.length_append, List.length_drop, hl, List.length_singleton]; omega) fun t ht => ?_
  have e : hb (wd way ring) (.next s) t = hb (wd way ring) s (t + 1) := bool_iff (by rw [hb_eq, hb_eq]; rfl)
  rw [e, hb_nxt way ring s ht]
  unfold nxt
  by_cases h1 : t + 1 < way.length + ring.length
  · rw [if_pos h1, List.getElem?_append_left (by rw [List.length_drop, hl]; omega), List.getElem?_drop, Nat.add_comm 1 t]
    exact rowB_get s way ring h1
  · rw [if_neg h1, List.getElem?_append_right (by rw [List.length_drop, hl]; omega), List.length_drop, hl]
    have e2 : t - (way.length + ring.length - 1) = 0 := by omega
    rw [e2]
    rfl
/-! till: from behind -/
def passF (a g : Nat → Bool) (ks : List Nat) (z : Bool) : Bool := ks.foldr (fun k later => g k || (a k && later)) z
theorem till_step (w : Nat → Str) (s u : Say) (t : Nat) : hb w (.till s u) t = (hb w u t || (hb w s t && hb w (.till s u) (t + 1))) := bool_iff (by
  rw [hb_eq, Bool.or_eq_true, Bool.and_eq_true, hb_eq, hb_eq, hb_eq]
  constructor
  · rintro ⟨n, h1, h2⟩
    cases n with
    | zero => exact .inl h1
    | succ n =>
      refine .inr ⟨h2 0 (by omega), n, ?_, fun m hm => ?_⟩
      · rw [show t + 1 + n = t + (n + 1) by omega]; exact h1
      · rw [show t + 1 + m = t + (m + 1) by omega]; exact h2 (m + 1) (by omega)
  · rintro (h | ⟨h, n, h1, h2⟩)
    · exact ⟨0, h, fun m hm => by omega⟩
    · refine ⟨n + 1, ?_, fun m hm => ?_⟩
      · rw [show t + (n + 1) = t + 1 + n by omega]; exact h1
      · cases m with
        | zero => exact h
        | succ m => rw [show t + (m + 1) = t + 1 + m by omega]; exact h2 m (by omega))
theorem till_pass (w : Nat → Str) (s u : Say) (t : Nat) : ∀ n, passF (hb w s) (hb w u) ((List.range n).map (t + ·)) (hb w (.till s u) (t + n)) = hb w (.till s u) t := by
  intro n
  induction n generalizing t with
  | zero => rfl
  | succ n ih =>
    rw [List.range_succ_eq_map, List.map_cons, List.map_map]
    show (hb w u (t + 0) || (hb w s (t + 0) && passF (hb w s) (hb w u) ((List.range n).map ((t + ·) ∘ Nat.succ)) (hb w (.till s u) (t + (n + 1))))) = _
    have e : (List.range n).map ((t + ·) ∘ Nat.succ) = (List.range n).map (t + 1 + ·) := List.map_congr_left fun k _ => by show t + (k + 1) = t + 1 + k; omega
    rw [e, show t + (n + 1) = t + 1 + n by omega, ih (t + 1), Nat.add_zero]
    exact (till_step w s u t).symm
theorem passF_mono (a g : Nat → Bool) : ∀ (ks : List Nat) (z : Bool), passF a g ks false = true → passF a g ks z = true
  | [], z, h => by cases h
  | k :: ks, z, h => by
    have h : (g k || (a k && passF a g ks false)) = true := h
    show (g k || (a k && passF a g ks z)) = true
    rw [Bool.or_eq_true, Bool.and_eq_true] at *
    rcases h with h | h
    · exact .inl h
    · exact .inr ⟨h.1, passF_mono a g ks z h.2⟩
theorem passF_hit (a g : Nat → Bool) : ∀ (ks : List Nat) (j : Nat) (z : Bool), (hj : j < ks.length) → g (ks.getD j 0) = true → (∀ i, i < j → a (ks.getD i 0) = true) → passF a g ks z = true
  | [], j, z, hj, _, _ => by simp at hj
  | k :: ks, 0, z, _, h, _ => by
    show (g k || _) = true
    rw [show g k = true from h]
    rfl
  | k :: ks, j + 1, z, hj, h, ha => by
    show (g k || (a k && passF a g ks z)) = true
    rw [show a k = true from ha 0 (by omega), passF_hit a g ks j z (by simpa using hj) h fun i hi => ha (i + 1) (by omega)]
    simp
/-- once around the ring is enough -/
theorem till_ring (way ring : List Str) (s u : Say) (hr : 1 ≤ ring.length) : passF (hb (wd way ring) s) (hb (wd way ring) u) ((List.range ring.length).map (way.length + ·)) false = hb (wd way ring) (.till s u) way.length := by
  have key := till_pass (wd way ring) s u way.length ring.length
  have per := hb_per way ring (.till s u) 0
  rw [Nat.add_zero, Nat.add_zero] at per
  rw [per] at key
  cases h : hb (wd way ring) (.till s u) way.length with
  | false =>
    rw [h] at key
    exact key
  | true =>
    obtain ⟨n, h1, h2⟩ := hb_eq.mp h
    have gt : ∀ j, j < ring.length → ((List.range ring.length).map (way.length + ·)).getD j 0 = way.length + j := fun j hj => by
      rw [List.getD_eq_getElem?_getD, List.getElem?_map, List.getElem?_range hj]
      rfl
    have hm : n % ring.length < ring.length := Nat.mod_lt _ (by omega)
    have hle : n % ring.length ≤ n := Nat.mod_le _ _
    refine passF_hit _ _ _ (n % ring.length) false (by rw [List.length_map, List.length_range]; exact hm) ?_ fun i hi => ?_
    · rw [gt _ hm, ← hb_mod]
      exact hb_eq.mpr h1
    · rw [gt _ (by omega)]
      exact hb_eq.mpr (h2 i (by omega))
theorem passF_app (a g : Nat → Bool) (xs ys : List Nat) (z : Bool) : passF a g (xs ++ ys) z = passF a g xs (passF a g ys z) := by
  unfold passF
  rw [List.foldr_append]
/-- the moments from t on that are ever unlike -/
def after (way ring : List Str) (t : Nat) : List Nat := (List.range (way.length + ring.length - t)).map (t + ·) ++ (List.range ring.length).map (way.length + ·)
theorem till_after (way ring : List Str) (s u : Say) (hr : 1 ≤ ring.length) {t : Nat} (ht : t ≤ way.length + ring.length) : passF (hb (wd way ring) s) (hb (wd way ring) u) (after way ring t) false = hb (wd way ring) (.till s u) t := by
  unfold after
  rw [passF_app, till_ring way ring s u hr]
  have per := hb_per way ring (.till s u) 0
  rw [Nat.add_zero, Nat.add_zero] at per
  rw [← per]
  have key := till_pass (wd way ring) s u t (way.length + ring.length - t)
  rwa [show t + (way.length + ring.length - t) = way.length + ring.length by omega] at key
theorem always_till (w : Nat → Str) (s : Say) (t : Nat) : hb w (.always s) t = !hb w (.till .yes (.not s)) t := bool_iff (by
  rw [hb_eq, Bool.not_eq_true', hb_ne]
  constructor
  · rintro h ⟨n, h1, _⟩
    exact h1 (h n)
  · intro h n
    exact Classical.byContradiction fun q => h ⟨n, q, fun _ _ => trivial⟩)
theorem passF_yes (g : Nat → Bool) : ∀ ks : List Nat, passF (fun _ => true) g ks false = ks.any g
  | [] => rfl
  | k :: ks => by
    show (g k || (true && passF (fun _ => true) g ks false)) = _
    rw [passF_yes g ks, List.any_cons, Bool.true_and]
theorem always_after (way ring : List Str) (s : Say) (hr : 1 ≤ ring.length) {t : Nat} (ht : t ≤ way.length + ring.length) : (after way ring t).all (hb (wd way ring) s) = hb (wd way ring) (.always s) t := by
  rw [always_till, ← till_after way ring .yes (.not s) hr ht]
  have e : (hb (wd way ring) .yes) = fun _ => true := funext fun k => hb_eq.mpr trivial
  rw [e, passF_yes, List.all_eq_not_any_not]
  refine congrArg _ (congrArg (fun f => List.any _ f) (funext fun k => bool_iff ?_))
  rw [hb_eq, Bool.not_eq_true', hb_ne]
  rfl
/-- again: somewhere on the ring -/
theorem again_ring (way ring : List Str) (s : Say) (hr : 1 ≤ ring.length) (t : Nat) : ((rowB s way ring).drop way.length).any id = hb (wd way ring) (.again s) t := bool_iff (by
  rw [hb_eq, List.any_eq_true]
  constructor
  · rintro ⟨b, hb1, hb2⟩ n
    obtain ⟨j, hj⟩ := List.getElem?_of_mem hb1
    rw [List.getElem?_drop] at hj
    have hj2 := (List.getElem?_eq_some_iff.mp hj).1
    rw [rowB_len] at hj2
    rw [rowB_get s way ring hj2] at hj
    have hh : hb (wd way ring) s (way.length + j) = true := (Option.some.inj hj).trans hb2
    -- a moment behind t + n that is the same place of the ring
    refine ⟨way.length + (j + (t + n) * ring.length) - (t + n), ?_⟩
    have hge : t + n ≤ (t + n) * ring.length := Nat.le_mul_of_pos_right _ (by omega)
    rw [show t + n + (way.length + (j + (t + n) * ring.length) - (t + n)) = way.length + (j + (t + n) * ring.length) by omega]
    rw [← hb_eq, hb_perk]
    exact hh
  · intro h
    obtain ⟨k, hk⟩ := h way.length
    have e : t + way.length + k = way.length + (t + k) := by omega
    rw [e, ← hb_eq, hb_mod] at hk
    have hm : (t + k) % ring.length < ring.length := Nat.mod_lt _ (by omega)
    refine ⟨true, ?_, rfl⟩
    rw [List.mem_iff_getElem?]
    exact ⟨(t + k) % ring.length, by rw [List.getElem?_drop, rowB_get s way ring (by omega), hk]⟩)
def Say.kind : Say → Str
  | .mark _ => "mark"
  | .yes => "yes"
  | .not _ => "not"
  | .and _ _ => "and"
  | .or _ _ => "or"
  | .next _ => "next"
  | .till _ _ => "till"
  | .always _ => "always"
  | .again _ => "again"
def Say.parts : Say → List Say
  | .mark _ => []
  | .yes => []
  | .not s => [s]
  | .and s t => [s, t]
  | .or s t => [s, t]
  | .next s => [s]
  | .till s t => [s, t]
  | .always s => [s]
  | .again s => [s]
def Say.isMark : Say → Bool
  | .mark _ => true
  | _ => false
theorem say_d {s : Say} (h : s.isMark = false) : s.d = .tup (.str s.kind :: s.parts.map Say.d) := by
  cases s <;> first | rfl | cases h
def kindTab : List Str := ["mark", "yes", "not", "and", "or", "next", "till", "always", "again"]
def Say.kn : Say → Nat
  | .mark _ => 0
  | .yes => 1
  | .not _ => 2
  | .and _ _ => 3
  | .or _ _ => 4
  | .next _ => 5
  | .till _ _ => 6
  | .always _ => 7
  | .again _ => 8
theorem kn_lt (s : Say) : s.kn < 9 := by cases s <;> simp [Say.kn]
theorem kind_tab (s : Say) : s.kind = kindTab.getD s.kn "" := by cases s <;> rfl
theorem tab_ok : ∀ i : Fin 9, PyData.strOk (kindTab.getD i.val "") = true := by decide +kernel
theorem tab_inj : ∀ i j : Fin 9, (kindTab.getD i.val "" == kindTab.getD j.val "") = decide (i.val = j.val) := by decide +kernel
theorem kind_ok (s : Say) : PyData.strOk s.kind = true := by
  rw [kind_tab]
  exact tab_ok ⟨s.kn, kn_lt s⟩
theorem kind_beq (s t : Say) : (s.kind == t.kind) = decide (s.kn = t.kn) := by
  rw [kind_tab s, kind_tab t]
  exact tab_inj ⟨s.kn, kn_lt s⟩ ⟨t.kn, kn_lt t⟩
def Say.args : Say → List Dat
  | .mark m => [.str m]
  | .yes => []
  | .not s => [s.d]
  | .and s t => [s.d, t.d]
  | .or s t => [s.d, t.d]
  | .next s => [s.d]
  | .till s t => [s.d, t.d]
  | .always s => [s.d]
  | .again s => [s.d]
theorem say_args (s : Say) : s.d = .tup (.str s.kind :: s.args) := by cases s <;> rfl
theorem part_dep {s p : Say} (h : p ∈ s.parts) : p.dep < s.dep := by
  cases s <;> simp only [Say.parts, List.mem_cons, List.not_mem_nil, or_false] at h <;> simp only [Say.dep]
  all_goals first | (subst h; omega) | (rcases h with rfl | rfl <;> omega)
theorem part_ok {s p : Say} (h : p ∈ s.parts) (ok : s.Ok) : p.Ok := by
  cases s <;> simp only [Say.parts, List.mem_cons, List.not_mem_nil, or_false] at h
  all_goals first | (subst h; exact ok) | (rcases h with rfl | rfl; exact ok.1; exact ok.2)
def Say.size : Say → Nat
  | .mark _ => 1
  | .yes => 1
  | .not s => s.size + 1
  | .and s t => s.size + t.size + 1
  | .or s t => s.size + t.size + 1
  | .next s => s.size + 1
  | .till s t => s.size + t.size + 1
  | .always s => s.size + 1
  | .again s => s.size + 1
/-- the bonds that a saying brings itself -/
def ownB : Say → List Say
  | .next s => [.next s]
  | .till s t => [.till s t]
  | .always s => [.always s]
  | .again s => [.till .yes s, .always (.till .yes s)]
  | _ => []
def addB (row : List Say) (b : Say) : List Say := if b ∈ row then row else row ++ [b]
def addBonds : Say → List Say → List Say
  | .mark _, row => row
  | .yes, row => row
  | .not s, row => addBonds s row
  | .and s t, row => addBonds t (addBonds s row)
  | .or s t, row => addBonds t (addBonds s row)
  | .next s, row => addB (addBonds s row) (.next s)
  | .till s t, row => addB (addBonds t (addBonds s row)) (.till s t)
  | .always s, row => addB (addBonds s row) (.always s)
  | .again s, row => addB (addB (addBonds s row) (.till .yes s)) (.always (.till .yes s))
theorem addBonds_eq {s : Say} (row : List Say) : addBonds s row = (ownB s).foldl addB (s.parts.foldl (fun r p => addBonds p r) row) := by
  cases s <;> rfl
def bondsL (s : Say) : List Say := addBonds s []
theorem addB_len (row : List Say) (b : Say) : (addB row b).length ≤ row.length + 1 := by
  unfold addB
  split
  · omega
  · rw [List.length_append]; simp
theorem addBonds_len : ∀ (s : Say) (row : List Say), (addBonds s row).length ≤ row.length + 2 * s.size
  | .mark _, row => by simp only [addBonds]; omega
  | .yes, row => by simp only [addBonds]; omega
  | .not s, row => by have := addBonds_len s row; simp only [addBonds, Say.size]; omega
  | .and s t, row => by have := addBonds_len s row; have := addBonds_len t (addBonds s row); simp only [addBonds, Say.size]; omega
  | .or s t, row => by have := addBonds_len s row; have := addBonds_len t (addBonds s row); simp only [addBonds, Say.size]; omega
  | .next s, row => by have := addBonds_len s row; have := addB_len (addBonds s row) (.next s); simp only [addBonds, Say.size]; omega
  | .till s t, row => by have := addBonds_len s row; have := addBonds_len t (addBonds s row); have := addB_len (addBonds t (addBonds s row)) (.till s t); simp only [addBonds, Say.size]; omega
  | .always s, row => by have := addBonds_len s row; have := addB_len (addBonds s row) (.always s); simp only [addBonds, Say.size]; omega
  | .again s, row => by have := addBonds_len s row; have := addB_len (addBonds s row) (.till .yes s); have := addB_len (addB (addBonds s row) (.till .yes s)) (.always (.till .yes s)); simp only [addBonds, Say.size]; omega
theorem size_dep : ∀ s : Say, s.size + 1 ≤ 2 ^ s.dep
  | .mark _ => by simp [Say.size, Say.dep]
  | .yes => by simp [Say.size, Say.dep]
  | .not s => by have := size_dep s; simp only [Say.size, Say.dep, Nat.pow_succ]; omega
  | .and s t => by
    have h1 := size_dep s; have h2 := size_dep t
    have p1 : 2 ^ s.dep ≤ 2 ^ max s.dep t.dep := Nat.pow_le_pow_right (by decide) (Nat.le_max_left _ _)
    have p2 : 2 ^ t.dep ≤ 2 ^ max s.dep t.dep := Nat.pow_le_pow_right (by decide) (Nat.le_max_right _ _)
    simp only [Say.size, Say.dep, Nat.pow_succ]; omega
  | .or s t => by
    have h1 := size_dep s; have h2 := size_dep t
    have p1 : 2 ^ s.dep ≤ 2 ^ max s.dep t.dep := Nat.pow_le_pow_right (by decide) (Nat.le_max_left _ _)
    have p2 : 2 ^ t.dep ≤ 2 ^ max s.dep t.dep := Nat.pow_le_pow_right (by decide) (Nat.le_max_right _ _)
    simp only [Say.size, Say.dep, Nat.pow_succ]; omega
  | .next s => by have := size_dep s; simp only [Say.size, Say.dep, Nat.pow_succ]; omega
  | .till s t => by
    have h1 := size_dep s; have h2 := size_dep t
    have p1 : 2 ^ s.dep ≤ 2 ^ max s.dep t.dep := Nat.pow_le_pow_right (by decide) (Nat.le_max_left _ _)
    have p2 : 2 ^ t.dep ≤ 2 ^ max s.dep t.dep := Nat.pow_le_pow_right (by decide) (Nat.le_max_right _ _)
    simp only [Say.size, Say.dep, Nat.pow_succ]; omega
  | .always s => by have := size_dep s; simp only [Say.size, Say.dep, Nat.pow_succ]; omega
  | .again s => by have := size_dep s; simp only [Say.size, Say.dep, Nat.pow_succ]; omega
/-! == of sayings -/
theorem eqd_tup_cons (a b : Dat) (as bs : List Dat) : eqd (.tup (a :: as)) (.tup (b :: bs)) = (eqd a b && eqd (.tup as) (.tup bs)) := by
  rw [eqd_tup, eqd_tup]
  show PyData.eqvAll (a.py :: Dat.pys as) (b.py :: Dat.pys bs) = (PyData.eqv a.py b.py && _)
  simp [PyData.eqvAll]
theorem eqd_tup_nil : eqd (.tup []) (.tup []) = true := by rw [eqd_tup]; simp [Dat.pys, PyData.eqvAll]
theorem eqd_tup_nc (b : Dat) (bs : List Dat) : eqd (.tup []) (.tup (b :: bs)) = false := by rw [eqd_tup]; simp [Dat.pys, PyData.eqvAll]
theorem eqd_tup_cn (b : Dat) (bs : List Dat) : eqd (.tup (b :: bs)) (.tup []) = false := by rw [eqd_tup]; simp [Dat.pys, PyData.eqvAll]
theorem eqd_say : ∀ (s t : Say), eqd s.d t.d = decide (s = t) := by
  have hd : ∀ s t : Say, eqd s.d t.d = (decide (s.kn = t.kn) && eqd (.tup s.args) (.tup t.args)) := fun s t => by
    rw [say_args s, say_args t, eqd_tup_cons, eqd_str, kind_beq]
  intro s
  induction s with
  | mark m => intro t; rw [hd]; cases t <;> simp [Say.kn, Say.args, eqd_tup_cons, eqd_tup_nil, eqd_tup_nc, eqd_tup_cn, eqd_str] <;> exact bool_iff (by rw [beq_iff_eq, decide_eq_true_eq])
  | yes => intro t; rw [hd]; cases t <;> simp [Say.kn, Say.args, eqd_tup_cons, eqd_tup_nil, eqd_tup_nc, eqd_tup_cn, eqd_str]
  | not s ih => intro t; rw [hd]; cases t <;> simp [Say.kn, Say.args, eqd_tup_cons, eqd_tup_nil, eqd_tup_nc, eqd_tup_cn, eqd_str, ih]
  | next s ih => intro t; rw [hd]; cases t <;> simp [Say.kn, Say.args, eqd_tup_cons, eqd_tup_nil, eqd_tup_nc, eqd_tup_cn, eqd_str, ih]
  | always s ih => intro t; rw [hd]; cases t <;> simp [Say.kn, Say.args, eqd_tup_cons, eqd_tup_nil, eqd_tup_nc, eqd_tup_cn, eqd_str, ih]
  | again s ih => intro t; rw [hd]; cases t <;> simp [Say.kn, Say.args, eqd_tup_cons, eqd_tup_nil, eqd_tup_nc, eqd_tup_cn, eqd_str, ih]
  | and s u ih ih2 => intro t; rw [hd]; cases t <;> simp [Say.kn, Say.args, eqd_tup_cons, eqd_tup_nil, eqd_tup_nc, eqd_tup_cn, eqd_str, ih, ih2]
  | or s u ih ih2 => intro t; rw [hd]; cases t <;> simp [Say.kn, Say.args, eqd_tup_cons, eqd_tup_nil, eqd_tup_nc, eqd_tup_cn, eqd_str, ih, ih2]
  | till s u ih ih2 => intro t; rw [hd]; cases t <;> simp [Say.kn, Say.args, eqd_tup_cons, eqd_tup_nil, eqd_tup_nc, eqd_tup_cn, eqd_str, ih, ih2]
theorem any_say (row : List Say) (b : Say) : ((row.map Say.d).any fun e => eqd e b.d) = decide (b ∈ row) := by
  induction row with
  | nil => rfl
  | cons x xs ih =>
    rw [List.map_cons, List.any_cons, ih, eqd_say]
    by_cases h : x = b
    · subst h
      simp
    · have h2 : ¬ b = x := fun e => h e.symm
      simp [h, h2]
theorem shp_says {n : Nat} {row : List Say} (h : ∀ s ∈ row, s.Ok ∧ s.dep + 1 ≤ n) : ShpAll n (row.map Say.d) := shpAll_of fun d hd => by
  obtain ⟨s, hs, rfl⟩ := List.mem_map.mp hd
  exact shp_le (say_shp s (h s hs).1) (h s hs).2
theorem ownB_ok {s b : Say} (h : b ∈ ownB s) (ok : s.Ok) : b.Ok ∧ b.dep ≤ s.dep + 2 := by
  cases s <;> simp only [ownB, List.mem_cons, List.not_mem_nil, or_false] at h
  all_goals first | (subst h; exact ⟨ok, by omega⟩) | skip
  rename_i s
  rcases h with rfl | rfl
  · exact ⟨⟨trivial, ok⟩, by simp only [Say.dep]; have := dep_pos s; omega⟩
  · exact ⟨⟨trivial, ok⟩, by simp only [Say.dep]; have := dep_pos s; omega⟩
theorem mem_addB {row : List Say} {b x : Say} : x ∈ addB row b ↔ x ∈ row ∨ x = b := by
  unfold addB
  split
  · rename_i h
    constructor
    · exact .inl
    · rintro (h1 | rfl)
      · exact h1
      · exact h
  · rw [List.mem_append, List.mem_singleton]
def bondWords : List Dat := [.str "next", .str "till", .str "always"]
theorem bond_in (s : Say) : inV (flv (.str s.kind)) (bondWords.map flv) = decide (s.kn = 5 ∨ s.kn = 6 ∨ s.kn = 7) := by
  rw [kind_tab]
  have : ∀ i : Fin 9, inV (flv (.str (kindTab.getD i.val ""))) (bondWords.map flv) = decide (i.val = 5 ∨ i.val = 6 ∨ i.val = 7) := by decide +kernel
  exact this ⟨s.kn, kn_lt s⟩
theorem again_eq (s : Say) : (s.kind == ("again" : Str)) = decide (s.kn = 8) := by
  rw [kind_tab]
  have : ∀ i : Fin 9, (kindTab.getD i.val "" == ("again" : Str)) = decide (i.val = 8) := by decide +kernel
  exact this ⟨s.kn, kn_lt s⟩
theorem at_kind (s : Say) : atI (Dat.str s.kind :: s.args) 0 = some (.str s.kind) := atI_nat (j := 0) rfl
def R_own_bonds : List Sl → Dat → List Sl → Prop := fun as d as' => ∃ (s : Say), as = [.dat s.d] ∧ d = .lst ((ownB s).map Say.d) ∧ as' = [.no]
theorem len_own_bonds : ∀ as d as', R_own_bonds as d as' → as.length = 1 := by
  rintro as d as' ⟨_, rfl, _⟩
  rfl
abbrev s_own_bonds : Stmt := topS 2
theorem sc_own_bonds : FnScope ["saying", "later"] ["saying"] (defScope s_own_bonds) := ⟨rfl, rfl, rfl, by decide +kernel, rfl, by decide +kernel, by decide +kernel⟩
theorem ok_own_bonds {f : Addr} {fd : FuncData} (F : Fun K "own_bonds" "own_bonds" s_own_bonds f fd) (T : Tx K mg)  : FnOk P w K mg base CX0 1 f fd ["saying"] ((spG K R_own_bonds)) := by
  have nd := sc_own_bonds.nd
  refine F.ok sc_own_bonds (spG_len len_own_bonds) (fun cdv A outer s H vs Q E hr h => ?_)
  have hu := hr.units
  have hu5 := unit5 hr
  refine ⟨_, (pss_cons (ps_if (pt_cmpR (kIn K) (pe_ix (kIxT K) (pv 0) pe_int (fun _ _ => rfl)) (pe_tup (pa_cons pe_str (pa_cons pe_str (pa_cons pe_str pa_nil)))) (by with_unfolding_all rfl)) (pss_one (ps_ret (pe_lst (pa_cons (pv 0) pa_nil)))) pss_nil)
      (pss_cons (ps_if (pt_cmpR (kEqD K hu) (pe_ix (kIxT K) (pv 0) pe_int (fun _ _ => rfl)) pe_str (nomark _)) (pss_cons (ps_set (i := 1) nd rfl (by first | exact Or.inl rfl | exact Or.inr rfl) (pe_tup (pa_cons pe_str (pa_cons (pe_tup (pa_cons pe_str pa_nil)) (pa_cons (pe_ix (kIxT K) (pv 0) pe_int (fun _ _ => rfl)) pa_nil)))))
      (pss_one (ps_ret (pe_lst (pa_cons (pv 1) (pa_cons (pe_tup (pa_cons pe_str (pa_cons (pv 1) pa_nil))) pa_nil)))))) pss_nil)
      (pss_one (ps_ret (pe_lst pa_nil))))), ?_⟩
  refine body_ok h len_own_bonds fun as d as' hR => ?_
  obtain ⟨s, rfl, rfl, rfl⟩ := hR
  walk_at "body"
  rw [say_args s]
  have k0 : ∀ (ρ : List Sl), ρ[0]? = some (.dat (.tup (.str s.kind :: s.args))) → Ev K (tOp (rIxT K) (tVar 0) (tC (.int 0))) ρ (.str s.kind) ρ := fun ρ h => ev_ixT (ev_var h) ev_int (at_kind s)
  have t1 := et_test (ev_inT (K := K) (ρ := [.dat (.tup (.str s.kind :: s.args)), .no]) (ds := bondWords) (k0 _ rfl) (ev_tupA (ea_d ev_str (ea_d ev_str (ea_d ev_str ea_nil))) rfl (by show 3 ≤ 100000; decide)) rfl rfl)
  rw [bond_in] at t1
  by_cases hb : s.kn = 5 ∨ s.kn = 6 ∨ s.kn = 7
  · rw [decide_eq_true hb] at t1
    have ho : ownB s = [s] := by
      cases s <;> first | rfl | (simp [Say.kn] at hb)
    rw [ho]
    exact ex_yes t1 (ex_retW (ev_lstA (ea_d (ev_var rfl) ea_nil) rfl (by show 1 ≤ 100000; decide)) (by rw [← say_args]; rfl) (by walk_at "le")) rfl
  · rw [decide_eq_false hb] at t1
    refine ex_no t1 ?_
    have t2 : EvT K (tTest (tOp (rEqD K) (tOp (rIxT K) (tVar 0) (tC (.int 0))) (tC (.str "again")))) [.dat (.tup (.str s.kind :: s.args)), .no] (decide (s.kn = 8)) [.dat (.tup (.str s.kind :: s.args)), .no] :=
      EvT.to (et_test (ev_eq (k0 _ rfl) ev_str (shp_lit _ (kind_ok s)) (shp_lit _ (by decide +kernel)))) (by rw [eqd_str, again_eq])
    by_cases h8 : s.kn = 8
    · rw [decide_eq_true h8] at t2
      obtain ⟨u, rfl⟩ : ∃ u, s = .again u := by
        cases s <;> first | exact ⟨_, rfl⟩ | (simp [Say.kn] at h8)
      refine ex_yes t2 ?_ rfl
      have at1 : atI (Dat.str (Say.again u).kind :: (Say.again u).args) 1 = some u.d := atI_nat (j := 1) rfl
      refine ex_seq (ex_set (d := (Say.till .yes u).d) (Ev.to (ev_tupA (ea_d ev_str (ea_d (ev_tupA (ds := [.str "yes"]) (ea_d ev_str ea_nil) rfl (by show 1 ≤ 100000; decide)) (ea_d (ev_ixT (ev_var rfl) ev_int at1) ea_nil))) rfl (by show 3 ≤ 100000; decide)) rfl) rfl) ?_
      exact ex_retW (ev_lstA (ea_d (ev_var rfl) (ea_d (ev_tupA (ea_d ev_str (ea_d (ev_var rfl) ea_nil)) rfl (by show 2 ≤ 100000; decide)) ea_nil)) rfl (by show 2 ≤ 100000; decide)) rfl (by walk_at "le")
    · rw [decide_eq_false h8] at t2
      refine ex_no t2 ?_
      have ho : ownB s = [] := by
        cases s <;> first | rfl | (simp [Say.kn] at hb h8)
      rw [ho]
      exact ex_retW (ev_lstA (ds := []) ea_nil rfl (by decide)) rfl (by walk_at "le")
def addMany (ps : List Say) (row : List Say) : List Say := ps.foldl (fun r p => addBonds p r) row
theorem take_next {α : Type} {xs : List α} {i : Nat} {x : α} (h : xs[i]? = some x) : xs.take (i + 1) = xs.take i ++ [x] := by
  rw [List.take_add_one, h]
  rfl
theorem foldl_len (ps : List Say) : ∀ row : List Say, (addMany ps row).length ≤ row.length + 2 * (ps.map Say.size).sum := by
  induction ps with
  | nil => intro row; simp [addMany]
  | cons p ps ih =>
    intro row
    have h1 := ih (addBonds p row)
    have h2 := addBonds_len p row
    show (addMany ps (addBonds p row)).length ≤ _
    rw [List.map_cons, List.sum_cons]
    omega
theorem parts_size (s : Say) : (s.parts.map Say.size).sum + 1 ≤ s.size + (if s.isMark then 0 else 0) := by
  cases s <;> simp [Say.parts, Say.size]
theorem ownB_len (s : Say) : (ownB s).length ≤ 2 := by cases s <;> simp [ownB]
def RowOk (row : List Say) : Prop := ∀ b ∈ row, b.Ok ∧ b.dep ≤ 50
theorem addB_ok {row : List Say} {b : Say} (h : RowOk row) (k : b.Ok ∧ b.dep ≤ 50) : RowOk (addB row b) := fun x hx => by
  rcases mem_addB.mp hx with hx | rfl
  · exact h x hx
  · exact k
theorem foldB_ok {bs : List Say} (k : ∀ b ∈ bs, b.Ok ∧ b.dep ≤ 50) : ∀ {row : List Say}, RowOk row → RowOk (bs.foldl addB row) := by
  induction bs with
  | nil => intro row h; exact h
  | cons b bs ih => intro row h; exact ih (fun x hx => k x (List.mem_cons_of_mem _ hx)) (addB_ok h (k b List.mem_cons_self))
theorem addBonds_ok : ∀ (s : Say) (row : List Say), s.Ok → s.dep ≤ 40 → RowOk row → RowOk (addBonds s row) := by
  intro s
  induction s with
  | mark m => intro row _ _ h; exact h
  | yes => intro row _ _ h; exact h
  | not s ih => intro row ok hd h; simp only [Say.dep] at hd; exact ih row ok (by omega) h
  | and s t ih ih2 => intro row ok hd h; simp only [Say.dep] at hd; exact ih2 _ ok.2 (by omega) (ih row ok.1 (by omega) h)
  | or s t ih ih2 => intro row ok hd h; simp only [Say.dep] at hd; exact ih2 _ ok.2 (by omega) (ih row ok.1 (by omega) h)
  | next s ih => intro row ok hd h; have hd2 := hd; simp only [Say.dep] at hd; exact addB_ok (ih row ok (by omega) h) ⟨ok, by omega⟩
  | till s t ih ih2 => intro row ok hd h; have hd2 := hd; simp only [Say.dep] at hd; exact addB_ok (ih2 _ ok.2 (by omega) (ih row ok.1 (by omega) h)) ⟨ok, by omega⟩
  | always s ih => intro row ok hd h; have hd2 := hd; simp only [Say.dep] at hd; exact addB_ok (ih row ok (by omega) h) ⟨ok, by omega⟩
  | again s ih =>
    intro row ok hd h
    simp only [Say.dep] at hd
    have hp := dep_pos s
    exact addB_ok (addB_ok (ih row ok (by omega) h) ⟨⟨trivial, ok⟩, by simp only [Say.dep]; omega⟩) ⟨⟨trivial, ok⟩, by simp only [Say.dep]; omega⟩
theorem addMany_ok {ps : List Say} (k : ∀ p ∈ ps, p.Ok ∧ p.dep ≤ 40) : ∀ {row : List Say}, RowOk row → RowOk (addMany ps row) := by
  induction ps with
  | nil => intro row h; exact h
  | cons p ps ih => intro row h; exact ih (fun x hx => k x (List.mem_cons_of_mem _ hx)) (addBonds_ok p row (k p List.mem_cons_self).1 (k p List.mem_cons_self).2 h)
theorem cut1_args (s : Say) : cutD (Dat.str s.kind :: s.args) (some 1) none = s.args := by
  rw [show (1 : Int) = ((1 : Nat) : Int) from rfl, cutD_from]
  rfl
def Rn_add_bonds (n : Nat) : List Sl → Dat → List Sl → Prop := fun as d as' => ∃ (s : Say) (row : List Say), as = [.dat s.d, .par 0 (row.map Say.d)] ∧ d = .non ∧ as' = [.no, .par 0 ((addBonds s row).map Say.d)] ∧ s.dep ≤ n ∧ s.dep ≤ 10 ∧ s.Ok ∧ RowOk row ∧ row.length + 2 * s.size ≤ 50000
theorem lenn_add_bonds {n : Nat} : ∀ as d as', Rn_add_bonds n as d as' → as.length = 2 := by
  rintro as d as' ⟨_, _, rfl, _⟩
  rfl
def R_add_bonds := Rn_add_bonds 6
theorem len_add_bonds : ∀ as d as', R_add_bonds as d as' → as.length = 2 := lenn_add_bonds
abbrev s_add_bonds : Stmt := topS 3
theorem sc_add_bonds : FnScope ["saying", "row", "part", "bond"] ["saying", "row"] (defScope s_add_bonds) := ⟨rfl, rfl, rfl, by decide +kernel, rfl, by decide +kernel, by decide +kernel⟩
theorem ok_add_bonds {f : Addr} {fd : FuncData} (F : Fun K "_add_bonds" "_add_bonds" s_add_bonds f fd) (T : Tx K mg) (g_self : mg "_add_bonds" = some (.ref f)) (k_self : PySem.W.keepIn K (.ref f) = true) (b_self : Binds K fd ["saying", "row"] []) {a_own_bonds : Addr} {fd_own_bonds : FuncData} (c_own_bonds : Cal P w K mg base "own_bonds" 1 ["saying"] (spG K R_own_bonds) a_own_bonds fd_own_bonds) : FnOk P w K mg base CX0 8 f fd ["saying", "row"] ((spG K R_add_bonds)) := by
  have nd := sc_add_bonds.nd
  have key : ∀ n : Nat, FnOk P w K mg base CX0 (2 + n) f fd ["saying", "row"] (spG K (Rn_add_bonds n)) := by
    intro n
    induction n with
    | zero =>
      have no : ∀ as d as', Rn_add_bonds 0 as d as' → False := by
          rintro as d as' ⟨s, row, rfl, rfl, rfl, h, _⟩
          have := dep_pos s
          omega
      exact F.ok sc_add_bonds (spG_len lenn_add_bonds) (fun cdv A outer s H vs Q E hr h => by obtain ⟨_, _, _, _, _, r, _⟩ := h; exact (no _ _ _ r).elim)
    | succ n ih =>
      have c_add_bonds : Cal P w K mg base "_add_bonds" (2 + n) ["saying", "row"] (spG K (Rn_add_bonds n)) f fd := ⟨g_self, k_self, b_self, ih⟩
      refine F.ok (k := 2 + n) sc_add_bonds (spG_len lenn_add_bonds) (fun cdv A outer s H vs Q E hr h => ?_)
      have hu := hr.units
      have hu5 := unit5 hr
      refine ⟨_, (pss_cons (ps_if (pt_cmpR (kEqD K hu) (pe_ix (kIxT K) (pv 0) pe_int (fun _ _ => rfl)) pe_str (nomark _)) (pss_one ps_retN) pss_nil)
      (pss_cons (ps_for PassesOwn.never (by rfl) (kiTup K (pi_tup (pe_slice (kSlA K) (pv 0) (po_some pe_int) po_none))) (pg_name (i := 2) nd rfl (by first | exact Or.inl rfl | exact Or.inr rfl)) (pss_one (ps_expr (pe_call c_add_bonds.ok (hr.mono (by omega)) (by rfl) c_add_bonds.g c_add_bonds.kp c_add_bonds.b .nil pass0 (pa_cons (pv 2) (pa_cons (pv 1) pa_nil))))))
      (pss_one (ps_for PassesOwn.never (by rfl) (kiList K (pi_list (pe_call c_own_bonds.ok (hr.mono (by omega)) (by rfl) c_own_bonds.g c_own_bonds.kp c_own_bonds.b .nil pass0 (pa_cons (pv 0) pa_nil)))) (pg_name (i := 3) nd rfl (by first | exact Or.inl rfl | exact Or.inr rfl)) (pss_one (ps_if (pt_cmpR (kNotInD K hu5) (pv 3) (pv 1) (by with_unfolding_all rfl)) (pss_one (ps_expr (kBM K (pe_bm PySem.F.plainAttrs_list PySem.F.slot_list_append PySem.F.type_list_append mt_append (pv 1) (pa_cons (pv 3) pa_nil))))) pss_nil)))))), ?_⟩
      refine body_okE h lenn_add_bonds fun as d as' hR => ?_
      obtain ⟨s, row, rfl, rfl, rfl, hn, h10, ok, rok, hl⟩ := hR
      walk_at "body"
      rw [say_args s]
      have k0 : Ev K (tOp (rIxT K) (tVar 0) (tC (.int 0))) [.dat (.tup (.str s.kind :: s.args)), .par 0 (row.map Say.d), .no, .no] (.str s.kind) [.dat (.tup (.str s.kind :: s.args)), .par 0 (row.map Say.d), .no, .no] := ev_ixT (ev_var rfl) ev_int (atI_nat (j := 0) rfl)
      have t1 : EvT K (tTest (tOp (rEqD K) (tOp (rIxT K) (tVar 0) (tC (.int 0))) (tC (.str "mark")))) [.dat (.tup (.str s.kind :: s.args)), .par 0 (row.map Say.d), .no, .no] (decide (s.kn = 0)) [.dat (.tup (.str s.kind :: s.args)), .par 0 (row.map Say.d), .no, .no] :=
        EvT.to (et_test (ev_eq k0 ev_str (shp_lit _ (kind_ok s)) (shp_lit _ (by decide +kernel)))) (by
          rw [eqd_str, kind_tab]
          have : ∀ i : Fin 9, (kindTab.getD i.val "" == ("mark" : Str)) = decide (i.val = 0) := by decide +kernel
          exact this ⟨s.kn, kn_lt s⟩)
      by_cases h0 : s.kn = 0
      · left
        rw [decide_eq_true h0] at t1
        have ha : addBonds s row = row := by
          cases s <;> first | rfl | (simp [Say.kn] at h0)
        rw [ha]
        exact ex_yes t1 (ex_retNW (by walk_at "le")) rfl
      · right
        refine ⟨trivial, ?_⟩
        rw [decide_eq_false h0] at t1
        refine ex_no t1 ?_
        have hargs : s.args = s.parts.map Say.d := by
          cases s <;> first | rfl | (simp [Say.kn] at h0)
        have hs1 : (s.parts.map Say.size).sum + 1 ≤ s.size := by
          have := parts_size s
          rw [ite_self] at this
          exact this
        have ha : addBonds s row = (ownB s).foldl addB (addMany s.parts row) := addBonds_eq row
        have hpl : s.parts.length ≤ 2 := by cases s <;> simp [Say.parts]
        have many_ok : ∀ i, RowOk (addMany (s.parts.take i) row) := fun i => addMany_ok (fun p hp => by
          have hp := List.mem_of_mem_take hp
          exact ⟨part_ok hp ok, by have := part_dep hp; omega⟩) rok
        have hsum : ∀ i, ((s.parts.take i).map Say.size).sum + ((s.parts.drop i).map Say.size).sum = (s.parts.map Say.size).sum := fun i => by
          rw [← List.sum_append, ← List.map_append, List.take_append_drop]
        have mlen : ∀ i, (addMany (s.parts.take i) row).length + 2 * ((s.parts.drop i).map Say.size).sum + 2 ≤ 50000 := fun i => by
          have h1 := foldl_len (s.parts.take i) row
          have h2 := hsum i
          omega
        refine' ex_seq (ex_for (n := s.parts.length) (ds := s.parts.map Say.d) (fun i => [.dat s.d, .par 0 ((addMany (s.parts.take i) row).map Say.d), .no, .no]) ?a1 (fun _ => rfl) (by rw [List.length_map]; exact Nat.le_refl _) (fun i d hi hd => .inl ?a2) (.done (by rw [List.length_map]))) ?a3
        case a1 =>
          rw [say_args s]
          have := src_tup (K := K) (ev_slA (lo := some 1) (hi := none) (ev_var (ρ := [.dat (.tup (.str s.kind :: s.args)), .par 0 (row.map Say.d), .no, .no]) (i := 0) (d := .tup (.str s.kind :: s.args)) rfl) (eo_some ev_int) eo_no)
          rw [cut1_args, hargs] at this
          rw [hargs]
          exact this
        case a2 =>
          rw [List.getElem?_map] at hd
          have hpi : s.parts[i]? = some s.parts[i] := List.getElem?_eq_getElem hi
          rw [hpi] at hd
          cases hd
          have hpm : s.parts[i] ∈ s.parts := List.getElem_mem hi
          have hdr : s.parts.drop i = s.parts[i] :: s.parts.drop (i + 1) := List.drop_eq_getElem_cons hi
          have hml := mlen i
          rw [hdr, List.map_cons, List.sum_cons] at hml
          generalize s.parts[i] = p at *
          have e1 : addMany (s.parts.take (i + 1)) row = addBonds p (addMany (s.parts.take i) row) := by
            rw [take_next hpi]
            unfold addMany
            rw [List.foldl_append]
            rfl
          rw [e1]
          walk_at "nrm"
          refine' Ex.weak (ex_drop (ev_call1 (i := 1) (k := 1) (s := .par 0 ((addMany (s.parts.take i) row).map Say.d)) (ea_d (ev_var rfl) (ea_s ⟨_, rfl, rfl⟩ ea_nil)) ?b1 rfl ⟨p, _, rfl, rfl, rfl, by have := part_dep hpm; omega, by have := part_dep hpm; omega, part_ok hpm ok, many_ok i, by omega⟩ rfl rfl rfl)) ?b2
          case b1 => exact ⟨rfl, rfl⟩
          case b2 =>
            walk_at "nrm"
            walk_at "le"
        case a3 =>
          rw [List.take_length, ha]
          have rok1 := many_ok s.parts.length
          have rl1 := mlen s.parts.length
          rw [List.take_length] at rok1 rl1
          rw [List.drop_length] at rl1
          generalize addMany s.parts row = row1 at *
          have hol := ownB_len s
          have own_ok : ∀ b ∈ ownB s, b.Ok ∧ b.dep ≤ 50 := fun b hb => ⟨(ownB_ok hb ok).1, by have := (ownB_ok hb ok).2; omega⟩
          have fl : ∀ i, (((ownB s).take i).foldl addB row1).length ≤ row1.length + 2 := fun i => by
            have key : ∀ (bs row : List Say), (bs.foldl addB row).length ≤ row.length + bs.length := by
              intro bs
              induction bs with
              | nil => intro row; simp
              | cons b bs ih => intro row; have h1 := ih (addB row b); have h2 := addB_len row b; show (bs.foldl addB (addB row b)).length ≤ _; rw [List.length_cons]; omega
            have h1 := key ((ownB s).take i) row1
            have h2 : ((ownB s).take i).length ≤ 2 := by rw [List.length_take]; omega
            omega
          have hfin := ex_for (K := K) (n := (ownB s).length) (ds := (ownB s).map Say.d) (x := 3) (wi := iList K (tCall (spG K R_own_bonds) [] E0 (tCons (tVar 0) tNil))) (ρ := [.dat s.d, .par 0 (row1.map Say.d), .no, .no]) (tbd := tIfS (tTest (tOp (rNotInD K) (tVar 3) (tVar 1))) (tDrop (tBM K "list" rAppend (tVar 1) (tCons (tVar 3) tNil))) tNext)
            (fun i => [.dat s.d, .par 0 ((((ownB s).take i).foldl addB row1).map Say.d), .no, .no]) (src_list (ev_callA (ea_d (ev_var rfl) ea_nil) rfl ⟨s, rfl, rfl, rfl⟩) rfl) (fun _ => rfl) (by rw [List.length_map]; exact Nat.le_refl _) (fun i d hi hd => .inl ?_) (.done (by rw [List.length_map]))
          · rw [List.take_length] at hfin
            exact Ex.weak hfin (by walk_at "le")
          · rw [List.getElem?_map] at hd
            have hbi : (ownB s)[i]? = some (ownB s)[i] := List.getElem?_eq_getElem hi
            rw [hbi] at hd
            cases hd
            have hbm : (ownB s)[i] ∈ ownB s := List.getElem_mem hi
            generalize (ownB s)[i] = b at *
            have e1 : ((ownB s).take (i + 1)).foldl addB row1 = addB (((ownB s).take i).foldl addB row1) b := by
              rw [take_next hbi, List.foldl_append]
              rfl
            rw [e1]
            have hfl := fl i
            have rok2 : RowOk (((ownB s).take i).foldl addB row1) := foldB_ok (fun b hb => own_ok b (List.mem_of_mem_take hb)) rok1
            generalize ((ownB s).take i).foldl addB row1 = row2 at *
            walk_at "nrm"
            have t2 : EvT K (tTest (tOp (rNotInD K) (tVar 3) (tVar 1))) [.dat s.d, .par 0 (row2.map Say.d), .no, .dat b.d] (!decide (b ∈ row2)) [.dat s.d, .par 0 (row2.map Say.d), .no, .dat b.d] :=
              EvT.to (et_test (ev_notIn (ds := row2.map Say.d) (ev_var rfl) (el_s ⟨_, rfl, rfl⟩) rfl (shp_le (say_shp b (own_ok b hbm).1) (by have := (own_ok b hbm).2; omega)) (shp_says fun x hx => ⟨(rok2 x hx).1, by have := (rok2 x hx).2; omega⟩))) (by rw [any_say])
            by_cases hb : b ∈ row2
            · have ea : addB row2 b = row2 := if_pos hb
              rw [ea]
              exact ex_if (a := false) (EvT.to t2 (by rw [decide_eq_true hb]; rfl)) (fun q => by cases q) fun _ => Ex.weak ex_next (by walk_at "le")
            · have ea : addB row2 b = row2 ++ [b] := if_neg hb
              rw [ea, List.map_append]
              refine ex_if (a := true) (EvT.to t2 (by rw [decide_eq_false hb]; rfl)) (fun _ => Ex.weak (ex_append (ev_var rfl) ⟨_, rfl, rfl⟩ rfl rfl (by rw [List.length_map]; omega)) (by walk_at "nrm"; walk_at "le")) fun q => by cases q
  exact key 6
theorem mem_addBonds : ∀ (s : Say) (row : List Say) (b : Say), b ∈ addBonds s row ↔ b ∈ row ∨ b ∈ bondsL s := by
  intro s
  unfold bondsL
  induction s with
  | mark m => intro row b; simp [addBonds]
  | yes => intro row b; simp [addBonds]
  | not s ih => intro row b; exact ih row b
  | and s t ih ih2 => intro row b; simp only [addBonds]; rw [ih2 (addBonds s row), ih row, ih2 (addBonds s []), or_assoc]
  | or s t ih ih2 => intro row b; simp only [addBonds]; rw [ih2 (addBonds s row), ih row, ih2 (addBonds s []), or_assoc]
  | next s ih => intro row b; simp only [addBonds, mem_addB]; rw [ih row, or_assoc]
  | till s t ih ih2 => intro row b; simp only [addBonds, mem_addB]; rw [ih2 (addBonds s row), ih row, ih2 (addBonds s []), or_assoc, or_assoc, or_assoc]
  | always s ih => intro row b; simp only [addBonds, mem_addB]; rw [ih row, or_assoc]
  | again s ih => intro row b; simp only [addBonds, mem_addB]; rw [ih row, or_assoc, or_assoc, or_assoc]
/-- the bonds that stand in s are all among bs -/
def Cov (bs : List Say) (s : Say) : Prop := ∀ b ∈ bondsL s, b ∈ bs
theorem cov_part {bs : List Say} {s p : Say} (h : Cov bs s) (hp : p ∈ s.parts) : Cov bs p := by
  intro b hb
  refine h b ?_
  unfold bondsL
  cases s <;> simp only [Say.parts, List.mem_cons, List.not_mem_nil, or_false] at hp
  all_goals simp only [addBonds, mem_addB]
  case not s => subst hp; exact hb
  case next s => subst hp; exact .inl hb
  case always s => subst hp; exact .inl hb
  case again s => subst hp; exact .inl (.inl hb)
  case and s t => rw [mem_addBonds]; rcases hp with rfl | rfl; exact .inl hb; exact .inr hb
  case or s t => rw [mem_addBonds]; rcases hp with rfl | rfl; exact .inl hb; exact .inr hb
  case till s t => rw [mem_addBonds]; rcases hp with rfl | rfl; exact .inl (.inl hb); exact .inl (.inr hb)
/-- the bond whose truth a guess tells of a next, a till, an always, an again -/
def lastB : Say → Say
  | .again s => .always (.till .yes s)
  | s => s
theorem cov_last {bs : List Say} {s : Say} (h : Cov bs s) (hk : 5 ≤ s.kn) : lastB s ∈ bs := by
  refine h _ ?_
  unfold bondsL
  cases s <;> first | (simp [Say.kn] at hk; done) | skip
  all_goals simp [addBonds, lastB, mem_addB]
def bondAt (bs : List Say) (g : List Bool) (b : Say) : Bool := g.getD (bs.idxOf b) false
/-- whether a saying holds by a guess at a place with the mark m -/
def soG (bs : List Say) (g : List Bool) (m : Str) : Say → Bool
  | .mark x => m == x
  | .yes => true
  | .not s => !soG bs g m s
  | .and s t => soG bs g m s && soG bs g m t
  | .or s t => soG bs g m s || soG bs g m t
  | .next s => bondAt bs g (.next s)
  | .till s t => bondAt bs g (.till s t)
  | .always s => bondAt bs g (.always s)
  | .again s => bondAt bs g (.always (.till .yes s))
theorem soG_bond (bs : List Say) (g : List Bool) (m : Str) {s : Say} (hk : 5 ≤ s.kn) : soG bs g m s = bondAt bs g (lastB s) := by
  cases s <;> first | rfl | (simp [Say.kn] at hk)
theorem idxOf_find {bs : List Say} {b : Say} (h : b ∈ bs) : bs[bs.idxOf b]? = some b ∧ ∀ m x, m < bs.idxOf b → bs[m]? = some x → x ≠ b := by
  have hl := List.idxOf_lt_length_of_mem h
  refine ⟨by rw [List.getElem?_eq_getElem hl, List.getElem_idxOf], fun m x hm hx e => ?_⟩
  obtain ⟨hl2, e2⟩ := List.getElem?_eq_some_iff.mp hx
  have := List.not_of_lt_findIdx (p := (· == b)) (xs := bs) (by exact hm)
  simp [e2, e] at this
def saysD (bs : List Say) : Dat := .lst (bs.map Say.d)
def allG : Nat → List (List Bool)
  | 0 => [[]]
  | n + 1 => (allG n).flatMap fun g => [g ++ [false], g ++ [true]]
theorem allG_len : ∀ n, (allG n).length = 2 ^ n
  | 0 => rfl
  | n + 1 => by
    show ((allG n).flatMap _).length = _
    rw [List.length_flatMap]
    show ((allG n).map fun _ => 2).sum = _
    rw [List.map_const', List.sum_replicate_nat, allG_len n, Nat.pow_succ]
theorem allG_mem : ∀ {n : Nat} {g : List Bool}, g ∈ allG n ↔ g.length = n
  | 0, g => by
    show g ∈ [[]] ↔ _
    rw [List.mem_singleton, List.length_eq_zero_iff]
  | n + 1, g => by
    show g ∈ (allG n).flatMap _ ↔ _
    rw [List.mem_flatMap]
    constructor
    · rintro ⟨h, hh, hg⟩
      rw [allG_mem] at hh
      simp only [List.mem_cons, List.not_mem_nil, or_false] at hg
      rcases hg with rfl | rfl <;> (rw [List.length_append, hh]; rfl)
    · intro hl
      have hne : g ≠ [] := fun e => by rw [e] at hl; cases hl
      refine ⟨g.dropLast, allG_mem.mpr (by rw [List.length_dropLast, hl]; rfl), ?_⟩
      have e := List.dropLast_concat_getLast hne
      cases hb : g.getLast hne with
      | false => rw [hb] at e; rw [e]; simp
      | true => rw [hb] at e; rw [e]; simp
def tupB (g : List Bool) : Dat := .tup (bls g)
def guessesD (n : Nat) : List Dat := (allG n).map tupB
def tupApp : Dat → Dat → Dat := fun d e => match d with
  | .tup xs => .tup (xs ++ [e])
  | _ => .non
theorem bls_snoc (g : List Bool) (b : Bool) : bls g ++ [.bl b] = bls (g ++ [b]) := by
  unfold bls
  rw [List.map_append]
  rfl
theorem lc2_guesses (gs : List (List Bool)) : lc2Out (gs.map tupB) (fun _ => [.bl false, .bl true]) (fun _ _ => true) tupApp = (gs.flatMap fun g => [g ++ [false], g ++ [true]]).map tupB := by
  unfold lc2Out
  induction gs with
  | nil => rfl
  | cons g gs ih =>
    rw [List.map_cons, List.flatMap_cons, ih, List.flatMap_cons, List.map_append]
    refine congrArg (· ++ _) ?_
    show [tupApp (tupB g) (.bl false), tupApp (tupB g) (.bl true)] = [tupB (g ++ [false]), tupB (g ++ [true])]
    show [Dat.tup (bls g ++ [.bl false]), Dat.tup (bls g ++ [.bl true])] = _
    rw [bls_snoc, bls_snoc]
    rfl
theorem lc2_guesses_len (gs : List (List Bool)) : (lc2Out (gs.map tupB) (fun _ => [.bl false, .bl true]) (fun _ _ => true) tupApp).length = 2 * gs.length := by
  rw [lc2_guesses, List.length_map, List.length_flatMap]
  show (gs.map fun _ => 2).sum = _
  rw [List.map_const', List.sum_replicate_nat, Nat.mul_comm]
def R_all_guesses : List Sl → Dat → List Sl → Prop := fun as d as' => ∃ (ds : List Dat), as = [.dat (.lst ds)] ∧ d = .lst (guessesD ds.length) ∧ as' = [.no] ∧ ds.length ≤ 10
theorem len_all_guesses : ∀ as d as', R_all_guesses as d as' → as.length = 1 := by
  rintro as d as' ⟨_, rfl, _⟩
  rfl
abbrev s_all_guesses : Stmt := topS 5
theorem sc_all_guesses : FnScope ["bonds", "guesses", "_", "guess", "truth"] ["bonds"] (defScope s_all_guesses) := ⟨rfl, rfl, rfl, by decide +kernel, rfl, by decide +kernel, by decide +kernel⟩
theorem ok_all_guesses {f : Addr} {fd : FuncData} (F : Fun K "all_guesses" "all_guesses" s_all_guesses f fd) (T : Tx K mg)  : FnOk P w K mg base CX0 1 f fd ["bonds"] ((spG K R_all_guesses)) := by
  have nd := sc_all_guesses.nd
  refine F.ok sc_all_guesses (spG_len len_all_guesses) (fun cdv A outer s H vs Q E hr h => ?_)
  have hu := hr.units
  have hu5 := unit5 hr
  refine ⟨_, (pss_cons (ps_set (i := 1) nd rfl (by first | exact Or.inl rfl | exact Or.inr rfl) (pe_lst (pa_cons (pe_tup pa_nil) pa_nil)))
      (pss_cons (ps_for PassesOwn.never (by rfl) (kiList K (pi_list (pv 0))) (pg_name (i := 2) nd rfl (by first | exact Or.inl rfl | exact Or.inr rfl)) (pss_one (ps_setLc2 (i := 1) (own := [("guess", 3), ("truth", 4)]) (vs1 := [4]) (g := gName 3) (g1 := gName 4) (tt := tYes) (tt1 := tYes) (by rfl) nd rfl rfl (sw_true rfl rfl rfl (by decide +kernel)) (kiList K (pi_list (pv 1))) (blkOk_by (own := [("guess", 3), ("truth", 4)]) (N := ["bonds", "guesses", "_", "guess", "truth"]) (sc := defScope s_all_guesses) (by decide +kernel)) (by decide) (fun _ _ _ _ _ => pg_name (i := 3) nd rfl (Or.inl rfl)) (fun _ _ _ _ _ => pts_nil) (fun _ _ _ _ _ => (kiTup K (pi_tup (pe_tup (pa_cons pe_bl (pa_cons pe_bl pa_nil)))))) (fun _ _ _ _ _ => pg_name (i := 4) nd rfl (Or.inl rfl)) (fun _ _ _ _ _ => pts_nil) (fun _ _ _ _ _ => (pe_tup (kStar K (StX.pa_star (pv 3) (pa_cons (pv 4) pa_nil))))))))
      (pss_one (ps_ret (pv 1))))), ?_⟩
  refine body_ok h len_all_guesses fun as d as' hR => ?_
  obtain ⟨ds, rfl, rfl, rfl, hl⟩ := hR
  walk_at "body"
  refine ex_seq (ex_set (d := .lst (guessesD 0)) (Ev.to (ev_lstA (ea_d (ev_tupA (ds := []) ea_nil rfl (by decide)) ea_nil) rfl (by show 1 ≤ 100000; decide)) rfl) rfl) ?_
  walk_at "nrm"
  refine' ex_seq (ex_for (n := ds.length) (fun i => [.dat (.lst ds), .dat (.lst (guessesD i)), .no, .no, .no]) (src_list (ev_var rfl) rfl) (fun _ => rfl) (Nat.le_refl _) (fun i d hi hd => .inl ?a1) (.done rfl)) ?a2
  case a1 =>
    walk_at "nrm"
    have hp : 2 ^ i ≤ 512 := by
      have : 2 ^ i ≤ 2 ^ 9 := Nat.pow_le_pow_right (by decide) (by omega)
      exact this
    have hgl : (guessesD i).length = 2 ^ i := by unfold guessesD; rw [List.length_map, allG_len]
    have e1 : guessesD (i + 1) = lc2Out (guessesD i) (fun _ => [.bl false, .bl true]) (fun _ _ => true) tupApp := (lc2_guesses (allG i)).symm
    rw [e1]
    refine Ex.weak (ex_set (ev_of_fresh (ef_lc2 (x := 3) (y := 4) (by decide) (fun _ => [.bl false, .bl true]) (fun _ _ => true) tupApp 2000 (src_list (ev_var rfl) rfl) (by show 3 < 5; decide) (by show 4 < 5; decide) (by omega) (fun j hj => ?_) (by decide) (fun d _ => by show 2 + 2000 < 100000; decide) (fun d hd => ?_) (fun d hd e he => et_yes) (fun d hd e he _ => ?_))) rfl) (by walk_at "nrm"; walk_at "le")
    · have : (guessesD i).take j = ((allG i).take j).map tupB := by unfold guessesD; rw [List.map_take]
      rw [this, lc2_guesses_len]
      have h2 : ((allG i).take j).length ≤ (allG i).length := by rw [List.length_take]; omega
      rw [allG_len] at h2
      omega
    · exact src_tup (ev_tupA (ea_d ev_bl (ea_d ev_bl ea_nil)) rfl (by show 2 ≤ 100000; decide))
    · obtain ⟨g, hg, rfl⟩ := List.mem_map.mp hd
      have hgn : g.length = i := allG_mem.mp hg
      show Ev K _ _ (.tup (bls g ++ [e])) _
      refine ev_tup ?_ (by rw [List.length_append, bls_len]; simp; omega)
      rw [List.map_append]
      exact ea_starT (ev_var rfl) (ea_d (ev_var rfl) ea_nil)
  case a2 =>
    exact ex_retW (ev_var rfl) rfl (by walk_at "le")
def Rn_is_so (n : Nat) : List Sl → Dat → List Sl → Prop := fun as d as' => ∃ (s : Say) (m : Str) (bs : List Say) (g : List Bool), as = [.dat s.d, .dat (.str m), .dat (saysD bs), .dat (tupB g)] ∧ d = .bl (soG bs g m s) ∧ as' = [.no, .no, .no, .no] ∧ s.dep ≤ n ∧ s.Ok ∧ Cov bs s ∧ RowOk bs ∧ bs.length = g.length ∧ PyData.strOk m = true
theorem lenn_is_so {n : Nat} : ∀ as d as', Rn_is_so n as d as' → as.length = 4 := by
  rintro as d as' ⟨_, _, _, _, rfl, _⟩
  rfl
def R_is_so := Rn_is_so 6
theorem len_is_so : ∀ as d as', R_is_so as d as' → as.length = 4 := lenn_is_so
abbrev s_is_so : Stmt := topS 6
theorem sc_is_so : FnScope ["saying", "mark", "bonds", "guess", "kind"] ["saying", "mark", "bonds", "guess"] (defScope s_is_so) := ⟨rfl, rfl, rfl, by decide +kernel, rfl, by decide +kernel, by decide +kernel⟩
theorem ok_is_so {f : Addr} {fd : FuncData} (F : Fun K "is_so" "is_so" s_is_so f fd) (T : Tx K mg) (g_self : mg "is_so" = some (.ref f)) (k_self : PySem.W.keepIn K (.ref f) = true) (b_self : Binds K fd ["saying", "mark", "bonds", "guess"] []) {a_own_bonds : Addr} {fd_own_bonds : FuncData} (c_own_bonds : Cal P w K mg base "own_bonds" 1 ["saying"] (spG K R_own_bonds) a_own_bonds fd_own_bonds) : FnOk P w K mg base CX0 8 f fd ["saying", "mark", "bonds", "guess"] ((spG K R_is_so)) := by
  have nd := sc_is_so.nd
  have key : ∀ n : Nat, FnOk P w K mg base CX0 (2 + n) f fd ["saying", "mark", "bonds", "guess"] (spG K (Rn_is_so n)) := by
    intro n
    induction n with
    | zero =>
      have no : ∀ as d as', Rn_is_so 0 as d as' → False := by
          rintro as d as' ⟨s, m, bs, g, rfl, rfl, rfl, h, _⟩
          have := dep_pos s
          omega
      exact F.ok sc_is_so (spG_len lenn_is_so) (fun cdv A outer s H vs Q E hr h => by obtain ⟨_, _, _, _, _, r, _⟩ := h; exact (no _ _ _ r).elim)
    | succ n ih =>
      have c_is_so : Cal P w K mg base "is_so" (2 + n) ["saying", "mark", "bonds", "guess"] (spG K (Rn_is_so n)) f fd := ⟨g_self, k_self, b_self, ih⟩
      refine F.ok (k := 2 + n) sc_is_so (spG_len lenn_is_so) (fun cdv A outer s H vs Q E hr h => ?_)
      have hu := hr.units
      have hu5 := unit5 hr
      refine ⟨_, (pss_cons (ps_set (i := 4) nd rfl (by first | exact Or.inl rfl | exact Or.inr rfl) (pe_ix (kIxT K) (pv 0) pe_int (fun _ _ => rfl)))
      (pss_cons (ps_if (pt_cmpR (kEqD K hu) (pv 4) pe_str (nomark _)) (pss_one (ps_ret (pe_cmpR (kEqD K hu) (pv 1) (pe_ix (kIxT K) (pv 0) pe_int (fun _ _ => rfl)) (nomark _)))) pss_nil)
      (pss_cons (ps_if (pt_cmpR (kEqD K hu) (pv 4) pe_str (nomark _)) (pss_one (ps_ret pe_bl)) pss_nil)
      (pss_cons (ps_if (pt_cmpR (kEqD K hu) (pv 4) pe_str (nomark _)) (pss_one (ps_ret (pe_not (pe_call c_is_so.ok (hr.mono (by omega)) (by rfl) c_is_so.g c_is_so.kp c_is_so.b .nil pass0 (pa_cons (pe_ix (kIxT K) (pv 0) pe_int (fun _ _ => rfl)) (pa_cons (pv 1) (pa_cons (pv 2) (pa_cons (pv 3) pa_nil)))))))) pss_nil)
      (pss_cons (ps_if (pt_cmpR (kEqD K hu) (pv 4) pe_str (nomark _)) (pss_one (ps_ret (pe_and (pe_call c_is_so.ok (hr.mono (by omega)) (by rfl) c_is_so.g c_is_so.kp c_is_so.b .nil pass0 (pa_cons (pe_ix (kIxT K) (pv 0) pe_int (fun _ _ => rfl)) (pa_cons (pv 1) (pa_cons (pv 2) (pa_cons (pv 3) pa_nil))))) (pe_one (pe_call c_is_so.ok (hr.mono (by omega)) (by rfl) c_is_so.g c_is_so.kp c_is_so.b .nil pass0 (pa_cons (pe_ix (kIxT K) (pv 0) pe_int (fun _ _ => rfl)) (pa_cons (pv 1) (pa_cons (pv 2) (pa_cons (pv 3) pa_nil))))))))) pss_nil)
      (pss_cons (ps_if (pt_cmpR (kEqD K hu) (pv 4) pe_str (nomark _)) (pss_one (ps_ret (pe_or (pe_call c_is_so.ok (hr.mono (by omega)) (by rfl) c_is_so.g c_is_so.kp c_is_so.b .nil pass0 (pa_cons (pe_ix (kIxT K) (pv 0) pe_int (fun _ _ => rfl)) (pa_cons (pv 1) (pa_cons (pv 2) (pa_cons (pv 3) pa_nil))))) (pe_one (pe_call c_is_so.ok (hr.mono (by omega)) (by rfl) c_is_so.g c_is_so.kp c_is_so.b .nil pass0 (pa_cons (pe_ix (kIxT K) (pv 0) pe_int (fun _ _ => rfl)) (pa_cons (pv 1) (pa_cons (pv 2) (pa_cons (pv 3) pa_nil))))))))) pss_nil)
      (pss_one (ps_ret (pe_ix (kIxT K) (pv 3) (kBM K (pe_bm PySem.F.plainAttrs_list PySem.F.slot_list_index PySem.F.type_list_index (kIndexD K hu5) (pv 2) (pa_cons (pe_ix (kIxL K) (pe_call c_own_bonds.ok (hr.mono (by omega)) (by rfl) c_own_bonds.g c_own_bonds.kp c_own_bonds.b .nil pass0 (pa_cons (pv 0) pa_nil)) (pe_un un_neg pe_int) (fun _ _ => rfl)) pa_nil))) (fun _ _ => rfl)))))))))), ?_⟩
      refine body_ok h lenn_is_so fun as d as' hR => ?_
      obtain ⟨s, m, bs, g, rfl, rfl, rfl, hn, ok, cv, rok, hg, hm⟩ := hR
      walk_at "body"
      rw [say_args s]
      refine ex_seq (ex_set (d := .str s.kind) (ev_ixT (ev_var rfl) ev_int (atI_nat (j := 0) rfl)) rfl) ?_
      rw [← say_args s]
      walk_at "nrm"
      have tw : ∀ (y : Str) (b : Bool), PyData.strOk y = true → (s.kind == y) = b → EvT K (tTest (tOp (rEqD K) (tVar 4) (tC (.str y)))) [.dat s.d, .dat (.str m), .dat (saysD bs), .dat (tupB g), .dat (.str s.kind)] b [.dat s.d, .dat (.str m), .dat (saysD bs), .dat (tupB g), .dat (.str s.kind)] := fun y b h1 h2 => et_word rfl (kind_ok s) h1 h2
      have rc : ∀ (p : Say) (i : Nat), p ∈ s.parts → atI (Dat.str s.kind :: s.args) (i : Int) = some p.d → Ev K (tCall (spG K (Rn_is_so n)) [] E0 (tCons (tOp (rIxT K) (tVar 0) (tC (.int i))) (tCons (tVar 1) (tCons (tVar 2) (tCons (tVar 3) tNil))))) [.dat s.d, .dat (.str m), .dat (saysD bs), .dat (tupB g), .dat (.str s.kind)] (.bl (soG bs g m p)) [.dat s.d, .dat (.str m), .dat (saysD bs), .dat (tupB g), .dat (.str s.kind)] := fun p i hp hat =>
        ev_callA (ea_d (ev_ixT (ev_var (by rw [← say_args s]; rfl)) ev_int hat) (ea_d (ev_var rfl) (ea_d (ev_var rfl) (ea_d (ev_var rfl) ea_nil)))) rfl ⟨p, m, bs, g, rfl, rfl, rfl, by have := part_dep hp; omega, part_ok hp ok, cov_part cv hp, rok, hg, hm⟩
      by_cases hk : 5 ≤ s.kn
      · have no : ∀ (y : Str) (j : Nat), j < 5 → y = kindTab.getD j "" → (s.kind == y) = false := fun y j hj e => by
          rw [e, kind_tab s]
          have := tab_inj ⟨s.kn, kn_lt s⟩ ⟨j, by omega⟩
          rw [this]
          exact decide_eq_false (by show ¬ s.kn = j; omega)
        refine ex_no (tw _ _ (by decide +kernel) (no _ 0 (by decide) rfl)) ?_
        refine ex_no (tw _ _ (by decide +kernel) (no _ 1 (by decide) rfl)) ?_
        refine ex_no (tw _ _ (by decide +kernel) (no _ 2 (by decide) rfl)) ?_
        refine ex_no (tw _ _ (by decide +kernel) (no _ 3 (by decide) rfl)) ?_
        refine ex_no (tw _ _ (by decide +kernel) (no _ 4 (by decide) rfl)) ?_
        have hlast := cov_last cv hk
        obtain ⟨i1, i2⟩ := idxOf_find hlast
        have hil := (List.getElem?_eq_some_iff.mp i1).1
        have hown : atI ((ownB s).map Say.d) (-1) = some (lastB s).d := by
          cases s <;> first | rfl | (simp [Say.kn] at hk)
        have sb : ∀ b ∈ bs, Shp 59 b.d := fun b hb => shp_le (say_shp b (rok b hb).1) (by have := (rok b hb).2; omega)
        refine ex_retW (ev_ixT (ev_var rfl) (ev_indexD (ds := bs.map Say.d) (z := (lastB s).d) (j := bs.idxOf (lastB s)) (el_d (ev_var rfl)) (ev_ixL (el_d (ev_callA (ea_d (ev_var rfl) ea_nil) rfl ⟨s, rfl, rfl, rfl⟩)) (ev_neg ev_int) rfl hown) rfl rfl (shp_up (sb _ hlast)) (shpAll_of fun d hd => ?_) (by rw [List.getElem?_map, i1]; rfl) (by rw [eqd_say]; simp) (fun k z' hk hz => ?_)) (at_bls (by omega))) (by rw [soG_bond bs g m hk]; rfl) (by walk_at "le")
        · obtain ⟨b, hb, rfl⟩ := List.mem_map.mp hd
          exact sb b hb
        · rw [List.getElem?_map] at hz
          cases e : bs[k]? with
          | none => rw [e] at hz; cases hz
          | some x =>
            rw [e] at hz
            cases hz
            rw [eqd_say]
            exact decide_eq_false (i2 k x hk e)
      · have tb : ∀ (y : Str) (j : Nat), j < 9 → y = kindTab.getD j "" → (s.kind == y) = decide (s.kn = j) := fun y j hj e => by
          rw [e, kind_tab s]
          exact tab_inj ⟨s.kn, kn_lt s⟩ ⟨j, hj⟩
        have t0 := fun b h => tw _ b (by decide +kernel) ((tb "mark" 0 (by decide) rfl).trans h)
        have t1 := fun b h => tw _ b (by decide +kernel) ((tb "yes" 1 (by decide) rfl).trans h)
        have t2 := fun b h => tw _ b (by decide +kernel) ((tb "not" 2 (by decide) rfl).trans h)
        have t3 := fun b h => tw _ b (by decide +kernel) ((tb "and" 3 (by decide) rfl).trans h)
        have t4 := fun b h => tw _ b (by decide +kernel) ((tb "or" 4 (by decide) rfl).trans h)
        clear tb tw
        cases s with
        | mark x =>
          refine ex_yes (t0 true rfl) ?_ rfl
          exact ex_retW (ev_eq (ev_var rfl) (ev_ixT (ds := [.str "mark", .str x]) (ev_var rfl) ev_int rfl) (shp_lit _ hm) (shp_lit _ (mark_ok ok.1).2)) (by rw [eqd_str]; rfl) (by walk_at "le")
        | yes =>
          refine ex_no (t0 false rfl) (ex_yes (t1 true rfl) (ex_retW ev_bl rfl (by walk_at "le")) rfl)
        | not u =>
          refine ex_no (t0 false rfl) (ex_no (t1 false rfl) (ex_yes (t2 true rfl) ?_ rfl))
          exact ex_retW (ev_not (rc u 1 (by simp [Say.parts]) rfl)) rfl (by walk_at "le")
        | and u v =>
          refine ex_no (t0 false rfl) (ex_no (t1 false rfl) (ex_no (t2 false rfl) (ex_yes (t3 true rfl) ?_ rfl)))
          exact ex_retW (ev_and (rc u 1 (by simp [Say.parts]) rfl) fun _ => rc v 2 (by simp [Say.parts]) rfl) rfl (by walk_at "le")
        | or u v =>
          refine ex_no (t0 false rfl) (ex_no (t1 false rfl) (ex_no (t2 false rfl) (ex_no (t3 false rfl) (ex_yes (t4 true rfl) ?_ rfl))))
          exact ex_retW (ev_or (rc u 1 (by simp [Say.parts]) rfl) fun _ => rc v 2 (by simp [Say.parts]) rfl) rfl (by walk_at "le")
        | next _ => exact absurd (by simp [Say.kn]) hk
        | till _ _ => exact absurd (by simp [Say.kn]) hk
        | always _ => exact absurd (by simp [Say.kn]) hk
        | again _ => exact absurd (by simp [Say.kn]) hk
  exact key 6
def Say.isB (b : Say) : Bool := match b with
  | .next _ => true
  | .till _ _ => true
  | .always _ => true
  | _ => false
/-- a row of bonds with all that stand in them -/
structure Bonds (bs : List Say) : Prop where
  row : ∀ b ∈ bs, b.Ok ∧ b.dep ≤ 7
  isB : ∀ b ∈ bs, b.isB = true
  cov : ∀ b ∈ bs, Cov bs b
  len : bs.length ≤ 200
theorem Bonds.rok {bs : List Say} (h : Bonds bs) : RowOk bs := fun b hb => ⟨(h.row b hb).1, by have := (h.row b hb).2; omega⟩
theorem Bonds.kind {bs : List Say} (h : Bonds bs) {b : Say} (hb : b ∈ bs) : b.isB = true := h.isB b hb
theorem addBonds_isB : ∀ (s : Say) (row : List Say), (∀ b ∈ row, b.isB = true) → ∀ b ∈ addBonds s row, b.isB = true := by
  intro s
  induction s with
  | mark _ => exact fun row h => h
  | yes => exact fun row h => h
  | not s ih => exact fun row h => ih row h
  | and s t ih ih2 => exact fun row h => ih2 _ (ih row h)
  | or s t ih ih2 => exact fun row h => ih2 _ (ih row h)
  | next s ih => intro row h b hb; simp only [addBonds, mem_addB] at hb; rcases hb with hb | rfl; exact ih row h b hb; rfl
  | till s t ih ih2 => intro row h b hb; simp only [addBonds, mem_addB] at hb; rcases hb with hb | rfl; exact ih2 _ (ih row h) b hb; rfl
  | always s ih => intro row h b hb; simp only [addBonds, mem_addB] at hb; rcases hb with hb | rfl; exact ih row h b hb; rfl
  | again s ih => intro row h b hb; simp only [addBonds, mem_addB] at hb; rcases hb with (hb | rfl) | rfl; exact ih row h b hb; rfl; rfl
theorem addBonds_dep {n : Nat} : ∀ (s : Say) (row : List Say), s.Ok → s.dep + 1 ≤ n → (∀ b ∈ row, b.Ok ∧ b.dep ≤ n) → ∀ b ∈ addBonds s row, b.Ok ∧ b.dep ≤ n := by
  intro s
  induction s with
  | mark _ => exact fun row _ _ h => h
  | yes => exact fun row _ _ h => h
  | not s ih => exact fun row ok hn h => ih row ok (by simp only [Say.dep] at hn; omega) h
  | and s t ih ih2 => exact fun row ok hn h => ih2 _ ok.2 (by simp only [Say.dep] at hn; omega) (ih row ok.1 (by simp only [Say.dep] at hn; omega) h)
  | or s t ih ih2 => exact fun row ok hn h => ih2 _ ok.2 (by simp only [Say.dep] at hn; omega) (ih row ok.1 (by simp only [Say.dep] at hn; omega) h)
  | next s ih =>
    intro row ok hn h b hb
    simp only [addBonds, mem_addB] at hb
    rcases hb with hb | rfl
    · exact ih row ok (by simp only [Say.dep] at hn; omega) h b hb
    · exact ⟨ok, by omega⟩
  | till s t ih ih2 =>
    intro row ok hn h b hb
    simp only [addBonds, mem_addB] at hb
    rcases hb with hb | rfl
    · exact ih2 _ ok.2 (by simp only [Say.dep] at hn; omega) (ih row ok.1 (by simp only [Say.dep] at hn; omega) h) b hb
    · exact ⟨ok, by omega⟩
  | always s ih =>
    intro row ok hn h b hb
    simp only [addBonds, mem_addB] at hb
    rcases hb with hb | rfl
    · exact ih row ok (by simp only [Say.dep] at hn; omega) h b hb
    · exact ⟨ok, by omega⟩
  | again s ih =>
    intro row ok hn h b hb
    simp only [addBonds, mem_addB] at hb
    rcases hb with (hb | rfl) | rfl
    · exact ih row ok (by simp only [Say.dep] at hn; omega) h b hb
    · exact ⟨⟨trivial, ok⟩, by simp only [Say.dep] at hn ⊢; have := dep_pos s; omega⟩
    · exact ⟨⟨trivial, ok⟩, by simp only [Say.dep] at hn ⊢; have := dep_pos s; omega⟩
theorem cov_trans : ∀ (s b : Say), b ∈ bondsL s → Cov (bondsL s) b := by
  intro s
  have mono : ∀ {xs ys : List Say} {b : Say}, (∀ x ∈ xs, x ∈ ys) → Cov xs b → Cov ys b := fun h c x hx => h x (c x hx)
  have self : ∀ (u : Say), Cov (bondsL u) u := fun u x hx => hx
  induction s with
  | mark _ => intro b hb; cases hb
  | yes => intro b hb; cases hb
  | not s ih => exact ih
  | and s t ih ih2 =>
    intro b hb
    have e : ∀ x, x ∈ bondsL (.and s t) ↔ x ∈ bondsL s ∨ x ∈ bondsL t := fun x => by unfold bondsL; simp only [addBonds]; rw [mem_addBonds]; exact Iff.rfl
    rcases (e b).mp hb with hb | hb
    · exact mono (fun x hx => (e x).mpr (.inl hx)) (ih b hb)
    · exact mono (fun x hx => (e x).mpr (.inr hx)) (ih2 b hb)
  | or s t ih ih2 =>
    intro b hb
    have e : ∀ x, x ∈ bondsL (.or s t) ↔ x ∈ bondsL s ∨ x ∈ bondsL t := fun x => by unfold bondsL; simp only [addBonds]; rw [mem_addBonds]; exact Iff.rfl
    rcases (e b).mp hb with hb | hb
    · exact mono (fun x hx => (e x).mpr (.inl hx)) (ih b hb)
    · exact mono (fun x hx => (e x).mpr (.inr hx)) (ih2 b hb)
  | next s ih =>
    intro b hb
    have e : ∀ x, x ∈ bondsL (.next s) ↔ x ∈ bondsL s ∨ x = .next s := fun x => by unfold bondsL; simp only [addBonds, mem_addB]
    rcases (e b).mp hb with hb | rfl
    · exact mono (fun x hx => (e x).mpr (.inl hx)) (ih b hb)
    · exact self _
  | till s t ih ih2 =>
    intro b hb
    have e : ∀ x, x ∈ bondsL (.till s t) ↔ (x ∈ bondsL s ∨ x ∈ bondsL t) ∨ x = .till s t := fun x => by unfold bondsL; simp only [addBonds, mem_addB]; rw [mem_addBonds]; exact Iff.rfl
    rcases (e b).mp hb with (hb | hb) | rfl
    · exact mono (fun x hx => (e x).mpr (.inl (.inl hx))) (ih b hb)
    · exact mono (fun x hx => (e x).mpr (.inl (.inr hx))) (ih2 b hb)
    · exact self _
  | always s ih =>
    intro b hb
    have e : ∀ x, x ∈ bondsL (.always s) ↔ x ∈ bondsL s ∨ x = .always s := fun x => by unfold bondsL; simp only [addBonds, mem_addB]
    rcases (e b).mp hb with hb | rfl
    · exact mono (fun x hx => (e x).mpr (.inl hx)) (ih b hb)
    · exact self _
  | again s ih =>
    intro b hb
    have e : ∀ x, x ∈ bondsL (.again s) ↔ (x ∈ bondsL s ∨ x = .till .yes s) ∨ x = .always (.till .yes s) := fun x => by unfold bondsL; simp only [addBonds, mem_addB]
    have ey : ∀ x, x ∈ bondsL (.till .yes s) ↔ x ∈ bondsL s ∨ x = .till .yes s := fun x => by unfold bondsL; simp only [addBonds, mem_addB]
    have ea : ∀ x, x ∈ bondsL (.always (.till .yes s)) ↔ x ∈ bondsL (.till .yes s) ∨ x = .always (.till .yes s) := fun x => by unfold bondsL; simp only [addBonds, mem_addB]
    rcases (e b).mp hb with (hb | rfl) | rfl
    · exact mono (fun x hx => (e x).mpr (.inl (.inl hx))) (ih b hb)
    · exact fun x hx => (e x).mpr (.inl ((ey x).mp hx))
    · exact fun x hx => (e x).mpr (((ea x).mp hx).imp (ey x).mp id)
theorem bonds_self {s : Say} (ok : s.Ok) (h : s.dep ≤ 6) : Bonds (bondsL s) where
  row := addBonds_dep s [] ok (by omega) fun b hb => by cases hb
  isB := addBonds_isB s [] fun b hb => by cases hb
  cov := cov_trans s
  len := by
    have h1 := addBonds_len s []
    have h2 := size_dep s
    have h3 : 2 ^ s.dep ≤ 2 ^ 6 := Nat.pow_le_pow_right (by decide) h
    have h4 : (2 : Nat) ^ 6 = 64 := by decide
    unfold bondsL
    simp only [List.length_nil] at h1
    omega
def partsOf (bs : List Say) (g : List Bool) (m : Str) (b : Say) : List Bool := b.parts.map (soG bs g m)
def sightL (bs : List Say) (g : List Bool) (m : Str) : List (List Bool) := List.zipWith (fun b t => t :: partsOf bs g m b) bs g
def due (b : Say) (x y : List Bool) : Bool := match b with
  | .next _ => y.getD 1 false
  | .till _ _ => x.getD 2 false || (x.getD 1 false && y.getD 0 false)
  | _ => x.getD 1 false && y.getD 0 false
def stepOk (b : Say) (x y : List Bool) : Bool := x.getD 0 false == due b x y
def goL (bs : List Say) (xs ys : List (List Bool)) : Bool := (List.range bs.length).all fun i => stepOk (bs.getD i .yes) (xs.getD i []) (ys.getD i [])
/-- a sight of these bonds -/
def Sight (bs : List Say) (xs : List (List Bool)) : Prop := xs.length = bs.length ∧ ∀ (i : Nat) (b : Say) (x : List Bool), bs[i]? = some b → xs[i]? = some x → x.length = b.parts.length + 1
theorem sightL_ok {bs : List Say} {g : List Bool} {m : Str} (h : bs.length = g.length) : Sight bs (sightL bs g m) := by
  refine ⟨by unfold sightL; rw [List.length_zipWith]; omega, fun i b x hb hx => ?_⟩
  unfold sightL at hx
  rw [List.getElem?_zipWith, hb] at hx
  cases hg : g[i]? with
  | none => rw [hg] at hx; cases hx
  | some t => rw [hg] at hx; cases hx; simp [partsOf]
def allS : Say → List Say
  | .mark m => [.mark m]
  | .yes => [.yes]
  | .not s => .not s :: allS s
  | .and s t => .and s t :: (allS s ++ allS t)
  | .or s t => .or s t :: (allS s ++ allS t)
  | .next s => .next s :: allS s
  | .till s t => .till s t :: (allS s ++ allS t)
  | .always s => .always s :: allS s
  | .again s => .again s :: allS s
theorem allS_parts (s : Say) : allS s = s :: s.parts.flatMap allS := by
  cases s <;> simp [allS, Say.parts]
theorem allS_len : ∀ s : Say, (allS s).length = s.size
  | .mark _ => rfl
  | .yes => rfl
  | .not s => by simp [allS, Say.size, allS_len s]
  | .and s t => by simp [allS, Say.size, allS_len s, allS_len t]
  | .or s t => by simp [allS, Say.size, allS_len s, allS_len t]
  | .next s => by simp [allS, Say.size, allS_len s]
  | .till s t => by simp [allS, Say.size, allS_len s, allS_len t]
  | .always s => by simp [allS, Say.size, allS_len s]
  | .again s => by simp [allS, Say.size, allS_len s]
theorem allS_ok : ∀ {s : Say}, s.Ok → ∀ t ∈ allS s, t.Ok ∧ t.dep ≤ s.dep := by
  intro s
  induction s with
  | mark m => intro ok t ht; simp only [allS, List.mem_singleton] at ht; subst ht; exact ⟨ok, Nat.le_refl _⟩
  | yes => intro ok t ht; simp only [allS, List.mem_singleton] at ht; subst ht; exact ⟨ok, Nat.le_refl _⟩
  | not s ih => intro ok t ht; simp only [allS, List.mem_cons] at ht; rcases ht with rfl | ht; exact ⟨ok, Nat.le_refl _⟩; have := ih ok t ht; exact ⟨this.1, by simp only [Say.dep]; omega⟩
  | next s ih => intro ok t ht; simp only [allS, List.mem_cons] at ht; rcases ht with rfl | ht; exact ⟨ok, Nat.le_refl _⟩; have := ih ok t ht; exact ⟨this.1, by simp only [Say.dep]; omega⟩
  | always s ih => intro ok t ht; simp only [allS, List.mem_cons] at ht; rcases ht with rfl | ht; exact ⟨ok, Nat.le_refl _⟩; have := ih ok t ht; exact ⟨this.1, by simp only [Say.dep]; omega⟩
  | again s ih => intro ok t ht; simp only [allS, List.mem_cons] at ht; rcases ht with rfl | ht; exact ⟨ok, Nat.le_refl _⟩; have := ih ok t ht; exact ⟨this.1, by simp only [Say.dep]; omega⟩
  | and s t ih ih2 =>
    intro ok u hu; simp only [allS, List.mem_cons, List.mem_append] at hu
    rcases hu with rfl | hu | hu
    · exact ⟨ok, Nat.le_refl _⟩
    · have := ih ok.1 u hu; exact ⟨this.1, by simp only [Say.dep]; omega⟩
    · have := ih2 ok.2 u hu; exact ⟨this.1, by simp only [Say.dep]; omega⟩
  | or s t ih ih2 =>
    intro ok u hu; simp only [allS, List.mem_cons, List.mem_append] at hu
    rcases hu with rfl | hu | hu
    · exact ⟨ok, Nat.le_refl _⟩
    · have := ih ok.1 u hu; exact ⟨this.1, by simp only [Say.dep]; omega⟩
    · have := ih2 ok.2 u hu; exact ⟨this.1, by simp only [Say.dep]; omega⟩
  | till s t ih ih2 =>
    intro ok u hu; simp only [allS, List.mem_cons, List.mem_append] at hu
    rcases hu with rfl | hu | hu
    · exact ⟨ok, Nat.le_refl _⟩
    · have := ih ok.1 u hu; exact ⟨this.1, by simp only [Say.dep]; omega⟩
    · have := ih2 ok.2 u hu; exact ⟨this.1, by simp only [Say.dep]; omega⟩
/-- the bonds, gathered by the law -/
def lawStep (found : List Say) (one : Say) : List Say := found ++ (ownB one).filter fun b => !decide (b ∈ found)
def lawBonds (s : Say) : List Say := (allS s).foldl lawStep []
theorem mem_lawFold : ∀ (xs found : List Say) (b : Say), b ∈ xs.foldl lawStep found ↔ b ∈ found ∨ ∃ one ∈ xs, b ∈ ownB one
  | [], found, b => by simp
  | x :: xs, found, b => by
    rw [List.foldl_cons, mem_lawFold xs]
    unfold lawStep
    simp only [List.mem_append, List.mem_filter, Bool.not_eq_true', decide_eq_false_iff_not, List.mem_cons, exists_eq_or_imp]
    by_cases hb : b ∈ found
    · simp [hb]
    · simp only [hb, not_false_eq_true, and_true, false_or]
theorem mem_lawBonds {s b : Say} : b ∈ lawBonds s ↔ ∃ one ∈ allS s, b ∈ ownB one := by
  unfold lawBonds
  rw [mem_lawFold]
  simp
theorem lawFold_len : ∀ (xs found : List Say), (xs.foldl lawStep found).length ≤ found.length + 2 * xs.length
  | [], found => by simp
  | x :: xs, found => by
    rw [List.foldl_cons]
    have h1 := lawFold_len xs (lawStep found x)
    have h2 : (lawStep found x).length ≤ found.length + 2 := by
      unfold lawStep
      rw [List.length_append]
      have := List.length_filter_le (fun b => !decide (b ∈ found)) (ownB x)
      have := ownB_len x
      omega
    rw [List.length_cons]
    omega
theorem lawBonds_len (s : Say) : (lawBonds s).length ≤ 2 * s.size := by
  have := lawFold_len (allS s) []
  rw [allS_len] at this
  simpa [lawBonds] using this
theorem lawFold_ok {xs found : List Say} (hx : ∀ x ∈ xs, x.Ok ∧ x.dep ≤ 20) (hf : ∀ b ∈ found, b.Ok ∧ b.dep ≤ 30) : ∀ b ∈ xs.foldl lawStep found, b.Ok ∧ b.dep ≤ 30 := by
  intro b hb
  rw [mem_lawFold] at hb
  rcases hb with hb | ⟨x, hxm, hb⟩
  · exact hf b hb
  · have h1 := ownB_ok hb (hx x hxm).1
    have h2 := (hx x hxm).2
    exact ⟨h1.1, by omega⟩
theorem self_all (s : Say) : s ∈ allS s := by cases s <;> simp [allS]
theorem mem_bondsL (s : Say) (b : Say) : b ∈ bondsL s → b ∈ lawBonds s := by
  intro h
  rw [mem_lawBonds]
  have key : ∀ (s : Say), b ∈ bondsL s → ∃ one ∈ allS s, b ∈ ownB one := by
    intro s
    induction s with
    | mark _ => intro h; cases h
    | yes => intro h; cases h
    | not s ih => intro h; obtain ⟨o, ho, hb⟩ := ih h; exact ⟨o, by simp [allS, ho], hb⟩
    | and s t ih ih2 =>
      intro h
      unfold bondsL at h
      simp only [addBonds] at h
      rw [mem_addBonds] at h
      rcases h with h | h
      · obtain ⟨o, ho, hb⟩ := ih h; exact ⟨o, by simp [allS, ho], hb⟩
      · obtain ⟨o, ho, hb⟩ := ih2 h; exact ⟨o, by simp [allS, ho], hb⟩
    | or s t ih ih2 =>
      intro h
      unfold bondsL at h
      simp only [addBonds] at h
      rw [mem_addBonds] at h
      rcases h with h | h
      · obtain ⟨o, ho, hb⟩ := ih h; exact ⟨o, by simp [allS, ho], hb⟩
      · obtain ⟨o, ho, hb⟩ := ih2 h; exact ⟨o, by simp [allS, ho], hb⟩
    | next s ih =>
      intro h
      unfold bondsL at h
      simp only [addBonds, mem_addB] at h
      rcases h with h | rfl
      · obtain ⟨o, ho, hb⟩ := ih h; exact ⟨o, by simp [allS, ho], hb⟩
      · exact ⟨_, self_all _, List.mem_of_getElem? (i := 0) rfl⟩
    | till s t ih ih2 =>
      intro h
      unfold bondsL at h
      simp only [addBonds, mem_addB] at h
      rw [mem_addBonds] at h
      rcases h with (h | h) | rfl
      · obtain ⟨o, ho, hb⟩ := ih h; exact ⟨o, by simp [allS, ho], hb⟩
      · obtain ⟨o, ho, hb⟩ := ih2 h; exact ⟨o, by simp [allS, ho], hb⟩
      · exact ⟨_, self_all _, List.mem_of_getElem? (i := 0) rfl⟩
    | always s ih =>
      intro h
      unfold bondsL at h
      simp only [addBonds, mem_addB] at h
      rcases h with h | rfl
      · obtain ⟨o, ho, hb⟩ := ih h; exact ⟨o, by simp [allS, ho], hb⟩
      · exact ⟨_, self_all _, List.mem_of_getElem? (i := 0) rfl⟩
    | again s ih =>
      intro h
      unfold bondsL at h
      simp only [addBonds, mem_addB] at h
      rcases h with (h | rfl) | rfl
      · obtain ⟨o, ho, hb⟩ := ih h; exact ⟨o, by simp [allS, ho], hb⟩
      · exact ⟨_, self_all _, List.mem_of_getElem? (i := 0) rfl⟩
      · exact ⟨_, self_all _, List.mem_of_getElem? (i := 1) rfl⟩
  exact key s h
theorem addB_nd {row : List Say} {b : Say} (h : row.Nodup) : (addB row b).Nodup := by
  unfold addB
  split
  · exact h
  · next hb => exact List.nodup_append.mpr ⟨h, by simp, fun x hx y hy e => by simp only [List.mem_singleton] at hy; subst hy; subst e; exact hb hx⟩
theorem addBonds_nd : ∀ (s : Say) (row : List Say), row.Nodup → (addBonds s row).Nodup := by
  intro s
  induction s with
  | mark _ => exact fun row h => h
  | yes => exact fun row h => h
  | not s ih => exact fun row h => ih row h
  | and s t ih ih2 => exact fun row h => ih2 _ (ih row h)
  | or s t ih ih2 => exact fun row h => ih2 _ (ih row h)
  | next s ih => exact fun row h => addB_nd (ih row h)
  | till s t ih ih2 => exact fun row h => addB_nd (ih2 _ (ih row h))
  | always s ih => exact fun row h => addB_nd (ih row h)
  | again s ih => exact fun row h => addB_nd (addB_nd (ih row h))
theorem nodup_sub_len {α : Type} [DecidableEq α] : ∀ (l D : List α), l.Nodup → (∀ x ∈ l, x ∈ D) → l.length ≤ D.length
  | [], _, _, _ => Nat.zero_le _
  | x :: l, D, hn, hs => by
    obtain ⟨h1, h2⟩ := List.nodup_cons.mp hn
    have hx : x ∈ D := hs x List.mem_cons_self
    have ih := nodup_sub_len l (D.erase x) h2 fun y hy => by
      have hne : y ≠ x := fun e => h1 (e ▸ hy)
      exact (List.mem_erase_of_ne hne).2 (hs y (List.mem_cons_of_mem _ hy))
    have e := List.length_erase_of_mem hx
    have hp : 0 < D.length := List.length_pos_of_mem hx
    rw [List.length_cons]
    omega
theorem bonds_few (s : Say) : (bondsL s).length ≤ (lawBonds s).length := nodup_sub_len _ _ (addBonds_nd s [] List.nodup_nil) fun b hb => mem_bondsL s b hb
/-- the last part of a saying, again and again -/
def lastP (s : Say) : Say := s.parts.getLastD s
def down : Nat → Say → Say
  | 0, s => s
  | n + 1, s => down n (lastP s)
def fitN (m : Nat) : Say → Nat
  | .mark _ => 0
  | .yes => 0
  | .not s => if (lawBonds (.not s)).length ≤ m then 0 else fitN m s + 1
  | .and s t => if (lawBonds (.and s t)).length ≤ m then 0 else fitN m t + 1
  | .or s t => if (lawBonds (.or s t)).length ≤ m then 0 else fitN m t + 1
  | .next s => if (lawBonds (.next s)).length ≤ m then 0 else fitN m s + 1
  | .till s t => if (lawBonds (.till s t)).length ≤ m then 0 else fitN m t + 1
  | .always s => if (lawBonds (.always s)).length ≤ m then 0 else fitN m s + 1
  | .again s => if (lawBonds (.again s)).length ≤ m then 0 else fitN m s + 1
def fitS (m : Nat) (s : Say) : Say := down (fitN m s) s
def FitOk (m : Nat) (s : Say) : Prop := (lawBonds (fitS m s)).length ≤ m ∧ ∀ i, i < fitN m s → m < (lawBonds (down i s)).length
theorem fit_step {m : Nat} {s t : Say} (e : fitN m s = if (lawBonds s).length ≤ m then 0 else fitN m t + 1) (hl : lastP s = t) (ih : FitOk m t) : FitOk m s := by
  unfold FitOk fitS
  rw [e]
  by_cases h : (lawBonds s).length ≤ m
  · rw [if_pos h]
    exact ⟨h, fun i hi => absurd hi (Nat.not_lt_zero _)⟩
  · rw [if_neg h]
    refine ⟨?_, fun i hi => ?_⟩
    · show (lawBonds (down (fitN m t) (lastP s))).length ≤ m
      rw [hl]
      exact ih.1
    · cases i with
      | zero => show m < (lawBonds s).length; omega
      | succ i =>
        show m < (lawBonds (down i (lastP s))).length
        rw [hl]
        exact ih.2 i (by omega)
theorem fit_ok (m : Nat) : ∀ s, FitOk m s := by
  intro s
  induction s with
  | mark _ => exact ⟨by show ([] : List Say).length ≤ m; simp, fun i hi => absurd hi (Nat.not_lt_zero _)⟩
  | yes => exact ⟨by show ([] : List Say).length ≤ m; simp, fun i hi => absurd hi (Nat.not_lt_zero _)⟩
  | not s ih => exact fit_step rfl rfl ih
  | and s t _ ih => exact fit_step rfl rfl ih
  | or s t _ ih => exact fit_step rfl rfl ih
  | next s ih => exact fit_step rfl rfl ih
  | till s t _ ih => exact fit_step rfl rfl ih
  | always s ih => exact fit_step rfl rfl ih
  | again s ih => exact fit_step rfl rfl ih
theorem lastP_ok (s : Say) (ok : s.Ok) : (lastP s).Ok ∧ (lastP s).dep ≤ s.dep := by
  cases s with
  | mark _ => exact ⟨ok, Nat.le_refl _⟩
  | yes => exact ⟨ok, Nat.le_refl _⟩
  | not s => exact ⟨ok, by show s.dep ≤ s.dep + 1; omega⟩
  | next s => exact ⟨ok, by show s.dep ≤ s.dep + 1; omega⟩
  | always s => exact ⟨ok, by show s.dep ≤ s.dep + 1; omega⟩
  | again s => exact ⟨ok, by show s.dep ≤ s.dep + 1; omega⟩
  | and s t => exact ⟨ok.2, by show t.dep ≤ max s.dep t.dep + 1; omega⟩
  | or s t => exact ⟨ok.2, by show t.dep ≤ max s.dep t.dep + 1; omega⟩
  | till s t => exact ⟨ok.2, by show t.dep ≤ max s.dep t.dep + 1; omega⟩
theorem down_ok : ∀ (n : Nat) (s : Say), s.Ok → (down n s).Ok ∧ (down n s).dep ≤ s.dep
  | 0, s, ok => ⟨ok, Nat.le_refl _⟩
  | n + 1, s, ok => by
    have h1 := lastP_ok s ok
    have h2 := down_ok n (lastP s) h1.1
    exact ⟨h2.1, Nat.le_trans h2.2 h1.2⟩
theorem fit_good (m : Nat) (s : Say) (ok : s.Ok) : (fitS m s).Ok ∧ (fitS m s).dep ≤ s.dep ∧ (bondsL (fitS m s)).length ≤ m := by
  have h := down_ok (fitN m s) s ok
  exact ⟨h.1, h.2, Nat.le_trans (bonds_few _) (fit_ok m s).1⟩
def R_due_truth : List Sl → Dat → List Sl → Prop := fun as d as' => ∃ (b : Say) (x : List Bool) (y : List Bool), as = [.dat (.str b.kind), .dat (tupB x), .dat (tupB y)] ∧ d = .bl (due b x y) ∧ as' = [.no, .no, .no] ∧ b.isB = true ∧ x.length = b.parts.length + 1 ∧ y.length = b.parts.length + 1
theorem len_due_truth : ∀ as d as', R_due_truth as d as' → as.length = 3 := by
  rintro as d as' ⟨_, _, _, rfl, _⟩
  rfl
abbrev s_due_truth : Stmt := topS 12
theorem sc_due_truth : FnScope ["kind", "now", "then"] ["kind", "now", "then"] (defScope s_due_truth) := ⟨rfl, rfl, rfl, by decide +kernel, rfl, by decide +kernel, by decide +kernel⟩
theorem ok_due_truth {f : Addr} {fd : FuncData} (F : Fun K "_due_truth" "_due_truth" s_due_truth f fd) (T : Tx K mg)  : FnOk P w K mg base CX0 1 f fd ["kind", "now", "then"] ((spG K R_due_truth)) := by
  have nd := sc_due_truth.nd
  refine F.ok sc_due_truth (spG_len len_due_truth) (fun cdv A outer s H vs Q E hr h => ?_)
  have hu := hr.units
  have hu5 := unit5 hr
  refine ⟨_, (pss_cons (ps_if (pt_cmpR (kEqD K hu) (pv 0) pe_str (nomark _)) (pss_one (ps_ret (pe_ix (kIxT K) (pv 2) pe_int (fun _ _ => rfl)))) pss_nil)
      (pss_cons (ps_if (pt_cmpR (kEqD K hu) (pv 0) pe_str (nomark _)) (pss_one (ps_ret (pe_or (pe_ix (kIxT K) (pv 1) pe_int (fun _ _ => rfl)) (pe_one (pe_and (pe_ix (kIxT K) (pv 1) pe_int (fun _ _ => rfl)) (pe_one (pe_ix (kIxT K) (pv 2) pe_int (fun _ _ => rfl)))))))) pss_nil)
      (pss_one (ps_ret (pe_and (pe_ix (kIxT K) (pv 1) pe_int (fun _ _ => rfl)) (pe_one (pe_ix (kIxT K) (pv 2) pe_int (fun _ _ => rfl)))))))), ?_⟩
  refine body_ok h len_due_truth fun as d as' hR => ?_
  obtain ⟨b, x, y, rfl, rfl, rfl, hb, hx, hy⟩ := hR
  walk_at "body"
  have ix : ∀ (i : Nat), i < b.parts.length + 1 → Ev K (tOp (rIxT K) (tVar 1) (tC (.int i))) [.dat (.str b.kind), .dat (tupB x), .dat (tupB y)] (.bl (x.getD i false)) [.dat (.str b.kind), .dat (tupB x), .dat (tupB y)] := fun i hi => ev_ixT (ev_var rfl) ev_int (at_bls (by omega))
  have iy : ∀ (i : Nat), i < b.parts.length + 1 → Ev K (tOp (rIxT K) (tVar 2) (tC (.int i))) [.dat (.str b.kind), .dat (tupB x), .dat (tupB y)] (.bl (y.getD i false)) [.dat (.str b.kind), .dat (tupB x), .dat (tupB y)] := fun i hi => ev_ixT (ev_var rfl) ev_int (at_bls (by omega))
  have tw : ∀ (w : Str) (c : Bool), PyData.strOk w = true → (b.kind == w) = c → EvT K (tTest (tOp (rEqD K) (tVar 0) (tC (.str w)))) [.dat (.str b.kind), .dat (tupB x), .dat (tupB y)] c [.dat (.str b.kind), .dat (tupB x), .dat (tupB y)] := fun w c h1 h2 => et_word rfl (kind_ok b) h1 h2
  cases b <;> first | (cases hb; done) | skip
  case next s =>
    refine ex_yes (tw _ true (by decide +kernel) (by simp only [Say.kind]; decide +kernel)) ?_ rfl
    exact ex_retW (iy 1 (by simp [Say.parts])) rfl (by walk_at "le")
  case till s t =>
    refine ex_no (tw _ false (by decide +kernel) (by simp only [Say.kind]; decide +kernel)) (ex_yes (tw _ true (by decide +kernel) (by simp only [Say.kind]; decide +kernel)) ?_ rfl)
    exact ex_retW (ev_or (ix 2 (by simp [Say.parts])) fun _ => ev_and (ix 1 (by simp [Say.parts])) fun _ => iy 0 (by simp)) rfl (by walk_at "le")
  case always s =>
    refine ex_no (tw _ false (by decide +kernel) (by simp only [Say.kind]; decide +kernel)) (ex_no (tw _ false (by decide +kernel) (by simp only [Say.kind]; decide +kernel)) ?_)
    exact ex_retW (ev_and (ix 1 (by simp [Say.parts])) fun _ => iy 0 (by simp)) rfl (by walk_at "le")
theorem getD_map {α : Type} {f : α → Dat} {xs : List α} {i : Nat} {z : α} (h : i < xs.length) : (xs.map f).getD i .non = f (xs.getD i z) := by
  rw [List.getD_eq_getElem?_getD, List.getD_eq_getElem?_getD, List.getElem?_map, List.getElem?_eq_getElem h]
  rfl
theorem zip3_at {n i : Nat} {ds es fs : List Dat} {d : Dat} (h : (zip3D n ds es fs)[i]? = some d) : i < n ∧ d = .tup [ds.getD i .non, es.getD i .non, fs.getD i .non] := by
  unfold zip3D at h
  rw [List.getElem?_map] at h
  by_cases hi : i < n
  · rw [List.getElem?_range hi] at h
    cases h
    exact ⟨hi, rfl⟩
  · rw [List.getElem?_eq_none (by simpa using hi)] at h
    cases h
theorem sight_at_len {bs : List Say} {xs : List (List Bool)} (h : Sight bs xs) {i : Nat} (hi : i < bs.length) : (xs.getD i []).length = (bs.getD i .yes).parts.length + 1 := by
  have e1 : bs[i]? = some (bs.getD i .yes) := by rw [List.getD_eq_getElem?_getD, List.getElem?_eq_getElem hi]; rfl
  have e2 : xs[i]? = some (xs.getD i []) := by rw [List.getD_eq_getElem?_getD, List.getElem?_eq_getElem (by rw [h.1]; exact hi)]; rfl
  exact h.2 i _ _ e1 e2
theorem getD_mem {bs : List Say} {i : Nat} (hi : i < bs.length) : bs.getD i .yes ∈ bs := by
  rw [List.getD_eq_getElem?_getD, List.getElem?_eq_getElem hi]
  exact List.getElem_mem hi
def R_sight_goes_on : List Sl → Dat → List Sl → Prop := fun as d as' => ∃ (bs : List Say) (xs : List (List Bool)) (ys : List (List Bool)), as = [.dat (saysD bs), .dat (.lst (xs.map tupB)), .dat (.lst (ys.map tupB))] ∧ d = .bl (goL bs xs ys) ∧ as' = [.no, .no, .no] ∧ Bonds bs ∧ Sight bs xs ∧ Sight bs ys
theorem len_sight_goes_on : ∀ as d as', R_sight_goes_on as d as' → as.length = 3 := by
  rintro as d as' ⟨_, _, _, rfl, _⟩
  rfl
abbrev s_sight_goes_on : Stmt := topS 9
theorem sc_sight_goes_on : FnScope ["bonds", "here", "there", "bond", "now", "then"] ["bonds", "here", "there"] (defScope s_sight_goes_on) := ⟨rfl, rfl, rfl, by decide +kernel, rfl, by decide +kernel, by decide +kernel⟩
theorem ok_sight_goes_on {f : Addr} {fd : FuncData} (F : Fun K "sight_goes_on" "sight_goes_on" s_sight_goes_on f fd) (T : Tx K mg) {a_due_truth : Addr} {fd_due_truth : FuncData} (c_due_truth : Cal P w K mg base "_due_truth" 1 ["kind", "now", "then"] (spG K R_due_truth) a_due_truth fd_due_truth) : FnOk P w K mg base CX0 2 f fd ["bonds", "here", "there"] ((spG K R_sight_goes_on)) := by
  have nd := sc_sight_goes_on.nd
  refine F.ok sc_sight_goes_on (spG_len len_sight_goes_on) (fun cdv A outer s H vs Q E hr h => ?_)
  have hu := hr.units
  have hu5 := unit5 hr
  refine ⟨_, (pss_cons (ps_for PassesOwn.never (by rfl) (kiZip3 K (pi_Zip3 (by rfl) T.b_zip (pa_cons (pv 0) (pa_cons (pv 1) (pa_cons (pv 2) pa_nil))))) (kgTup K (pg_tup (n := 3) (by rfl) (pgs_cons (pg_name (i := 3) nd rfl (by first | exact Or.inl rfl | exact Or.inr rfl)) (pgs_cons (pg_name (i := 4) nd rfl (by first | exact Or.inl rfl | exact Or.inr rfl)) (pgs_cons (pg_name (i := 5) nd rfl (by first | exact Or.inl rfl | exact Or.inr rfl)) pgs_nil))))) (pss_one (ps_if (pt_cmpR (kNeD K hu) (pe_ix (kIxT K) (pv 4) pe_int (fun _ _ => rfl)) (pe_call c_due_truth.ok (hr.mono (by omega)) (by rfl) c_due_truth.g c_due_truth.kp c_due_truth.b .nil pass0 (pa_cons (pe_ix (kIxT K) (pv 3) pe_int (fun _ _ => rfl)) (pa_cons (pv 4) (pa_cons (pv 5) pa_nil)))) (nomark _)) (pss_one (ps_ret pe_bl)) pss_nil)))
      (pss_one (ps_ret pe_bl))), ?_⟩
  refine body_ok h len_sight_goes_on fun as d as' hR => ?_
  obtain ⟨bs, xs, ys, rfl, rfl, rfl, hb, hx, hy⟩ := hR
  walk_at "body"
  have hz : (zip3D bs.length (bs.map Say.d) (xs.map tupB) (ys.map tupB)).length = bs.length := by simp [zip3D]
  refine ex_seqC (b := goL bs xs ys) (r := .bl false) (ρ' := [.no, .no, .no, .no, .no, .no]) (ρ1 := [.dat (saysD bs), .dat (.lst (xs.map tupB)), .dat (.lst (ys.map tupB)), .no, .no, .no]) ?_ (fun e => ?_) (fun e => by rw [e])
  · unfold goL
    rw [← hz]
    refine ex_forGI _ (fun i => [.dat (saysD bs), .dat (.lst (xs.map tupB)), .dat (.lst (ys.map tupB)), .dat (bs.getD i .yes).d, .dat (tupB (xs.getD i [])), .dat (tupB (ys.getD i []))])
      (src_zip3 (ev_var rfl) (ev_var rfl) (ev_var rfl) rfl rfl rfl (by rw [List.length_map]) (by rw [List.length_map]; exact hx.1) (by rw [List.length_map]; exact hy.1)) (by walk_at "le") (fun i d hd => ?_) (fun i hi => ?_)
    · obtain ⟨hi, rfl⟩ := zip3_at hd
      rw [getD_map (z := .yes) hi, getD_map (z := []) (by rw [hx.1]; exact hi), getD_map (z := []) (by rw [hy.1]; exact hi)]
      exact bnd_3 (by simp) (by simp) (by simp)
    · rw [hz] at hi
      have hm := getD_mem hi
      have lx := sight_at_len hx hi
      have ly := sight_at_len hy hi
      refine ex_ifC (ρ2 := [.dat (saysD bs), .dat (.lst (xs.map tupB)), .dat (.lst (ys.map tupB)), .dat (bs.getD i .yes).d, .dat (tupB (xs.getD i [])), .dat (tupB (ys.getD i []))]) ?_ (by walk_at "le") fun _ => ex_retW ev_bl rfl (by walk_at "le")
      generalize hbi : bs.getD i .yes = b at *
      generalize xs.getD i [] = x at *
      generalize ys.getD i [] = y at *
      refine EvT.to (et_test (ev_ne (d1 := .bl (x.getD 0 false)) (d2 := .bl (due b x y)) (ev_ixT (ds := bls x) (ev_var rfl) ev_int (at_bls (bs := x) (k := 0) (by omega))) (ev_callA (ea_d (ev_ixT (ds := .str b.kind :: b.args) (ev_var (by rw [say_args b]; rfl)) ev_int (atI_nat (j := 0) rfl)) (ea_d (ev_var rfl) (ea_d (ev_var rfl) ea_nil))) rfl ⟨b, x, y, rfl, rfl, rfl, hb.kind hm, lx, ly⟩) trivial trivial)) (by rw [eqd_bl]; rfl)
  · rw [e]
    exact ex_retW ev_bl rfl (by walk_at "le")
theorem zipD_at {i : Nat} {ds es : List Dat} {d : Dat} (h : (zipD ds es)[i]? = some d) : i < ds.length ∧ i < es.length ∧ d = .tup [ds.getD i .non, es.getD i .non] := by
  unfold zipD at h
  rw [List.getElem?_zipWith] at h
  cases e1 : ds[i]? with
  | none => rw [e1] at h; cases h
  | some a =>
    cases e2 : es[i]? with
    | none => rw [e1, e2] at h; cases h
    | some b =>
      rw [e1, e2] at h
      cases h
      refine ⟨(List.getElem?_eq_some_iff.mp e1).1, (List.getElem?_eq_some_iff.mp e2).1, ?_⟩
      rw [List.getD_eq_getElem?_getD, List.getD_eq_getElem?_getD, e1, e2]
      rfl
theorem sightL_get (bs : List Say) (g : List Bool) (m : Str) {i : Nat} (h1 : i < bs.length) (h2 : i < g.length) : (sightL bs g m)[i]? = some (g.getD i false :: partsOf bs g m (bs.getD i .yes)) := by
  unfold sightL
  rw [List.getElem?_zipWith, List.getD_eq_getElem?_getD, List.getD_eq_getElem?_getD, List.getElem?_eq_getElem h1, List.getElem?_eq_getElem h2]
  rfl
theorem bls_getD {g : List Bool} {i : Nat} (h : i < g.length) : (bls g).getD i .non = .bl (g.getD i false) := by
  unfold bls
  rw [List.getD_eq_getElem?_getD, List.getD_eq_getElem?_getD, List.getElem?_map, List.getElem?_eq_getElem h]
  rfl
theorem args_parts {b : Say} (h : b.isB = true) : b.args = b.parts.map Say.d := by
  cases b <;> first | rfl | cases h
def R_sight_at : List Dat → List Dat → Prop := fun as ds => ∃ (bs : List Say) (g : List Bool) (m : Str), as = [saysD bs, .str m, tupB g] ∧ ds = (sightL bs g m).map tupB ∧ Bonds bs ∧ bs.length = g.length ∧ PyData.strOk m = true
theorem len_sight_at : ∀ as ds, R_sight_at as ds → as.length = 3 := by
  rintro as ds ⟨_, _, _, rfl, _⟩
  rfl
abbrev s_sight_at : Stmt := topS 8
theorem sc_sight_at : FnScope ["bonds", "mark", "guess", "sight", "bond", "truth", "parts", "part"] ["bonds", "mark", "guess"] (defScope s_sight_at) := ⟨rfl, rfl, rfl, by decide +kernel, rfl, by decide +kernel, by decide +kernel⟩
theorem ok_sight_at {f : Addr} {fd : FuncData} (F : Fun K "sight_at" "sight_at" s_sight_at f fd) (T : Tx K mg) {a_is_so : Addr} {fd_is_so : FuncData} (c_is_so : Cal P w K mg base "is_so" 8 ["saying", "mark", "bonds", "guess"] (spG K R_is_so) a_is_so fd_is_so) : FnOk P w K mg base CX0 9 f fd ["bonds", "mark", "guess"] ((spF K R_sight_at)) := by
  have nd := sc_sight_at.nd
  refine F.ok sc_sight_at (spF_len len_sight_at) (fun cdv A outer s H vs Q E hr h => ?_)
  have hu := hr.units
  have hu5 := unit5 hr
  refine ⟨_, (pss_cons (ps_set (i := 3) nd rfl (by first | exact Or.inl rfl | exact Or.inr rfl) (pe_lst pa_nil))
      (pss_cons (ps_for PassesOwn.never (by rfl) (kiZipLT K (pi_ZipLT (by rfl) T.b_zip (pa_cons (pv 0) (pa_cons (pv 2) pa_nil)))) (kgTup K (pg_tup (n := 2) (by rfl) (pgs_cons (pg_name (i := 4) nd rfl (by first | exact Or.inl rfl | exact Or.inr rfl)) (pgs_cons (pg_name (i := 5) nd rfl (by first | exact Or.inl rfl | exact Or.inr rfl)) pgs_nil)))) (pss_cons (ps_setLc (i := 6) (own := [("part", 7)]) (g := gName 7) (tt := tYes) (by rfl) nd rfl rfl (sw_true rfl rfl rfl (by decide +kernel)) (kiTup K (pi_tup (pe_slice (kSlA K) (pv 4) (po_some pe_int) po_none))) (blkOk_by (own := [("part", 7)]) (N := ["bonds", "mark", "guess", "sight", "bond", "truth", "parts", "part"]) (sc := defScope s_sight_at) (by decide +kernel)) (fun _ _ _ _ _ => pg_name (i := 7) nd rfl (by first | exact Or.inl rfl | exact Or.inr rfl)) (fun _ _ _ _ _ => pts_nil) (fun _ _ _ _ _ => (pe_call c_is_so.ok (hr.mono (by omega)) (by rfl) c_is_so.g c_is_so.kp c_is_so.b .nil pass0 (pa_cons (pv 7) (pa_cons (pv 1) (pa_cons (pv 0) (pa_cons (pv 2) pa_nil)))))))
      (pss_one (ps_expr (kBM K (pe_bm PySem.F.plainAttrs_list PySem.F.slot_list_append PySem.F.type_list_append mt_append (pv 3) (pa_cons (pe_tup (pa_cons (pv 5) (kStar K (StX.pa_star (pv 6) pa_nil)))) pa_nil)))))))
      (pss_one (ps_ret (pv 3))))), ?_⟩
  refine bodyF_ok h len_sight_at fun as ds hR => ?_
  obtain ⟨bs, g, m, rfl, rfl, hb, hg, hm⟩ := hR
  walk_at "bodyF"
  walk_at "setF"
  walk_at "nrm"
  have hl := hb.len
  have hls : (sightL bs g m).length = bs.length := (sightL_ok hg).1
  have hz : (zipD (bs.map Say.d) (bls g)).length = bs.length := by simp [zipD, bls, hg]
  refine ex_seq (ex_forG (n := bs.length) (fun i => [.dat (saysD bs), .dat (.str m), .dat (tupB g), .own (((sightL bs g m).take i).map tupB), .no, .no, .no, .no]) (fun i => [.dat (saysD bs), .dat (.str m), .dat (tupB g), .own (((sightL bs g m).take i).map tupB), .dat (bs.getD i .yes).d, .dat (.bl (g.getD i false)), .no, .no])
    (src_zipLT (ev_var rfl) (ev_var rfl) rfl) (fun i d hd => ?_) (by rw [hz]; exact Nat.le_refl _) (fun i d hi hd => .inl ?_) (.done hz.symm)) ?_
  · obtain ⟨h1, h2, rfl⟩ := zipD_at hd
    rw [List.length_map] at h1
    rw [getD_map (z := .yes) h1, bls_getD (by omega)]
    exact bnd_2 (by simp) (by simp)
  · have hm1 := getD_mem hi
    have hk := hb.kind hm1
    have hcv := hb.cov _ hm1
    have hrow := hb.row _ hm1
    have hget := sightL_get bs g m hi (by omega)
    rw [List.take_add_one, hget]
    generalize bs.getD i .yes = b at *
    generalize g.getD i false = t at *
    have hpt : ∀ (o : Sl), Ev K (tSl (rSlA K) (tVar 4) (tPart (tC (V.int 1))) tNoPart) [.dat (saysD bs), .dat (.str m), .dat (tupB g), o, .dat b.d, .dat (.bl t), .no, .no] (.tup (b.parts.map Say.d)) [.dat (saysD bs), .dat (.str m), .dat (tupB g), o, .dat b.d, .dat (.bl t), .no, .no] := fun o =>
      Ev.to (ev_slA (ds := .str b.kind :: b.args) (lo := some ((1 : Nat) : Int)) (hi := none) (ev_var (by rw [say_args b]; rfl)) (eo_some ev_int) eo_no) (by rw [cutD_from, args_parts hk]; rfl)
    have hpl : b.parts.length ≤ 2 := by cases b <;> simp [Say.parts]
    refine ex_seq (ex_setF (ef_lcIx (bls (partsOf bs g m b)) (src_tup (hpt _)) rfl (by simp [bls, partsOf]) (by rw [List.length_map]; omega) (fun j d e hd he => ?_)) rfl) ?_
    · rw [List.getElem?_map] at hd
      unfold bls partsOf at he
      rw [List.getElem?_map, List.getElem?_map] at he
      cases hp : b.parts[j]? with
      | none => rw [hp] at hd; cases hd
      | some p =>
        rw [hp] at hd he
        cases hd
        cases he
        have hpm := List.mem_of_getElem? hp
        have := part_dep hpm
        exact ev_callA (ea_d (ev_var rfl) (ea_d (ev_var rfl) (ea_d (ev_var rfl) (ea_d (ev_var rfl) ea_nil)))) rfl ⟨p, m, bs, g, rfl, rfl, rfl, by omega, part_ok hpm hrow.1, cov_part hcv hpm, hb.rok, hg, hm⟩
    · walk_at "nrm"
      rw [List.map_append]
      refine Ex.weak (ex_append (d := tupB (t :: partsOf bs g m b)) (ev_tup (ds := bls (t :: partsOf bs g m b)) (by rw [show (bls (t :: partsOf bs g m b)).map Ag.d = Ag.d (.bl t) :: ((bls (partsOf bs g m b)).map Ag.d ++ []) by rw [List.append_nil]; rfl]; exact ea_d (ev_var rfl) (ea_starL (el_s) rfl ea_nil)) (by simp [bls, partsOf]; omega)) ⟨_, rfl, rfl⟩ rfl rfl (by rw [List.length_map, List.length_take]; omega)) (by walk_at "nrm"; walk_at "le")
  · rw [List.take_of_length_le (by omega)]
    exact ex_retF (ef_own rfl) (by walk_at "le")
def knotD (m : Str) (g : List Bool) : Dat := .tup [.str m, tupB g]
/-- whether a guess at a mark goes on to another one at another mark -/
def goOn (bs : List Say) (m1 : Str) (g1 : List Bool) (m2 : Str) (g2 : List Bool) : Bool := goL bs (sightL bs g1 m1) (sightL bs g2 m2)
def R_goes_on : List Sl → Dat → List Sl → Prop := fun as d as' => ∃ (bs : List Say) (m1 : Str) (g1 : List Bool) (m2 : Str) (g2 : List Bool), as = [.dat (saysD bs), .dat (knotD m1 g1), .dat (knotD m2 g2)] ∧ d = .bl (goOn bs m1 g1 m2 g2) ∧ as' = [.no, .no, .no] ∧ Bonds bs ∧ bs.length = g1.length ∧ bs.length = g2.length ∧ PyData.strOk m1 = true ∧ PyData.strOk m2 = true
theorem len_goes_on : ∀ as d as', R_goes_on as d as' → as.length = 3 := by
  rintro as d as' ⟨_, _, _, _, _, rfl, _⟩
  rfl
abbrev s_goes_on : Stmt := topS 7
theorem sc_goes_on : FnScope ["bonds", "now", "then"] ["bonds", "now", "then"] (defScope s_goes_on) := ⟨rfl, rfl, rfl, by decide +kernel, rfl, by decide +kernel, by decide +kernel⟩
theorem ok_goes_on {f : Addr} {fd : FuncData} (F : Fun K "goes_on" "goes_on" s_goes_on f fd) (T : Tx K mg) {a_sight_goes_on : Addr} {fd_sight_goes_on : FuncData} (c_sight_goes_on : Cal P w K mg base "sight_goes_on" 2 ["bonds", "here", "there"] (spG K R_sight_goes_on) a_sight_goes_on fd_sight_goes_on) {a_sight_at : Addr} {fd_sight_at : FuncData} (c_sight_at : Cal P w K mg base "sight_at" 9 ["bonds", "mark", "guess"] (spF K R_sight_at) a_sight_at fd_sight_at) : FnOk P w K mg base CX0 10 f fd ["bonds", "now", "then"] ((spG K R_goes_on)) := by
  have nd := sc_goes_on.nd
  refine F.ok sc_goes_on (spG_len len_goes_on) (fun cdv A outer s H vs Q E hr h => ?_)
  have hu := hr.units
  have hu5 := unit5 hr
  refine ⟨_, (pss_one (ps_ret (pe_call c_sight_goes_on.ok (hr.mono (by omega)) (by rfl) c_sight_goes_on.g c_sight_goes_on.kp c_sight_goes_on.b .nil pass0 (pa_cons (pv 0) (pa_cons (pe_call c_sight_at.ok (hr.mono (by omega)) (by rfl) c_sight_at.g c_sight_at.kp c_sight_at.b .nil pass0 (pa_cons (pv 0) (pa_cons (pe_ix (kIxT K) (pv 1) pe_int (fun _ _ => rfl)) (pa_cons (pe_ix (kIxT K) (pv 1) pe_int (fun _ _ => rfl)) pa_nil)))) (pa_cons (pe_call c_sight_at.ok (hr.mono (by omega)) (by rfl) c_sight_at.g c_sight_at.kp c_sight_at.b .nil pass0 (pa_cons (pv 0) (pa_cons (pe_ix (kIxT K) (pv 2) pe_int (fun _ _ => rfl)) (pa_cons (pe_ix (kIxT K) (pv 2) pe_int (fun _ _ => rfl)) pa_nil)))) pa_nil)))))), ?_⟩
  refine body_ok h len_goes_on fun as d as' hR => ?_
  obtain ⟨bs, m1, g1, m2, g2, rfl, rfl, rfl, hb, h1, h2, s1, s2⟩ := hR
  walk_at "body"
  have sg : ∀ (v : Nat) (m : Str) (g : List Bool), [Sl.dat (saysD bs), .dat (knotD m1 g1), .dat (knotD m2 g2)][v]? = some (.dat (knotD m g)) → bs.length = g.length → PyData.strOk m = true → Ev K (tCall (spF K R_sight_at) [] E0 (tCons (tVar 0) (tCons (tOp (rIxT K) (tVar v) (tC (.int 0))) (tCons (tOp (rIxT K) (tVar v) (tC (.int 1))) tNil)))) [.dat (saysD bs), .dat (knotD m1 g1), .dat (knotD m2 g2)] (.lst ((sightL bs g m).map tupB)) [.dat (saysD bs), .dat (knotD m1 g1), .dat (knotD m2 g2)] := fun v m g hv hg hm =>
    ev_of_fresh (ef_call (ea_d (ev_var rfl) (ea_d (ev_ixT (ds := [.str m, tupB g]) (ev_var hv) ev_int rfl) (ea_d (ev_ixT (ds := [.str m, tupB g]) (ev_var hv) ev_int rfl) ea_nil))) rfl ⟨bs, g, m, rfl, rfl, hb, hg, hm⟩)
  exact ex_retW (ev_callA (ea_d (ev_var rfl) (ea_d (sg 1 m1 g1 rfl h1 s1) (ea_d (sg 2 m2 g2 rfl h2 s2) ea_nil))) rfl ⟨bs, _, _, rfl, rfl, rfl, hb, sightL_ok h1, sightL_ok h2⟩) rfl (by walk_at "le")
theorem bonds_ok {s : Say} (ok : s.Ok) (h : s.dep ≤ 10) : RowOk (bondsL s) := addBonds_ok s [] ok (by omega) fun b hb => by cases hb
theorem size_le {s : Say} (h : s.dep ≤ 10) : s.size ≤ 1023 := by
  have h1 := size_dep s
  have h2 : 2 ^ s.dep ≤ 2 ^ 10 := Nat.pow_le_pow_right (by decide) h
  have h3 : (2 : Nat) ^ 10 = 1024 := by decide
  omega
def R_bonds_in : List Dat → List Dat → Prop := fun as ds => ∃ (s : Say), as = [s.d] ∧ ds = (bondsL s).map Say.d ∧ s.dep ≤ 6 ∧ s.Ok
theorem len_bonds_in : ∀ as ds, R_bonds_in as ds → as.length = 1 := by
  rintro as ds ⟨_, rfl, _⟩
  rfl
abbrev s_bonds_in : Stmt := topS 1
theorem sc_bonds_in : FnScope ["saying", "row"] ["saying"] (defScope s_bonds_in) := ⟨rfl, rfl, rfl, by decide +kernel, rfl, by decide +kernel, by decide +kernel⟩
theorem ok_bonds_in {f : Addr} {fd : FuncData} (F : Fun K "bonds_in" "bonds_in" s_bonds_in f fd) (T : Tx K mg) {a_add_bonds : Addr} {fd_add_bonds : FuncData} (c_add_bonds : Cal P w K mg base "_add_bonds" 8 ["saying", "row"] (spG K R_add_bonds) a_add_bonds fd_add_bonds) : FnOk P w K mg base CX0 9 f fd ["saying"] ((spF K R_bonds_in)) := by
  have nd := sc_bonds_in.nd
  refine F.ok sc_bonds_in (spF_len len_bonds_in) (fun cdv A outer s H vs Q E hr h => ?_)
  have hu := hr.units
  have hu5 := unit5 hr
  refine ⟨_, (pss_cons (ps_set (i := 1) nd rfl (by first | exact Or.inl rfl | exact Or.inr rfl) (pe_lst pa_nil))
      (pss_cons (ps_expr (pe_call c_add_bonds.ok (hr.mono (by omega)) (by rfl) c_add_bonds.g c_add_bonds.kp c_add_bonds.b .nil pass0 (pa_cons (pv 0) (pa_cons (pv 1) pa_nil))))
      (pss_one (ps_ret (pv 1))))), ?_⟩
  refine bodyF_ok h len_bonds_in fun as ds hR => ?_
  obtain ⟨s, rfl, rfl, hd, ok⟩ := hR
  walk_at "bodyF"
  walk_at "setF"
  walk_at "nrm"
  have hs := size_le (s := s) (by omega)
  refine' ex_seq (ex_drop (ev_call1 (i := 1) (k := 1) (s := .own []) (ea_d (ev_var rfl) (ea_s ⟨_, rfl, rfl⟩ ea_nil)) ?b1 rfl ⟨s, [], rfl, rfl, rfl, hd, by omega, ok, (fun b hb => by cases hb), by show 0 + _ ≤ _; omega⟩ rfl rfl rfl)) ?_
  case' b1 => exact ⟨rfl, rfl⟩
  walk_at "nrm"
  exact ex_retF (ef_own rfl) (by walk_at "le")
def Say.isProm (b : Say) : Bool := match b with
  | .till _ _ => true
  | .always _ => true
  | _ => false
def promsL (bs : List Say) : List (Option Say) := none :: (bs.filter Say.isProm).map some
def promD : Option Say → Dat
  | none => .non
  | some b => b.d
def promP : Dat → Bool
  | .tup (.str k :: _) => k == "till" || k == "always"
  | _ => false
theorem promP_say (b : Say) : promP b.d = b.isProm := by
  rw [say_args]
  cases b <;> (simp only [promP, Say.kind, Say.isProm]; decide +kernel)
theorem filter_prom (bs : List Say) : (bs.map Say.d).filter promP = (bs.filter Say.isProm).map Say.d := by
  rw [List.filter_map]
  congr 1
  exact List.filter_congr fun b _ => promP_say b
theorem prom_in (b : Say) : inV (flv (.str b.kind)) ([Dat.str "till", .str "always"].map flv) = b.isProm := by
  cases b <;> (simp only [Say.kind, Say.isProm]; decide +kernel)
def R_promises_of : List Dat → List Dat → Prop := fun as ds => ∃ (s : Say), as = [s.d] ∧ ds = (promsL (bondsL s)).map promD ∧ s.dep ≤ 6 ∧ s.Ok
theorem len_promises_of : ∀ as ds, R_promises_of as ds → as.length = 1 := by
  rintro as ds ⟨_, rfl, _⟩
  rfl
abbrev s_promises_of : Stmt := topS 10
theorem sc_promises_of : FnScope ["saying", "bond"] ["saying"] (defScope s_promises_of) := ⟨rfl, rfl, rfl, by decide +kernel, rfl, by decide +kernel, by decide +kernel⟩
theorem ok_promises_of {f : Addr} {fd : FuncData} (F : Fun K "promises_of" "promises_of" s_promises_of f fd) (T : Tx K mg) {a_bonds_in : Addr} {fd_bonds_in : FuncData} (c_bonds_in : Cal P w K mg base "bonds_in" 9 ["saying"] (spF K R_bonds_in) a_bonds_in fd_bonds_in) : FnOk P w K mg base CX0 10 f fd ["saying"] ((spF K R_promises_of)) := by
  have nd := sc_promises_of.nd
  refine F.ok sc_promises_of (spF_len len_promises_of) (fun cdv A outer s H vs Q E hr h => ?_)
  have hu := hr.units
  have hu5 := unit5 hr
  refine ⟨_, (pss_one (ps_ret (pe_op op_cat (pe_lst (pa_cons pe_non pa_nil)) (pe_lc (own := [("bond", 1)]) (g := gName 1) (by rfl) nd (kiList K (pi_list (pe_call c_bonds_in.ok (hr.mono (by omega)) (by rfl) c_bonds_in.g c_bonds_in.kp c_bonds_in.b .nil pass0 (pa_cons (pv 0) pa_nil)))) (blkOk_by (own := [("bond", 1)]) (N := ["saying", "bond"]) (sc := defScope s_promises_of) (by decide +kernel)) (fun _ _ _ _ _ => pg_name (i := 1) nd rfl (by first | exact Or.inl rfl | exact Or.inr rfl)) (fun _ _ _ _ _ => pts_one (pt_cmpR (kIn K) (pe_ix (kIxT K) (pv 1) pe_int (fun _ _ => rfl)) (pe_tup (pa_cons pe_str (pa_cons pe_str pa_nil))) (by with_unfolding_all rfl))) (fun _ _ _ _ _ => (pv 1)))))), ?_⟩
  refine bodyF_ok h len_promises_of fun as ds hR => ?_
  obtain ⟨s, rfl, rfl, hd, ok⟩ := hR
  walk_at "bodyF"
  have hb := bonds_self ok hd
  have hl := hb.len
  have hcall : Ev K (tCall (spF K R_bonds_in) [] E0 (tCons (tVar 0) tNil)) [.dat s.d, .no] (saysD (bondsL s)) [.dat s.d, .no] := ev_of_fresh (ef_call (ea_d (ev_var rfl) ea_nil) rfl ⟨s, rfl, rfl, hd, ok⟩)
  have hlc := ef_lcIf (K := K) (te := tVar 1) (tt := tTest (tOp (rIn K false) (tOp (rIxT K) (tVar 1) (tC (V.int 0))) (tTup (tCons (tC (V.str (Str.ofString "till"))) (tCons (tC (V.str (Str.ofString "always"))) tNil))))) (x := 1) promP (fun d => d) (src_list hcall (ds := (bondsL s).map Say.d) rfl) rfl (by rw [List.length_map]; omega) (fun d hd => by
      obtain ⟨b, hb, rfl⟩ := List.mem_map.mp hd
      rw [promP_say]
      refine EvT.to (et_test (ev_inT (ds := [.str "till", .str "always"]) (ev_ixT (ds := .str b.kind :: b.args) (ev_var (by rw [say_args b]; rfl)) ev_int (at_kind b)) (ev_tupA (ea_d ev_str (ea_d ev_str ea_nil)) rfl (by show 2 ≤ 100000; decide)) rfl rfl)) ?_
      exact prom_in b) (fun d hd hp => ev_var rfl)
  rw [List.map_id', filter_prom] at hlc
  have hfl := List.length_filter_le Say.isProm (bondsL s)
  have hcat := ef_cat (K := K) (ds := [.non]) (es := ((bondsL s).filter Say.isProm).map Say.d) (a := .d (.lst [.non])) (b := .d (.lst (((bondsL s).filter Say.isProm).map Say.d))) (el_d (ev_lstA (ea_d ev_non ea_nil) rfl (by show 1 ≤ 100000; decide))) (el_d (ev_of_fresh hlc)) rfl rfl (by simp only [List.length_map, List.length_cons, List.length_nil]; omega)
  have e : [Dat.non] ++ ((bondsL s).filter Say.isProm).map Say.d = (promsL (bondsL s)).map promD := by
    unfold promsL
    rw [List.map_cons, List.map_map]
    rfl
  rw [e] at hcat
  exact ex_retF hcat (by walk_at "le")
def metG (bs : List Say) (g : List Bool) (m : Str) : Option Say → Bool
  | some (.till s t) => !bondAt bs g (.till s t) || soG bs g m t
  | some (.always s) => bondAt bs g (.always s) || !soG bs g m s
  | _ => true
def R_is_met : List Sl → Dat → List Sl → Prop := fun as d as' => ∃ (p : Option Say) (m : Str) (bs : List Say) (g : List Bool), as = [.dat (promD p), .dat (.str m), .dat (saysD bs), .dat (tupB g)] ∧ d = .bl (metG bs g m p) ∧ as' = [.no, .no, .no, .no] ∧ p ∈ promsL bs ∧ Bonds bs ∧ bs.length = g.length ∧ PyData.strOk m = true
theorem len_is_met : ∀ as d as', R_is_met as d as' → as.length = 4 := by
  rintro as d as' ⟨_, _, _, _, rfl, _⟩
  rfl
abbrev s_is_met : Stmt := topS 11
theorem sc_is_met : FnScope ["promise", "mark", "bonds", "guess", "held"] ["promise", "mark", "bonds", "guess"] (defScope s_is_met) := ⟨rfl, rfl, rfl, by decide +kernel, rfl, by decide +kernel, by decide +kernel⟩
theorem ok_is_met {f : Addr} {fd : FuncData} (F : Fun K "is_met" "is_met" s_is_met f fd) (T : Tx K mg) {a_is_so : Addr} {fd_is_so : FuncData} (c_is_so : Cal P w K mg base "is_so" 8 ["saying", "mark", "bonds", "guess"] (spG K R_is_so) a_is_so fd_is_so) : FnOk P w K mg base CX0 9 f fd ["promise", "mark", "bonds", "guess"] ((spG K R_is_met)) := by
  have nd := sc_is_met.nd
  refine F.ok sc_is_met (spG_len len_is_met) (fun cdv A outer s H vs Q E hr h => ?_)
  have hu := hr.units
  have hu5 := unit5 hr
  refine ⟨_, (pss_cons (ps_if (pt_cmpR op_isN (pv 0) pe_non (nomark _)) (pss_one (ps_ret pe_bl)) pss_nil)
      (pss_cons (ps_set (i := 4) nd rfl (by first | exact Or.inl rfl | exact Or.inr rfl) (pe_ix (kIxT K) (pv 3) (kBM K (pe_bm PySem.F.plainAttrs_list PySem.F.slot_list_index PySem.F.type_list_index (kIndexD K hu5) (pv 2) (pa_cons (pv 0) pa_nil))) (fun _ _ => rfl)))
      (pss_cons (ps_if (pt_cmpR (kEqD K hu) (pe_ix (kIxT K) (pv 0) pe_int (fun _ _ => rfl)) pe_str (nomark _)) (pss_one (ps_ret (pe_or (pe_not (pv 4)) (pe_one (pe_call c_is_so.ok (hr.mono (by omega)) (by rfl) c_is_so.g c_is_so.kp c_is_so.b .nil pass0 (pa_cons (pe_ix (kIxT K) (pv 0) pe_int (fun _ _ => rfl)) (pa_cons (pv 1) (pa_cons (pv 2) (pa_cons (pv 3) pa_nil))))))))) pss_nil)
      (pss_one (ps_ret (pe_or (pv 4) (pe_one (pe_not (pe_call c_is_so.ok (hr.mono (by omega)) (by rfl) c_is_so.g c_is_so.kp c_is_so.b .nil pass0 (pa_cons (pe_ix (kIxT K) (pv 0) pe_int (fun _ _ => rfl)) (pa_cons (pv 1) (pa_cons (pv 2) (pa_cons (pv 3) pa_nil))))))))))))), ?_⟩
  refine body_ok h len_is_met fun as d as' hR => ?_
  obtain ⟨p, m, bs, g, rfl, rfl, rfl, hp, hb, hg, hm⟩ := hR
  walk_at "body"
  have t0 : ∀ (c : Bool), (promD p).isNon = c → EvT K (tTest (tOp (fun x y H Q => y = V.non ∧ Q (V.bl (decide (x = V.non))) H) (tVar 0) (tC V.non))) [.dat (promD p), .dat (.str m), .dat (saysD bs), .dat (tupB g), .no] c [.dat (promD p), .dat (.str m), .dat (saysD bs), .dat (tupB g), .no] := fun c hc => EvT.to (et_test (ev_isN rfl (ev_var rfl) ev_non)) hc
  cases p with
  | none =>
    exact ex_yes (t0 true rfl) (ex_retW ev_bl rfl (by walk_at "le")) rfl
  | some b =>
    have hp : b ∈ bs ∧ b.isProm = true := by simpa [promsL] using hp
    obtain ⟨hbm, hpr⟩ := hp
    refine ex_no (t0 false (by cases b <;> rfl)) ?_
    have hrow := hb.row _ hbm
    obtain ⟨i1, i2⟩ := idxOf_find hbm
    have hil := (List.getElem?_eq_some_iff.mp i1).1
    have sb : ∀ b ∈ bs, Shp 59 b.d := fun b hb' => shp_le (say_shp b (hb.row b hb').1) (by have := (hb.row b hb').2; omega)
    refine ex_seq (ex_set (d := .bl (bondAt bs g b)) (ev_ixT (ev_var rfl) (ev_indexD (ds := bs.map Say.d) (z := b.d) (j := bs.idxOf b) (el_d (ev_var rfl)) (ev_var rfl) rfl rfl (shp_up (sb _ hbm)) (shpAll_of fun d hd => ?_) (by rw [List.getElem?_map, i1]; rfl) (by show eqd b.d b.d = true; rw [eqd_say]; simp) (fun k z' hk hz => ?_)) (at_bls (by omega))) rfl) ?_
    · obtain ⟨b, hb, rfl⟩ := List.mem_map.mp hd
      exact sb b hb
    · rw [List.getElem?_map] at hz
      cases e : bs[k]? with
      | none => rw [e] at hz; cases hz
      | some x =>
        rw [e] at hz
        cases hz
        show eqd x.d b.d = false
        rw [eqd_say]
        exact decide_eq_false (i2 k x hk e)
    · walk_at "nrm"
      have tw : ∀ (c : Bool), (b.kind == "till") = c → EvT K (tTest (tOp (rEqD K) (tOp (rIxT K) (tVar 0) (tC (V.int 0))) (tC (V.str (Str.ofString "till"))))) [.dat b.d, .dat (.str m), .dat (saysD bs), .dat (tupB g), .dat (.bl (bondAt bs g b))] c [.dat b.d, .dat (.str m), .dat (saysD bs), .dat (tupB g), .dat (.bl (bondAt bs g b))] := fun c hc =>
        EvT.to (et_test (ev_eq (ev_ixT (ds := .str b.kind :: b.args) (ev_var (by rw [say_args b]; rfl)) ev_int (at_kind b)) ev_str (shp_lit _ (kind_ok b)) (shp_lit _ (by decide +kernel)))) (by rw [eqd_str]; exact hc)
      have rc : ∀ (q : Say) (i : Nat), q ∈ b.parts → atI (Dat.str b.kind :: b.args) (i : Int) = some q.d → Ev K (tCall (spG K R_is_so) [] E0 (tCons (tOp (rIxT K) (tVar 0) (tC (.int i))) (tCons (tVar 1) (tCons (tVar 2) (tCons (tVar 3) tNil))))) [.dat b.d, .dat (.str m), .dat (saysD bs), .dat (tupB g), .dat (.bl (bondAt bs g b))] (.bl (soG bs g m q)) [.dat b.d, .dat (.str m), .dat (saysD bs), .dat (tupB g), .dat (.bl (bondAt bs g b))] := fun q i hq hat =>
        ev_callA (ea_d (ev_ixT (ds := .str b.kind :: b.args) (ev_var (by rw [say_args b]; rfl)) ev_int hat) (ea_d (ev_var rfl) (ea_d (ev_var rfl) (ea_d (ev_var rfl) ea_nil)))) rfl ⟨q, m, bs, g, rfl, rfl, rfl, by have := part_dep hq; omega, part_ok hq hrow.1, cov_part (hb.cov _ hbm) hq, hb.rok, hg, hm⟩
      cases b <;> first | (cases hpr; done) | skip
      case till s t =>
        refine ex_yes (tw true (by simp only [Say.kind]; decide +kernel)) ?_ rfl
        exact ex_retW (ev_or (ev_not (ev_var rfl)) fun _ => rc t 2 (by simp [Say.parts]) rfl) rfl (by walk_at "le")
      case always s =>
        refine ex_no (tw false (by simp only [Say.kind]; decide +kernel)) ?_
        exact ex_retW (ev_or (ev_var rfl) fun _ => ev_not (rc s 1 (by simp [Say.parts]) rfl)) rfl (by walk_at "le")
theorem hb_not (w : Nat → Str) (s : Say) (t : Nat) : hb w (.not s) t = !hb w s t := bool_iff (by rw [hb_eq, Bool.not_eq_true', hb_ne]; rfl)
theorem hb_and (w : Nat → Str) (s u : Say) (t : Nat) : hb w (.and s u) t = (hb w s t && hb w u t) := bool_iff (by rw [hb_eq, Bool.and_eq_true, hb_eq, hb_eq]; rfl)
theorem hb_or (w : Nat → Str) (s u : Say) (t : Nat) : hb w (.or s u) t = (hb w s t || hb w u t) := bool_iff (by rw [hb_eq, Bool.or_eq_true, hb_eq, hb_eq]; rfl)
theorem hb_yes (w : Nat → Str) (t : Nat) : hb w .yes t = true := hb_eq.mpr trivial
theorem hb_mark (w : Nat → Str) (x : Str) (t : Nat) : hb w (.mark x) t = (w t == x) := bool_iff (by rw [hb_eq, beq_iff_eq]; rfl)
theorem hb_next (w : Nat → Str) (s : Say) (t : Nat) : hb w (.next s) t = hb w s (t + 1) := bool_iff (by rw [hb_eq, hb_eq]; rfl)
theorem hb_till (w : Nat → Str) (s u : Say) (t : Nat) : hb w (.till s u) t = (hb w u t || (hb w s t && hb w (.till s u) (t + 1))) := bool_iff (by
  rw [Bool.or_eq_true, Bool.and_eq_true, hb_eq, hb_eq, hb_eq, hb_eq]
  show (∃ n, Hold w u (t + n) ∧ ∀ m, m < n → Hold w s (t + m)) ↔ _ ∨ (_ ∧ ∃ n, Hold w u (t + 1 + n) ∧ ∀ m, m < n → Hold w s (t + 1 + m))
  constructor
  · rintro ⟨n, h1, h2⟩
    cases n with
    | zero => exact .inl h1
    | succ n => exact .inr ⟨h2 0 (by omega), n, by rw [show t + 1 + n = t + (n + 1) by omega]; exact h1, fun m hm => by rw [show t + 1 + m = t + (m + 1) by omega]; exact h2 (m + 1) (by omega)⟩
  · rintro (h | ⟨h0, n, h1, h2⟩)
    · exact ⟨0, h, fun m hm => absurd hm (Nat.not_lt_zero _)⟩
    · refine ⟨n + 1, by rw [show t + (n + 1) = t + 1 + n by omega]; exact h1, fun m hm => ?_⟩
      cases m with
      | zero => exact h0
      | succ m => rw [show t + (m + 1) = t + 1 + m by omega]; exact h2 m (by omega))
theorem hb_always (w : Nat → Str) (s : Say) (t : Nat) : hb w (.always s) t = (hb w s t && hb w (.always s) (t + 1)) := bool_iff (by
  rw [Bool.and_eq_true, hb_eq, hb_eq, hb_eq]
  show (∀ n, Hold w s (t + n)) ↔ _ ∧ ∀ n, Hold w s (t + 1 + n)
  constructor
  · exact fun h => ⟨h 0, fun n => by rw [show t + 1 + n = t + (n + 1) by omega]; exact h (n + 1)⟩
  · rintro ⟨h0, h⟩ n
    cases n with
    | zero => exact h0
    | succ n => rw [show t + (n + 1) = t + 1 + n by omega]; exact h n)
theorem hb_again (w : Nat → Str) (s : Say) (t : Nat) : hb w (.again s) t = hb w (.always (.till .yes s)) t := bool_iff (by
  rw [hb_eq, hb_eq]
  show (∀ n, ∃ k, Hold w s (t + n + k)) ↔ ∀ n, ∃ k, Hold w s (t + n + k) ∧ ∀ m, m < k → True
  exact forall_congr' fun n => exists_congr fun k => ⟨fun h => ⟨h, fun _ _ => trivial⟩, fun h => h.1⟩)
/-- the right guess at a moment -/
noncomputable def gR (bs : List Say) (w : Nat → Str) (t : Nat) : List Bool := bs.map fun b => hb w b t
theorem gR_len (bs : List Say) (w : Nat → Str) (t : Nat) : (gR bs w t).length = bs.length := by unfold gR; rw [List.length_map]
theorem bondAt_gR {bs : List Say} {b : Say} (h : b ∈ bs) (w : Nat → Str) (t : Nat) : bondAt bs (gR bs w t) b = hb w b t := by
  unfold bondAt gR
  rw [List.getD_eq_getElem?_getD, List.getElem?_map, (idxOf_find h).1]
  rfl
theorem soG_right {bs : List Say} (w : Nat → Str) (t : Nat) : ∀ {s : Say}, Cov bs s → soG bs (gR bs w t) (w t) s = hb w s t := by
  intro s
  induction s with
  | mark x => intro _; rw [hb_mark]; rfl
  | yes => intro _; rw [hb_yes]; rfl
  | not s ih => intro c; rw [hb_not, ← ih (cov_part c (by simp [Say.parts]))]; rfl
  | and s u ih ih2 => intro c; rw [hb_and, ← ih (cov_part c (by simp [Say.parts])), ← ih2 (cov_part c (by simp [Say.parts]))]; rfl
  | or s u ih ih2 => intro c; rw [hb_or, ← ih (cov_part c (by simp [Say.parts])), ← ih2 (cov_part c (by simp [Say.parts]))]; rfl
  | next s _ => intro c; exact bondAt_gR (cov_last c (by simp [Say.kn])) w t
  | till s u _ _ => intro c; exact bondAt_gR (cov_last c (by simp [Say.kn])) w t
  | always s _ => intro c; exact bondAt_gR (cov_last c (by simp [Say.kn])) w t
  | again s _ => intro c; rw [hb_again]; exact bondAt_gR (cov_last c (by simp [Say.kn])) w t
/-- the moment behind one, of those that are unlike -/
def nx (way ring : List Str) (t : Nat) : Nat := if t + 1 < way.length + ring.length then t + 1 else way.length
theorem nx_lt {way ring : List Str} (hr : 1 ≤ ring.length) (t : Nat) : nx way ring t < way.length + ring.length := by
  unfold nx
  split <;> omega
theorem hb_nx {way ring : List Str} {t : Nat} (h : t < way.length + ring.length) (s : Say) : hb (wd way ring) s (t + 1) = hb (wd way ring) s (nx way ring t) := by
  unfold nx
  split
  · rfl
  · have := hb_per way ring s 0
    rw [Nat.add_zero, Nat.add_zero] at this
    rw [show t + 1 = way.length + ring.length by omega, this]
/-- a right sight -/
theorem sight_right {bs : List Say} (hb' : Bonds bs) (w : Nat → Str) (t : Nat) {i : Nat} (hi : i < bs.length) : (sightL bs (gR bs w t) (w t)).getD i [] = hb w (bs.getD i .yes) t :: (bs.getD i .yes).parts.map fun p => hb w p t := by
  rw [List.getD_eq_getElem?_getD, sightL_get bs _ _ hi (by rw [gR_len]; exact hi)]
  have e : (gR bs w t).getD i false = hb w (bs.getD i .yes) t := by
    unfold gR
    rw [List.getD_eq_getElem?_getD, List.getD_eq_getElem?_getD, List.getElem?_map, List.getElem?_eq_getElem hi]
    rfl
  have hm := getD_mem hi
  show (gR bs w t).getD i false :: partsOf bs (gR bs w t) (w t) (bs.getD i .yes) = _
  rw [e]
  congr 1
  unfold partsOf
  exact List.map_congr_left fun p hp => soG_right w t (cov_part (hb'.cov _ hm) hp)
theorem goOn_right {bs : List Say} (hB : Bonds bs) {way ring : List Str} {t : Nat} (h : t < way.length + ring.length) : goOn bs (wd way ring t) (gR bs (wd way ring) t) (wd way ring (nx way ring t)) (gR bs (wd way ring) (nx way ring t)) = true := by
  unfold goOn goL
  rw [List.all_eq_true]
  intro i hi
  rw [List.mem_range] at hi
  have hn := fun s => hb_nx h s
  rw [sight_right hB _ _ hi, sight_right hB _ _ hi]
  have hk := hB.kind (getD_mem hi)
  generalize bs.getD i .yes = b at *
  unfold stepOk
  rw [beq_iff_eq]
  show hb (wd way ring) b t = _
  cases b with
  | next s => rw [hb_next, hn]; rfl
  | till s u => rw [hb_till, hn]; rfl
  | always s => rw [hb_always, hn]; rfl
  | mark _ => cases hk
  | yes => cases hk
  | not _ => cases hk
  | and _ _ => cases hk
  | or _ _ => cases hk
  | again _ => cases hk
def Say.ms : Say → Nat
  | .mark _ => 1
  | .yes => 1
  | .not s => s.ms + 1
  | .and s t => s.ms + t.ms + 1
  | .or s t => s.ms + t.ms + 1
  | .next s => s.ms + 1
  | .till s t => s.ms + t.ms + 1
  | .always s => s.ms + 1
  | .again s => s.ms + 3
theorem part_ms {s p : Say} (h : p ∈ s.parts) : p.ms < s.ms := by
  cases s <;> simp only [Say.parts, List.mem_cons, List.not_mem_nil, or_false] at h
  all_goals first | (subst h; simp only [Say.ms]; omega) | (rcases h with rfl | rfl <;> (simp only [Say.ms]; omega))
theorem own_ms {s b : Say} (h : b ∈ ownB s) : b.ms ≤ s.ms := by
  cases s <;> simp only [ownB, List.mem_cons, List.not_mem_nil, or_false] at h
  all_goals first | (subst h; exact Nat.le_refl _) | (rcases h with rfl | rfl <;> (simp only [Say.ms]; omega))
theorem all_ms : ∀ {s u : Say}, u ∈ allS s → u.ms ≤ s.ms := by
  intro s
  induction s with
  | mark m => intro u h; simp only [allS, List.mem_singleton] at h; subst h; exact Nat.le_refl _
  | yes => intro u h; simp only [allS, List.mem_singleton] at h; subst h; exact Nat.le_refl _
  | not s ih => intro u h; simp only [allS, List.mem_cons] at h; rcases h with rfl | h; exact Nat.le_refl _; have := ih h; simp only [Say.ms]; omega
  | next s ih => intro u h; simp only [allS, List.mem_cons] at h; rcases h with rfl | h; exact Nat.le_refl _; have := ih h; simp only [Say.ms]; omega
  | always s ih => intro u h; simp only [allS, List.mem_cons] at h; rcases h with rfl | h; exact Nat.le_refl _; have := ih h; simp only [Say.ms]; omega
  | again s ih => intro u h; simp only [allS, List.mem_cons] at h; rcases h with rfl | h; exact Nat.le_refl _; have := ih h; simp only [Say.ms]; omega
  | and s t ih ih2 =>
    intro u h; simp only [allS, List.mem_cons, List.mem_append] at h
    rcases h with rfl | h | h
    · exact Nat.le_refl _
    · have := ih h; simp only [Say.ms]; omega
    · have := ih2 h; simp only [Say.ms]; omega
  | or s t ih ih2 =>
    intro u h; simp only [allS, List.mem_cons, List.mem_append] at h
    rcases h with rfl | h | h
    · exact Nat.le_refl _
    · have := ih h; simp only [Say.ms]; omega
    · have := ih2 h; simp only [Say.ms]; omega
  | till s t ih ih2 =>
    intro u h; simp only [allS, List.mem_cons, List.mem_append] at h
    rcases h with rfl | h | h
    · exact Nat.le_refl _
    · have := ih h; simp only [Say.ms]; omega
    · have := ih2 h; simp only [Say.ms]; omega
theorem bonds_ms {s b : Say} (h : b ∈ bondsL s) : b.ms ≤ s.ms := by
  obtain ⟨o, ho, hb⟩ := mem_lawBonds.mp (mem_bondsL s b h)
  exact Nat.le_trans (own_ms hb) (all_ms ho)
theorem soG_agree {bs : List Say} {g g' : List Bool} {m : Str} : ∀ {s : Say}, (∀ b ∈ bondsL s, bondAt bs g b = bondAt bs g' b) → soG bs g m s = soG bs g' m s := by
  intro s
  have cp : ∀ {u p : Say}, p ∈ u.parts → ∀ b ∈ bondsL p, b ∈ bondsL u := fun {u p} hp => cov_part (bs := bondsL u) (fun b hb => hb) hp
  induction s with
  | mark x => intro _; rfl
  | yes => intro _; rfl
  | not s ih => intro c; show (!_) = !_; rw [ih fun b hb => c b (cp (by simp [Say.parts]) b hb)]
  | and s u ih ih2 => intro c; show (_ && _) = (_ && _); rw [ih fun b hb => c b (cp (by simp [Say.parts]) b hb), ih2 fun b hb => c b (cp (by simp [Say.parts]) b hb)]
  | or s u ih ih2 => intro c; show (_ || _) = (_ || _); rw [ih fun b hb => c b (cp (by simp [Say.parts]) b hb), ih2 fun b hb => c b (cp (by simp [Say.parts]) b hb)]
  | next s _ => intro c; exact c _ (cov_last (bs := bondsL (.next s)) (fun b hb => hb) (by simp [Say.kn]))
  | till s u _ _ => intro c; exact c _ (cov_last (bs := bondsL (.till s u)) (fun b hb => hb) (by simp [Say.kn]))
  | always s _ => intro c; exact c _ (cov_last (bs := bondsL (.always s)) (fun b hb => hb) (by simp [Say.kn]))
  | again s _ => intro c; exact c _ (cov_last (bs := bondsL (.again s)) (fun b hb => hb) (by simp [Say.kn]))
/-- one truth turned -/
def turnG (g : List Bool) (k : Nat) : List Bool := g.set k (!g.getD k false)
theorem turnG_len (g : List Bool) (k : Nat) : (turnG g k).length = g.length := by unfold turnG; rw [List.length_set]
theorem bondAt_turn {bs : List Say} {g : List Bool} {k : Nat} {b : Say} (h : b ∈ bs) (hne : bs[k]? ≠ some b) : bondAt bs (turnG g k) b = bondAt bs g b := by
  unfold bondAt turnG
  have hi : k ≠ bs.idxOf b := fun e => hne (by rw [e]; exact (idxOf_find h).1)
  rw [List.getD_eq_getElem?_getD, List.getElem?_set_ne hi, ← List.getD_eq_getElem?_getD]
theorem goOn_turned {bs : List Say} (hB : Bonds bs) {m1 m2 : Str} {g g2 : List Bool} {k : Nat} (hk : k < bs.length) (hg : bs.length = g.length) (h : goOn bs m1 g m2 g2 = true) : goOn bs m1 (turnG g k) m2 g2 = false := by
  unfold goOn goL at h ⊢
  rw [List.all_eq_true] at h
  have h := h k (List.mem_range.mpr hk)
  rw [List.all_eq_false]
  refine ⟨k, List.mem_range.mpr hk, ?_⟩
  have hm := getD_mem hk
  have e1 : (sightL bs g m1).getD k [] = g.getD k false :: partsOf bs g m1 (bs.getD k .yes) := by
    rw [List.getD_eq_getElem?_getD, sightL_get bs _ _ hk (by omega)]; rfl
  have e2 : (sightL bs (turnG g k) m1).getD k [] = (turnG g k).getD k false :: partsOf bs (turnG g k) m1 (bs.getD k .yes) := by
    rw [List.getD_eq_getElem?_getD, sightL_get bs _ _ hk (by rw [turnG_len]; omega)]; rfl
  have e3 : (turnG g k).getD k false = !g.getD k false := by
    unfold turnG
    rw [List.getD_eq_getElem?_getD, List.getElem?_set_self (by omega)]
    rfl
  have ek : bs[k]? = some (bs.getD k .yes) := by rw [List.getD_eq_getElem?_getD, List.getElem?_eq_getElem hk]; rfl
  have e4 : partsOf bs (turnG g k) m1 (bs.getD k .yes) = partsOf bs g m1 (bs.getD k .yes) := by
    unfold partsOf
    refine List.map_congr_left fun p hp => soG_agree fun b hb => bondAt_turn (cov_part (hB.cov _ hm) hp b hb) fun e => ?_
    rw [ek] at e
    have e := Option.some.inj e
    have h1 := bonds_ms hb
    have h2 := part_ms hp
    rw [e] at h2
    omega
  have hk2 := hB.kind hm
  rw [e1] at h
  rw [e2, e3, e4]
  generalize (sightL bs g2 m2).getD k [] = y at *
  generalize partsOf bs g m1 (bs.getD k .yes) = xs at *
  generalize bs.getD k .yes = b at *
  generalize g.getD k false = c at *
  have ed : ∀ c', due b (c' :: xs) y = due b (c :: xs) y := by
    intro c'
    cases b <;> rfl
  unfold stepOk at h ⊢
  rw [ed (!c)]
  have h : c = due b (c :: xs) y := beq_iff_eq.mp h
  show ¬ ((!c) == due b (c :: xs) y) = true
  rw [← h]
  cases c <;> decide
theorem gR_get {bs : List Say} {k : Nat} (w : Nat → Str) (t : Nat) : (gR bs w t).length = bs.length := gR_len bs w t
/-- each promise is met at some moment of the ring -/
theorem met_ring {bs : List Say} (hB : Bonds bs) {way ring : List Str} (hr : 1 ≤ ring.length) {p : Option Say} (hp : p ∈ promsL bs) : ∃ t, way.length ≤ t ∧ t < way.length + ring.length ∧ metG bs (gR bs (wd way ring) t) (wd way ring t) p = true := by
  cases p with
  | none => exact ⟨way.length, Nat.le_refl _, by omega, rfl⟩
  | some b =>
    have hp : b ∈ bs ∧ b.isProm = true := by simpa [promsL] using hp
    obtain ⟨hbm, hpr⟩ := hp
    have hcv := hB.cov _ hbm
    have ring_at : ∀ (s : Say) (n : Nat), ∃ t, way.length ≤ t ∧ t < way.length + ring.length ∧ hb (wd way ring) s (way.length + n) = hb (wd way ring) s t := fun s n => ⟨way.length + n % ring.length, by omega, by have := Nat.mod_lt n hr; omega, hb_mod way ring s n⟩
    cases b <;> first | (cases hpr; done) | skip
    case till s u =>
      have hm : ∀ t, metG bs (gR bs (wd way ring) t) (wd way ring t) (some (.till s u)) = (!hb (wd way ring) (.till s u) t || hb (wd way ring) u t) := fun t => by
        show (!bondAt bs _ _ || soG bs _ _ u) = _
        rw [bondAt_gR hbm, soG_right _ _ (cov_part hcv (by simp [Say.parts]))]
      by_cases h : hb (wd way ring) (.till s u) way.length = true
      · obtain ⟨n, h1, _⟩ := hb_eq.mp h
        obtain ⟨t, a, b, e⟩ := ring_at u n
        refine ⟨t, a, b, ?_⟩
        rw [hm, ← e, hb_eq.mpr h1, Bool.or_true]
      · refine ⟨way.length, Nat.le_refl _, by omega, ?_⟩
        rw [hm, Bool.eq_false_iff.mpr h]
        rfl
    case always s =>
      have hm : ∀ t, metG bs (gR bs (wd way ring) t) (wd way ring t) (some (.always s)) = (hb (wd way ring) (.always s) t || !hb (wd way ring) s t) := fun t => by
        show (bondAt bs _ _ || !soG bs _ _ s) = _
        rw [bondAt_gR hbm, soG_right _ _ (cov_part hcv (by simp [Say.parts]))]
      by_cases h : hb (wd way ring) (.always s) way.length = true
      · refine ⟨way.length, Nat.le_refl _, by omega, ?_⟩
        rw [hm, h]
        rfl
      · have h1 : ¬ ∀ n, Hold (wd way ring) s (way.length + n) := fun k => h (hb_eq.mpr k)
        obtain ⟨n, hn⟩ := Classical.not_forall.mp h1
        obtain ⟨t, a, b, e⟩ := ring_at s n
        refine ⟨t, a, b, ?_⟩
        rw [hm, ← e, hb_ne.mpr hn]
        simp
theorem cov_all : ∀ {s u : Say}, u ∈ allS s → Cov (bondsL s) u := by
  intro s
  have self : ∀ (u : Say), Cov (bondsL u) u := fun u x hx => hx
  have tr : ∀ {u p v : Say}, p ∈ u.parts → Cov (bondsL p) v → Cov (bondsL u) v := fun {u p v} hp h x hx => cov_part (self u) hp x (h x hx)
  induction s with
  | mark m => intro u h; simp only [allS, List.mem_singleton] at h; subst h; exact self _
  | yes => intro u h; simp only [allS, List.mem_singleton] at h; subst h; exact self _
  | not s ih => intro u h; simp only [allS, List.mem_cons] at h; rcases h with rfl | h; exact self _; exact tr (by simp [Say.parts]) (ih h)
  | next s ih => intro u h; simp only [allS, List.mem_cons] at h; rcases h with rfl | h; exact self _; exact tr (by simp [Say.parts]) (ih h)
  | always s ih => intro u h; simp only [allS, List.mem_cons] at h; rcases h with rfl | h; exact self _; exact tr (by simp [Say.parts]) (ih h)
  | again s ih => intro u h; simp only [allS, List.mem_cons] at h; rcases h with rfl | h; exact self _; exact tr (by simp [Say.parts]) (ih h)
  | and s t ih ih2 => intro u h; simp only [allS, List.mem_cons, List.mem_append] at h; rcases h with rfl | h | h; exact self _; exact tr (by simp [Say.parts]) (ih h); exact tr (p := t) (by simp [Say.parts]) (ih2 h)
  | or s t ih ih2 => intro u h; simp only [allS, List.mem_cons, List.mem_append] at h; rcases h with rfl | h | h; exact self _; exact tr (by simp [Say.parts]) (ih h); exact tr (p := t) (by simp [Say.parts]) (ih2 h)
  | till s t ih ih2 => intro u h; simp only [allS, List.mem_cons, List.mem_append] at h; rcases h with rfl | h | h; exact self _; exact tr (by simp [Say.parts]) (ih h); exact tr (p := t) (by simp [Say.parts]) (ih2 h)
def letters : Str := "abcdefghijklmnopqrstuvwxyz"
def chr1 (i : Int) : Str := ⟨#[97 + (i % 26).toNat]⟩
theorem letters_at (i : Int) : atI letters.cps.toList (i % 26) = some (97 + (i % 26).toNat) := by
  have h1 : 0 ≤ i % 26 := Int.emod_nonneg _ (by decide)
  have h2 : i % 26 < 26 := Int.emod_lt_of_pos _ (by decide)
  generalize i % 26 = j at *
  obtain ⟨n, rfl⟩ := Int.eq_ofNat_of_zero_le h1
  have hn : n < 26 := by omega
  have key : ∀ n : Fin 26, letters.cps.toList[n.val]? = some (97 + n.val) := by decide +kernel
  exact atI_nat (key ⟨n, hn⟩)
theorem cut_len (z : Str) (lo hi : Option Int) : (cutS z lo hi).length ≤ z.length := by
  rw [len_cps, len_cps]
  unfold cutS
  rw [List.length_take, List.length_drop]
  omega
theorem len_append (x y : Str) : (x ++ y).length = x.length + y.length := by
  rw [len_cps, len_cps, len_cps, cps_append, List.length_append]
def restS (c : Int) : Str := Txt.join "" ((List.range 6).map fun j => chr1 (c / 7 + 5 * (0 + (j : Nat))))
def namesS (c : Int) : List Str :=
  if c % 3 = 2 then (List.range 3).map fun k => cutS (restS c) none (some (1 + c / 3 % 4 + (0 + (k : Nat))))
  else (List.range 3).map fun k => cutS (restS c) none (some (c / 18 % (c / 3 % 6 + 1))) ++ chr1 (c / 90 + 7 * (0 + (k : Nat))) ++ cutS (restS c) (some (c / 18 % (c / 3 % 6 + 1))) (some (c / 3 % 6))
theorem len_chr (i : Int) : (chr1 i).length = 1 := rfl
theorem joinE : ∀ ys : List Str, (Txt.join "" ys).cps.toList = (ys.map fun y => y.cps.toList).flatten := by
  intro ys
  have h : TL.tl (Str.join "" ys) = TL.joinL (TL.tl "") (ys.map TL.tl) := TL.tl_join "" ys
  have e : TL.tl ("" : Str) = [] := rfl
  rw [e] at h
  have j : ∀ ps : List (List Nat), TL.joinL [] ps = ps.flatten := by
    intro ps
    induction ps with
    | nil => rfl
    | cons p ps ih =>
      cases ps with
      | nil => simp [TL.joinL]
      | cons q r =>
        show p ++ ([] ++ TL.joinL [] (q :: r)) = _
        rw [ih]
        simp
  rw [j] at h
  rw [TL.join_eq]
  exact h
theorem rest_cps (c : Int) : (restS c).cps.toList = (List.range 6).map fun j => 97 + ((c / 7 + 5 * (0 + ((j : Nat) : Int))) % 26).toNat := by
  unfold restS
  rw [joinE, List.map_map]
  rfl
theorem rest_len (c : Int) : (restS c).length = 6 := by
  rw [len_cps, rest_cps]
  simp
def R_names : List Sl → Dat → List Sl → Prop := fun as d as' => ∃ (c : Int), as = [.dat (.int c)] ∧ d = .lst ((namesS c).map Dat.str) ∧ as' = [.no]
theorem len_names : ∀ as d as', R_names as d as' → as.length = 1 := by
  rintro as d as' ⟨_, rfl, _⟩
  rfl
abbrev s_names : Stmt := topS 16
theorem sc_names : FnScope ["_law_cell", "_law_letters", "_law_rest", "_law_size", "_law_at", "_law_found", "_law_k", "_law_letter", "_law_j"] ["_law_cell"] (defScope s_names) := ⟨rfl, rfl, rfl, by decide +kernel, rfl, by decide +kernel, by decide +kernel⟩
theorem ok_names {f : Addr} {fd : FuncData} (F : Fun K "_law_names" "_law_names" s_names f fd) (T : Tx K mg)  : FnOk P w K mg base CX0 1 f fd ["_law_cell"] ((spG K R_names)) := by
  have nd := sc_names.nd
  refine F.ok sc_names (spG_len len_names) (fun cdv A outer s H vs Q E hr h => ?_)
  have hu := hr.units
  have hu5 := unit5 hr
  refine ⟨_, (pss_cons (ps_set (i := 1) nd rfl (by first | exact Or.inl rfl | exact Or.inr rfl) pe_str)
      (pss_cons (ps_set (i := 2) nd rfl (by first | exact Or.inl rfl | exact Or.inr rfl) (kJoin K (pe_join pe_str (pe_lc (own := [("_law_j", 8)]) (g := gName 8) (tt := tYes) (by rfl) nd (pi_range1 (by rfl) T.b_range (pa_cons pe_int pa_nil)) (blkOk_by (own := [("_law_j", 8)]) (N := ["_law_cell", "_law_letters", "_law_rest", "_law_size", "_law_at", "_law_found", "_law_k", "_law_letter", "_law_j"]) (sc := defScope s_names) (by decide +kernel)) (fun _ _ _ _ _ => pg_name (i := 8) nd rfl (by first | exact Or.inl rfl | exact Or.inr rfl)) (fun _ _ _ _ _ => pts_nil) (fun _ _ _ _ _ => (pe_ix ix_str (pv 1) (pe_op op_mod (pe_op op_add (pe_op op_fdiv (pv 0) pe_int) (pe_op op_mul pe_int (pv 8))) pe_int) (fun _ _ => rfl)))))))
      (pss_cons (ps_if (pt_cmpR (kEqD K hu) (pe_op op_mod (pv 0) pe_int) pe_int (nomark _)) (pss_cons (ps_set (i := 3) nd rfl (by first | exact Or.inl rfl | exact Or.inr rfl) (pe_op op_add pe_int (pe_op op_mod (pe_op op_fdiv (pv 0) pe_int) pe_int)))
      (pss_one (ps_ret (pe_lc (own := [("_law_k", 6)]) (g := gName 6) (tt := tYes) (by rfl) nd (pi_range1 (by rfl) T.b_range (pa_cons pe_int pa_nil)) (blkOk_by (own := [("_law_k", 6)]) (N := ["_law_cell", "_law_letters", "_law_rest", "_law_size", "_law_at", "_law_found", "_law_k", "_law_letter", "_law_j"]) (sc := defScope s_names) (by decide +kernel)) (fun _ _ _ _ _ => pg_name (i := 6) nd rfl (by first | exact Or.inl rfl | exact Or.inr rfl)) (fun _ _ _ _ _ => pts_nil) (fun _ _ _ _ _ => (pe_slice sl_str (pv 2) po_none (po_some (pe_op op_add (pv 3) (pv 6))))))))) pss_nil)
      (pss_cons (ps_set (i := 3) nd rfl (by first | exact Or.inl rfl | exact Or.inr rfl) (pe_op op_mod (pe_op op_fdiv (pv 0) pe_int) pe_int))
      (pss_cons (ps_set (i := 4) nd rfl (by first | exact Or.inl rfl | exact Or.inr rfl) (pe_op op_mod (pe_op op_fdiv (pv 0) pe_int) (pe_op op_add (pv 3) pe_int)))
      (pss_cons (ps_set (i := 5) nd rfl (by first | exact Or.inl rfl | exact Or.inr rfl) (pe_lst pa_nil))
      (pss_cons (ps_for PassesOwn.never (by rfl) (pi_range1 (by rfl) T.b_range (pa_cons pe_int pa_nil)) (pg_name (i := 6) nd rfl (by first | exact Or.inl rfl | exact Or.inr rfl)) (pss_cons (ps_set (i := 7) nd rfl (by first | exact Or.inl rfl | exact Or.inr rfl) (pe_ix ix_str (pv 1) (pe_op op_mod (pe_op op_add (pe_op op_fdiv (pv 0) pe_int) (pe_op op_mul pe_int (pv 6))) pe_int) (fun _ _ => rfl)))
      (pss_one (ps_expr (kBM K (pe_bm PySem.F.plainAttrs_list PySem.F.slot_list_append PySem.F.type_list_append mt_append (pv 5) (pa_cons (pe_op op_add_str (pe_op op_add_str (pe_slice sl_str (pv 2) po_none (po_some (pv 4))) (pv 7)) (pe_slice sl_str (pv 2) (po_some (pv 4)) (po_some (pv 3)))) pa_nil)))))))
      (pss_one (ps_ret (pv 5)))))))))), ?_⟩
  refine body_ok h len_names fun as d as' hR => ?_
  obtain ⟨c, rfl, rfl, rfl⟩ := hR
  walk_at "body"
  walk_at "set"
  walk_at "nrm"
  -- rest
  refine' ex_seq (ex_set (d := .str (restS c)) (ev_join rfl ev_str (el_d (ev_of_fresh (ef_lcMap (onI fun j => .str (chr1 (c / 7 + 5 * j))) (src_rng1 ev_int (by decide) (by decide)) (by exact rfl) (by rw [rngD_len]; decide) ?hb))) ?hl ?hz) ?hi) ?hc
  case hb =>
    intro d hd
    obtain ⟨j, hj, rfl⟩ := rngD_mem hd
    show Ev K _ _ (.str ⟨#[97 + ((c / 7 + 5 * (0 + (j : Nat))) % 26).toNat]⟩) _
    walk_at "nrm"
    walk_at "ev"
    exact letters_at _
  case hl =>
    show some _ = some _
    rw [rngD_map]
    exact congrArg some (List.map_map.symm)
  case hz =>
    rw [List.map_map]
    show (List.map (fun _ => 1) (List.range 6)).sum + _ * 0 ≤ _
    rw [Nat.mul_zero]
    decide
  case hi => exact rfl
  walk_at "nrm"
  have h3 : eqd (.int (c % 3)) (.int 2) = decide (c % 3 = 2) := by rw [eqd_int]; rfl
  walk_at "ifl"
  · intro h
    rw [h3, decide_eq_true_eq] at h
    walk_at "set"
    walk_at "nrm"
    refine ex_retW (ev_of_fresh (ef_lcMap (onI fun k => .str (cutS (restS c) none (some (1 + c / 3 % 4 + k)))) (src_rng1 ev_int (by decide) (by decide)) (by exact rfl) (by rw [rngD_len]; decide) ?_)) ?_ (by walk_at "nrm"; walk_at "le")
    · intro d hd
      obtain ⟨j, hj, rfl⟩ := rngD_mem hd
      show Ev K _ _ (.str (cutS (restS c) none (some (1 + c / 3 % 4 + (0 + (j : Nat)))))) _
      walk_at "nrm"
      walk_at "ev"
      rw [rest_len]
      decide
    · rw [rngD_map, show namesS c = _ from if_pos h, List.map_map]
      rfl
  · intro h
    rw [h3, decide_eq_false_iff_not] at h
    have p1 : 0 ≤ c / 3 % 6 := Int.emod_nonneg _ (by decide)
    walk_at "set"
    walk_at "nrm"
    walk_at "set"
    walk_at "nrm"
    walk_at "setF"
    walk_at "nrm"
    refine' ex_seq (ex_for (n := 3) (fun i => [.dat (.int c), .dat (.str letters), .dat (.str (restS c)), .dat (.int (c / 3 % 6)), .dat (.int (c / 18 % (c / 3 % 6 + 1))),
        .own ((List.range i).map fun k => .str (cutS (restS c) none (some (c / 18 % (c / 3 % 6 + 1))) ++ chr1 (c / 90 + 7 * (0 + (k : Nat))) ++ cutS (restS c) (some (c / 18 % (c / 3 % 6 + 1))) (some (c / 3 % 6)))), .no, .no, .no])
      (src_rng1 ev_int (by decide) (by decide)) (fun _ => rfl) (by rw [rngD_len]; decide) (fun i d hi hd => .inl ?hb) (.done (by rw [rngD_len]; decide))) ?hr
    case hb =>
      obtain ⟨_, rfl⟩ := rngD_get hd
      walk_at "nrm"
      refine' Ex.weak (ex_seq (ex_set (d := .str ⟨#[97 + ((c / 90 + 7 * (0 + (i : Nat))) % 26).toNat]⟩) ?h1 ?h1i) ?h2) ?h4
      case h1 =>
        walk_at "ev"
        exact letters_at _
      case' h1i => exact rfl
      case' h2 => walk_at "app"
      all_goals walk_at "nrm"
      any_goals (rw [rest_len]; decide)
      all_goals first | (simp only [List.length_map, List.length_range]; omega) | skip
      any_goals (rw [List.range_succ, List.map_append]; walk_at "le")
      · have h1 := cut_len (restS c) none (some (c / 18 % (c / 3 % 6 + 1)))
        rw [rest_len] at h1
        show _ + 1 ≤ _
        omega
      · have h1 := cut_len (restS c) none (some (c / 18 % (c / 3 % 6 + 1)))
        have h2 := cut_len (restS c) (some (c / 18 % (c / 3 % 6 + 1))) (some (c / 3 % 6))
        rw [rest_len] at h1 h2
        rw [len_append]
        show _ + 1 + _ ≤ _
        omega
    case hr =>
      walk_at "ret"
      rw [show namesS c = _ from if_neg h, List.map_map]
      rfl
theorem okLet_chr (i : Int) : okLet (chr1 i) = true := by
  show ([97 + (i % 26).toNat] : List Nat).all okCode = true
  rw [List.all_cons, okCode_26]
  rfl
theorem okLet_rest (c : Int) : okLet (restS c) = true := by
  unfold okLet
  rw [rest_cps, List.all_map, List.all_eq_true]
  intro j _
  exact okCode_26 _
theorem names_ok (c : Int) : ∀ x ∈ namesS c, isMark (.str x) = true := by
  have cl : ∀ (z : Str) (a : Int), 0 ≤ a → (cutS z none (some a)).length ≤ a.toNat := fun z a ha => by
    rw [len_cps]
    show (List.take (HT.sIx z.length z.length (some a) - HT.sIx z.length 0 none) (List.drop (HT.sIx z.length 0 none) z.cps.toList)).length ≤ _
    rw [List.length_take]
    have h1 : HT.sIx z.length z.length (some a) ≤ a.toNat := by
      simp only [HT.sIx]
      split <;> omega
    omega
  have cl2 : ∀ (z : Str) (a b : Int), 0 ≤ a → 0 ≤ b → a ≤ z.length → (cutS z (some a) (some b)).length ≤ b.toNat - a.toNat := fun z a b ha hb hz => by
    rw [len_cps]
    show (List.take (HT.sIx z.length z.length (some b) - HT.sIx z.length 0 (some a)) (List.drop (HT.sIx z.length 0 (some a)) z.cps.toList)).length ≤ _
    rw [List.length_take]
    have h1 : HT.sIx z.length z.length (some b) ≤ b.toNat := by
      simp only [HT.sIx]
      split <;> omega
    have h2 : HT.sIx z.length 0 (some a) = a.toNat := by
      simp only [HT.sIx]
      split <;> omega
    omega
  intro x hx
  unfold namesS at hx
  by_cases h : c % 3 = 2
  · rw [if_pos h, List.mem_map] at hx
    obtain ⟨k, _, rfl⟩ := hx
    exact isMark_of (by have := cut_len (restS c) none (some (1 + c / 3 % 4 + (0 + (k : Nat)))); rw [rest_len] at this; exact this) (okLet_cut (okLet_rest c))
  · rw [if_neg h, List.mem_map] at hx
    obtain ⟨k, _, rfl⟩ := hx
    have p1 : 0 ≤ c / 3 % 6 := Int.emod_nonneg _ (by decide)
    have p2 : c / 3 % 6 < 6 := Int.emod_lt_of_pos _ (by decide)
    have p3 : 0 ≤ c / 18 % (c / 3 % 6 + 1) := Int.emod_nonneg _ (by omega)
    have p4 : c / 18 % (c / 3 % 6 + 1) < c / 3 % 6 + 1 := Int.emod_lt_of_pos _ (by omega)
    refine isMark_of ?_ (okLet_app (okLet_app (okLet_cut (okLet_rest c)) (okLet_chr _)) (okLet_cut (okLet_rest c)))
    rw [len_append, len_append, len_chr]
    have q1 := cl (restS c) (c / 18 % (c / 3 % 6 + 1)) p3
    have q2 := cl2 (restS c) (c / 18 % (c / 3 % 6 + 1)) (c / 3 % 6) p3 p1 (by rw [rest_len]; omega)
    omega
theorem names_len (c : Int) : (namesS c).length = 3 := by
  unfold namesS
  split <;> rw [List.length_map, List.length_range]
def drawv (ns : List Int) (k : Nat) : Int := if k < ns.length then ns.getD k 0 else if 4 < ns.length ∧ k < 50 then (ns.getD (k % ns.length) 0 + 7919 * k) * 48271 % 1000003 else 0
def R_draw : List Sl → Dat → List Sl → Prop := fun as d as' => ∃ (ns : List Int) (k : Nat), as = [.dat (.scr ns), .par 0 [.int k]] ∧ d = .int (drawv ns k) ∧ as' = [.no, .par 0 [.int (k + 1 : Nat)]]
theorem len_draw : ∀ as d as', R_draw as d as' → as.length = 2 := by
  rintro as d as' ⟨_, _, rfl, _⟩
  rfl
abbrev s_draw : Stmt := topS 15
theorem sc_draw : FnScope ["_law_script", "_law_spot", "_law_k"] ["_law_script", "_law_spot"] (defScope s_draw) := ⟨rfl, rfl, rfl, by decide +kernel, rfl, by decide +kernel, by decide +kernel⟩
theorem ok_draw {f : Addr} {fd : FuncData} (F : Fun K "_law_draw" "_law_draw" s_draw f fd) (T : Tx K mg)  : FnOk P w K mg base CX0 1 f fd ["_law_script", "_law_spot"] ((spG K R_draw)) := by
  have nd := sc_draw.nd
  refine F.ok sc_draw (spG_len len_draw) (fun cdv A outer s H vs Q E hr h => ?_)
  have hu := hr.units
  have hu5 := unit5 hr
  refine ⟨_, (pss_cons (ps_asg (pe_op op_add (pe_ix (kIxL K) (pv 1) pe_int (fun _ _ => rfl)) pe_int) (pg_sub (pv 1) pe_int set_list))
      (pss_cons (ps_set (i := 2) nd rfl (by first | exact Or.inl rfl | exact Or.inr rfl) (pe_op op_sub (pe_ix (kIxL K) (pv 1) pe_int (fun _ _ => rfl)) pe_int))
      (pss_cons (ps_if (pt_cmpR op_lt (pv 2) (pe_callB (kLen K) (by rfl) T.b_len PySem.boot_len (pa_cons (pv 0) pa_nil)) (nomark _)) (pss_one (ps_ret (pe_ix (kIxL K) (pv 0) (pv 2) (fun _ _ => rfl)))) pss_nil)
      (pss_cons (ps_if (PW.pt (pw_and (pt_cmpR op_gt (pe_callB (kLen K) (by rfl) T.b_len PySem.boot_len (pa_cons (pv 0) pa_nil)) pe_int (nomark _)) (pw_and1 (pt_cmpR op_lt (pv 2) pe_int (nomark _))))) (pss_one (ps_ret (pe_op op_mod (pe_op op_mul (pe_op op_add (pe_ix (kIxL K) (pv 0) (pe_op op_mod (pv 2) (pe_callB (kLen K) (by rfl) T.b_len PySem.boot_len (pa_cons (pv 0) pa_nil))) (fun _ _ => rfl)) (pe_op op_mul pe_int (pv 2))) pe_int) pe_int))) pss_nil)
      (pss_one (ps_ret pe_int)))))), ?_⟩
  refine body_ok h len_draw fun as d as' hR => ?_
  obtain ⟨ns, k, rfl, rfl, rfl⟩ := hR
  walk_at "body"
  refine' ex_seq (ex_setIx (k := 0) ?ha ?hi ?hs ?hl ?hk) ?hb
  case' ha => walk_at "ev"
  case' hi => walk_at "ev"
  case' hs => exact rfl
  case' hl => exact rfl
  case' hk => exact rfl
  walk_at "set"
  walk_at "nrm"
  rw [show (k : Int) + 1 - 1 = (k : Int) by omega, show (k : Int) + 1 = ((k + 1 : Nat) : Int) by omega]
  walk_at "ifl"
  · intro h
    have h : k < ns.length := by simpa using h
    walk_at "ret"
    rw [show drawv ns k = ns.getD k 0 from if_pos h]
    exact at_ints h
  · intro h
    have h : ¬ k < ns.length := by simpa using h
    walk_at "ifl"
    · intro h2
      have h2 : 4 < ns.length ∧ k < 50 := by
        simp only [List.length_map, Bool.and_eq_true, decide_eq_true_eq] at h2
        omega
      have hm : k % ns.length < ns.length := Nat.mod_lt _ (by omega)
      walk_at "ret"
      any_goals (refine at_of_eq ?_ (at_ints hm); simp only [List.length_map]; omega)
      rw [show drawv ns k = _ from (if_neg h).trans (if_pos h2)]
    · intro h2
      have h2 : ¬ (4 < ns.length ∧ k < 50) := by
        simp only [List.length_map, Bool.and_eq_false_iff, decide_eq_false_iff_not] at h2
        omega
      walk_at "ret"
      rw [show drawv ns k = _ from (if_neg h).trans (if_neg h2)]
def kindsL : List Str := ["not", "and", "or", "next", "till", "always", "again", "till", "always", "next", "not"]
def isBin (j : Nat) : Bool := j == 1 || j == 2 || j == 4 || j == 7
def mkSay (j : Nat) (s t : Say) : Say := match j with
  | 0 => .not s
  | 1 => .and s t
  | 2 => .or s t
  | 3 => .next s
  | 4 => .till s t
  | 5 => .always s
  | 6 => .again s
  | 7 => .till s t
  | 8 => .always s
  | 9 => .next s
  | _ => .not s
def leafS (nm : List Str) (c : Int) : Say := if c % 9 = 4 then .yes else .mark (nm.getD (c % 3).toNat "")
def kindJ (c : Int) : Nat := (c % 13 - 2).toNat
def madeS (nm : List Str) (ns : List Int) : Nat → Nat → Say × Nat
  | 0, k => (leafS nm (drawv ns k / 13), k + 1)
  | d + 1, k => if d + 1 < 2 ∨ drawv ns k % 13 < 2 then (leafS nm (drawv ns k / 13), k + 1)
    else if isBin (kindJ (drawv ns k)) then (mkSay (kindJ (drawv ns k)) (madeS nm ns d (k + 1)).1 (madeS nm ns d (madeS nm ns d (k + 1)).2).1, (madeS nm ns d (madeS nm ns d (k + 1)).2).2)
    else (mkSay (kindJ (drawv ns k)) (madeS nm ns d (k + 1)).1 .yes, (madeS nm ns d (k + 1)).2)
theorem eleven {j : Nat} (h : j < 11) : j = 0 ∨ j = 1 ∨ j = 2 ∨ j = 3 ∨ j = 4 ∨ j = 5 ∨ j = 6 ∨ j = 7 ∨ j = 8 ∨ j = 9 ∨ j = 10 := by omega
theorem mk_un {j : Nat} (h : j < 11) (hb : isBin j = false) (s t : Say) : (mkSay j s t).d = .tup [.str (kindsL.getD j ""), s.d] := by
  rcases eleven h with rfl | rfl | rfl | rfl | rfl | rfl | rfl | rfl | rfl | rfl | rfl <;> first | rfl | (exact absurd hb (by decide))
theorem mk_bin {j : Nat} (h : j < 11) (hb : isBin j = true) (s t : Say) : (mkSay j s t).d = .tup [.str (kindsL.getD j ""), s.d, t.d] := by
  rcases eleven h with rfl | rfl | rfl | rfl | rfl | rfl | rfl | rfl | rfl | rfl | rfl <;> first | rfl | (exact absurd hb (by decide))
def unL : List Dat := [.str "not", .str "next", .str "always", .str "again"]
theorem un_in {j : Nat} (h : j < 11) : inV (flv (.str (kindsL.getD j ""))) (unL.map flv) = !isBin j := by
  rcases eleven h with rfl | rfl | rfl | rfl | rfl | rfl | rfl | rfl | rfl | rfl | rfl <;> decide +kernel
theorem kinds_split : Txt.split "not and or next till always again till always next not" " " = kindsL := by decide +kernel
theorem mk_dep (j : Nat) (s t : Say) {d : Nat} (h1 : s.dep ≤ d) (h2 : t.dep ≤ d) : (mkSay j s t).dep ≤ d + 1 := by
  unfold mkSay
  split <;> simp only [Say.dep] <;> omega
theorem mk_ok (j : Nat) (s t : Say) (h1 : s.Ok) (h2 : t.Ok) : (mkSay j s t).Ok := by
  unfold mkSay
  split <;> first | exact h1 | exact ⟨h1, h2⟩
theorem leaf_dep (nm : List Str) (c : Int) : (leafS nm c).dep = 1 := by
  unfold leafS
  split <;> rfl
theorem leaf_ok {nm : List Str} (h : ∀ x ∈ nm, markOk x) (hl : nm.length = 3) (c : Int) : (leafS nm c).Ok := by
  unfold leafS
  split
  · trivial
  · have h1 : 0 ≤ c % 3 := Int.emod_nonneg _ (by decide)
    have h2 : c % 3 < 3 := Int.emod_lt_of_pos _ (by decide)
    show markOk _
    rw [List.getD_eq_getElem?_getD, List.getElem?_eq_getElem (by omega)]
    exact h _ (List.getElem_mem _)
theorem made_ok {nm : List Str} (h : ∀ x ∈ nm, markOk x) (hl : nm.length = 3) (ns : List Int) : ∀ (d k : Nat), (madeS nm ns d k).1.Ok
  | 0, k => leaf_ok h hl _
  | d + 1, k => by
    unfold madeS
    split
    · exact leaf_ok h hl _
    · split
      · exact mk_ok _ _ _ (made_ok h hl ns d _) (made_ok h hl ns d _)
      · exact mk_ok _ _ _ (made_ok h hl ns d _) trivial
theorem made_dep (nm : List Str) (ns : List Int) : ∀ (d k : Nat), 1 ≤ d → (madeS nm ns d k).1.dep ≤ d
  | 0, k, h => by omega
  | d + 1, k, h => by
    unfold madeS
    by_cases hc : d + 1 < 2 ∨ drawv ns k % 13 < 2
    · rw [if_pos hc, leaf_dep]
      exact h
    · rw [if_neg hc]
      have hd : 1 ≤ d := by omega
      split
      · exact mk_dep _ _ _ (made_dep nm ns d _ hd) (made_dep nm ns d _ hd)
      · exact mk_dep _ _ _ (made_dep nm ns d _ hd) hd
theorem names_mark (c : Int) : ∀ x ∈ namesS c, markOk x := by
  intro x hx
  refine ⟨names_ok c x hx, fun e => ?_⟩
  subst e
  unfold namesS at hx
  by_cases h : c % 3 = 2
  · rw [if_pos h, List.mem_map] at hx
    obtain ⟨k, hk, e⟩ := hx
    have h1 : 0 ≤ c / 3 % 4 := Int.emod_nonneg _ (by decide)
    have e2 : (cutS (restS c) none (some (1 + c / 3 % 4 + (0 + (k : Nat))))).length = 0 := by rw [e]; rfl
    rw [len_cps] at e2
    have e3 : ((List.take (HT.sIx (restS c).length (restS c).length (some (1 + c / 3 % 4 + (0 + (k : Nat)))) - HT.sIx (restS c).length 0 none) (List.drop (HT.sIx (restS c).length 0 none) (restS c).cps.toList))).length = 0 := e2
    have z : HT.sIx (restS c).length 0 none = 0 := rfl
    rw [z, List.drop_zero, Nat.sub_zero, List.length_take, ← len_cps, rest_len] at e3
    simp only [HT.sIx] at e3
    rw [if_neg (by omega)] at e3
    omega
  · rw [if_neg h, List.mem_map] at hx
    obtain ⟨k, hk, e⟩ := hx
    have e2 := congrArg Str.length e
    rw [len_append, len_append, len_chr] at e2
    have : ("" : Str).length = 0 := rfl
    omega
def two8 (nm : List Str) : List Str := [("" : Str), cutS (nm.getD 2 "") none (some 1) ++ ("zq" : Str)]
def some8 (nm : List Str) : List Str := nm ++ two8 nm ++ nm
def marksN (ns : List Int) (k least md : Nat) : Nat := least + (drawv ns k % (md : Int)).toNat
def marksM (nm : List Str) (ns : List Int) (k least md : Nat) : List Str := (List.range (marksN ns k least md)).map fun j => (some8 nm).getD (drawv ns (k + 1 + j) % 8).toNat ""
theorem marksM_len (nm : List Str) (ns : List Int) (k least md : Nat) : (marksM nm ns k least md).length = marksN ns k least md := by
  unfold marksM
  rw [List.length_map, List.length_range]
theorem marksN_le (ns : List Int) (k least : Nat) {md : Nat} (h : 1 ≤ md) : least ≤ marksN ns k least md ∧ marksN ns k least md < least + md := by
  have h1 : 0 ≤ drawv ns k % (md : Int) := Int.emod_nonneg _ (by omega)
  have h2 : drawv ns k % (md : Int) < md := Int.emod_lt_of_pos _ (by omega)
  unfold marksN
  omega
theorem some8_ok {nm : List Str} (h : ∀ x ∈ nm, markOk x) (hl : nm.length = 3) : ∀ x ∈ some8 nm, isMark (.str x) = true := by
  intro x hx
  have hx : x ∈ nm ++ two8 nm ++ nm := hx
  rcases List.mem_append.mp hx with hx | hx
  rcases List.mem_append.mp hx with hx | hx
  · exact (h x hx).1
  · have hx : x ∈ [_, _] := hx
    simp only [List.mem_cons, List.not_mem_nil, or_false] at hx
    rcases hx with rfl | rfl
    · rfl
    · have h2 : markOk (nm.getD 2 "") := by
        rw [List.getD_eq_getElem?_getD, List.getElem?_eq_getElem (by omega)]
        exact h _ (List.getElem_mem _)
      have hz := (mark_ok h2.1).1
      have hlet : okLet (nm.getD 2 "") = true := by
        have q : (decide ((nm.getD 2 "").length ≤ 6) && (nm.getD 2 "").cps.toList.all okCode) = true := h2.1
        rw [Bool.and_eq_true] at q
        exact q.2
      refine isMark_of ?_ (okLet_app (okLet_cut hlet) (by decide +kernel))
      rw [len_append]
      have e : ("zq" : Str).length = 2 := by decide +kernel
      have h3 : (cutS (nm.getD 2 "") none (some 1)).length ≤ 1 := by
        rw [len_cps]
        show (List.take (HT.sIx (nm.getD 2 "").length (nm.getD 2 "").length (some 1) - HT.sIx (nm.getD 2 "").length 0 none) (List.drop (HT.sIx (nm.getD 2 "").length 0 none) (nm.getD 2 "").cps.toList)).length ≤ _
        rw [List.length_take]
        have : HT.sIx (nm.getD 2 "").length (nm.getD 2 "").length (some 1) ≤ 1 := by
          simp only [HT.sIx]
          rw [if_neg (by decide)]
          omega
        omega
      omega
  · exact (h x hx).1
theorem some8_len {nm : List Str} (hl : nm.length = 3) : (some8 nm).length = 8 := by
  unfold some8
  rw [List.length_append, List.length_append, hl]
  rfl
theorem marksM_ok {nm : List Str} (h : ∀ x ∈ nm, markOk x) (hl : nm.length = 3) (ns : List Int) (k least md : Nat) : ∀ x ∈ marksM nm ns k least md, isMark (.str x) = true := by
  intro x hx
  obtain ⟨j, _, rfl⟩ := List.mem_map.mp hx
  have h1 : 0 ≤ drawv ns (k + 1 + j) % 8 := Int.emod_nonneg _ (by decide)
  have h2 : drawv ns (k + 1 + j) % 8 < 8 := Int.emod_lt_of_pos _ (by decide)
  rw [List.getD_eq_getElem?_getD, List.getElem?_eq_getElem (by rw [some8_len hl]; omega)]
  exact some8_ok h hl _ (List.getElem_mem _)
theorem strs_of {xs : List Str} (h : ∀ x ∈ xs, isMark (.str x) = true) : ∀ x ∈ xs, PyData.strOk x = true := fun x hx => (mark_ok (h x hx)).2
theorem at_mod8 {xs : List Str} (h : xs.length = 8) (x : Int) : atI (xs.map Dat.str) (x % 8) = some (.str (xs.getD (x % 8).toNat "")) := by
  have h1 : 0 ≤ x % 8 := Int.emod_nonneg _ (by decide)
  have h2 : x % 8 < 8 := Int.emod_lt_of_pos _ (by decide)
  have hh := at_map (f := Dat.str) (xs := xs) (k := (x % 8).toNat) (x := xs.getD (x % 8).toNat "") (by rw [List.getD_eq_getElem?_getD, List.getElem?_eq_getElem (by omega)]; rfl)
  rwa [Int.toNat_of_nonneg h1] at hh
def Rn_made (n : Nat) : List Sl → Dat → List Sl → Prop := fun as d as' => ∃ (ns : List Int) (k : Nat) (nm : List Str) (dp : Nat), as = [.dat (.scr ns), .par 0 [.int k], .dat (.lst (nm.map Dat.str)), .dat (.int dp)] ∧ d = (madeS nm ns dp k).1.d ∧ as' = [.no, .par 0 [.int ((madeS nm ns dp k).2 : Nat)], .no, .no] ∧ 1 ≤ dp ∧ dp ≤ n ∧ nm.length = 3
theorem lenn_made {n : Nat} : ∀ as d as', Rn_made n as d as' → as.length = 4 := by
  rintro as d as' ⟨_, _, _, _, rfl, _⟩
  rfl
def R_made := Rn_made 6
theorem len_made : ∀ as d as', R_made as d as' → as.length = 4 := lenn_made
abbrev s_made : Stmt := topS 17
theorem sc_made : FnScope ["_law_script", "_law_spot", "_law_names_here", "_law_deep", "_law_cell", "_law_more", "_law_kinds", "_law_kind", "_law_one"] ["_law_script", "_law_spot", "_law_names_here", "_law_deep"] (defScope s_made) := ⟨rfl, rfl, rfl, by decide +kernel, rfl, by decide +kernel, by decide +kernel⟩
theorem ok_made {f : Addr} {fd : FuncData} (F : Fun K "_law_made" "_law_made" s_made f fd) (T : Tx K mg) (g_self : mg "_law_made" = some (.ref f)) (k_self : PySem.W.keepIn K (.ref f) = true) (b_self : Binds K fd ["_law_script", "_law_spot", "_law_names_here", "_law_deep"] []) {a_draw : Addr} {fd_draw : FuncData} (c_draw : Cal P w K mg base "_law_draw" 1 ["_law_script", "_law_spot"] (spG K R_draw) a_draw fd_draw) : FnOk P w K mg base CX0 8 f fd ["_law_script", "_law_spot", "_law_names_here", "_law_deep"] ((spG K R_made)) := by
  have nd := sc_made.nd
  have key : ∀ n : Nat, FnOk P w K mg base CX0 (2 + n) f fd ["_law_script", "_law_spot", "_law_names_here", "_law_deep"] (spG K (Rn_made n)) := by
    intro n
    induction n with
    | zero =>
      have no : ∀ as d as', Rn_made 0 as d as' → False := by
          rintro as d as' ⟨ns, k, nm, dp, rfl, rfl, rfl, h1, h2, _⟩
          omega
      exact F.ok sc_made (spG_len lenn_made) (fun cdv A outer s H vs Q E hr h => by obtain ⟨_, _, _, _, _, r, _⟩ := h; exact (no _ _ _ r).elim)
    | succ n ih =>
      have c_made : Cal P w K mg base "_law_made" (2 + n) ["_law_script", "_law_spot", "_law_names_here", "_law_deep"] (spG K (Rn_made n)) f fd := ⟨g_self, k_self, b_self, ih⟩
      refine F.ok (k := 2 + n) sc_made (spG_len lenn_made) (fun cdv A outer s H vs Q E hr h => ?_)
      have hu := hr.units
      have hu5 := unit5 hr
      refine ⟨_, (pss_cons (ps_set (i := 4) nd rfl (by first | exact Or.inl rfl | exact Or.inr rfl) (pe_call c_draw.ok (hr.mono (by omega)) (by rfl) c_draw.g c_draw.kp c_draw.b .nil pass0 (pa_cons (pv 0) (pa_cons (pv 1) pa_nil))))
      (pss_cons (ps_set (i := 5) nd rfl (by first | exact Or.inl rfl | exact Or.inr rfl) (pe_op op_fdiv (pv 4) pe_int))
      (pss_cons (ps_if (PW.pt (pw_or (pt_cmpR op_lt (pv 3) pe_int (nomark _)) (pw_or1 (pt_cmpR op_lt (pe_op op_mod (pv 4) pe_int) pe_int (nomark _))))) (pss_cons (ps_if (pt_cmpR (kEqD K hu) (pe_op op_mod (pv 5) pe_int) pe_int (nomark _)) (pss_one (ps_ret (pe_tup (pa_cons pe_str pa_nil)))) pss_nil)
      (pss_one (ps_ret (pe_tup (pa_cons pe_str (pa_cons (pe_ix (kIxL K) (pv 2) (pe_op op_mod (pv 5) pe_int) (fun _ _ => rfl)) pa_nil)))))) pss_nil)
      (pss_cons (ps_set (i := 6) nd rfl (by first | exact Or.inl rfl | exact Or.inr rfl) pe_str)
      (pss_cons (ps_set (i := 7) nd rfl (by first | exact Or.inl rfl | exact Or.inr rfl) (pe_ix (kIxL K) (pe_split (pv 6) pe_str) (pe_op op_sub (pe_op op_mod (pv 4) pe_int) pe_int) (fun _ _ => rfl)))
      (pss_cons (ps_set (i := 8) nd rfl (by first | exact Or.inl rfl | exact Or.inr rfl) (pe_call c_made.ok (hr.mono (by omega)) (by rfl) c_made.g c_made.kp c_made.b .nil pass0 (pa_cons (pv 0) (pa_cons (pv 1) (pa_cons (pv 2) (pa_cons (pe_op op_sub (pv 3) pe_int) pa_nil))))))
      (pss_cons (ps_if (pt_cmpR (kIn K) (pv 7) (pe_tup (pa_cons pe_str (pa_cons pe_str (pa_cons pe_str (pa_cons pe_str pa_nil))))) (by with_unfolding_all rfl)) (pss_one (ps_ret (pe_tup (pa_cons (pv 7) (pa_cons (pv 8) pa_nil))))) pss_nil)
      (pss_one (ps_ret (pe_tup (pa_cons (pv 7) (pa_cons (pv 8) (pa_cons (pe_call c_made.ok (hr.mono (by omega)) (by rfl) c_made.g c_made.kp c_made.b .nil pass0 (pa_cons (pv 0) (pa_cons (pv 1) (pa_cons (pv 2) (pa_cons (pe_op op_sub (pv 3) pe_int) pa_nil))))) pa_nil))))))))))))), ?_⟩
      refine body_ok h lenn_made fun as d as' hR => ?_
      obtain ⟨ns, k, nm, dp, rfl, rfl, rfl, h1, hn, hl⟩ := hR
      walk_at "body"
      obtain ⟨d, rfl⟩ : ∃ d, dp = d + 1 := ⟨dp - 1, by omega⟩
      have ev : ∀ x, madeS nm ns (d + 1) x = if d + 1 < 2 ∨ drawv ns x % 13 < 2 then (leafS nm (drawv ns x / 13), x + 1)
        else if isBin (kindJ (drawv ns x)) then (mkSay (kindJ (drawv ns x)) (madeS nm ns d (x + 1)).1 (madeS nm ns d (madeS nm ns d (x + 1)).2).1, (madeS nm ns d (madeS nm ns d (x + 1)).2).2)
        else (mkSay (kindJ (drawv ns x)) (madeS nm ns d (x + 1)).1 .yes, (madeS nm ns d (x + 1)).2) := fun _ => rfl
      rw [ev k]
      clear ev
      walk_at "set"
      walk_at "nrm"
      generalize hc : drawv ns k = c
      walk_at "set"
      walk_at "nrm"
      have n1 : 0 ≤ c % 13 := Int.emod_nonneg _ (by decide)
      have n2 : c % 13 < 13 := Int.emod_lt_of_pos _ (by decide)
      by_cases hq : d + 1 < 2 ∨ c % 13 < 2
      · rw [if_pos hq]
        refine' ex_yes (EvT.to (et_or (a := decide (((d + 1 : Nat) : Int) < 2)) (b := decide (c % 13 < 2)) ?a1 fun _ => ?a2) ?a3) ?a4 rfl
        case' a1 => walk_at "et"
        case' a2 => walk_at "et"
        case a3 =>
          rw [Bool.or_eq_true, decide_eq_true_eq, decide_eq_true_eq]
          omega
        case a4 =>
          have e9 : eqd (.int (c / 13 % 9)) (.int 4) = decide (c / 13 % 9 = 4) := by rw [eqd_int]; rfl
          walk_at "ifl"
          · intro h
            rw [e9, decide_eq_true_eq] at h
            have : leafS nm (c / 13) = .yes := if_pos h
            rw [this]
            exact ex_retW (ev_tupA (ea_d ev_str ea_nil) rfl (by decide : 1 ≤ 100000)) rfl (by walk_at "le")
          · intro h
            rw [e9, decide_eq_false_iff_not] at h
            have : leafS nm (c / 13) = .mark (nm.getD (c / 13 % 3).toNat "") := if_neg h
            rw [this]
            have m1 : 0 ≤ c / 13 % 3 := Int.emod_nonneg _ (by decide)
            have m2 : c / 13 % 3 < 3 := Int.emod_lt_of_pos _ (by decide)
            have hat : atI (nm.map Dat.str) (c / 13 % 3) = some (.str (nm.getD (c / 13 % 3).toNat "")) := by
              have hh := at_map (f := Dat.str) (xs := nm) (k := (c / 13 % 3).toNat) (x := nm.getD (c / 13 % 3).toNat "") (by rw [List.getD_eq_getElem?_getD, List.getElem?_eq_getElem (by omega)]; rfl)
              rwa [Int.toNat_of_nonneg m1] at hh
            exact ex_retW (ev_tupA (ea_d ev_str (ea_d (ev_ixL (el_d (ev_var rfl)) (ev_i (ev_var rfl) ev_int (by decide)) rfl hat) ea_nil)) rfl (by show 2 ≤ 100000; decide)) rfl (by walk_at "le")
      · rw [if_neg hq]
        refine' ex_no (EvT.to (et_or (a := decide (((d + 1 : Nat) : Int) < 2)) (b := decide (c % 13 < 2)) ?b1 fun _ => ?b2) ?b3) ?b4
        case' b1 => walk_at "et"
        case' b2 => walk_at "et"
        case b3 =>
          rw [Bool.or_eq_false_iff, decide_eq_false_iff_not, decide_eq_false_iff_not]
          omega
        case b4 =>
          have hj : kindJ c < 11 := by unfold kindJ; omega
          have hat : atI ((Txt.split "not and or next till always again till always next not" " ").map Dat.str) (c % 13 - 2) = some (.str (kindsL.getD (kindJ c) "")) := by
            rw [kinds_split]
            have hh := at_map (f := Dat.str) (xs := kindsL) (k := kindJ c) (x := kindsL.getD (kindJ c) "") (by rw [List.getD_eq_getElem?_getD, List.getElem?_eq_getElem (by exact hj)]; rfl)
            rwa [show ((kindJ c : Nat) : Int) = c % 13 - 2 by unfold kindJ; omega] at hh
          walk_at "set"
          walk_at "nrm"
          refine' ex_seq (ex_set (ev_ixL (el_d (ev_of_fresh (ef_split rfl (ev_var rfl) ev_str rfl (by decide +kernel)))) ?c1 rfl hat) ?c0) ?c2
          case' c1 => walk_at "ev"
          case' c0 => exact rfl
          walk_at "nrm"
          have hun := un_in hj
          have hmu := mk_un hj
          have hmb := mk_bin hj
          generalize kindJ c = j at *
          generalize kindsL.getD j "" = kind at *
          refine' ex_seq (ex_set (ev_call1 (i := 1) (k := 1) (s := .par 0 [.int (k + 1 : Nat)]) (ea_d (ev_var rfl) (ea_s ⟨_, rfl, rfl⟩ (ea_d (ev_var rfl) (ea_d (Ev.to (d := .int ((d + 1 : Nat) - 1 : Int)) (ev_i0 (ev_var rfl) ev_int) (congrArg Dat.int (by omega))) ea_nil)))) ?d2 rfl ⟨ns, k + 1, nm, d, rfl, rfl, rfl, by omega, by omega, hl⟩ rfl rfl rfl) rfl) ?d3
          case' d2 => exact ⟨rfl, rfl⟩
          walk_at "nrm"
          cases hb : isBin j with
          | false =>
            rw [if_neg (by decide)]
            rw [hb] at hun
            refine ex_yes (EvT.to (et_test (ev_inT (ds := unL) (ev_var rfl) (ev_tupA (ea_d ev_str (ea_d ev_str (ea_d ev_str (ea_d ev_str ea_nil)))) rfl (by show 4 ≤ 100000; decide)) rfl rfl)) hun) ?_ rfl
            refine ex_retW (ev_tupA (ea_d (ev_var rfl) (ea_d (ev_var rfl) ea_nil)) rfl (by show 2 ≤ 100000; decide)) ?_ (by walk_at "le")
            exact (hmu hb _ _).symm
          | true =>
            rw [if_pos rfl]
            rw [hb] at hun
            refine ex_no (EvT.to (et_test (ev_inT (ds := unL) (ev_var rfl) (ev_tupA (ea_d ev_str (ea_d ev_str (ea_d ev_str (ea_d ev_str ea_nil)))) rfl (by show 4 ≤ 100000; decide)) rfl rfl)) hun) ?_
            refine' ex_retW (ev_tupA (ea_d (ev_var rfl) (ea_d (ev_var rfl) (ea_d (ev_call1 (i := 1) (k := 1) (s := .par 0 [.int ((madeS nm ns d (k + 1)).2 : Nat)]) (ea_d (ev_var rfl) (ea_s ⟨_, rfl, rfl⟩ (ea_d (ev_var rfl) (ea_d (Ev.to (d := .int ((d + 1 : Nat) - 1 : Int)) (ev_i0 (ev_var rfl) ev_int) (congrArg Dat.int (by omega))) ea_nil)))) ?e2 rfl ⟨ns, (madeS nm ns d (k + 1)).2, nm, d, rfl, rfl, rfl, by omega, by omega, hl⟩ rfl rfl rfl) ea_nil))) rfl (by show 3 ≤ 100000; decide)) ?e3 (by walk_at "le")
            case' e2 => exact ⟨rfl, rfl⟩
            case e3 => exact (hmb hb _ _).symm
  exact key 6
def R_marks : List Sl → Dat → List Sl → Prop := fun as d as' => ∃ (ns : List Int) (k : Nat) (nm : List Str) (least : Nat), as = [.dat (.scr ns), .par 0 [.int k], .dat (.lst (nm.map Dat.str)), .dat (.int least)] ∧ d = .lst ((marksM nm ns k least 4).map Dat.str) ∧ as' = [.no, .par 0 [.int (k + 1 + marksN ns k least 4 : Nat)], .no, .no] ∧ nm.length = 3 ∧ least ≤ 100 ∧ ∀ x ∈ nm, x.length ≤ 6
theorem len_marks : ∀ as d as', R_marks as d as' → as.length = 4 := by
  rintro as d as' ⟨_, _, _, _, rfl, _⟩
  rfl
abbrev s_marks : Stmt := topS 27
theorem sc_marks : FnScope ["_law_script", "_law_spot", "_law_names_here", "_law_least", "_law_some", "_law_k"] ["_law_script", "_law_spot", "_law_names_here", "_law_least"] (defScope s_marks) := ⟨rfl, rfl, rfl, by decide +kernel, rfl, by decide +kernel, by decide +kernel⟩
theorem ok_marks {f : Addr} {fd : FuncData} (F : Fun K "_law_marks" "_law_marks" s_marks f fd) (T : Tx K mg) {a_draw : Addr} {fd_draw : FuncData} (c_draw : Cal P w K mg base "_law_draw" 1 ["_law_script", "_law_spot"] (spG K R_draw) a_draw fd_draw) : FnOk P w K mg base CX0 2 f fd ["_law_script", "_law_spot", "_law_names_here", "_law_least"] ((spG K R_marks)) := by
  have nd := sc_marks.nd
  refine F.ok sc_marks (spG_len len_marks) (fun cdv A outer s H vs Q E hr h => ?_)
  have hu := hr.units
  have hu5 := unit5 hr
  refine ⟨_, (pss_cons (ps_set (i := 4) nd rfl (by first | exact Or.inl rfl | exact Or.inr rfl) (pe_op op_cat (pe_op op_cat (pv 2) (pe_lst (pa_cons pe_str (pa_cons (pe_op op_add_str (pe_slice sl_str (pe_ix (kIxL K) (pv 2) pe_int (fun _ _ => rfl)) po_none (po_some pe_int)) pe_str) pa_nil)))) (pv 2)))
      (pss_one (ps_ret (pe_lc (own := [("_law_k", 5)]) (g := gName 5) (tt := tYes) (by rfl) nd (pi_range1 (by rfl) T.b_range (pa_cons (pe_op op_add (pv 3) (pe_op op_mod (pe_call c_draw.ok (hr.mono (by omega)) (by rfl) c_draw.g c_draw.kp c_draw.b .nil pass0 (pa_cons (pv 0) (pa_cons (pv 1) pa_nil))) pe_int)) pa_nil)) (blkOk_by (own := [("_law_k", 5)]) (N := ["_law_script", "_law_spot", "_law_names_here", "_law_least", "_law_some", "_law_k"]) (sc := defScope s_marks) (by decide +kernel)) (fun _ _ _ _ _ => pg_name (i := 5) nd rfl (by first | exact Or.inl rfl | exact Or.inr rfl)) (fun _ _ _ _ _ => pts_nil) (fun _ _ _ _ _ => (pe_ix (kIxL K) (pv 4) (pe_op op_mod (pe_call c_draw.ok (hr.mono (by omega)) (by rfl) c_draw.g c_draw.kp c_draw.b .nil pass0 (pa_cons (pv 0) (pa_cons (pv 1) pa_nil))) pe_int) (fun _ _ => rfl))))))), ?_⟩
  refine body_ok h len_marks fun as d as' hR => ?_
  obtain ⟨ns, k, nm, least, rfl, rfl, rfl, hl, hb, hx⟩ := hR
  walk_at "body"
  have hN := marksN_le ns k least (md := 4) (by decide)
  have h2 : atI (nm.map Dat.str) 2 = some (.str (nm.getD 2 "")) := at_map (k := 2) (by rw [List.getD_eq_getElem?_getD, List.getElem?_eq_getElem (by omega)]; rfl)
  have hx2 : (nm.getD 2 "").length ≤ 6 := by
    rw [List.getD_eq_getElem?_getD, List.getElem?_eq_getElem (by omega)]
    exact hx _ (List.getElem_mem _)
  have hcl := cut_len (nm.getD 2 "") none (some 1)
  have e8 : some8 nm = nm ++ two8 nm ++ nm := rfl
  have lz : ("zq" : Str).length = 2 := by decide +kernel
  refine ex_seq (ex_set (d := .lst ((some8 nm).map Dat.str)) (Ev.to (ev_cat (el_d (ev_cat (es := (two8 nm).map Dat.str) (el_d (ev_var rfl)) (el_d (ev_lstA (ea_d ev_str (ea_d (ev_cats rfl (ev_slS (ev_ixL (el_d (ev_var rfl)) ev_int rfl h2) eo_no (eo_some ev_int) (by omega)) ev_str (by rw [lz]; omega)) ea_nil)) rfl (by show 2 ≤ 100000; decide))) rfl rfl (by rw [List.length_map]; show _ + 2 ≤ _; omega))) (el_d (ev_var rfl)) rfl rfl (by rw [List.length_append, List.length_map]; show _ + 2 + _ ≤ _; omega)) (by rw [e8, List.map_append, List.map_append])) rfl) ?_
  walk_at "nrm"
  have h8 := some8_len hl
  show Ex K _ _ (.rt (.lst ((marksM nm ns k least 4).map Dat.str)) _)
  unfold marksM
  generalize some8 nm = s8 at *
  generalize hn : marksN ns k least 4 = n at *
  refine ex_retW (ev_of_fresh (ef_lcS (fun i => [.dat (.scr ns), .par 0 [.int (k + 1 + i : Nat)], .dat (.lst (nm.map Dat.str)), .dat (.int least), .dat (.lst (s8.map Dat.str)), .no]) (((List.range n).map fun j => s8.getD (drawv ns (k + 1 + j) % 8).toNat "").map Dat.str) (ds := rngD 0 n) ?_ (fun _ => rfl) (by rw [rngD_len, List.length_map, List.length_map, List.length_range]) (by rw [rngD_len]; omega) fun i d e hi he => ?_)) rfl (by rw [rngD_len]; walk_at "le")
  · have hd : (0 : Int) ≤ drawv ns k % (4 : Nat) := Int.emod_nonneg _ (by decide)
    have : Src K (iRng1 (tCons (tOp (rI0 fun i j => V.int (i + j)) (tVar 3) (tOp (rI (fun x j => 0 < j) fun i j => V.int (i % j)) (tCall (spG K R_draw) [] E0 (tCons (tVar 0) (tCons (tVar 1) tNil))) (tC (V.int 4)))) tNil)) [.dat (.scr ns), .par 0 [.int k], .dat (.lst (nm.map Dat.str)), .dat (.int least), .dat (.lst (s8.map Dat.str)), .no] (rngD 0 ((n : Nat) : Int).toNat) [.dat (.scr ns), .par 0 [.int (k + 1 : Nat)], .dat (.lst (nm.map Dat.str)), .dat (.int least), .dat (.lst (s8.map Dat.str)), .no] := by
      refine src_rng1 (n := (n : Nat)) (Ev.to (ev_i0 (ev_var rfl) (ev_i (ev_call1 (i := 1) (k := 1) (s := .par 0 [.int k]) (ea_d (ev_var rfl) (ea_s ⟨_, rfl, rfl⟩ ea_nil)) ?_ rfl ⟨ns, k, rfl, rfl, rfl⟩ rfl rfl rfl) ev_int (by decide))) ?_) (by omega) (by omega)
      · exact ⟨rfl, rfl⟩
      · refine congrArg Dat.int ?_
        rw [← hn]
        unfold marksN
        omega
    rw [Int.toNat_natCast] at this
    exact this
  · obtain ⟨hi2, rfl⟩ := rngD_get hi
    rw [List.getElem?_map, List.getElem?_map, List.getElem?_range hi2] at he
    cases he
    walk_at "nrm"
    have hat := at_mod8 h8 (drawv ns (k + 1 + i))
    rw [show k + 1 + (i + 1) = k + 1 + i + 1 by omega]
    refine ev_ixL (el_d (ev_var rfl)) (ev_i (ev_call1 (i := 1) (k := 1) (s := .par 0 [.int (k + 1 + i : Nat)]) (ea_d (ev_var rfl) (ea_s ⟨_, rfl, rfl⟩ ea_nil)) ?_ rfl ⟨ns, k + 1 + i, rfl, rfl, rfl⟩ rfl rfl rfl) ev_int (by decide)) rfl hat
    exact ⟨rfl, rfl⟩
theorem guess_unlike : ∀ n, n ≤ 4 → ((allG n).map bhash).Nodup := by
  intro n hn
  have h : n = 0 ∨ n = 1 ∨ n = 2 ∨ n = 3 ∨ n = 4 := by omega
  rcases h with rfl | rfl | rfl | rfl | rfl <;> decide +kernel
theorem guess_pow {n : Nat} (hn : n ≤ 4) : atI ([.int 1, .int 2, .int 4, .int 8, .int 16] : List Dat) (n : Int) = some (.int ((2 ^ n : Nat) : Int)) := by
  have h : n = 0 ∨ n = 1 ∨ n = 2 ∨ n = 3 ∨ n = 4 := by omega
  rcases h with rfl | rfl | rfl | rfl | rfl <;> rfl
def R_guesses_right : List Sl → Dat → List Sl → Prop := fun as d as' => ∃ (n : Nat), as = [.dat (.lst (guessesD n)), .dat (.int n)] ∧ d = .bl true ∧ as' = [.no, .no] ∧ n ≤ 4
theorem len_guesses_right : ∀ as d as', R_guesses_right as d as' → as.length = 2 := by
  rintro as d as' ⟨_, rfl, _⟩
  rfl
abbrev s_guesses_right : Stmt := topS 28
theorem sc_guesses_right : FnScope ["_law_found", "_law_many", "_law_guess", "_law_one"] ["_law_found", "_law_many"] (defScope s_guesses_right) := ⟨rfl, rfl, rfl, by decide +kernel, rfl, by decide +kernel, by decide +kernel⟩
theorem ok_guesses_right {f : Addr} {fd : FuncData} (F : Fun K "_law_guesses_right" "_law_guesses_right" s_guesses_right f fd) (T : Tx K mg)  : FnOk P w K mg base CX0 1 f fd ["_law_found", "_law_many"] ((spG K R_guesses_right)) := by
  have nd := sc_guesses_right.nd
  refine F.ok sc_guesses_right (spG_len len_guesses_right) (fun cdv A outer s H vs Q E hr h => ?_)
  have hu := hr.units
  have hu5 := unit5 hr
  refine ⟨_, (pss_cons (ps_if (PW.pt (pw_or (pt_not (pt_val (pe_callB (kIsi K) (by rfl) T.b_isinstance (by decide +kernel) (pa_cons (pv 0) (pa_cons (pe_bltn (v := .ty "list") (by rfl) T.b_list (by decide +kernel) rfl) pa_nil))))) (pw_or (pt_cmpR (kNeD K hu) (pe_callB (kLen K) (by rfl) T.b_len PySem.boot_len (pa_cons (pv 0) pa_nil)) (pe_ix (kIxL K) (pe_lst (pa_cons pe_int (pa_cons pe_int (pa_cons pe_int (pa_cons pe_int (pa_cons pe_int pa_nil)))))) (pv 1) (fun _ _ => rfl)) (nomark _)) (pw_or1 (pt_cmpR (kNeD K hu) (kLenSetB (K := K) (pe_lenSetB (by rfl) T.b_len (by rfl) T.b_set (pv 0) hu)) (pe_callB (kLen K) (by rfl) T.b_len PySem.boot_len (pa_cons (pv 0) pa_nil)) (nomark _)))))) (pss_one (ps_ret pe_bl)) pss_nil)
      (pss_cons (ps_for PassesOwn.never (by rfl) (kiList K (pi_list (pv 0))) (pg_name (i := 2) nd rfl (by first | exact Or.inl rfl | exact Or.inr rfl)) (pss_one (ps_if (PW.pt (pw_or (pt_not (pt_val (pe_callB (kIsi K) (by rfl) T.b_isinstance (by decide +kernel) (pa_cons (pv 2) (pa_cons (pe_bltn (v := .ty "tuple") (by rfl) T.b_tuple (by decide +kernel) rfl) pa_nil))))) (pw_or (pt_cmpR (kNeD K hu) (pe_callB (kLen K) (by rfl) T.b_len PySem.boot_len (pa_cons (pv 2) pa_nil)) (pv 1) (nomark _)) (pw_or1 (pt_cmpR (kInD K hu5) pe_bl (pe_lc (own := [("_law_one", 3)]) (g := gName 3) (tt := tYes) (by rfl) nd (kiTup K (pi_tup (pv 2))) (blkOk_by (own := [("_law_one", 3)]) (N := ["_law_found", "_law_many", "_law_guess", "_law_one"]) (sc := defScope s_guesses_right) (by decide +kernel)) (fun _ _ _ _ _ => pg_name (i := 3) nd rfl (by first | exact Or.inl rfl | exact Or.inr rfl)) (fun _ _ _ _ _ => pts_nil) (fun _ _ _ _ _ => (pe_callB (kIsi K) (by rfl) T.b_isinstance (by decide +kernel) (pa_cons (pv 3) (pa_cons (pe_bltn (v := .ty "bool") (by rfl) T.b_bool (by decide +kernel) rfl) pa_nil))))) (by with_unfolding_all rfl)))))) (pss_one (ps_ret pe_bl)) pss_nil)))
      (pss_one (ps_ret pe_bl)))), ?_⟩
  refine body_ok h len_guesses_right fun as d as' hR => ?_
  obtain ⟨n, rfl, rfl, rfl, hn⟩ := hR
  walk_at "body"
  have hl : (guessesD n).length = 2 ^ n := by unfold guessesD; rw [List.length_map, allG_len]
  have h16 : 2 ^ n ≤ 16 := Nat.pow_le_pow_right (by decide) hn
  have hset : Ev K (tLenSetB K (tVar 0)) [.dat (.lst (guessesD n)), .dat (.int n), .no, .no] (.int ((2 ^ n : Nat) : Int)) [.dat (.lst (guessesD n)), .dat (.int n), .no, .no] :=
    Ev.to (ev_lenSetB (gs := allG n) (el_d (ev_var rfl)) rfl (guess_unlike n hn) (by rw [allG_len]; omega)) (by rw [allG_len])
  have hlen : Ev K (tCB (rLenQ K) (tCons (tVar 0) tNil)) [.dat (.lst (guessesD n)), .dat (.int n), .no, .no] (.int ((2 ^ n : Nat) : Int)) [.dat (.lst (guessesD n)), .dat (.int n), .no, .no] :=
    Ev.to (ev_lenL (ds := guessesD n) rfl (el_d (ev_var rfl)) rfl) (by rw [hl])
  refine ex_no (EvT.to (et_or (et_not (et_B (ev_isi (T := "list") (b := true) (ev_var rfl) rfl rfl))) fun _ => et_or (et_test (ev_ne hlen (ev_ixL (ds := [.int 1, .int 2, .int 4, .int 8, .int 16]) (el_d (ev_lstA (ea_d ev_int (ea_d ev_int (ea_d ev_int (ea_d ev_int (ea_d ev_int ea_nil))))) rfl (by show 5 ≤ 100000; decide))) (ev_var rfl) rfl (guess_pow hn)) (by simp only [Shp]) (by simp only [Shp]))) fun _ => et_test (ev_ne hset hlen (by simp only [Shp]) (by simp only [Shp]))) (by rw [eqd_int]; simp)) ?_
  refine ex_seq (ex_for (n := (allG n).length) (ds := (allG n).map tupB) (fun _ => [.dat (.lst (guessesD n)), .dat (.int n), .no, .no]) (src_list (ev_var rfl) rfl) (fun _ => rfl) (by rw [List.length_map]; exact Nat.le_refl _) (fun i d hi hd => .inl ?_) (.done (by rw [List.length_map]))) (ex_retW ev_bl rfl (by walk_at "le"))
  have hpi : (allG n)[i]? = some (allG n)[i] := List.getElem?_eq_getElem hi
  rw [List.getElem?_map, hpi] at hd
  cases hd
  have hpm : (allG n)[i] ∈ allG n := List.getElem_mem hi
  generalize (allG n)[i] = g at *
  have hgl : g.length = n := allG_mem.mp hpm
  have hbl : (bls g).length = n := by unfold bls; rw [List.length_map, hgl]
  walk_at "nrm"
  refine ex_if (a := false) (EvT.to (et_or (et_not (et_B (ev_isi (T := "tuple") (b := true) (ev_var rfl) rfl rfl))) fun _ => et_or (et_test (ev_ne (d1 := .int n) (d2 := .int n) (Ev.to (ev_lenT rfl (ev_var rfl)) (by rw [hbl])) (ev_var rfl) (by simp only [Shp]) (by simp only [Shp]))) fun _ => et_test (ev_in (ds := (bls g).map fun _ => .bl true) ev_bl (el_d (ev_of_fresh (ef_lcMap (fun _ => .bl true) (src_tup (ev_var rfl)) rfl (by omega) fun d hd => ?_))) rfl (by simp only [Shp]) (shpAll_of fun d hd => ?_))) ?_) (fun q => by cases q) fun _ => Ex.weak ex_next (by walk_at "le")
  · obtain ⟨b, _, rfl⟩ := List.mem_map.mp hd
    exact ev_isi (T := "bool") (ev_var rfl) rfl rfl
  · obtain ⟨b, _, rfl⟩ := List.mem_map.mp hd
    simp only [Shp]
  · rw [eqd_int]
    have : (((bls g).map fun _ => Dat.bl true).any fun e => eqd e (.bl false)) = false := by
      rw [List.any_eq_false]
      intro d hd
      obtain ⟨b, _, rfl⟩ := List.mem_map.mp hd
      rw [eqd_bl]
      decide
    rw [this]
    simp
theorem take_next' {α : Type} {l : List α} {i : Nat} {x : α} (h : l[i]? = some x) : l.take (i + 1) = l.take i ++ [x] := by
  rw [List.take_add_one, h]
  rfl
theorem allS_take (s : Say) (i : Nat) : (s :: (s.parts.take i).flatMap allS).length ≤ s.size := by
  rw [← allS_len, allS_parts s]
  conv => rhs; rw [← List.take_append_drop i s.parts, List.flatMap_append]
  simp only [List.length_cons, List.length_append]
  omega
theorem size_small {s : Say} (h : s.dep ≤ 7) : s.size ≤ 127 := by
  have h2 := size_dep s
  have h3 : 2 ^ s.dep ≤ 2 ^ 7 := Nat.pow_le_pow_right (by decide) h
  have h4 : (2 : Nat) ^ 7 = 128 := by decide
  omega
theorem cut1_args' (s : Say) : cutD (Dat.str s.kind :: s.args) (some 1) none = s.args := by
  have := cutD_from (Dat.str s.kind :: s.args) 1
  exact this
def Rn_all (n : Nat) : List Sl → Dat → List Sl → Prop := fun as d as' => ∃ (s : Say), as = [.dat s.d] ∧ d = .lst ((allS s).map Say.d) ∧ as' = [.no] ∧ s.dep ≤ n ∧ s.dep ≤ 7 ∧ s.Ok
theorem lenn_all {n : Nat} : ∀ as d as', Rn_all n as d as' → as.length = 1 := by
  rintro as d as' ⟨_, rfl, _⟩
  rfl
def R_all := Rn_all 7
theorem len_all : ∀ as d as', R_all as d as' → as.length = 1 := lenn_all
abbrev s_all : Stmt := topS 18
theorem sc_all : FnScope ["_law_saying", "_law_found", "_law_part"] ["_law_saying"] (defScope s_all) := ⟨rfl, rfl, rfl, by decide +kernel, rfl, by decide +kernel, by decide +kernel⟩
theorem ok_all {f : Addr} {fd : FuncData} (F : Fun K "_law_all" "_law_all" s_all f fd) (T : Tx K mg) (g_self : mg "_law_all" = some (.ref f)) (k_self : PySem.W.keepIn K (.ref f) = true) (b_self : Binds K fd ["_law_saying"] [])  : FnOk P w K mg base CX0 8 f fd ["_law_saying"] ((spG K R_all)) := by
  have nd := sc_all.nd
  have key : ∀ n : Nat, FnOk P w K mg base CX0 (1 + n) f fd ["_law_saying"] (spG K (Rn_all n)) := by
    intro n
    induction n with
    | zero =>
      have no : ∀ as d as', Rn_all 0 as d as' → False := by
          rintro as d as' ⟨s, rfl, rfl, h, _⟩
          have := dep_pos s
          omega
      exact F.ok sc_all (spG_len lenn_all) (fun cdv A outer s H vs Q E hr h => by obtain ⟨_, _, _, _, _, r, _⟩ := h; exact (no _ _ _ r).elim)
    | succ n ih =>
      have c_all : Cal P w K mg base "_law_all" (1 + n) ["_law_saying"] (spG K (Rn_all n)) f fd := ⟨g_self, k_self, b_self, ih⟩
      refine F.ok (k := 1 + n) sc_all (spG_len lenn_all) (fun cdv A outer s H vs Q E hr h => ?_)
      have hu := hr.units
      have hu5 := unit5 hr
      refine ⟨_, (pss_cons (ps_set (i := 1) nd rfl (by first | exact Or.inl rfl | exact Or.inr rfl) (pe_lst (pa_cons (pv 0) pa_nil)))
      (pss_cons (ps_for PassesOwn.never (by rfl) (kiTup K (pi_tup (pe_slice (kSlA K) (pv 0) (po_some pe_int) po_none))) (pg_name (i := 2) nd rfl (by first | exact Or.inl rfl | exact Or.inr rfl)) (pss_one (ps_if (pt_val (pe_callB (kIsi K) (by rfl) T.b_isinstance (by decide +kernel) (pa_cons (pv 2) (pa_cons (pe_bltn (v := .ty "tuple") (by rfl) T.b_tuple (by decide +kernel) rfl) pa_nil)))) (pss_one (ps_set (i := 1) nd rfl (by first | exact Or.inl rfl | exact Or.inr rfl) (pe_op op_cat (pv 1) (pe_call c_all.ok (hr.mono (by omega)) (by rfl) c_all.g c_all.kp c_all.b .nil pass0 (pa_cons (pv 2) pa_nil))))) pss_nil)))
      (pss_one (ps_ret (pv 1))))), ?_⟩
      refine body_ok h lenn_all fun as d as' hR => ?_
      obtain ⟨s, rfl, rfl, rfl, hn, h6, ok⟩ := hR
      walk_at "body"
      have hsz := size_small h6
      refine ex_seq (ex_set (d := .lst [s.d]) (ev_lstA (ea_d (ev_var rfl) ea_nil) rfl (by show 1 ≤ 100000; decide)) rfl) ?_
      walk_at "nrm"
      have hsl : ∀ (x : Sl), Ev K (tSl (rSlA K) (tVar 0) (tPart (tC (V.int 1))) tNoPart) [.dat s.d, x, .no] (.tup s.args) [.dat s.d, x, .no] := fun x => by
        rw [say_args s]
        have := ev_slA (K := K) (lo := some 1) (hi := none) (ev_var (ρ := [.dat (.tup (.str s.kind :: s.args)), x, .no]) (i := 0) (d := .tup (.str s.kind :: s.args)) rfl) (eo_some ev_int) eo_no
        rwa [cut1_args'] at this
      by_cases hk : s.kn = 0
      · obtain ⟨m, rfl⟩ : ∃ m, s = .mark m := by
          cases s <;> first | exact ⟨_, rfl⟩ | (simp [Say.kn] at hk)
        refine ex_seq (ex_for (n := 1) (ds := [.str m]) (fun _ => [.dat (Say.mark m).d, .dat (.lst [(Say.mark m).d]), .no]) (src_tup (hsl _)) (fun _ => rfl) (Nat.le_refl _) (fun i d hi hd => .inl ?_) (.done rfl)) (ex_retW (ev_var rfl) rfl (by walk_at "le"))
        have hi0 : i = 0 := by omega
        subst hi0
        cases hd
        walk_at "nrm"
        refine ex_if (a := false) (et_B (ev_isi (T := "str") (ev_var rfl) rfl rfl)) (fun q => by cases q) fun _ => Ex.weak ex_next (by walk_at "le")
      · have ha : s.args = s.parts.map Say.d := by cases s <;> first | rfl | (exact absurd rfl hk)
        rw [ha] at hsl
        refine ex_seq (ex_for (n := s.parts.length) (ds := s.parts.map Say.d) (fun i => [.dat s.d, .dat (.lst ((s :: (s.parts.take i).flatMap allS).map Say.d)), .no]) (src_tup (hsl _)) (fun _ => rfl) (by rw [List.length_map]; exact Nat.le_refl _) (fun i d hi hd => .inl ?_) (.done (by rw [List.length_map]))) ?_
        · have hpi : s.parts[i]? = some s.parts[i] := List.getElem?_eq_getElem hi
          rw [List.getElem?_map, hpi] at hd
          cases hd
          have hpm : s.parts[i] ∈ s.parts := List.getElem_mem hi
          have hl := allS_take s (i + 1)
          rw [take_next' hpi] at hl ⊢
          generalize s.parts[i] = p at *
          have hpd := part_dep hpm
          have e : (s :: (s.parts.take i ++ [p]).flatMap allS).map Say.d = (s :: (s.parts.take i).flatMap allS).map Say.d ++ (allS p).map Say.d := by
            simp [List.flatMap_append]
          have el : (s :: (s.parts.take i ++ [p]).flatMap allS).length = (s :: (s.parts.take i).flatMap allS).length + (allS p).length := by
            simp [List.flatMap_append]; omega
          rw [e]
          walk_at "nrm"
          refine ex_if (a := true) (et_B (ev_isi (T := "tuple") (ev_var rfl) (by cases p <;> rfl) rfl)) (fun _ => ?_) fun q => by cases q
          refine Ex.weak (ex_set (ev_of_fresh (ef_cat (el_d (ev_var rfl)) (el_d (ev_callA (ea_d (ev_var rfl) ea_nil) rfl ⟨p, rfl, rfl, rfl, by omega, by omega, part_ok hpm ok⟩)) rfl rfl (by rw [List.length_map, List.length_map]; omega))) rfl) (by walk_at "nrm"; walk_at "le")
        · rw [List.take_length, ← allS_parts]
          exact ex_retW (ev_var rfl) rfl (by walk_at "le")
  exact key 7

def tillR (xs gs : List Bool) (back : Nat) : List Bool := (List.range gs.length).map fun t => passF (fun k => xs.getD k false) (fun k => gs.getD k false) ((List.range (gs.length - t)).map (t + ·) ++ (List.range (gs.length - back)).map (back + ·)) false
theorem passF_down (a g : Nat → Bool) (lo n : Nat) (z : Bool) : passF a g ((List.range (n + 1)).map (lo + ·)) z = (g lo || (a lo && passF a g ((List.range n).map (lo + 1 + ·)) z)) := by
  rw [List.range_succ_eq_map, List.map_cons, List.map_map]
  have e : (List.range n).map ((lo + ·) ∘ Nat.succ) = (List.range n).map (lo + 1 + ·) := List.map_congr_left fun k _ => by show lo + (k + 1) = lo + 1 + k; omega
  rw [e]
  show (g (lo + 0) || (a (lo + 0) && _)) = _
  rw [Nat.add_zero]
  rfl
theorem map_down {α : Type} (f : Nat → α) (L : Nat) : ((List.range L).map fun j => f (L - 1 - j)).reverse = (List.range L).map f := by
  refine List.ext_getElem (by rw [List.length_reverse, List.length_map, List.length_map]) fun i h1 h2 => ?_
  rw [List.length_map, List.length_range] at h2
  rw [List.getElem_reverse, List.getElem_map, List.getElem_map, List.getElem_range, List.getElem_range, List.length_map, List.length_range]
  exact congrArg f (by omega)

theorem zip_bls (f : Bool → Bool → Bool) (xs ys : List Bool) (g : Dat → Dat → Dat) (h : ∀ a b, g (.bl a) (.bl b) = .bl (f a b)) : ((bls xs).zip (bls ys)).map (fun p => g p.1 p.2) = bls (List.zipWith f xs ys) := by
  unfold bls
  induction xs generalizing ys with
  | nil => rfl
  | cons x xs ih =>
    cases ys with
    | nil => rfl
    | cons y ys =>
      rw [List.map_cons, List.map_cons, List.zip_cons_cons, List.map_cons, ih, List.zipWith_cons_cons, List.map_cons]
      exact congrArg (· :: _) (h x y)
theorem zipD_zip (xs ys : List Dat) : zipD xs ys = (xs.zip ys).map fun p => .tup [p.1, p.2] := by
  unfold zipD
  rw [List.zip_eq_zipWith, List.map_zipWith]
def binD (f : Bool → Bool → Bool) : Dat → Dat → Dat := fun a b => match a, b with
  | .bl a, .bl b => .bl (f a b)
  | _, _ => .non
theorem zip_mem_bls {xs ys : List Bool} {p : Dat × Dat} (h : p ∈ (bls xs).zip (bls ys)) : ∃ a b, p = (.bl a, .bl b) := by
  obtain ⟨a, b⟩ := p
  have := List.of_mem_zip h
  obtain ⟨x, _, hx⟩ := List.mem_map.mp this.1
  obtain ⟨y, _, hy⟩ := List.mem_map.mp this.2
  exact ⟨x, y, by rw [← hx, ← hy]⟩
theorem tillR_row (s u : Say) (way ring : List Str) (hr : 1 ≤ ring.length) : tillR (rowB s way ring) (rowB u way ring) way.length = rowB (.till s u) way ring := by
  have l1 := rowB_len u way ring
  refine row_ext (by unfold tillR; rw [List.length_map, List.length_range, l1]) fun t ht => ?_
  unfold tillR
  rw [l1, List.getElem?_map, List.getElem?_range ht]
  refine congrArg some ?_
  rw [← till_after way ring s u hr (Nat.le_of_lt ht)]
  unfold after
  have e : way.length + ring.length - way.length = ring.length := by omega
  rw [e]
  have key : ∀ (v : Say) (k : Nat), k < way.length + ring.length → (rowB v way ring).getD k false = hb (wd way ring) v k := fun v k hk => by
    rw [List.getD_eq_getElem?_getD, rowB_get v way ring hk]
    rfl
  have cong : ∀ (ks : List Nat), (∀ k ∈ ks, k < way.length + ring.length) → passF (fun k => (rowB s way ring).getD k false) (fun k => (rowB u way ring).getD k false) ks false = passF (hb (wd way ring) s) (hb (wd way ring) u) ks false := fun ks => by
    induction ks with
    | nil => intro _; rfl
    | cons k ks ih =>
      intro h
      show ((rowB u way ring).getD k false || ((rowB s way ring).getD k false && passF _ _ ks false)) = (hb (wd way ring) u k || (hb (wd way ring) s k && passF _ _ ks false))
      rw [ih fun j hj => h j (List.mem_cons_of_mem _ hj), key u k (h k List.mem_cons_self), key s k (h k List.mem_cons_self)]
  refine cong _ fun k hk => ?_
  rcases List.mem_append.mp hk with hk | hk
  · obtain ⟨j, hj, rfl⟩ := List.mem_map.mp hk
    rw [List.mem_range] at hj
    show t + j < _
    omega
  · obtain ⟨j, hj, rfl⟩ := List.mem_map.mp hk
    rw [List.mem_range] at hj
    show way.length + j < _
    omega
theorem always_row (s : Say) (way ring : List Str) (hr : 1 ≤ ring.length) : (tillR (List.replicate (rowB s way ring).length true) ((rowB s way ring).map fun b => !b) way.length).map (fun b => !b) = rowB (.always s) way ring := by
  rw [rowB_len, row_yes way ring, row_not, tillR_row .yes (.not s) way ring hr]
  unfold rowB
  rw [List.map_map]
  refine List.map_congr_left fun t _ => ?_
  exact (always_till _ s t).symm
theorem again_row (s : Say) (way ring : List Str) (hr : 1 ≤ ring.length) : List.replicate (way.length + ring.length) (((rowB s way ring).drop way.length).any id) = rowB (.again s) way ring := by
  refine row_ext (by rw [List.length_replicate]) fun t ht => ?_
  rw [List.getElem?_replicate, if_pos ht, again_ring way ring s hr t]
theorem next_row (s : Say) (way ring : List Str) (hr : 1 ≤ ring.length) : (rowB s way ring).drop 1 ++ [(rowB s way ring).getD way.length false] = rowB (.next s) way ring := by
  rw [← row_next s way ring hr, List.getD_eq_getElem?_getD, rowB_get s way ring (by omega)]
  rfl
theorem kindOk : ∀ x ∈ ([("mark" : Str), "yes", "not", "and", "or", "next", "till", "always", "again"] : List Str), PyData.strOk x = true := by decide +kernel
def afterD (way ring : List Str) (t : Nat) : Dat := intsN (after way ring t)
def R_after : List Sl → Dat → List Sl → Prop := fun as d as' => ∃ (way ring : List Str) (t : Nat), as = [.dat (.lst (way.map Dat.str)), .dat (.lst (ring.map Dat.str)), .dat (.int t)] ∧ d = afterD way ring t ∧ as' = [.no, .no, .no] ∧ way.length + ring.length ≤ 1000 ∧ t ≤ 1000
theorem len_after : ∀ as d as', R_after as d as' → as.length = 3 := by
  rintro as d as' ⟨_, _, _, rfl, _⟩
  rfl
abbrev s_after : Stmt := topS 21
theorem sc_after : FnScope ["_law_way", "_law_ring", "_law_at", "_law_size", "_law_k"] ["_law_way", "_law_ring", "_law_at"] (defScope s_after) := ⟨rfl, rfl, rfl, by decide +kernel, rfl, by decide +kernel, by decide +kernel⟩
theorem ok_after {f : Addr} {fd : FuncData} (F : Fun K "_law_after" "_law_after" s_after f fd) (T : Tx K mg)  : FnOk P w K mg base CX0 1 f fd ["_law_way", "_law_ring", "_law_at"] ((spG K R_after)) := by
  have nd := sc_after.nd
  refine F.ok sc_after (spG_len len_after) (fun cdv A outer s H vs Q E hr h => ?_)
  have hu := hr.units
  have hu5 := unit5 hr
  refine ⟨_, (pss_cons (ps_set (i := 3) nd rfl (by first | exact Or.inl rfl | exact Or.inr rfl) (pe_op op_add (pe_callB (kLen K) (by rfl) T.b_len PySem.boot_len (pa_cons (pv 0) pa_nil)) (pe_callB (kLen K) (by rfl) T.b_len PySem.boot_len (pa_cons (pv 1) pa_nil))))
      (pss_one (ps_ret (pe_op op_cat (pe_lc (own := [("_law_k", 4)]) (g := gName 4) (tt := tYes) (by rfl) nd (pi_range2 (by rfl) T.b_range (pa_cons (pv 2) (pa_cons (pv 3) pa_nil))) (blkOk_by (own := [("_law_k", 4)]) (N := ["_law_way", "_law_ring", "_law_at", "_law_size", "_law_k"]) (sc := defScope s_after) (by decide +kernel)) (fun _ _ _ _ _ => pg_name (i := 4) nd rfl (by first | exact Or.inl rfl | exact Or.inr rfl)) (fun _ _ _ _ _ => pts_nil) (fun _ _ _ _ _ => (pv 4))) (pe_lc (own := [("_law_k", 4)]) (g := gName 4) (tt := tYes) (by rfl) nd (pi_range2 (by rfl) T.b_range (pa_cons (pe_callB (kLen K) (by rfl) T.b_len PySem.boot_len (pa_cons (pv 0) pa_nil)) (pa_cons (pv 3) pa_nil))) (blkOk_by (own := [("_law_k", 4)]) (N := ["_law_way", "_law_ring", "_law_at", "_law_size", "_law_k"]) (sc := defScope s_after) (by decide +kernel)) (fun _ _ _ _ _ => pg_name (i := 4) nd rfl (by first | exact Or.inl rfl | exact Or.inr rfl)) (fun _ _ _ _ _ => pts_nil) (fun _ _ _ _ _ => (pv 4))))))), ?_⟩
  refine body_ok h len_after fun as d as' hR => ?_
  obtain ⟨way, ring, t, rfl, rfl, rfl, hl, ht⟩ := hR
  walk_at "body"
  refine ex_seq (ex_set (d := .int (way.length + ring.length : Nat)) (Ev.to (ev_i0 (ev_lenL (ds := way.map Dat.str) rfl (el_d (ev_var rfl)) rfl) (ev_lenL (ds := ring.map Dat.str) rfl (el_d (ev_var rfl)) rfl)) (by rw [List.length_map, List.length_map, Int.natCast_add])) rfl) ?_
  walk_at "nrm"
  have rng : ∀ (i : Nat) (lo hi : Nat) (e : TE) (ρ : List Sl), ρ.length = 5 → ρ[4]? = some .no → Ev K e ρ (.int lo) ρ → ρ[3]? = some (.dat (.int hi)) → lo ≤ 1000 → hi ≤ 1000 →
      Ev K (tLc (iRng2 (tCons e (tCons (tVar 3) tNil))) (gName 4) tYes (tVar 4) [4]) ρ (intsN ((List.range (hi - lo)).map (lo + ·))) (wipeS ρ [4]) := fun i lo hi e ρ hlen h4 he h3 hlo hhi => by
    have hm : (rngD lo ((hi : Int) - lo).toNat).map (fun d => d) = ((List.range (hi - lo)).map (lo + ·)).map fun k => .int ((k : Nat) : Int) := by
      rw [List.map_id']
      unfold rngD
      rw [List.map_map, show ((hi : Int) - lo).toNat = hi - lo by omega]
      refine List.map_congr_left fun k _ => ?_
      show Dat.int ((lo : Int) + (k : Nat)) = .int ((lo + k : Nat) : Int)
      rw [Int.natCast_add]
    unfold intsN
    rw [← hm]
    exact ev_of_fresh (ef_lcMap (fun d => d) (src_rng2 he (ev_var h3) (by omega) (by omega) (by omega) (by omega)) (isSome_of_lt (by omega)) (by rw [rngD_len]; omega) fun d hd => ev_var (by
      show (((ρ.set 4 .no).set 4 (.dat d))[4]?) = _
      rw [List.set_set, List.getElem?_set_self (by omega)]))
  have e1 := rng 0 t (way.length + ring.length) (tVar 2) [.dat (.lst (way.map Dat.str)), .dat (.lst (ring.map Dat.str)), .dat (.int t), .dat (.int (way.length + ring.length : Nat)), .no] rfl rfl (ev_var rfl) rfl ht hl
  have e2 := rng 0 way.length (way.length + ring.length) (tCB (rLenQ K) (tCons (tVar 0) tNil)) [.dat (.lst (way.map Dat.str)), .dat (.lst (ring.map Dat.str)), .dat (.int t), .dat (.int (way.length + ring.length : Nat)), .no] rfl rfl (Ev.to (ev_lenL (ds := way.map Dat.str) rfl (el_d (ev_var rfl)) rfl) (by rw [List.length_map])) rfl (by omega) hl
  refine ex_retW (ev_cat (el_d e1) (el_d e2) rfl rfl ?_) ?_ (by walk_at "le")
  · rw [List.length_map, List.length_map, List.length_map, List.length_map, List.length_range, List.length_range]
    omega
  · unfold afterD after intsN
    rw [← List.map_append, show way.length + ring.length - way.length = ring.length by omega]
def R_till : List Sl → Dat → List Sl → Prop := fun as d as' => ∃ (xs gs : List Bool) (ks : List Nat), as = [.dat (.lst (bls xs)), .dat (.lst (bls gs)), .dat (intsN ks)] ∧ d = .bl (passF (fun k => xs.getD k false) (fun k => gs.getD k false) ks false) ∧ as' = [.no, .no, .no] ∧ ∀ k ∈ ks, k < xs.length ∧ k < gs.length
theorem len_till : ∀ as d as', R_till as d as' → as.length = 3 := by
  rintro as d as' ⟨_, _, _, rfl, _⟩
  rfl
abbrev s_till : Stmt := topS 22
theorem sc_till : FnScope ["_law_ones", "_law_others", "_law_moments", "_law_k"] ["_law_ones", "_law_others", "_law_moments"] (defScope s_till) := ⟨rfl, rfl, rfl, by decide +kernel, rfl, by decide +kernel, by decide +kernel⟩
theorem ok_till {f : Addr} {fd : FuncData} (F : Fun K "_law_till" "_law_till" s_till f fd) (T : Tx K mg)  : FnOk P w K mg base CX0 1 f fd ["_law_ones", "_law_others", "_law_moments"] ((spG K R_till)) := by
  have nd := sc_till.nd
  refine F.ok sc_till (spG_len len_till) (fun cdv A outer s H vs Q E hr h => ?_)
  have hu := hr.units
  have hu5 := unit5 hr
  refine ⟨_, (pss_cons (ps_for PassesOwn.never (by rfl) (kiList K (pi_list (pv 2))) (pg_name (i := 3) nd rfl (by first | exact Or.inl rfl | exact Or.inr rfl)) (pss_cons (ps_if (pt_val (pe_ix (kIxL K) (pv 1) (pv 3) (fun _ _ => rfl))) (pss_one (ps_ret pe_bl)) pss_nil)
      (pss_one (ps_if (pt_not (pt_val (pe_ix (kIxL K) (pv 0) (pv 3) (fun _ _ => rfl)))) (pss_one (ps_ret pe_bl)) pss_nil))))
      (pss_one (ps_ret pe_bl))), ?_⟩
  refine body_ok h len_till fun as d as' hR => ?_
  obtain ⟨xs, gs, ks, rfl, rfl, rfl, hk⟩ := hR
  walk_at "body"
  let p : Dat → Bool := fun d => match d with | .int i => gs.getD i.toNat false || !xs.getD i.toNat false | _ => false
  let r : Dat → Dat := fun d => match d with | .int i => .bl (gs.getD i.toNat false) | _ => .non
  have hv : passF (fun k => xs.getD k false) (fun k => gs.getD k false) ks false = match (ks.map fun k => Dat.int ((k : Nat) : Int)).find? p with | some (.int i) => gs.getD i.toNat false | _ => false := by
    clear hk
    induction ks with
    | nil => rfl
    | cons k ks ih =>
      show (gs.getD k false || (xs.getD k false && passF _ _ ks false)) = _
      rw [ih, List.map_cons, List.find?_cons]
      have hp : p (.int ((k : Nat) : Int)) = (gs.getD k false || !xs.getD k false) := by
        show (gs.getD ((k : Nat) : Int).toNat false || !xs.getD ((k : Nat) : Int).toNat false) = _
        rw [Int.toNat_natCast]
      rw [hp]
      cases hg : gs.getD k false with
      | true =>
        show true = gs.getD ((k : Nat) : Int).toNat false
        rw [Int.toNat_natCast, hg]
      | false =>
        cases hx : xs.getD k false with
        | true => rfl
        | false =>
          show false = gs.getD ((k : Nat) : Int).toNat false
          rw [Int.toNat_natCast, hg]
  have at1 : ∀ k ∈ ks, atI (bls gs) ((k : Nat) : Int) = some (.bl (gs.getD k false)) := fun k h => at_bls (hk k h).2
  have at0 : ∀ k ∈ ks, atI (bls xs) ((k : Nat) : Int) = some (.bl (xs.getD k false)) := fun k h => at_bls (hk k h).1
  have hloop := ex_forFind (K := K) (wi := iList K (tVar 2)) (x := 3) (ρ := [.dat (.lst (bls xs)), .dat (.lst (bls gs)), .dat (intsN ks), .no]) (ρ1 := [.dat (.lst (bls xs)), .dat (.lst (bls gs)), .no, .no]) (ρ' := [.no, .no, .no, .no]) (ds := ks.map fun k => Dat.int ((k : Nat) : Int)) (tbd := tSeq (tIfS (tB (tOp (rIxL K) (tVar 1) (tVar 3))) (tRet (tC (V.bl true))) tNext) (tIfS (tNot (tB (tOp (rIxL K) (tVar 0) (tVar 3)))) (tRet (tC (V.bl false))) tNext)) p r (src_list (ev_var rfl) rfl) (by walk_at "le") (by show 3 < 4; decide) (fun d hd hp => ?_) (fun d hd hp => ?_)
  · cases e : (ks.map fun k => Dat.int ((k : Nat) : Int)).find? p with
    | none =>
      rw [e] at hloop hv
      rw [hv]
      exact ex_seq hloop (ex_retW ev_bl rfl (by walk_at "le"))
    | some d =>
      obtain ⟨k, hk2, rfl⟩ := List.mem_map.mp (List.mem_of_find?_eq_some e)
      rw [e] at hloop hv
      rw [hv]
      exact ex_seqRt hloop
  · obtain ⟨k, hk2, rfl⟩ := List.mem_map.mp hd
    have hp : (gs.getD ((k : Nat) : Int).toNat false || !xs.getD ((k : Nat) : Int).toNat false) = false := hp
    rw [Int.toNat_natCast, Bool.or_eq_false_iff] at hp
    have hx : xs.getD k false = true := by simpa using hp.2
    walk_at "nrm"
    refine ex_no (EvT.to (et_B (ev_ixL (el_d (ev_var rfl)) (ev_var rfl) rfl (at1 k hk2))) hp.1) ?_
    exact ex_if (a := false) (EvT.to (et_not (et_B (ev_ixL (el_d (ev_var rfl)) (ev_var rfl) rfl (at0 k hk2)))) (by rw [hx]; rfl)) (fun q => by cases q) fun _ => Ex.weak ex_next (by walk_at "le")
  · obtain ⟨k, hk2, rfl⟩ := List.mem_map.mp hd
    have hp : (gs.getD ((k : Nat) : Int).toNat false || !xs.getD ((k : Nat) : Int).toNat false) = true := hp
    show Ex K _ _ (.rt (.bl (gs.getD ((k : Nat) : Int).toNat false)) _)
    rw [Int.toNat_natCast] at hp ⊢
    walk_at "nrm"
    cases hg : gs.getD k false with
    | true => exact ex_yes (EvT.to (et_B (ev_ixL (el_d (ev_var rfl)) (ev_var rfl) rfl (at1 k hk2))) hg) (ex_retW ev_bl rfl (by walk_at "le")) rfl
    | false =>
      rw [hg, Bool.false_or] at hp
      refine ex_no (EvT.to (et_B (ev_ixL (el_d (ev_var rfl)) (ev_var rfl) rfl (at1 k hk2))) hg) ?_
      exact ex_if (a := true) (EvT.to (et_not (et_B (ev_ixL (el_d (ev_var rfl)) (ev_var rfl) rfl (at0 k hk2)))) hp) (fun _ => ex_retW ev_bl rfl (by walk_at "le")) fun q => by cases q
theorem after_lt {way ring : List Str} {t k : Nat} (h : k ∈ after way ring t) : k < way.length + ring.length := by
  rcases List.mem_append.mp h with h | h
  · obtain ⟨j, hj, rfl⟩ := List.mem_map.mp h
    rw [List.mem_range] at hj
    show t + j < _
    omega
  · obtain ⟨j, hj, rfl⟩ := List.mem_map.mp h
    rw [List.mem_range] at hj
    show way.length + j < _
    omega
theorem after_one (way ring : List Str) (hr : 1 ≤ ring.length) {t : Nat} (ht : t < way.length + ring.length) : (after way ring t)[1]? = some (nxt way ring t) := by
  unfold after nxt
  by_cases h : t + 1 < way.length + ring.length
  · rw [if_pos h, List.getElem?_append_left (by rw [List.length_map, List.length_range]; omega), List.getElem?_map, List.getElem?_range (by omega)]
    rfl
  · rw [if_neg h, List.getElem?_append_right (by rw [List.length_map, List.length_range]; omega), List.length_map, List.length_range, show 1 - (way.length + ring.length - t) = 0 by omega, List.getElem?_map, List.getElem?_range hr]
    rfl
theorem till_rows (s u : Say) (way ring : List Str) (hr : 1 ≤ ring.length) {t : Nat} (ht : t < way.length + ring.length) : passF (fun k => (rowB s way ring).getD k false) (fun k => (rowB u way ring).getD k false) (after way ring t) false = hb (wd way ring) (.till s u) t := by
  rw [← till_after way ring s u hr (Nat.le_of_lt ht)]
  have key : ∀ (v : Say) (k : Nat), k < way.length + ring.length → (rowB v way ring).getD k false = hb (wd way ring) v k := fun v k hk => by
    rw [List.getD_eq_getElem?_getD, rowB_get v way ring hk]
    rfl
  have cong : ∀ (ks : List Nat), (∀ k ∈ ks, k < way.length + ring.length) → passF (fun k => (rowB s way ring).getD k false) (fun k => (rowB u way ring).getD k false) ks false = passF (hb (wd way ring) s) (hb (wd way ring) u) ks false := fun ks => by
    induction ks with
    | nil => intro _; rfl
    | cons k ks ih =>
      intro h
      show ((rowB u way ring).getD k false || ((rowB s way ring).getD k false && passF _ _ ks false)) = (hb (wd way ring) u k || (hb (wd way ring) s k && passF _ _ ks false))
      rw [ih fun j hj => h j (List.mem_cons_of_mem _ hj), key u k (h k List.mem_cons_self), key s k (h k List.mem_cons_self)]
  exact cong _ fun k hk => after_lt hk
theorem always_rows (s : Say) (way ring : List Str) (hr : 1 ≤ ring.length) {t : Nat} (ht : t < way.length + ring.length) : ((after way ring t).map fun k => hb (wd way ring) s k).all id = hb (wd way ring) (.always s) t := by
  rw [← always_after way ring s hr (Nat.le_of_lt ht), List.all_map]
  rfl
def Rn_means (n : Nat) : List Dat → List Dat → Prop := fun as ds => ∃ (s : Say) (way ring : List Str), as = [s.d, .lst (way.map Dat.str), .lst (ring.map Dat.str)] ∧ ds = bls (rowB s way ring) ∧ s.dep ≤ n ∧ s.Ok ∧ 1 ≤ ring.length ∧ way.length + ring.length ≤ 1000 ∧ Strs (way ++ ring)
theorem lenn_means {n : Nat} : ∀ as ds, Rn_means n as ds → as.length = 3 := by
  rintro as ds ⟨_, _, _, rfl, _⟩
  rfl
def R_means := Rn_means 6
theorem len_means : ∀ as ds, R_means as ds → as.length = 3 := lenn_means
abbrev s_means : Stmt := topS 23
theorem sc_means : FnScope ["_law_saying", "_law_way", "_law_ring", "_law_word", "_law_run", "_law_rows", "_law_mark", "_law_part", "_law_one", "_law_other", "_law_at", "_law_k"] ["_law_saying", "_law_way", "_law_ring"] (defScope s_means) := ⟨rfl, rfl, rfl, by decide +kernel, rfl, by decide +kernel, by decide +kernel⟩
theorem ok_means {f : Addr} {fd : FuncData} (F : Fun K "_law_means" "_law_means" s_means f fd) (T : Tx K mg) (g_self : mg "_law_means" = some (.ref f)) (k_self : PySem.W.keepIn K (.ref f) = true) (b_self : Binds K fd ["_law_saying", "_law_way", "_law_ring"] []) {a_after : Addr} {fd_after : FuncData} (c_after : Cal P w K mg base "_law_after" 1 ["_law_way", "_law_ring", "_law_at"] (spG K R_after) a_after fd_after) {a_till : Addr} {fd_till : FuncData} (c_till : Cal P w K mg base "_law_till" 1 ["_law_ones", "_law_others", "_law_moments"] (spG K R_till) a_till fd_till) : FnOk P w K mg base CX0 8 f fd ["_law_saying", "_law_way", "_law_ring"] ((spF K R_means)) := by
  have nd := sc_means.nd
  have key : ∀ n : Nat, FnOk P w K mg base CX0 (2 + n) f fd ["_law_saying", "_law_way", "_law_ring"] (spF K (Rn_means n)) := by
    intro n
    induction n with
    | zero =>
      have no : ∀ as ds, Rn_means 0 as ds → False := by
          rintro as ds ⟨s, way, ring, rfl, rfl, h, _⟩
          have := dep_pos s
          omega
      exact F.ok sc_means (spF_len lenn_means) (fun cdv A outer s H vs Q E hr h => by obtain ⟨_, _, _, r, _⟩ := h; exact (no _ _ r).elim)
    | succ n ih =>
      have c_means : Cal P w K mg base "_law_means" (2 + n) ["_law_saying", "_law_way", "_law_ring"] (spF K (Rn_means n)) f fd := ⟨g_self, k_self, b_self, ih⟩
      refine F.ok (k := 2 + n) sc_means (spF_len lenn_means) (fun cdv A outer s H vs Q E hr h => ?_)
      have hu := hr.units
      have hu5 := unit5 hr
      refine ⟨_, (pss_cons (ps_set (i := 3) nd rfl (by first | exact Or.inl rfl | exact Or.inr rfl) (pe_ix (kIxT K) (pv 0) pe_int (fun _ _ => rfl)))
      (pss_cons (ps_set (i := 4) nd rfl (by first | exact Or.inl rfl | exact Or.inr rfl) (pe_op op_cat (pv 1) (pv 2)))
      (pss_cons (ps_if (pt_cmpR (kEqD K hu) (pv 3) pe_str (nomark _)) (pss_one (ps_ret (pe_lc (own := [("_law_mark", 6)]) (g := gName 6) (tt := tYes) (by rfl) nd (kiList K (pi_list (pv 4))) (blkOk_by (own := [("_law_mark", 6)]) (N := ["_law_saying", "_law_way", "_law_ring", "_law_word", "_law_run", "_law_rows", "_law_mark", "_law_part", "_law_one", "_law_other", "_law_at", "_law_k"]) (sc := defScope s_means) (by decide +kernel)) (fun _ _ _ _ _ => pg_name (i := 6) nd rfl (by first | exact Or.inl rfl | exact Or.inr rfl)) (fun _ _ _ _ _ => pts_nil) (fun _ _ _ _ _ => (pe_cmpR (kEqD K hu) (pv 6) (pe_ix (kIxT K) (pv 0) pe_int (fun _ _ => rfl)) (nomark _)))))) pss_nil)
      (pss_cons (ps_if (pt_cmpR (kEqD K hu) (pv 3) pe_str (nomark _)) (pss_one (ps_ret (pe_lc (own := [("_law_mark", 6)]) (g := gName 6) (tt := tYes) (by rfl) nd (kiList K (pi_list (pv 4))) (blkOk_by (own := [("_law_mark", 6)]) (N := ["_law_saying", "_law_way", "_law_ring", "_law_word", "_law_run", "_law_rows", "_law_mark", "_law_part", "_law_one", "_law_other", "_law_at", "_law_k"]) (sc := defScope s_means) (by decide +kernel)) (fun _ _ _ _ _ => pg_name (i := 6) nd rfl (by first | exact Or.inl rfl | exact Or.inr rfl)) (fun _ _ _ _ _ => pts_nil) (fun _ _ _ _ _ => pe_bl)))) pss_nil)
      (pss_cons (ps_set (i := 5) nd rfl (by first | exact Or.inl rfl | exact Or.inr rfl) (pe_lc (own := [("_law_part", 7)]) (g := gName 7) (tt := tYes) (by rfl) nd (kiTup K (pi_tup (pe_slice (kSlA K) (pv 0) (po_some pe_int) po_none))) (blkOk_by (own := [("_law_part", 7)]) (N := ["_law_saying", "_law_way", "_law_ring", "_law_word", "_law_run", "_law_rows", "_law_mark", "_law_part", "_law_one", "_law_other", "_law_at", "_law_k"]) (sc := defScope s_means) (by decide +kernel)) (fun _ _ _ _ _ => pg_name (i := 7) nd rfl (by first | exact Or.inl rfl | exact Or.inr rfl)) (fun _ _ _ _ _ => pts_nil) (fun _ _ _ _ _ => (pe_call c_means.ok (hr.mono (by omega)) (by rfl) c_means.g c_means.kp c_means.b .nil pass0 (pa_cons (pv 7) (pa_cons (pv 1) (pa_cons (pv 2) pa_nil)))))))
      (pss_cons (ps_if (pt_cmpR (kEqD K hu) (pv 3) pe_str (nomark _)) (pss_one (ps_ret (pe_lc (own := [("_law_one", 8)]) (g := gName 8) (tt := tYes) (by rfl) nd (kiList K (pi_list (pe_ix (kIxL K) (pv 5) pe_int (fun _ _ => rfl)))) (blkOk_by (own := [("_law_one", 8)]) (N := ["_law_saying", "_law_way", "_law_ring", "_law_word", "_law_run", "_law_rows", "_law_mark", "_law_part", "_law_one", "_law_other", "_law_at", "_law_k"]) (sc := defScope s_means) (by decide +kernel)) (fun _ _ _ _ _ => pg_name (i := 8) nd rfl (by first | exact Or.inl rfl | exact Or.inr rfl)) (fun _ _ _ _ _ => pts_nil) (fun _ _ _ _ _ => (pe_not (pv 8)))))) pss_nil)
      (pss_cons (ps_if (pt_cmpR (kEqD K hu) (pv 3) pe_str (nomark _)) (pss_one (ps_ret (pe_lc (own := [("_law_one", 8), ("_law_other", 9)]) (g := gTup K 2 (gCons (gName 8) (gCons (gName 9) gNil))) (tt := tYes) (by rfl) nd (kiZip K (pi_zip (by rfl) T.b_zip (pa_cons (pe_ix (kIxL K) (pv 5) pe_int (fun _ _ => rfl)) (pa_cons (pe_ix (kIxL K) (pv 5) pe_int (fun _ _ => rfl)) pa_nil)))) (blkOk_by (own := [("_law_one", 8), ("_law_other", 9)]) (N := ["_law_saying", "_law_way", "_law_ring", "_law_word", "_law_run", "_law_rows", "_law_mark", "_law_part", "_law_one", "_law_other", "_law_at", "_law_k"]) (sc := defScope s_means) (by decide +kernel)) (fun _ _ _ _ _ => (kgTup K (pg_tup (n := 2) (by rfl) (pgs_cons (pg_name (i := 8) nd rfl (by first | exact Or.inl rfl | exact Or.inr rfl)) (pgs_cons (pg_name (i := 9) nd rfl (by first | exact Or.inl rfl | exact Or.inr rfl)) pgs_nil))))) (fun _ _ _ _ _ => pts_nil) (fun _ _ _ _ _ => (pe_and (pv 8) (pe_one (pv 9))))))) pss_nil)
      (pss_cons (ps_if (pt_cmpR (kEqD K hu) (pv 3) pe_str (nomark _)) (pss_one (ps_ret (pe_lc (own := [("_law_one", 8), ("_law_other", 9)]) (g := gTup K 2 (gCons (gName 8) (gCons (gName 9) gNil))) (tt := tYes) (by rfl) nd (kiZip K (pi_zip (by rfl) T.b_zip (pa_cons (pe_ix (kIxL K) (pv 5) pe_int (fun _ _ => rfl)) (pa_cons (pe_ix (kIxL K) (pv 5) pe_int (fun _ _ => rfl)) pa_nil)))) (blkOk_by (own := [("_law_one", 8), ("_law_other", 9)]) (N := ["_law_saying", "_law_way", "_law_ring", "_law_word", "_law_run", "_law_rows", "_law_mark", "_law_part", "_law_one", "_law_other", "_law_at", "_law_k"]) (sc := defScope s_means) (by decide +kernel)) (fun _ _ _ _ _ => (kgTup K (pg_tup (n := 2) (by rfl) (pgs_cons (pg_name (i := 8) nd rfl (by first | exact Or.inl rfl | exact Or.inr rfl)) (pgs_cons (pg_name (i := 9) nd rfl (by first | exact Or.inl rfl | exact Or.inr rfl)) pgs_nil))))) (fun _ _ _ _ _ => pts_nil) (fun _ _ _ _ _ => (pe_or (pv 8) (pe_one (pv 9))))))) pss_nil)
      (pss_cons (ps_if (pt_cmpR (kEqD K hu) (pv 3) pe_str (nomark _)) (pss_one (ps_ret (pe_lc (own := [("_law_at", 10)]) (g := gName 10) (tt := tYes) (by rfl) nd (pi_range1 (by rfl) T.b_range (pa_cons (pe_callB (kLen K) (by rfl) T.b_len PySem.boot_len (pa_cons (pv 4) pa_nil)) pa_nil)) (blkOk_by (own := [("_law_at", 10)]) (N := ["_law_saying", "_law_way", "_law_ring", "_law_word", "_law_run", "_law_rows", "_law_mark", "_law_part", "_law_one", "_law_other", "_law_at", "_law_k"]) (sc := defScope s_means) (by decide +kernel)) (fun _ _ _ _ _ => pg_name (i := 10) nd rfl (by first | exact Or.inl rfl | exact Or.inr rfl)) (fun _ _ _ _ _ => pts_nil) (fun _ _ _ _ _ => (pe_ix (kIxL K) (pe_ix (kIxL K) (pv 5) pe_int (fun _ _ => rfl)) (pe_ix (kIxL K) (pe_call c_after.ok (hr.mono (by omega)) (by rfl) c_after.g c_after.kp c_after.b .nil pass0 (pa_cons (pv 1) (pa_cons (pv 2) (pa_cons (pv 10) pa_nil)))) pe_int (fun _ _ => rfl)) (fun _ _ => rfl)))))) pss_nil)
      (pss_cons (ps_if (pt_cmpR (kEqD K hu) (pv 3) pe_str (nomark _)) (pss_one (ps_ret (pe_lc (own := [("_law_at", 10)]) (g := gName 10) (tt := tYes) (by rfl) nd (pi_range1 (by rfl) T.b_range (pa_cons (pe_callB (kLen K) (by rfl) T.b_len PySem.boot_len (pa_cons (pv 4) pa_nil)) pa_nil)) (blkOk_by (own := [("_law_at", 10)]) (N := ["_law_saying", "_law_way", "_law_ring", "_law_word", "_law_run", "_law_rows", "_law_mark", "_law_part", "_law_one", "_law_other", "_law_at", "_law_k"]) (sc := defScope s_means) (by decide +kernel)) (fun _ _ _ _ _ => pg_name (i := 10) nd rfl (by first | exact Or.inl rfl | exact Or.inr rfl)) (fun _ _ _ _ _ => pts_nil) (fun _ _ _ _ _ => (pe_cmpR (kNotInD K hu5) pe_bl (pe_lc (own := [("_law_k", 11)]) (g := gName 11) (tt := tYes) (by rfl) nd (kiList K (pi_list (pe_call c_after.ok (hr.mono (by omega)) (by rfl) c_after.g c_after.kp c_after.b .nil pass0 (pa_cons (pv 1) (pa_cons (pv 2) (pa_cons (pv 10) pa_nil)))))) (blkOk_by (own := [("_law_k", 11)]) (N := ["_law_saying", "_law_way", "_law_ring", "_law_word", "_law_run", "_law_rows", "_law_mark", "_law_part", "_law_one", "_law_other", "_law_at", "_law_k"]) (by with_unfolding_all rfl)) (fun _ _ _ _ _ => pg_name (i := 11) nd rfl (by first | exact Or.inl rfl | exact Or.inr rfl)) (fun _ _ _ _ _ => pts_nil) (fun _ _ _ _ _ => (pe_ix (kIxL K) (pe_ix (kIxL K) (pv 5) pe_int (fun _ _ => rfl)) (pv 11) (fun _ _ => rfl)))) (by with_unfolding_all rfl)))))) pss_nil)
      (pss_cons (ps_if (pt_cmpR (kEqD K hu) (pv 3) pe_str (nomark _)) (pss_one (ps_ret (pe_lc (own := [("_law_mark", 6)]) (g := gName 6) (tt := tYes) (by rfl) nd (kiList K (pi_list (pv 4))) (blkOk_by (own := [("_law_mark", 6)]) (N := ["_law_saying", "_law_way", "_law_ring", "_law_word", "_law_run", "_law_rows", "_law_mark", "_law_part", "_law_one", "_law_other", "_law_at", "_law_k"]) (sc := defScope s_means) (by decide +kernel)) (fun _ _ _ _ _ => pg_name (i := 6) nd rfl (by first | exact Or.inl rfl | exact Or.inr rfl)) (fun _ _ _ _ _ => pts_nil) (fun _ _ _ _ _ => (pe_cmpR (kInD K hu5) pe_bl (pe_slice (kSlL K) (pe_ix (kIxL K) (pv 5) pe_int (fun _ _ => rfl)) (po_some (pe_callB (kLen K) (by rfl) T.b_len PySem.boot_len (pa_cons (pv 1) pa_nil))) po_none) (by with_unfolding_all rfl)))))) pss_nil)
      (pss_one (ps_ret (pe_lc (own := [("_law_at", 10)]) (g := gName 10) (tt := tYes) (by rfl) nd (pi_range1 (by rfl) T.b_range (pa_cons (pe_callB (kLen K) (by rfl) T.b_len PySem.boot_len (pa_cons (pv 4) pa_nil)) pa_nil)) (blkOk_by (own := [("_law_at", 10)]) (N := ["_law_saying", "_law_way", "_law_ring", "_law_word", "_law_run", "_law_rows", "_law_mark", "_law_part", "_law_one", "_law_other", "_law_at", "_law_k"]) (sc := defScope s_means) (by decide +kernel)) (fun _ _ _ _ _ => pg_name (i := 10) nd rfl (by first | exact Or.inl rfl | exact Or.inr rfl)) (fun _ _ _ _ _ => pts_nil) (fun _ _ _ _ _ => (pe_call c_till.ok (hr.mono (by omega)) (by rfl) c_till.g c_till.kp c_till.b .nil pass0 (pa_cons (pe_ix (kIxL K) (pv 5) pe_int (fun _ _ => rfl)) (pa_cons (pe_ix (kIxL K) (pv 5) pe_int (fun _ _ => rfl)) (pa_cons (pe_call c_after.ok (hr.mono (by omega)) (by rfl) c_after.g c_after.kp c_after.b .nil pass0 (pa_cons (pv 1) (pa_cons (pv 2) (pa_cons (pv 10) pa_nil)))) pa_nil))))))))))))))))))), ?_⟩
      refine bodyF_ok h lenn_means fun as ds hR => ?_
      obtain ⟨s, way, ring, rfl, rfl, hn, ok, hr, hl, hs⟩ := hR
      walk_at "bodyF"
      have hrl : ∀ v, (rowB v way ring).length = way.length + ring.length := fun v => rowB_len v way ring
      have hlm : ((way ++ ring).map Dat.str).length = way.length + ring.length := by rw [List.length_map, List.length_append]
      have part : ∀ (s : Say) (ρ : List Sl), s.dep ≤ n → s.Ok → ρ[1]? = some (.dat (.lst (way.map Dat.str))) → ρ[2]? = some (.dat (.lst (ring.map Dat.str))) → ρ[7]? = some (.dat s.d) →
          Ev K (tCall (spF K (Rn_means n)) [] E0 (tCons (tVar 7) (tCons (tVar 1) (tCons (tVar 2) tNil)))) ρ (.lst (bls (rowB s way ring))) ρ := fun s ρ h1 h2 a1 a2 a6 =>
        ev_of_fresh (ef_call (ea_d (ev_var a6) (ea_d (ev_var a1) (ea_d (ev_var a2) ea_nil))) rfl ⟨s, way, ring, rfl, rfl, h1, h2, hr, hl, hs⟩)
      have rows1 : ∀ (w : Str) (s : Say), s.dep ≤ n → s.Ok → Ex K (tAsg (tLc (iTup K (tSl (rSlA K) (tVar 0) (tPart (tC (V.int 1))) tNoPart)) (gName 7) tYes (tCall (spF K (Rn_means n)) [] E0 (tCons (tVar 7) (tCons (tVar 1) (tCons (tVar 2) tNil)))) [7]) (gName 5))
          [.dat (.tup [.str w, s.d]), .dat (.lst (way.map Dat.str)), .dat (.lst (ring.map Dat.str)), .dat (.str w), .dat (.lst ((way ++ ring).map Dat.str)), .no, .no, .no, .no, .no, .no, .no]
          (.nx [.dat (.tup [.str w, s.d]), .dat (.lst (way.map Dat.str)), .dat (.lst (ring.map Dat.str)), .dat (.str w), .dat (.lst ((way ++ ring).map Dat.str)), .dat (.lst [.lst (bls (rowB s way ring))]), .no, .no, .no, .no, .no, .no]) := fun w s h1 h2 => by
        refine Ex.to (ex_set (ev_of_fresh (ef_lcIx (ds := [s.d]) [.lst (bls (rowB s way ring))] (src_tup (ev_slA (ds := [.str w, s.d]) (ev_var rfl) (eo_some ev_int) eo_no)) (by exact rfl) rfl (by show 1 < 100000; decide) fun i d e hi he => ?_)) rfl) rfl
        match i, hi, he with
        | 0, hi, he =>
          cases hi
          cases he
          exact part s _ h1 h2 rfl rfl rfl
        | i + 1, hi, he => cases hi
      have rows2 : ∀ (w : Str) (s u : Say), s.dep ≤ n → s.Ok → u.dep ≤ n → u.Ok → Ex K (tAsg (tLc (iTup K (tSl (rSlA K) (tVar 0) (tPart (tC (V.int 1))) tNoPart)) (gName 7) tYes (tCall (spF K (Rn_means n)) [] E0 (tCons (tVar 7) (tCons (tVar 1) (tCons (tVar 2) tNil)))) [7]) (gName 5))
          [.dat (.tup [.str w, s.d, u.d]), .dat (.lst (way.map Dat.str)), .dat (.lst (ring.map Dat.str)), .dat (.str w), .dat (.lst ((way ++ ring).map Dat.str)), .no, .no, .no, .no, .no, .no, .no]
          (.nx [.dat (.tup [.str w, s.d, u.d]), .dat (.lst (way.map Dat.str)), .dat (.lst (ring.map Dat.str)), .dat (.str w), .dat (.lst ((way ++ ring).map Dat.str)), .dat (.lst [.lst (bls (rowB s way ring)), .lst (bls (rowB u way ring))]), .no, .no, .no, .no, .no, .no]) := fun w s u h1 h2 h3 h4 => by
        refine Ex.to (ex_set (ev_of_fresh (ef_lcIx (ds := [s.d, u.d]) [.lst (bls (rowB s way ring)), .lst (bls (rowB u way ring))] (src_tup (ev_slA (ds := [.str w, s.d, u.d]) (ev_var rfl) (eo_some ev_int) eo_no)) (by exact rfl) rfl (by show 2 < 100000; decide) fun i d e hi he => ?_)) rfl) rfl
        match i, hi, he with
        | 0, hi, he =>
          cases hi
          cases he
          exact part s _ h1 h2 rfl rfl rfl
        | 1, hi, he =>
          cases hi
          cases he
          exact part u _ h3 h4 rfl rfl rfl
        | i + 2, hi, he => cases hi
      have r0 : ∀ (x : Dat) (xs : List Dat), atI (x :: xs) 0 = some x := fun x xs => atI_nat (j := 0) rfl
      have r1 : ∀ (x y : Dat) (xs : List Dat), atI (x :: y :: xs) 1 = some y := fun x y xs => atI_nat (j := 1) rfl
      have run : ∀ (d : Dat) (x : Str), Ev K (tOp rCat (tVar 1) (tVar 2)) [.dat d, .dat (.lst (way.map Dat.str)), .dat (.lst (ring.map Dat.str)), .dat (.str x), .no, .no, .no, .no, .no, .no, .no, .no] (.lst ((way ++ ring).map Dat.str)) [.dat d, .dat (.lst (way.map Dat.str)), .dat (.lst (ring.map Dat.str)), .dat (.str x), .no, .no, .no, .no, .no, .no, .no, .no] := fun d x => by
        rw [List.map_append]
        exact ev_cat (el_d (ev_var rfl)) (el_d (ev_var rfl)) rfl rfl (by rw [List.length_map, List.length_map]; omega)
      have hrow : ∀ (v : Say) (t : Nat), t < way.length + ring.length → atI (bls (rowB v way ring)) (t : Int) = some (.bl (hb (wd way ring) v t)) := fun v t ht => by
        have := at_bls (bs := rowB v way ring) (k := t) (by rw [hrl]; omega)
        rw [List.getD_eq_getElem?_getD, rowB_get v way ring ht] at this
        exact this
      have src : ∀ (ρ : List Sl), ρ[4]? = some (.dat (.lst ((way ++ ring).map Dat.str))) → Src K (iRng1 (tCons (tCB (rLenQ K) (tCons (tVar 4) tNil)) tNil)) ρ (rngD 0 (way.length + ring.length)) ρ := fun ρ h4 => by
        have := src_rng1 (K := K) (n := (way.length + ring.length : Nat)) (Ev.to (ev_lenL (ds := (way ++ ring).map Dat.str) rfl (el_d (ev_var h4)) rfl) (by rw [hlm])) (by omega) (by omega)
        rwa [Int.toNat_natCast] at this
      have byAt : ∀ (v : Say) (te : TE) (ρ : List Sl), ρ.length = 12 → ρ[4]? = some (.dat (.lst ((way ++ ring).map Dat.str))) → (∀ t, t < way.length + ring.length → Ev K te ((wipeS ρ [10]).set 10 (.dat (.int (t : Nat)))) (.bl (hb (wd way ring) v t)) ((wipeS ρ [10]).set 10 (.dat (.int (t : Nat))))) →
          EvF K (tLc (iRng1 (tCons (tCB (rLenQ K) (tCons (tVar 4) tNil)) tNil)) (gName 10) tYes te [10]) ρ (bls (rowB v way ring)) (wipeS ρ [10]) := fun v te ρ hlen h4 h => by
        have e : (rngD 0 (way.length + ring.length)).map (onI fun t => .bl (hb (wd way ring) v t.toNat)) = bls (rowB v way ring) := by
          rw [rngD_map]
          unfold bls rowB
          rw [List.map_map]
          refine List.map_congr_left fun t _ => ?_
          show Dat.bl (hb _ v ((0 : Int) + (t : Nat)).toNat) = .bl (hb _ v t)
          rw [Int.zero_add, Int.toNat_natCast]
        rw [← e]
        refine ef_lcMap (onI fun t => .bl (hb (wd way ring) v t.toNat)) (src ρ h4) (isSome_of_lt (by omega)) (by rw [rngD_len]; omega) fun d hd => ?_
        obtain ⟨t, ht, rfl⟩ := rngD_mem hd
        rw [Int.zero_add]
        show Ev K _ _ (.bl (hb _ v ((t : Nat) : Int).toNat)) _
        rw [Int.toNat_natCast]
        exact h t ht
      have aft : ∀ (ρ : List Sl) (t : Nat), t < way.length + ring.length → ρ[1]? = some (.dat (.lst (way.map Dat.str))) → ρ[2]? = some (.dat (.lst (ring.map Dat.str))) → ρ[10]? = some (.dat (.int (t : Nat))) → Ev K (tCall (spG K R_after) [] E0 (tCons (tVar 1) (tCons (tVar 2) (tCons (tVar 10) tNil)))) ρ (afterD way ring t) ρ := fun ρ t ht h1 h2 h10 =>
        ev_callA (ea_d (ev_var h1) (ea_d (ev_var h2) (ea_d (ev_var h10) ea_nil))) rfl ⟨way, ring, t, rfl, rfl, rfl, hl, by omega⟩
      cases s with
      | mark m =>
        refine ex_seq (ex_set (d := .str "mark") (ev_ixT (ds := [.str "mark", .str m]) (ev_var rfl) ev_int rfl) rfl) ?_
        refine ex_seq (ex_set (run _ _) rfl) ?_
        refine ex_yes (et_word rfl (by decide +kernel) (by decide +kernel) (by decide +kernel)) ?_ rfl
        have smk : ∀ x ∈ way ++ ring, Shp 60 (.str x) := fun x hx => shp_lit _ (hs x hx)
        have e : ((way ++ ring).map Dat.str).map (fun d => .bl (eqd d (.str m))) = bls (rowB (.mark m) way ring) := by
          rw [← row_mark m way ring]
          unfold bls
          rw [List.map_map, List.map_map]
          refine List.map_congr_left fun x _ => ?_
          show Dat.bl (eqd (.str x) (.str m)) = .bl (x == m)
          rw [eqd_str]
        rw [← e]
        refine ex_retF (ef_lcMap (fun d => .bl (eqd d (.str m))) (src_list (ev_var rfl) rfl) (by exact rfl) (by omega) fun d hd => ?_) (by walk_at "le")
        obtain ⟨x, hx, rfl⟩ := List.mem_map.mp hd
        walk_at "nrm"
        exact ev_eq (ev_var rfl) (ev_ixT (ds := [.str "mark", .str m]) (ev_var rfl) ev_int rfl) (smk x hx) (shp_lit _ (mark_ok ok.1).2)
      | yes =>
        refine ex_seq (ex_set (d := .str "yes") (ev_ixT (ds := [.str "yes"]) (ev_var rfl) ev_int rfl) rfl) ?_
        refine ex_seq (ex_set (run _ _) rfl) ?_
        refine ex_no (et_word rfl (by decide +kernel) (by decide +kernel) (by decide +kernel)) ?_
        refine ex_yes (et_word rfl (by decide +kernel) (by decide +kernel) (by decide +kernel)) ?_ rfl
        have e : ((way ++ ring).map Dat.str).map (fun _ => .bl true) = bls (rowB .yes way ring) := by
          rw [← row_yes way ring, List.map_const', hlm]
          unfold bls
          rw [List.map_replicate]
        rw [← e]
        refine ex_retF (ef_lcMap (fun _ => .bl true) (src_list (ev_var rfl) rfl) (by exact rfl) (by omega) fun d hd => ev_bl) (by walk_at "le")
      | not s =>
        have hd : s.dep ≤ n := by have : s.dep + 1 ≤ n + 1 := hn; omega
        refine ex_seq (ex_set (d := .str "not") (ev_ixT (ds := [.str "not", s.d]) (ev_var rfl) ev_int rfl) rfl) ?_
        refine ex_seq (ex_set (run _ _) rfl) ?_
        refine ex_no (et_word rfl (by decide +kernel) (by decide +kernel) (by decide +kernel)) ?_
        refine ex_no (et_word rfl (by decide +kernel) (by decide +kernel) (by decide +kernel)) ?_
        refine ex_seq (rows1 "not" s hd ok) ?_
        refine ex_yes (et_word rfl (by decide +kernel) (by decide +kernel) (by decide +kernel)) ?_ rfl
        rw [← row_not, ← bls_map]
        refine ex_retF (ef_lcMap (onB fun b => !b) (src_list (ev_ixL (el_d (ev_var rfl)) ev_int rfl (r0 _ _)) rfl) (by exact rfl) (by rw [bls_len, hrl]; omega) fun d hd => ?_) (by walk_at "le")
        obtain ⟨b, _, rfl⟩ := List.mem_map.mp hd
        walk_at "nrm"
        exact ev_not (ev_var rfl)
      | and s u =>
        have hd : s.dep ≤ n ∧ u.dep ≤ n := by have : max s.dep u.dep + 1 ≤ n + 1 := hn; omega
        refine ex_seq (ex_set (d := .str "and") (ev_ixT (ds := [.str "and", s.d, u.d]) (ev_var rfl) ev_int rfl) rfl) ?_
        refine ex_seq (ex_set (run _ _) rfl) ?_
        refine ex_no (et_word rfl (by decide +kernel) (by decide +kernel) (by decide +kernel)) ?_
        refine ex_no (et_word rfl (by decide +kernel) (by decide +kernel) (by decide +kernel)) ?_
        refine ex_seq (rows2 "and" s u hd.1 ok.1 hd.2 ok.2) ?_
        refine ex_no (et_word rfl (by decide +kernel) (by decide +kernel) (by decide +kernel)) ?_
        refine ex_yes (et_word rfl (by decide +kernel) (by decide +kernel) (by decide +kernel)) ?_ rfl
        rw [← row_and s u way ring, ← zip_bls (fun a b => a && b) _ _ (binD fun a b => a && b) (fun _ _ => rfl)]
        refine ex_retF (ef_lcMap2 (pairs := (bls (rowB s way ring)).zip (bls (rowB u way ring))) (binD fun a b => a && b) (by decide) (by rw [← zipD_zip]; exact src_zip (ev_ixL (el_d (ev_var rfl)) ev_int rfl (r0 _ _)) (ev_ixL (el_d (ev_var rfl)) ev_int rfl (r1 _ _ _)) rfl rfl) (by show 8 < 12; decide) (by show 9 < 12; decide) (by rw [List.length_zip, bls_len, bls_len, hrl, hrl]; omega) fun p hp => ?_) (by walk_at "le")
        obtain ⟨a, b, rfl⟩ := zip_mem_bls hp
        exact ev_and (a := a) (b := b) (ev_var rfl) fun _ => ev_var rfl
      | or s u =>
        have hd : s.dep ≤ n ∧ u.dep ≤ n := by have : max s.dep u.dep + 1 ≤ n + 1 := hn; omega
        refine ex_seq (ex_set (d := .str "or") (ev_ixT (ds := [.str "or", s.d, u.d]) (ev_var rfl) ev_int rfl) rfl) ?_
        refine ex_seq (ex_set (run _ _) rfl) ?_
        refine ex_no (et_word rfl (by decide +kernel) (by decide +kernel) (by decide +kernel)) ?_
        refine ex_no (et_word rfl (by decide +kernel) (by decide +kernel) (by decide +kernel)) ?_
        refine ex_seq (rows2 "or" s u hd.1 ok.1 hd.2 ok.2) ?_
        refine ex_no (et_word rfl (by decide +kernel) (by decide +kernel) (by decide +kernel)) ?_
        refine ex_no (et_word rfl (by decide +kernel) (by decide +kernel) (by decide +kernel)) ?_
        refine ex_yes (et_word rfl (by decide +kernel) (by decide +kernel) (by decide +kernel)) ?_ rfl
        rw [← row_or s u way ring, ← zip_bls (fun a b => a || b) _ _ (binD fun a b => a || b) (fun _ _ => rfl)]
        refine ex_retF (ef_lcMap2 (pairs := (bls (rowB s way ring)).zip (bls (rowB u way ring))) (binD fun a b => a || b) (by decide) (by rw [← zipD_zip]; exact src_zip (ev_ixL (el_d (ev_var rfl)) ev_int rfl (r0 _ _)) (ev_ixL (el_d (ev_var rfl)) ev_int rfl (r1 _ _ _)) rfl rfl) (by show 8 < 12; decide) (by show 9 < 12; decide) (by rw [List.length_zip, bls_len, bls_len, hrl, hrl]; omega) fun p hp => ?_) (by walk_at "le")
        obtain ⟨a, b, rfl⟩ := zip_mem_bls hp
        exact ev_or (a := a) (b := b) (ev_var rfl) fun _ => ev_var rfl
      | next s =>
        have hd : s.dep ≤ n := by have : s.dep + 1 ≤ n + 1 := hn; omega
        refine ex_seq (ex_set (d := .str "next") (ev_ixT (ds := [.str "next", s.d]) (ev_var rfl) ev_int rfl) rfl) ?_
        refine ex_seq (ex_set (run _ _) rfl) ?_
        refine ex_no (et_word rfl (by decide +kernel) (by decide +kernel) (by decide +kernel)) ?_
        refine ex_no (et_word rfl (by decide +kernel) (by decide +kernel) (by decide +kernel)) ?_
        refine ex_seq (rows1 "next" s hd ok) ?_
        refine ex_no (et_word rfl (by decide +kernel) (by decide +kernel) (by decide +kernel)) ?_
        refine ex_no (et_word rfl (by decide +kernel) (by decide +kernel) (by decide +kernel)) ?_
        refine ex_no (et_word rfl (by decide +kernel) (by decide +kernel) (by decide +kernel)) ?_
        refine ex_yes (et_word rfl (by decide +kernel) (by decide +kernel) (by decide +kernel)) ?_ rfl
        refine ex_retF (byAt (.next s) _ _ rfl rfl fun t ht => ?_) (by walk_at "le")
        have e : hb (wd way ring) (.next s) t = hb (wd way ring) s (nxt way ring t) := (bool_iff (by rw [hb_eq, hb_eq]; rfl)).trans (hb_nxt way ring s ht)
        have hnx : nxt way ring t < way.length + ring.length := by unfold nxt; split <;> omega
        have ha1 : atI ((after way ring t).map fun k => Dat.int ((k : Nat) : Int)) 1 = some (.int (nxt way ring t : Nat)) := atI_nat (j := 1) (by rw [List.getElem?_map, after_one way ring hr ht]; rfl)
        rw [e]
        exact ev_ixL (el_d (ev_ixL (el_d (ev_var rfl)) ev_int rfl (r0 _ _))) (ev_ixL (el_d (aft _ t ht rfl rfl rfl)) ev_int rfl ha1) rfl (hrow s _ hnx)
      | always s =>
        have hd : s.dep ≤ n := by have : s.dep + 1 ≤ n + 1 := hn; omega
        refine ex_seq (ex_set (d := .str "always") (ev_ixT (ds := [.str "always", s.d]) (ev_var rfl) ev_int rfl) rfl) ?_
        refine ex_seq (ex_set (run _ _) rfl) ?_
        refine ex_no (et_word rfl (by decide +kernel) (by decide +kernel) (by decide +kernel)) ?_
        refine ex_no (et_word rfl (by decide +kernel) (by decide +kernel) (by decide +kernel)) ?_
        refine ex_seq (rows1 "always" s hd ok) ?_
        refine ex_no (et_word rfl (by decide +kernel) (by decide +kernel) (by decide +kernel)) ?_
        refine ex_no (et_word rfl (by decide +kernel) (by decide +kernel) (by decide +kernel)) ?_
        refine ex_no (et_word rfl (by decide +kernel) (by decide +kernel) (by decide +kernel)) ?_
        refine ex_no (et_word rfl (by decide +kernel) (by decide +kernel) (by decide +kernel)) ?_
        refine ex_yes (et_word rfl (by decide +kernel) (by decide +kernel) (by decide +kernel)) ?_ rfl
        refine ex_retF (byAt (.always s) _ _ rfl rfl fun t ht => ?_) (by walk_at "le")
        rw [← always_rows s way ring hr ht]
        have e : ((after way ring t).map fun k => Dat.int ((k : Nat) : Int)).map (onI fun k => .bl (hb (wd way ring) s k.toNat)) = bls ((after way ring t).map fun k => hb (wd way ring) s k) := by
          unfold bls
          rw [List.map_map, List.map_map]
          refine List.map_congr_left fun k _ => ?_
          show Dat.bl (hb _ s ((k : Nat) : Int).toNat) = _
          rw [Int.toNat_natCast]
          rfl
        refine Ev.to (ev_notIn (ds := bls ((after way ring t).map fun k => hb (wd way ring) s k)) (a := .d (.lst (bls ((after way ring t).map fun k => hb (wd way ring) s k)))) ev_bl (el_d ?_) rfl (by simp only [Shp]) (shp_bls _ _)) (by rw [show bls ((after way ring t).map fun k => hb (wd way ring) s k) = ((after way ring t).map fun k => hb (wd way ring) s k).map Dat.bl from rfl, any_bl_falseB, Bool.not_not])
        rw [← e]
        have haf : (after way ring t).length < 100000 := by unfold after; rw [List.length_append, List.length_map, List.length_map, List.length_range, List.length_range]; omega
        refine ev_of_fresh (ef_lcMap (onI fun k => .bl (hb (wd way ring) s k.toNat)) (src_list (aft _ t ht rfl rfl rfl) rfl) (by exact rfl) (by rw [List.length_map]; exact haf) fun d hd => ?_)
        obtain ⟨k, hk, rfl⟩ := List.mem_map.mp hd
        show Ev K _ _ (.bl (hb _ s ((k : Nat) : Int).toNat)) _
        rw [Int.toNat_natCast]
        exact ev_ixL (el_d (ev_ixL (el_d (ev_var rfl)) ev_int rfl (r0 _ _))) (ev_var rfl) rfl (hrow s k (after_lt hk))
      | again s =>
        have hd : s.dep ≤ n := by have : s.dep + 1 ≤ n + 1 := hn; omega
        refine ex_seq (ex_set (d := .str "again") (ev_ixT (ds := [.str "again", s.d]) (ev_var rfl) ev_int rfl) rfl) ?_
        refine ex_seq (ex_set (run _ _) rfl) ?_
        refine ex_no (et_word rfl (by decide +kernel) (by decide +kernel) (by decide +kernel)) ?_
        refine ex_no (et_word rfl (by decide +kernel) (by decide +kernel) (by decide +kernel)) ?_
        refine ex_seq (rows1 "again" s hd ok) ?_
        refine ex_no (et_word rfl (by decide +kernel) (by decide +kernel) (by decide +kernel)) ?_
        refine ex_no (et_word rfl (by decide +kernel) (by decide +kernel) (by decide +kernel)) ?_
        refine ex_no (et_word rfl (by decide +kernel) (by decide +kernel) (by decide +kernel)) ?_
        refine ex_no (et_word rfl (by decide +kernel) (by decide +kernel) (by decide +kernel)) ?_
        refine ex_no (et_word rfl (by decide +kernel) (by decide +kernel) (by decide +kernel)) ?_
        refine ex_yes (et_word rfl (by decide +kernel) (by decide +kernel) (by decide +kernel)) ?_ rfl
        have e : ((way ++ ring).map Dat.str).map (fun _ => .bl (((rowB s way ring).drop way.length).any id)) = bls (rowB (.again s) way ring) := by
          rw [← again_row s way ring hr, List.map_const', hlm]
          unfold bls
          rw [List.map_replicate]
        rw [← e]
        refine ex_retF (ef_lcMap (fun _ => .bl (((rowB s way ring).drop way.length).any id)) (src_list (ev_var rfl) rfl) (by exact rfl) (by omega) fun d hd => ?_) (by walk_at "le")
        refine Ev.to (ev_in (ds := bls ((rowB s way ring).drop way.length)) ev_bl (el_d (Ev.to (ev_slL (el_d (ev_ixL (el_d (ev_var rfl)) ev_int rfl (r0 _ _))) (eo_some (Ev.to (ev_lenL (ds := way.map Dat.str) rfl (el_d (ev_var rfl)) rfl) (by rw [List.length_map]))) eo_no rfl) (by rw [cutD_from, bls_drop]))) rfl (by simp only [Shp]) (shp_bls _ _)) (by rw [show bls ((rowB s way ring).drop way.length) = ((rowB s way ring).drop way.length).map Dat.bl from rfl, any_bl_true])
      | till s u =>
        have hd : s.dep ≤ n ∧ u.dep ≤ n := by have : max s.dep u.dep + 1 ≤ n + 1 := hn; omega
        refine ex_seq (ex_set (d := .str "till") (ev_ixT (ds := [.str "till", s.d, u.d]) (ev_var rfl) ev_int rfl) rfl) ?_
        refine ex_seq (ex_set (run _ _) rfl) ?_
        refine ex_no (et_word rfl (by decide +kernel) (by decide +kernel) (by decide +kernel)) ?_
        refine ex_no (et_word rfl (by decide +kernel) (by decide +kernel) (by decide +kernel)) ?_
        refine ex_seq (rows2 "till" s u hd.1 ok.1 hd.2 ok.2) ?_
        refine ex_no (et_word rfl (by decide +kernel) (by decide +kernel) (by decide +kernel)) ?_
        refine ex_no (et_word rfl (by decide +kernel) (by decide +kernel) (by decide +kernel)) ?_
        refine ex_no (et_word rfl (by decide +kernel) (by decide +kernel) (by decide +kernel)) ?_
        refine ex_no (et_word rfl (by decide +kernel) (by decide +kernel) (by decide +kernel)) ?_
        refine ex_no (et_word rfl (by decide +kernel) (by decide +kernel) (by decide +kernel)) ?_
        refine ex_no (et_word rfl (by decide +kernel) (by decide +kernel) (by decide +kernel)) ?_
        refine ex_retF (byAt (.till s u) _ _ rfl rfl fun t ht => ?_) (by walk_at "le")
        rw [← till_rows s u way ring hr ht]
        exact ev_callA (ea_d (ev_ixL (el_d (ev_var rfl)) ev_int rfl (r0 _ _)) (ea_d (ev_ixL (el_d (ev_var rfl)) ev_int rfl (r1 _ _ _)) (ea_d (aft _ t ht rfl rfl rfl) ea_nil))) rfl ⟨_, _, after way ring t, rfl, rfl, rfl, fun k hk => by rw [hrl, hrl]; exact ⟨after_lt hk, after_lt hk⟩⟩
  exact key 6
noncomputable def guessR (bs : List Say) (way ring : List Str) : Dat := .lst ((List.range (way.length + ring.length)).map fun t => tupB (gR bs (wd way ring) t))
theorem guess_at (bs : List Say) (way ring : List Str) {t : Nat} (h : t < way.length + ring.length) : atI ((List.range (way.length + ring.length)).map fun t => tupB (gR bs (wd way ring) t)) (t : Int) = some (tupB (gR bs (wd way ring) t)) := atI_nat (by rw [List.getElem?_map, List.getElem?_range h]; rfl)
theorem run_at (way ring : List Str) {t : Nat} (h : t < way.length + ring.length) : atI ((way ++ ring).map Dat.str) (t : Int) = some (.str (wd way ring t)) := at_map (k := t) (wd_at way ring h)
theorem run_ok {way ring : List Str} (hs : Strs (way ++ ring)) {t : Nat} (h : t < way.length + ring.length) : PyData.strOk (wd way ring t) = true := hs _ (List.mem_of_getElem? (wd_at way ring h))
theorem row_at (s : Say) (way ring : List Str) {t : Nat} (h : t < way.length + ring.length) : atI (bls (rowB s way ring)) (t : Int) = some (.bl (hb (wd way ring) s t)) := by
  have := at_bls (bs := rowB s way ring) (k := t) (by rw [rowB_len]; exact h)
  rw [List.getD_eq_getElem?_getD, rowB_get s way ring h] at this
  exact this
def R_rows_right : List Sl → Dat → List Sl → Prop := fun as d as' => ∃ (s : Say) (way : List Str) (ring : List Str), as = [.dat s.d, .dat (saysD (bondsL s)), .dat (.lst (way.map Dat.str)), .dat (.lst (ring.map Dat.str)), .dat (guessR (bondsL s) way ring)] ∧ d = .bl true ∧ as' = [.no, .no, .no, .no, .no] ∧ s.dep ≤ 5 ∧ s.Ok ∧ 1 ≤ ring.length ∧ way.length + ring.length ≤ 100 ∧ Strs (way ++ ring)
theorem len_rows_right : ∀ as d as', R_rows_right as d as' → as.length = 5 := by
  rintro as d as' ⟨_, _, _, rfl, _⟩
  rfl
abbrev s_rows_right : Stmt := topS 29
theorem sc_rows_right : FnScope ["_law_saying", "_law_bonds_here", "_law_way", "_law_ring", "_law_guesses", "_law_run", "_law_one", "_law_row", "_law_at", "_law_told"] ["_law_saying", "_law_bonds_here", "_law_way", "_law_ring", "_law_guesses"] (defScope s_rows_right) := ⟨rfl, rfl, rfl, by decide +kernel, rfl, by decide +kernel, by decide +kernel⟩
theorem ok_rows_right {f : Addr} {fd : FuncData} (F : Fun K "_law_rows_right" "_law_rows_right" s_rows_right f fd) (T : Tx K mg) {a_all : Addr} {fd_all : FuncData} (c_all : Cal P w K mg base "_law_all" 8 ["_law_saying"] (spG K R_all) a_all fd_all) {a_means : Addr} {fd_means : FuncData} (c_means : Cal P w K mg base "_law_means" 8 ["_law_saying", "_law_way", "_law_ring"] (spF K R_means) a_means fd_means) {a_is_so : Addr} {fd_is_so : FuncData} (c_is_so : Cal P w K mg base "is_so" 8 ["saying", "mark", "bonds", "guess"] (spG K R_is_so) a_is_so fd_is_so) : FnOk P w K mg base CX0 9 f fd ["_law_saying", "_law_bonds_here", "_law_way", "_law_ring", "_law_guesses"] ((spG K R_rows_right)) := by
  have nd := sc_rows_right.nd
  refine F.ok sc_rows_right (spG_len len_rows_right) (fun cdv A outer s H vs Q E hr h => ?_)
  have hu := hr.units
  have hu5 := unit5 hr
  refine ⟨_, (pss_cons (ps_set (i := 5) nd rfl (by first | exact Or.inl rfl | exact Or.inr rfl) (pe_op op_cat (pv 2) (pv 3)))
      (pss_cons (ps_for PassesOwn.never (by rfl) (kiList K (pi_list (pe_call c_all.ok (hr.mono (by omega)) (by rfl) c_all.g c_all.kp c_all.b .nil pass0 (pa_cons (pv 0) pa_nil)))) (pg_name (i := 6) nd rfl (by first | exact Or.inl rfl | exact Or.inr rfl)) (pss_cons (ps_set (i := 7) nd rfl (by first | exact Or.inl rfl | exact Or.inr rfl) (pe_call c_means.ok (hr.mono (by omega)) (by rfl) c_means.g c_means.kp c_means.b .nil pass0 (pa_cons (pv 6) (pa_cons (pv 2) (pa_cons (pv 3) pa_nil)))))
      (pss_one (ps_for PassesOwn.never (by rfl) (pi_range1 (by rfl) T.b_range (pa_cons (pe_callB (kLen K) (by rfl) T.b_len PySem.boot_len (pa_cons (pv 5) pa_nil)) pa_nil)) (pg_name (i := 8) nd rfl (by first | exact Or.inl rfl | exact Or.inr rfl)) (pss_cons (ps_set (i := 9) nd rfl (by first | exact Or.inl rfl | exact Or.inr rfl) (pe_call c_is_so.ok (hr.mono (by omega)) (by rfl) c_is_so.g c_is_so.kp c_is_so.b .nil pass0 (pa_cons (pv 6) (pa_cons (pe_ix (kIxL K) (pv 5) (pv 8) (fun _ _ => rfl)) (pa_cons (pv 1) (pa_cons (pe_ix (kIxL K) (pv 4) (pv 8) (fun _ _ => rfl)) pa_nil))))))
      (pss_one (ps_if (PW.pt (pw_or (pt_not (pt_val (pe_callB (kIsi K) (by rfl) T.b_isinstance (by decide +kernel) (pa_cons (pv 9) (pa_cons (pe_bltn (v := .ty "bool") (by rfl) T.b_bool (by decide +kernel) rfl) pa_nil))))) (pw_or1 (pt_cmpR (kNeD K hu) (pv 9) (pe_ix (kIxL K) (pv 7) (pv 8) (fun _ _ => rfl)) (nomark _))))) (pss_one (ps_ret pe_bl)) pss_nil)))))))
      (pss_one (ps_ret pe_bl)))), ?_⟩
  refine body_ok h len_rows_right fun as d as' hR => ?_
  obtain ⟨s, way, ring, rfl, rfl, rfl, hd, ok, hr, hl, hs⟩ := hR
  walk_at "body"
  have hB := bonds_self ok (by omega)
  refine ex_seq (ex_set (d := .lst ((way ++ ring).map Dat.str)) (Ev.to (ev_of_fresh (ef_cat (el_d (ev_var rfl)) (el_d (ev_var rfl)) rfl rfl (by rw [List.length_map, List.length_map]; omega))) (by rw [List.map_append])) rfl) ?_
  walk_at "nrm"
  have hsz := size_small (s := s) (by omega)
  refine ex_seq (ex_for (n := (allS s).length) (ds := (allS s).map Say.d) (fun _ => [.dat s.d, .dat (saysD (bondsL s)), .dat (.lst (way.map Dat.str)), .dat (.lst (ring.map Dat.str)), .dat (guessR (bondsL s) way ring), .dat (.lst ((way ++ ring).map Dat.str)), .no, .no, .no, .no]) (src_list (ev_callA (ea_d (ev_var rfl) ea_nil) rfl ⟨s, rfl, rfl, rfl, by omega, by omega, ok⟩) rfl) (fun _ => rfl) (by rw [List.length_map]; exact Nat.le_refl _) (fun i d hi hd => .inl ?_) (.done (by rw [List.length_map]))) (ex_retW ev_bl rfl (by walk_at "le"))
  have hpi : (allS s)[i]? = some (allS s)[i] := List.getElem?_eq_getElem hi
  rw [List.getElem?_map, hpi] at hd
  cases hd
  have hpm : (allS s)[i] ∈ allS s := List.getElem_mem hi
  generalize (allS s)[i] = one at *
  obtain ⟨ook, odep⟩ := allS_ok ok one hpm
  have hcv := cov_all hpm
  walk_at "nrm"
  refine ex_seq (ex_set (d := .lst (bls (rowB one way ring))) (ev_of_fresh (ef_call (ea_d (ev_var rfl) (ea_d (ev_var rfl) (ea_d (ev_var rfl) ea_nil))) rfl ⟨one, way, ring, rfl, rfl, by omega, ook, hr, by omega, hs⟩)) rfl) ?_
  walk_at "nrm"
  refine Ex.weak (ex_for (n := way.length + ring.length) (ds := rngD 0 ((way.length + ring.length : Nat) : Int).toNat) (fun _ => [.dat s.d, .dat (saysD (bondsL s)), .dat (.lst (way.map Dat.str)), .dat (.lst (ring.map Dat.str)), .dat (guessR (bondsL s) way ring), .dat (.lst ((way ++ ring).map Dat.str)), .dat one.d, .dat (.lst (bls (rowB one way ring))), .no, .no]) (src_rng1 (Ev.to (ev_lenL rfl (el_d (ev_var rfl)) rfl) (by rw [List.length_map, List.length_append])) (by omega) (by omega)) (fun _ => rfl) (by rw [rngD_len]; omega) (fun t d ht hd => .inl ?_) (.done (by rw [rngD_len]; omega))) (by walk_at "le")
  obtain ⟨_, rfl⟩ := rngD_get hd
  rw [Int.zero_add]
  walk_at "nrm"
  refine ex_seq (ex_set (d := .bl (hb (wd way ring) one t)) (Ev.to (ev_callA (ea_d (ev_var rfl) (ea_d (ev_ixL (el_d (ev_var rfl)) (ev_var rfl) rfl (run_at way ring ht)) (ea_d (ev_var rfl) (ea_d (ev_ixL (el_d (ev_var rfl)) (ev_var rfl) rfl (guess_at (bondsL s) way ring ht)) ea_nil)))) rfl ⟨one, _, bondsL s, _, rfl, rfl, rfl, by omega, ook, hcv, hB.rok, (gR_len _ _ _).symm, run_ok hs ht⟩) (by rw [soG_right _ _ hcv])) rfl) ?_
  walk_at "nrm"
  refine ex_if (a := false) (EvT.to (et_or (et_not (et_B (ev_isi (T := "bool") (ev_var rfl) rfl rfl))) fun _ => et_test (ev_ne (ev_var rfl) (ev_ixL (el_d (ev_var rfl)) (ev_var rfl) rfl (row_at one way ring ht)) (by simp only [Shp]) (by simp only [Shp]))) (by rw [eqd_bl]; simp)) (fun q => by cases q) fun _ => Ex.weak ex_next (by walk_at "le")
theorem turn_cut {g : List Bool} {k : Nat} (h : k < g.length) : cutD (bls g) none (some (k : Int)) ++ [.bl (!g.getD k false)] ++ cutD (bls g) (some ((k + 1 : Nat) : Int)) none = bls (turnG g k) := by
  rw [cutD_to, cutD_from]
  unfold turnG bls
  rw [List.set_eq_take_append_cons_drop, if_pos h, List.map_append, List.map_cons, List.map_take, List.map_drop, List.append_assoc]
  rfl
theorem nxt_nx (way ring : List Str) (t : Nat) : nxt way ring t = nx way ring t := rfl
def R_steps_right : List Sl → Dat → List Sl → Prop := fun as d as' => ∃ (s : Say) (way : List Str) (ring : List Str) (k : Nat) (mo : Nat), as = [.dat (saysD (bondsL s)), .dat (.lst (way.map Dat.str)), .dat (.lst (ring.map Dat.str)), .dat (guessR (bondsL s) way ring), .dat (.int k), .dat (.int mo)] ∧ d = .bl true ∧ as' = [.no, .no, .no, .no, .no, .no] ∧ s.dep ≤ 5 ∧ s.Ok ∧ 1 ≤ ring.length ∧ way.length + ring.length ≤ 100 ∧ Strs (way ++ ring) ∧ (0 < (bondsL s).length → k < (bondsL s).length)
theorem len_steps_right : ∀ as d as', R_steps_right as d as' → as.length = 6 := by
  rintro as d as' ⟨_, _, _, _, _, rfl, _⟩
  rfl
abbrev s_steps_right : Stmt := topS 30
theorem sc_steps_right : FnScope ["_law_bonds_here", "_law_way", "_law_ring", "_law_guesses", "_law_k", "_law_moment", "_law_run", "_law_at", "_law_then", "_law_told", "_law_turned"] ["_law_bonds_here", "_law_way", "_law_ring", "_law_guesses", "_law_k", "_law_moment"] (defScope s_steps_right) := ⟨rfl, rfl, rfl, by decide +kernel, rfl, by decide +kernel, by decide +kernel⟩
theorem ok_steps_right {f : Addr} {fd : FuncData} (F : Fun K "_law_steps_right" "_law_steps_right" s_steps_right f fd) (T : Tx K mg) {a_after : Addr} {fd_after : FuncData} (c_after : Cal P w K mg base "_law_after" 1 ["_law_way", "_law_ring", "_law_at"] (spG K R_after) a_after fd_after) {a_goes_on : Addr} {fd_goes_on : FuncData} (c_goes_on : Cal P w K mg base "goes_on" 10 ["bonds", "now", "then"] (spG K R_goes_on) a_goes_on fd_goes_on) : FnOk P w K mg base CX0 11 f fd ["_law_bonds_here", "_law_way", "_law_ring", "_law_guesses", "_law_k", "_law_moment"] ((spG K R_steps_right)) := by
  have nd := sc_steps_right.nd
  refine F.ok sc_steps_right (spG_len len_steps_right) (fun cdv A outer s H vs Q E hr h => ?_)
  have hu := hr.units
  have hu5 := unit5 hr
  refine ⟨_, (pss_cons (ps_set (i := 6) nd rfl (by first | exact Or.inl rfl | exact Or.inr rfl) (pe_op op_cat (pv 1) (pv 2)))
      (pss_cons (ps_for PassesOwn.never (by rfl) (pi_range1 (by rfl) T.b_range (pa_cons (pe_callB (kLen K) (by rfl) T.b_len PySem.boot_len (pa_cons (pv 6) pa_nil)) pa_nil)) (pg_name (i := 7) nd rfl (by first | exact Or.inl rfl | exact Or.inr rfl)) (pss_cons (ps_set (i := 8) nd rfl (by first | exact Or.inl rfl | exact Or.inr rfl) (pe_ix (kIxL K) (pe_call c_after.ok (hr.mono (by omega)) (by rfl) c_after.g c_after.kp c_after.b .nil pass0 (pa_cons (pv 1) (pa_cons (pv 2) (pa_cons (pv 7) pa_nil)))) pe_int (fun _ _ => rfl)))
      (pss_cons (ps_set (i := 9) nd rfl (by first | exact Or.inl rfl | exact Or.inr rfl) (pe_call c_goes_on.ok (hr.mono (by omega)) (by rfl) c_goes_on.g c_goes_on.kp c_goes_on.b .nil pass0 (pa_cons (pv 0) (pa_cons (pe_tup (pa_cons (pe_ix (kIxL K) (pv 6) (pv 7) (fun _ _ => rfl)) (pa_cons (pe_ix (kIxL K) (pv 3) (pv 7) (fun _ _ => rfl)) pa_nil))) (pa_cons (pe_tup (pa_cons (pe_ix (kIxL K) (pv 6) (pv 8) (fun _ _ => rfl)) (pa_cons (pe_ix (kIxL K) (pv 3) (pv 8) (fun _ _ => rfl)) pa_nil))) pa_nil)))))
      (pss_cons (ps_if (PW.pt (pw_or (pt_not (pt_val (pe_callB (kIsi K) (by rfl) T.b_isinstance (by decide +kernel) (pa_cons (pv 9) (pa_cons (pe_bltn (v := .ty "bool") (by rfl) T.b_bool (by decide +kernel) rfl) pa_nil))))) (pw_or1 (pt_not (pt_val (pv 9)))))) (pss_one (ps_ret pe_bl)) pss_nil)
      (pss_one (ps_if (PW.pt (pw_and (pt_cmpR (kEqD K hu) (pv 7) (pv 5) (nomark _)) (pw_and1 (pt_cmpR op_gt (pe_callB (kLen K) (by rfl) T.b_len PySem.boot_len (pa_cons (pv 0) pa_nil)) pe_int (nomark _))))) (pss_cons (ps_set (i := 10) nd rfl (by first | exact Or.inl rfl | exact Or.inr rfl) (pe_op (kCatA K) (pe_op (kCatA K) (pe_slice (kSlA K) (pe_ix (kIxL K) (pv 3) (pv 7) (fun _ _ => rfl)) po_none (po_some (pv 4))) (pe_tup (pa_cons (pe_not (pe_ix (kIxT K) (pe_ix (kIxL K) (pv 3) (pv 7) (fun _ _ => rfl)) (pv 4) (fun _ _ => rfl))) pa_nil))) (pe_slice (kSlA K) (pe_ix (kIxL K) (pv 3) (pv 7) (fun _ _ => rfl)) (po_some (pe_op op_add (pv 4) pe_int)) po_none)))
      (pss_one (ps_if (pt_val (pe_call c_goes_on.ok (hr.mono (by omega)) (by rfl) c_goes_on.g c_goes_on.kp c_goes_on.b .nil pass0 (pa_cons (pv 0) (pa_cons (pe_tup (pa_cons (pe_ix (kIxL K) (pv 6) (pv 7) (fun _ _ => rfl)) (pa_cons (pv 10) pa_nil))) (pa_cons (pe_tup (pa_cons (pe_ix (kIxL K) (pv 6) (pv 8) (fun _ _ => rfl)) (pa_cons (pe_ix (kIxL K) (pv 3) (pv 8) (fun _ _ => rfl)) pa_nil))) pa_nil))))) (pss_one (ps_ret pe_bl)) pss_nil))) pss_nil))))))
      (pss_one (ps_ret pe_bl)))), ?_⟩
  refine body_ok h len_steps_right fun as d as' hR => ?_
  obtain ⟨s, way, ring, k, mo, rfl, rfl, rfl, hd, ok, hr, hl, hs, hk⟩ := hR
  walk_at "body"
  have hB := bonds_self ok (by omega)
  have hbl := hB.len
  refine ex_seq (ex_set (d := .lst ((way ++ ring).map Dat.str)) (Ev.to (ev_of_fresh (ef_cat (el_d (ev_var rfl)) (el_d (ev_var rfl)) rfl rfl (by rw [List.length_map, List.length_map]; omega))) (by rw [List.map_append])) rfl) ?_
  walk_at "nrm"
  refine ex_seq (ex_for (n := way.length + ring.length) (ds := rngD 0 ((way.length + ring.length : Nat) : Int).toNat) (fun _ => [.dat (saysD (bondsL s)), .dat (.lst (way.map Dat.str)), .dat (.lst (ring.map Dat.str)), .dat (guessR (bondsL s) way ring), .dat (.int k), .dat (.int mo), .dat (.lst ((way ++ ring).map Dat.str)), .no, .no, .no, .no]) (src_rng1 (Ev.to (ev_lenL rfl (el_d (ev_var rfl)) rfl) (by rw [List.length_map, List.length_append])) (by omega) (by omega)) (fun _ => rfl) (by rw [rngD_len]; omega) (fun t d ht hd => .inl ?_) (.done (by rw [rngD_len]; omega))) (ex_retW ev_bl rfl (by walk_at "le"))
  obtain ⟨_, rfl⟩ := rngD_get hd
  rw [Int.zero_add]
  walk_at "nrm"
  have ha1 : atI ((after way ring t).map fun k => Dat.int ((k : Nat) : Int)) 1 = some (.int (nx way ring t : Nat)) := atI_nat (j := 1) (by rw [List.getElem?_map, after_one way ring hr ht, nxt_nx]; rfl)
  have hnl := nx_lt (way := way) hr t
  have hgo := goOn_right hB ht
  have hgl : ∀ t, (gR (bondsL s) (wd way ring) t).length = (bondsL s).length := gR_len _ _
  refine ex_seq (ex_set (d := .int (nx way ring t : Nat)) (ev_ixL (el_d (ev_callA (ea_d (ev_var rfl) (ea_d (ev_var rfl) (ea_d (ev_var rfl) ea_nil))) rfl ⟨way, ring, t, rfl, rfl, rfl, by omega, by omega⟩)) ev_int rfl ha1) rfl) ?_
  walk_at "nrm"
  have kn : ∀ (x y : Sl) (v : Nat) (u : Nat), u < way.length + ring.length → ([.dat (saysD (bondsL s)), .dat (.lst (way.map Dat.str)), .dat (.lst (ring.map Dat.str)), .dat (guessR (bondsL s) way ring), .dat (.int k), .dat (.int mo), .dat (.lst ((way ++ ring).map Dat.str)), .dat (.int t), .dat (.int (nx way ring t : Nat)), x, y] : List Sl)[v]? = some (.dat (.int u)) → Ev K (tTup (tCons (tOp (rIxL K) (tVar 6) (tVar v)) (tCons (tOp (rIxL K) (tVar 3) (tVar v)) tNil))) [.dat (saysD (bondsL s)), .dat (.lst (way.map Dat.str)), .dat (.lst (ring.map Dat.str)), .dat (guessR (bondsL s) way ring), .dat (.int k), .dat (.int mo), .dat (.lst ((way ++ ring).map Dat.str)), .dat (.int t), .dat (.int (nx way ring t : Nat)), x, y] (knotD (wd way ring u) (gR (bondsL s) (wd way ring) u)) [.dat (saysD (bondsL s)), .dat (.lst (way.map Dat.str)), .dat (.lst (ring.map Dat.str)), .dat (guessR (bondsL s) way ring), .dat (.int k), .dat (.int mo), .dat (.lst ((way ++ ring).map Dat.str)), .dat (.int t), .dat (.int (nx way ring t : Nat)), x, y] := fun x y v u hu hv =>
    ev_tupA (ea_d (ev_ixL (el_d (ev_var rfl)) (ev_var hv) rfl (run_at way ring hu)) (ea_d (ev_ixL (el_d (ev_var rfl)) (ev_var hv) rfl (guess_at (bondsL s) way ring hu)) ea_nil)) rfl (by show 2 ≤ 100000; decide)
  refine ex_seq (ex_set (d := .bl true) (Ev.to (ev_callA (ea_d (ev_var rfl) (ea_d (kn .no .no 7 t ht rfl) (ea_d (kn .no .no 8 _ hnl rfl) ea_nil))) rfl ⟨bondsL s, _, _, _, _, rfl, rfl, rfl, hB, (hgl _).symm, (hgl _).symm, run_ok hs ht, run_ok hs hnl⟩) (by rw [hgo])) rfl) ?_
  walk_at "nrm"
  refine ex_seq (ex_if (a := false) (EvT.to (et_or (et_not (et_B (ev_isi (T := "bool") (b := true) (ev_var rfl) rfl rfl))) fun _ => et_not (et_B (b := true) (ev_var rfl))) rfl) (fun q => by cases q) fun _ => ex_next) ?_
  walk_at "nrm"
  have tl : EvT K (tTest (tOp (rI0 fun i j => V.bl (decide (j < i))) (tCB (rLenQ K) (tCons (tVar 0) tNil)) (tC (V.int 0)))) [.dat (saysD (bondsL s)), .dat (.lst (way.map Dat.str)), .dat (.lst (ring.map Dat.str)), .dat (guessR (bondsL s) way ring), .dat (.int k), .dat (.int mo), .dat (.lst ((way ++ ring).map Dat.str)), .dat (.int t), .dat (.int (nx way ring t : Nat)), .dat (.bl true), .no] (decide (0 < (bondsL s).length)) [.dat (saysD (bondsL s)), .dat (.lst (way.map Dat.str)), .dat (.lst (ring.map Dat.str)), .dat (guessR (bondsL s) way ring), .dat (.int k), .dat (.int mo), .dat (.lst ((way ++ ring).map Dat.str)), .dat (.int t), .dat (.int (nx way ring t : Nat)), .dat (.bl true), .no] :=
    EvT.to (et_test (ev_b0 (g := fun i j => decide (j < i)) (ev_lenL (ds := (bondsL s).map Say.d) rfl (el_d (ev_var rfl)) rfl) ev_int)) (by rw [List.length_map]; exact decide_eq_decide.mpr (by omega))
  have te : EvT K (tTest (tOp (rEqD K) (tVar 7) (tVar 5))) [.dat (saysD (bondsL s)), .dat (.lst (way.map Dat.str)), .dat (.lst (ring.map Dat.str)), .dat (guessR (bondsL s) way ring), .dat (.int k), .dat (.int mo), .dat (.lst ((way ++ ring).map Dat.str)), .dat (.int t), .dat (.int (nx way ring t : Nat)), .dat (.bl true), .no] ((t : Int) == (mo : Int)) [.dat (saysD (bondsL s)), .dat (.lst (way.map Dat.str)), .dat (.lst (ring.map Dat.str)), .dat (guessR (bondsL s) way ring), .dat (.int k), .dat (.int mo), .dat (.lst ((way ++ ring).map Dat.str)), .dat (.int t), .dat (.int (nx way ring t : Nat)), .dat (.bl true), .no] :=
    EvT.to (et_test (ev_eq (ev_var rfl) (ev_var rfl) (by simp only [Shp]) (by simp only [Shp]))) (by rw [eqd_int])
  refine ex_if (et_and te fun _ => tl) (fun hh => ?_) fun _ => Ex.weak ex_next (by walk_at "le")
  have hbp : 0 < (bondsL s).length := by
    have := (Bool.and_eq_true _ _ ▸ hh : _ ∧ _).2
    exact of_decide_eq_true this
  have hk := hk hbp
  have hgt := hgl t
  have hturn := goOn_turned hB hk hgt.symm hgo
  generalize hG : gR (bondsL s) (wd way ring) t = g at *
  have hg3 : ∀ (o : Sl), Ev K (tOp (rIxL K) (tVar 3) (tVar 7)) [.dat (saysD (bondsL s)), .dat (.lst (way.map Dat.str)), .dat (.lst (ring.map Dat.str)), .dat (guessR (bondsL s) way ring), .dat (.int k), .dat (.int mo), .dat (.lst ((way ++ ring).map Dat.str)), .dat (.int t), .dat (.int (nx way ring t : Nat)), .dat (.bl true), o] (.tup (bls g)) [.dat (saysD (bondsL s)), .dat (.lst (way.map Dat.str)), .dat (.lst (ring.map Dat.str)), .dat (guessR (bondsL s) way ring), .dat (.int k), .dat (.int mo), .dat (.lst ((way ++ ring).map Dat.str)), .dat (.int t), .dat (.int (nx way ring t : Nat)), .dat (.bl true), o] := fun o =>
    Ev.to (ev_ixL (el_d (ev_var rfl)) (ev_var rfl) rfl (guess_at (bondsL s) way ring ht)) (by rw [hG]; rfl)
  have hcl : (cutD (bls g) none (some (k : Int))).length ≤ 200 := by rw [cutD_to, List.length_take]; unfold bls; rw [List.length_map]; omega
  have hcl2 : (cutD (bls g) (some ((k + 1 : Nat) : Int)) none).length ≤ 200 := by rw [cutD_from, List.length_drop]; unfold bls; rw [List.length_map]; omega
  refine ex_seq (ex_set (d := tupB (turnG g k)) (Ev.to (ev_catT (ev_catT (ev_slA (hg3 _) eo_no (eo_some (ev_var rfl))) (ev_tupA (ea_d (ev_not (ev_ixT (hg3 _) (ev_var rfl) (at_bls (by omega)))) ea_nil) rfl (by show 1 ≤ 100000; decide)) (by show _ + 1 ≤ _; omega)) (ev_slA (hi := none) (hg3 _) (eo_some (ev_i0 (ev_var rfl) ev_int)) eo_no) (by rw [List.length_append]; show _ + 1 + _ ≤ _; exact Nat.le_trans (Nat.add_le_add (Nat.add_le_add_right hcl 1) (by exact hcl2)) (by decide))) (congrArg Dat.tup (turn_cut (by omega)))) rfl) ?_
  walk_at "nrm"
  have kt : Ev K (tTup (tCons (tOp (rIxL K) (tVar 6) (tVar 7)) (tCons (tVar 10) tNil))) [.dat (saysD (bondsL s)), .dat (.lst (way.map Dat.str)), .dat (.lst (ring.map Dat.str)), .dat (guessR (bondsL s) way ring), .dat (.int k), .dat (.int mo), .dat (.lst ((way ++ ring).map Dat.str)), .dat (.int t), .dat (.int (nx way ring t : Nat)), .dat (.bl true), .dat (tupB (turnG g k))] (knotD (wd way ring t) (turnG g k)) [.dat (saysD (bondsL s)), .dat (.lst (way.map Dat.str)), .dat (.lst (ring.map Dat.str)), .dat (guessR (bondsL s) way ring), .dat (.int k), .dat (.int mo), .dat (.lst ((way ++ ring).map Dat.str)), .dat (.int t), .dat (.int (nx way ring t : Nat)), .dat (.bl true), .dat (tupB (turnG g k))] :=
    ev_tupA (ea_d (ev_ixL (el_d (ev_var rfl)) (ev_var rfl) rfl (run_at way ring ht)) (ea_d (ev_var rfl) ea_nil)) rfl (by show 2 ≤ 100000; decide)
  refine ex_if (a := false) (et_B (Ev.to (ev_callA (ea_d (ev_var rfl) (ea_d kt (ea_d (kn (.dat (.bl true)) (.dat (tupB (turnG g k))) 8 _ hnl rfl) ea_nil))) rfl ⟨bondsL s, _, _, _, _, rfl, rfl, rfl, hB, by rw [turnG_len]; exact hgt.symm, (hgl _).symm, run_ok hs ht, run_ok hs hnl⟩) (by rw [hturn]))) (fun q => by cases q) fun _ => Ex.weak ex_next (by walk_at "le")
theorem ev_bond {K : PySem.W.Frag} {ρ : List Sl} {te : TE} {i2 i3 : Nat} {bs : List Say} {g : List Bool} {b : Say} (hb : Bonds bs) (hbm : b ∈ bs) (hg : bs.length = g.length) (he : Ev K te ρ b.d ρ) (h2 : ρ[i2]? = some (.dat (saysD bs))) (h3 : ρ[i3]? = some (.dat (tupB g))) :
    Ev K (tOp (rIxT K) (tVar i3) (tBM K "list" (rIndexD K) (tVar i2) (tCons te tNil))) ρ (.bl (bondAt bs g b)) ρ := by
  obtain ⟨i1, k1⟩ := idxOf_find hbm
  have hil := (List.getElem?_eq_some_iff.mp i1).1
  have sb : ∀ b ∈ bs, Shp 59 b.d := fun b hb' => shp_le (say_shp b (hb.row b hb').1) (by have := (hb.row b hb').2; omega)
  refine ev_ixT (ev_var h3) (ev_indexD (ds := bs.map Say.d) (z := b.d) (j := bs.idxOf b) (el_d (ev_var h2)) he rfl rfl (shp_up (sb _ hbm)) (shpAll_of fun d hd => ?_) (by rw [List.getElem?_map, i1]; rfl) (by rw [eqd_say]; simp) (fun k z' hk hz => ?_)) (at_bls (by omega))
  · obtain ⟨b, hb, rfl⟩ := List.mem_map.mp hd
    exact sb b hb
  · rw [List.getElem?_map] at hz
    cases e : bs[k]? with
    | none => rw [e] at hz; cases hz
    | some x =>
      rw [e] at hz
      cases hz
      rw [eqd_say]
      exact decide_eq_false (k1 k x hk e)
def Rn_so (n : Nat) : List Sl → Dat → List Sl → Prop := fun as d as' => ∃ (s : Say) (m : Str) (bs : List Say) (g : List Bool), as = [.dat s.d, .dat (.str m), .dat (saysD bs), .dat (tupB g)] ∧ d = .bl (soG bs g m s) ∧ as' = [.no, .no, .no, .no] ∧ s.dep ≤ n ∧ s.dep ≤ 7 ∧ s.Ok ∧ Cov bs s ∧ Bonds bs ∧ bs.length = g.length ∧ PyData.strOk m = true
theorem lenn_so {n : Nat} : ∀ as d as', Rn_so n as d as' → as.length = 4 := by
  rintro as d as' ⟨_, _, _, _, rfl, _⟩
  rfl
def R_so := Rn_so 7
theorem len_so : ∀ as d as', R_so as d as' → as.length = 4 := lenn_so
abbrev s_so : Stmt := topS 24
theorem sc_so : FnScope ["_law_saying", "_law_mark", "_law_bonds_here", "_law_guess", "_law_word", "_law_parts", "_law_part"] ["_law_saying", "_law_mark", "_law_bonds_here", "_law_guess"] (defScope s_so) := ⟨rfl, rfl, rfl, by decide +kernel, rfl, by decide +kernel, by decide +kernel⟩
theorem ok_so {f : Addr} {fd : FuncData} (F : Fun K "_law_so" "_law_so" s_so f fd) (T : Tx K mg) (g_self : mg "_law_so" = some (.ref f)) (k_self : PySem.W.keepIn K (.ref f) = true) (b_self : Binds K fd ["_law_saying", "_law_mark", "_law_bonds_here", "_law_guess"] [])  : FnOk P w K mg base CX0 8 f fd ["_law_saying", "_law_mark", "_law_bonds_here", "_law_guess"] ((spG K R_so)) := by
  have nd := sc_so.nd
  have key : ∀ n : Nat, FnOk P w K mg base CX0 (1 + n) f fd ["_law_saying", "_law_mark", "_law_bonds_here", "_law_guess"] (spG K (Rn_so n)) := by
    intro n
    induction n with
    | zero =>
      have no : ∀ as d as', Rn_so 0 as d as' → False := by
          rintro as d as' ⟨s, m, bs, g, rfl, rfl, rfl, h, _⟩
          have := dep_pos s
          omega
      exact F.ok sc_so (spG_len lenn_so) (fun cdv A outer s H vs Q E hr h => by obtain ⟨_, _, _, _, _, r, _⟩ := h; exact (no _ _ _ r).elim)
    | succ n ih =>
      have c_so : Cal P w K mg base "_law_so" (1 + n) ["_law_saying", "_law_mark", "_law_bonds_here", "_law_guess"] (spG K (Rn_so n)) f fd := ⟨g_self, k_self, b_self, ih⟩
      refine F.ok (k := 1 + n) sc_so (spG_len lenn_so) (fun cdv A outer s H vs Q E hr h => ?_)
      have hu := hr.units
      have hu5 := unit5 hr
      refine ⟨_, (pss_cons (ps_set (i := 4) nd rfl (by first | exact Or.inl rfl | exact Or.inr rfl) (pe_ix (kIxT K) (pv 0) pe_int (fun _ _ => rfl)))
      (pss_cons (ps_if (pt_cmpR (kEqD K hu) (pv 4) pe_str (nomark _)) (pss_one (ps_ret (pe_cmpR (kEqD K hu) (pv 1) (pe_ix (kIxT K) (pv 0) pe_int (fun _ _ => rfl)) (nomark _)))) pss_nil)
      (pss_cons (ps_if (pt_cmpR (kEqD K hu) (pv 4) pe_str (nomark _)) (pss_one (ps_ret pe_bl)) pss_nil)
      (pss_cons (ps_if (pt_cmpR (kEqD K hu) (pv 4) pe_str (nomark _)) (pss_one (ps_ret (pe_ix (kIxT K) (pv 3) (kBM K (pe_bm PySem.F.plainAttrs_list PySem.F.slot_list_index PySem.F.type_list_index (kIndexD K hu5) (pv 2) (pa_cons (pe_tup (pa_cons pe_str (pa_cons (pe_tup (pa_cons pe_str (pa_cons (pe_tup (pa_cons pe_str pa_nil)) (pa_cons (pe_ix (kIxT K) (pv 0) pe_int (fun _ _ => rfl)) pa_nil)))) pa_nil))) pa_nil))) (fun _ _ => rfl)))) pss_nil)
      (pss_cons (ps_if (pt_cmpR (kInD K hu5) (pv 0) (pv 2) (by with_unfolding_all rfl)) (pss_one (ps_ret (pe_ix (kIxT K) (pv 3) (kBM K (pe_bm PySem.F.plainAttrs_list PySem.F.slot_list_index PySem.F.type_list_index (kIndexD K hu5) (pv 2) (pa_cons (pv 0) pa_nil))) (fun _ _ => rfl)))) pss_nil)
      (pss_cons (ps_setLc (i := 5) (own := [("_law_part", 6)]) (g := gName 6) (tt := tYes) (by rfl) nd rfl rfl (sw_true rfl rfl rfl (by decide +kernel)) (kiTup K (pi_tup (pe_slice (kSlA K) (pv 0) (po_some pe_int) po_none))) (blkOk_by (own := [("_law_part", 6)]) (N := ["_law_saying", "_law_mark", "_law_bonds_here", "_law_guess", "_law_word", "_law_parts", "_law_part"]) (sc := defScope s_so) (by decide +kernel)) (fun _ _ _ _ _ => pg_name (i := 6) nd rfl (by first | exact Or.inl rfl | exact Or.inr rfl)) (fun _ _ _ _ _ => pts_nil) (fun _ _ _ _ _ => (pe_call c_so.ok (hr.mono (by omega)) (by rfl) c_so.g c_so.kp c_so.b .nil pass0 (pa_cons (pv 6) (pa_cons (pv 1) (pa_cons (pv 2) (pa_cons (pv 3) pa_nil)))))))
      (pss_cons (ps_if (pt_cmpR (kEqD K hu) (pv 4) pe_str (nomark _)) (pss_one (ps_ret (pe_not (pe_ix (kIxL K) (pv 5) pe_int (fun _ _ => rfl))))) pss_nil)
      (pss_one (ps_ret (pe_ix (kIxL K) (pe_lst (pa_cons (pe_and (pe_ix (kIxL K) (pv 5) pe_int (fun _ _ => rfl)) (pe_one (pe_ix (kIxL K) (pv 5) pe_int (fun _ _ => rfl)))) (pa_cons (pe_or (pe_ix (kIxL K) (pv 5) pe_int (fun _ _ => rfl)) (pe_one (pe_ix (kIxL K) (pv 5) pe_int (fun _ _ => rfl)))) pa_nil))) (pe_callTy call_int1 (by rfl) T.b_int (by decide +kernel) (pa_cons (pe_cmpR (kEqD K hu) (pv 4) pe_str (nomark _)) pa_nil)) (fun _ _ => rfl))))))))))), ?_⟩
      refine body_ok h lenn_so fun as d as' hR => ?_
      obtain ⟨s, m, bs, g, rfl, rfl, rfl, hn, h7, ok, cv, hb, hg, hm⟩ := hR
      walk_at "body"
      rw [say_args s]
      refine ex_seq (ex_set (d := .str s.kind) (ev_ixT (ev_var rfl) ev_int (atI_nat (j := 0) rfl)) rfl) ?_
      rw [← say_args s]
      walk_at "nrm"
      have tw : ∀ (y : Str) (b : Bool), PyData.strOk y = true → (s.kind == y) = b → EvT K (tTest (tOp (rEqD K) (tVar 4) (tC (.str y)))) [.dat s.d, .dat (.str m), .dat (saysD bs), .dat (tupB g), .dat (.str s.kind), .no, .no] b [.dat s.d, .dat (.str m), .dat (saysD bs), .dat (tupB g), .dat (.str s.kind), .no, .no] := fun y b h1 h2 => et_word rfl (kind_ok s) h1 h2
      have no : ∀ (y : Str) (j : Nat), j < 9 → y = kindTab.getD j "" → (s.kind == y) = decide (s.kn = j) := fun y j hj e => by
        rw [e, kind_tab s]
        exact tab_inj ⟨s.kn, kn_lt s⟩ ⟨j, hj⟩
      have t0 := fun b h => tw _ b (by decide +kernel) ((no "mark" 0 (by decide) rfl).trans h)
      have t1 := fun b h => tw _ b (by decide +kernel) ((no "yes" 1 (by decide) rfl).trans h)
      have t8 := fun b h => tw _ b (by decide +kernel) ((no "again" 8 (by decide) rfl).trans h)
      have sb : ∀ b ∈ bs, Shp 59 b.d := fun b hb' => shp_le (say_shp b (hb.row b hb').1) (by have := (hb.row b hb').2; omega)
      have tin : EvT K (tTest (tOp (rInD K) (tVar 0) (tVar 2))) [.dat s.d, .dat (.str m), .dat (saysD bs), .dat (tupB g), .dat (.str s.kind), .no, .no] (decide (s ∈ bs)) [.dat s.d, .dat (.str m), .dat (saysD bs), .dat (tupB g), .dat (.str s.kind), .no, .no] :=
        EvT.to (et_test (ev_in (ds := bs.map Say.d) (ev_var rfl) (el_d (ev_var rfl)) rfl (shp_le (say_shp s ok) (by omega)) (shpAll_of fun d hd => by obtain ⟨b, hb, rfl⟩ := List.mem_map.mp hd; exact sb b hb))) (any_say bs s)
      have hself : 5 ≤ s.kn → s.kn ≠ 8 → s ∈ bs := fun h1 h2 => by
        have := cov_last cv h1
        cases s <;> first | exact this | (exact absurd rfl h2)
      have hnot : s.kn < 5 → s ∉ bs := fun h1 h2 => by
        have := hb.isB s h2
        cases s <;> first | (cases this; done) | (simp [Say.kn] at h1)
      by_cases hm0 : s.kn = 0
      · refine ex_yes (t0 true (decide_eq_true hm0)) ?_ rfl
        obtain ⟨x, rfl⟩ : ∃ x, s = .mark x := by
          cases s <;> first | exact ⟨_, rfl⟩ | (simp [Say.kn] at hm0)
        exact ex_retW (ev_eq (ev_var rfl) (ev_ixT (ds := [.str "mark", .str x]) (ev_var rfl) ev_int rfl) (shp_lit _ hm) (shp_lit _ (mark_ok ok.1).2)) (by rw [eqd_str]; rfl) (by walk_at "le")
      refine ex_no (t0 false (decide_eq_false hm0)) ?_
      by_cases hm1 : s.kn = 1
      · refine ex_yes (t1 true (decide_eq_true hm1)) ?_ rfl
        have e : soG bs g m s = true := by cases s <;> first | rfl | (simp [Say.kn] at hm1)
        rw [e]
        exact ex_retW ev_bl rfl (by walk_at "le")
      refine ex_no (t1 false (decide_eq_false hm1)) ?_
      by_cases hm8 : s.kn = 8
      · refine ex_yes (t8 true (decide_eq_true hm8)) ?_ rfl
        obtain ⟨u, rfl⟩ : ∃ u, s = .again u := by
          cases s <;> first | exact ⟨_, rfl⟩ | (simp [Say.kn] at hm8)
        have hlast := cov_last cv (show 5 ≤ (Say.again u).kn from Nat.le_add_left 5 3)
        have tl : Ev K (tTup (tCons (tC (V.str (Str.ofString "always"))) (tCons (tTup (tCons (tC (V.str (Str.ofString "till"))) (tCons (tTup (tCons (tC (V.str (Str.ofString "yes"))) tNil)) (tCons (tOp (rIxT K) (tVar 0) (tC (V.int 1))) tNil)))) tNil))) [.dat (Say.again u).d, .dat (.str m), .dat (saysD bs), .dat (tupB g), .dat (.str (Say.again u).kind), .no, .no] (Say.always (.till .yes u)).d [.dat (Say.again u).d, .dat (.str m), .dat (saysD bs), .dat (tupB g), .dat (.str (Say.again u).kind), .no, .no] :=
          Ev.to (ev_tupA (ea_d ev_str (ea_d (ev_tupA (ds := [.str "till", .tup [.str "yes"], u.d]) (ea_d ev_str (ea_d (ev_tupA (ds := [.str "yes"]) (ea_d ev_str ea_nil) rfl (by show 1 ≤ 100000; decide)) (ea_d (ev_ixT (ds := [.str "again", u.d]) (ev_var rfl) ev_int rfl) ea_nil))) rfl (by show 3 ≤ 100000; decide)) ea_nil)) rfl (by show 2 ≤ 100000; decide)) rfl
        exact ex_retW (ev_bond hb hlast hg tl rfl rfl) rfl (by walk_at "le")
      refine ex_no (t8 false (decide_eq_false hm8)) ?_
      by_cases hk : 5 ≤ s.kn
      · have hmem := hself hk hm8
        refine ex_yes (EvT.to tin (decide_eq_true hmem)) ?_ rfl
        refine ex_retW (ev_bond hb hmem hg (ev_var rfl) rfl rfl) ?_ (by walk_at "le")
        rw [soG_bond bs g m hk]
        cases s <;> first | rfl | (exact absurd rfl hm8)
      refine ex_no (EvT.to tin (decide_eq_false (hnot (by omega)))) ?_
      have ha : s.args = s.parts.map Say.d := by cases s <;> first | rfl | (exact absurd rfl hm0)
      have hpt : Ev K (tSl (rSlA K) (tVar 0) (tPart (tC (V.int 1))) tNoPart) [.dat s.d, .dat (.str m), .dat (saysD bs), .dat (tupB g), .dat (.str s.kind), .no, .no] (.tup (s.parts.map Say.d)) [.dat s.d, .dat (.str m), .dat (saysD bs), .dat (tupB g), .dat (.str s.kind), .no, .no] :=
        Ev.to (ev_slA (ds := .str s.kind :: s.args) (lo := some ((1 : Nat) : Int)) (hi := none) (ev_var (by rw [say_args s]; rfl)) (eo_some ev_int) eo_no) (by rw [cutD_from, ha]; rfl)
      have hpl : s.parts.length ≤ 2 := by cases s <;> simp [Say.parts]
      refine ex_seq (ex_set (d := .lst (bls (partsOf bs g m s))) (ev_of_fresh (ef_lcIx (bls (partsOf bs g m s)) (src_tup hpt) rfl (by simp [bls, partsOf]) (by rw [List.length_map]; omega) (fun j d e hd he => ?_))) rfl) ?_
      · rw [List.getElem?_map] at hd
        unfold bls partsOf at he
        rw [List.getElem?_map, List.getElem?_map] at he
        cases hp : s.parts[j]? with
        | none => rw [hp] at hd; cases hd
        | some p =>
          rw [hp] at hd he
          cases hd
          cases he
          have hpm := List.mem_of_getElem? hp
          have := part_dep hpm
          exact ev_callA (ea_d (ev_var rfl) (ea_d (ev_var rfl) (ea_d (ev_var rfl) (ea_d (ev_var rfl) ea_nil)))) rfl ⟨p, m, bs, g, rfl, rfl, rfl, by omega, by omega, part_ok hpm ok, cov_part cv hpm, hb, hg, hm⟩
      walk_at "nrm"
      have tw2 : ∀ (y : Str) (b : Bool), PyData.strOk y = true → (s.kind == y) = b → EvT K (tTest (tOp (rEqD K) (tVar 4) (tC (.str y)))) [.dat s.d, .dat (.str m), .dat (saysD bs), .dat (tupB g), .dat (.str s.kind), .dat (.lst (bls (partsOf bs g m s))), .no] b [.dat s.d, .dat (.str m), .dat (saysD bs), .dat (tupB g), .dat (.str s.kind), .dat (.lst (bls (partsOf bs g m s))), .no] := fun y b h1 h2 => et_word rfl (kind_ok s) h1 h2
      have t2 := fun b h => tw2 _ b (by decide +kernel) ((no "not" 2 (by decide) rfl).trans h)
      have ix : ∀ (i : Nat), i < s.parts.length → Ev K (tOp (rIxL K) (tVar 5) (tC (.int i))) [.dat s.d, .dat (.str m), .dat (saysD bs), .dat (tupB g), .dat (.str s.kind), .dat (.lst (bls (partsOf bs g m s))), .no] (.bl ((partsOf bs g m s).getD i false)) [.dat s.d, .dat (.str m), .dat (saysD bs), .dat (tupB g), .dat (.str s.kind), .dat (.lst (bls (partsOf bs g m s))), .no] := fun i hi =>
        ev_ixL (el_d (ev_var rfl)) ev_int rfl (at_bls (by simpa [partsOf] using hi))
      have orq : Ev K (tOp (rEqD K) (tVar 4) (tC (.str "or"))) [.dat s.d, .dat (.str m), .dat (saysD bs), .dat (tupB g), .dat (.str s.kind), .dat (.lst (bls (partsOf bs g m s))), .no] (.bl (decide (s.kn = 4))) [.dat s.d, .dat (.str m), .dat (saysD bs), .dat (tupB g), .dat (.str s.kind), .dat (.lst (bls (partsOf bs g m s))), .no] :=
        Ev.to (ev_eq (ev_var rfl) ev_str (shp_lit _ (kind_ok s)) (shp_lit _ (by decide +kernel))) (by rw [eqd_str]; exact congrArg Dat.bl (no "or" 4 (by decide) rfl))
      have two : 2 ≤ s.parts.length → ∀ (k : Nat), (if decide (s.kn = 4) = true then (1 : Int) else 0) = (k : Int) → k < 2 → Ev K (tOp (rIxL K)
                          (tLst
                            (tCons (tAndV (tOp (rIxL K) (tVar 5) (tC (V.int 0))) (tOp (rIxL K) (tVar 5) (tC (V.int 1))))
                              (tCons (tOrV (tOp (rIxL K) (tVar 5) (tC (V.int 0))) (tOp (rIxL K) (tVar 5) (tC (V.int 1))))
                                tNil)))
                          (tCB
                            (fun xs H Q =>
                              (∃ i, xs = [V.int i] ∧ Q (V.int i) H) ∨
                                ∃ k, xs = [V.bl k] ∧ Q (V.int (if k = true then 1 else 0)) H)
                            (tCons (tOp (rEqD K) (tVar 4) (tC (V.str (Str.ofString "or")))) tNil))) [.dat s.d, .dat (.str m), .dat (saysD bs), .dat (tupB g), .dat (.str s.kind), .dat (.lst (bls (partsOf bs g m s))), .no] (.bl ([(partsOf bs g m s).getD 0 false && (partsOf bs g m s).getD 1 false, (partsOf bs g m s).getD 0 false || (partsOf bs g m s).getD 1 false].getD k false)) [.dat s.d, .dat (.str m), .dat (saysD bs), .dat (tupB g), .dat (.str s.kind), .dat (.lst (bls (partsOf bs g m s))), .no] := fun hp k hk h2 =>
        ev_ixL (ds := bls [(partsOf bs g m s).getD 0 false && (partsOf bs g m s).getD 1 false, (partsOf bs g m s).getD 0 false || (partsOf bs g m s).getD 1 false]) (el_d (ev_lstA (ea_d (ev_and (ix 0 (by omega)) fun _ => ix 1 (by omega)) (ea_d (ev_or (ix 0 (by omega)) fun _ => ix 1 (by omega)) ea_nil)) rfl (by show 2 ≤ 100000; decide))) (ev_intB rfl orq) rfl (by rw [hk]; exact at_bls (by simpa using h2))
      cases s with
      | not u =>
        refine ex_yes (t2 true rfl) ?_ rfl
        exact ex_retW (ev_not (ix 0 (by simp [Say.parts]))) rfl (by walk_at "le")
      | and u v =>
        refine ex_no (t2 false rfl) ?_
        exact ex_retW (two (by simp [Say.parts]) 0 rfl (by decide)) rfl (by walk_at "le")
      | or u v =>
        refine ex_no (t2 false rfl) ?_
        exact ex_retW (two (by simp [Say.parts]) 1 rfl (by decide)) rfl (by walk_at "le")
      | mark _ => exact absurd rfl hm0
      | yes => exact absurd rfl hm1
      | next _ => exact absurd (by simp [Say.kn]) hk
      | till _ _ => exact absurd (by simp [Say.kn]) hk
      | always _ => exact absurd (by simp [Say.kn]) hk
      | again _ => exact absurd (by simp [Say.kn]) hk
  exact key 7
def R_meets : List Sl → Dat → List Sl → Prop := fun as d as' => ∃ (p : Option Say) (m : Str) (bs : List Say) (g : List Bool), as = [.dat (promD p), .dat (.str m), .dat (saysD bs), .dat (tupB g)] ∧ d = .bl (metG bs g m p) ∧ as' = [.no, .no, .no, .no] ∧ p ∈ promsL bs ∧ Bonds bs ∧ bs.length = g.length ∧ PyData.strOk m = true
theorem len_meets : ∀ as d as', R_meets as d as' → as.length = 4 := by
  rintro as d as' ⟨_, _, _, _, rfl, _⟩
  rfl
abbrev s_meets : Stmt := topS 26
theorem sc_meets : FnScope ["_law_promise", "_law_mark", "_law_bonds_here", "_law_guess", "_law_truth"] ["_law_promise", "_law_mark", "_law_bonds_here", "_law_guess"] (defScope s_meets) := ⟨rfl, rfl, rfl, by decide +kernel, rfl, by decide +kernel, by decide +kernel⟩
theorem ok_meets {f : Addr} {fd : FuncData} (F : Fun K "_law_meets" "_law_meets" s_meets f fd) (T : Tx K mg) {a_so : Addr} {fd_so : FuncData} (c_so : Cal P w K mg base "_law_so" 8 ["_law_saying", "_law_mark", "_law_bonds_here", "_law_guess"] (spG K R_so) a_so fd_so) : FnOk P w K mg base CX0 9 f fd ["_law_promise", "_law_mark", "_law_bonds_here", "_law_guess"] ((spG K R_meets)) := by
  have nd := sc_meets.nd
  refine F.ok sc_meets (spG_len len_meets) (fun cdv A outer s H vs Q E hr h => ?_)
  have hu := hr.units
  have hu5 := unit5 hr
  refine ⟨_, (pss_cons (ps_if (pt_cmpR op_isN (pv 0) pe_non (nomark _)) (pss_one (ps_ret pe_bl)) pss_nil)
      (pss_cons (ps_set (i := 4) nd rfl (by first | exact Or.inl rfl | exact Or.inr rfl) (pe_ix (kIxT K) (pv 3) (kBM K (pe_bm PySem.F.plainAttrs_list PySem.F.slot_list_index PySem.F.type_list_index (kIndexD K hu5) (pv 2) (pa_cons (pv 0) pa_nil))) (fun _ _ => rfl)))
      (pss_cons (ps_if (pt_cmpR (kEqD K hu) (pe_ix (kIxT K) (pv 0) pe_int (fun _ _ => rfl)) pe_str (nomark _)) (pss_one (ps_ret (pe_or (pe_not (pv 4)) (pe_one (pe_call c_so.ok (hr.mono (by omega)) (by rfl) c_so.g c_so.kp c_so.b .nil pass0 (pa_cons (pe_ix (kIxT K) (pv 0) pe_int (fun _ _ => rfl)) (pa_cons (pv 1) (pa_cons (pv 2) (pa_cons (pv 3) pa_nil))))))))) pss_nil)
      (pss_one (ps_ret (pe_or (pv 4) (pe_one (pe_not (pe_call c_so.ok (hr.mono (by omega)) (by rfl) c_so.g c_so.kp c_so.b .nil pass0 (pa_cons (pe_ix (kIxT K) (pv 0) pe_int (fun _ _ => rfl)) (pa_cons (pv 1) (pa_cons (pv 2) (pa_cons (pv 3) pa_nil))))))))))))), ?_⟩
  refine body_ok h len_meets fun as d as' hR => ?_
  obtain ⟨p, m, bs, g, rfl, rfl, rfl, hp, hb, hg, hm⟩ := hR
  walk_at "body"
  have t0 : ∀ (c : Bool), (promD p).isNon = c → EvT K (tTest (tOp (fun x y H Q => y = V.non ∧ Q (V.bl (decide (x = V.non))) H) (tVar 0) (tC V.non))) [.dat (promD p), .dat (.str m), .dat (saysD bs), .dat (tupB g), .no] c [.dat (promD p), .dat (.str m), .dat (saysD bs), .dat (tupB g), .no] := fun c hc => EvT.to (et_test (ev_isN rfl (ev_var rfl) ev_non)) hc
  cases p with
  | none =>
    exact ex_yes (t0 true rfl) (ex_retW ev_bl rfl (by walk_at "le")) rfl
  | some b =>
    have hp : b ∈ bs ∧ b.isProm = true := by simpa [promsL] using hp
    obtain ⟨hbm, hpr⟩ := hp
    refine ex_no (t0 false (by cases b <;> rfl)) ?_
    have hrow := hb.row _ hbm
    obtain ⟨i1, i2⟩ := idxOf_find hbm
    have hil := (List.getElem?_eq_some_iff.mp i1).1
    have sb : ∀ b ∈ bs, Shp 59 b.d := fun b hb' => shp_le (say_shp b (hb.row b hb').1) (by have := (hb.row b hb').2; omega)
    refine ex_seq (ex_set (d := .bl (bondAt bs g b)) (ev_ixT (ev_var rfl) (ev_indexD (ds := bs.map Say.d) (z := b.d) (j := bs.idxOf b) (el_d (ev_var rfl)) (ev_var rfl) rfl rfl (shp_up (sb _ hbm)) (shpAll_of fun d hd => ?_) (by rw [List.getElem?_map, i1]; rfl) (by show eqd b.d b.d = true; rw [eqd_say]; simp) (fun k z' hk hz => ?_)) (at_bls (by omega))) rfl) ?_
    · obtain ⟨b, hb, rfl⟩ := List.mem_map.mp hd
      exact sb b hb
    · rw [List.getElem?_map] at hz
      cases e : bs[k]? with
      | none => rw [e] at hz; cases hz
      | some x =>
        rw [e] at hz
        cases hz
        show eqd x.d b.d = false
        rw [eqd_say]
        exact decide_eq_false (i2 k x hk e)
    · walk_at "nrm"
      have tw : ∀ (c : Bool), (b.kind == "till") = c → EvT K (tTest (tOp (rEqD K) (tOp (rIxT K) (tVar 0) (tC (V.int 0))) (tC (V.str (Str.ofString "till"))))) [.dat b.d, .dat (.str m), .dat (saysD bs), .dat (tupB g), .dat (.bl (bondAt bs g b))] c [.dat b.d, .dat (.str m), .dat (saysD bs), .dat (tupB g), .dat (.bl (bondAt bs g b))] := fun c hc =>
        EvT.to (et_test (ev_eq (ev_ixT (ds := .str b.kind :: b.args) (ev_var (by rw [say_args b]; rfl)) ev_int (at_kind b)) ev_str (shp_lit _ (kind_ok b)) (shp_lit _ (by decide +kernel)))) (by rw [eqd_str]; exact hc)
      have rc : ∀ (q : Say) (i : Nat), q ∈ b.parts → atI (Dat.str b.kind :: b.args) (i : Int) = some q.d → Ev K (tCall (spG K R_so) [] E0 (tCons (tOp (rIxT K) (tVar 0) (tC (.int i))) (tCons (tVar 1) (tCons (tVar 2) (tCons (tVar 3) tNil))))) [.dat b.d, .dat (.str m), .dat (saysD bs), .dat (tupB g), .dat (.bl (bondAt bs g b))] (.bl (soG bs g m q)) [.dat b.d, .dat (.str m), .dat (saysD bs), .dat (tupB g), .dat (.bl (bondAt bs g b))] := fun q i hq hat =>
        ev_callA (ea_d (ev_ixT (ds := .str b.kind :: b.args) (ev_var (by rw [say_args b]; rfl)) ev_int hat) (ea_d (ev_var rfl) (ea_d (ev_var rfl) (ea_d (ev_var rfl) ea_nil)))) rfl ⟨q, m, bs, g, rfl, rfl, rfl, by have := part_dep hq; omega, by have := part_dep hq; omega, part_ok hq hrow.1, cov_part (hb.cov _ hbm) hq, hb, hg, hm⟩
      cases b <;> first | (cases hpr; done) | skip
      case till s t =>
        refine ex_yes (tw true (by simp only [Say.kind]; decide +kernel)) ?_ rfl
        exact ex_retW (ev_or (ev_not (ev_var rfl)) fun _ => rc t 2 (by simp [Say.parts]) rfl) rfl (by walk_at "le")
      case always s =>
        refine ex_no (tw false (by simp only [Say.kind]; decide +kernel)) ?_
        exact ex_retW (ev_or (ev_var rfl) fun _ => ev_not (rc s 1 (by simp [Say.parts]) rfl)) rfl (by walk_at "le")
theorem cutD_one (xs : List Dat) (k : Nat) : cutD xs (some (k : Int)) (some ((k + 1 : Nat) : Int)) = (xs.drop k).take 1 := by
  unfold cutD
  rw [sIx_nat, sIx_nat]
  by_cases h : k < xs.length
  · rw [show min k xs.length = k by omega, show min (k + 1) xs.length - k = 1 by omega]
  · rw [show min (k + 1) xs.length - min k xs.length = 0 by omega, List.drop_eq_nil_of_le (show xs.length ≤ k by omega)]
    simp
/-- one truth turned, if there is one -/
def turnQ (g : List Bool) (k : Nat) : List Bool := g.take k ++ ((g.drop k).take 1).map (fun b => !b) ++ g.drop (k + 1)
theorem turnQ_len (g : List Bool) (k : Nat) : (turnQ g k).length = g.length := by
  unfold turnQ
  simp only [List.length_append, List.length_map, List.length_take, List.length_drop]
  omega
def toldL (bs : List Say) (w : Nat → Str) (k : Nat) (p : Option Say) (gs : Nat → List Bool) (i : Nat) : List Bool := (List.range i).flatMap fun t => [metG bs (turnQ (gs t) k) (w t) p, metG bs (gs t) (w t) p]
theorem toldL_succ (bs : List Say) (w : Nat → Str) (k : Nat) (p : Option Say) (gs : Nat → List Bool) (i : Nat) : toldL bs w k p gs (i + 1) = toldL bs w k p gs i ++ [metG bs (turnQ (gs i) k) (w i) p, metG bs (gs i) (w i) p] := by
  unfold toldL
  rw [List.range_succ, List.flatMap_append]
  rfl
theorem toldL_len (bs : List Say) (w : Nat → Str) (k : Nat) (p : Option Say) (gs : Nat → List Bool) : ∀ i, (toldL bs w k p gs i).length = 2 * i
  | 0 => rfl
  | i + 1 => by rw [toldL_succ, List.length_append, toldL_len bs w k p gs i]; show _ + 2 = _; omega
theorem toldL_get (bs : List Say) (w : Nat → Str) (k : Nat) (p : Option Say) (gs : Nat → List Bool) {t : Nat} : ∀ {i : Nat}, t < i → (toldL bs w k p gs i)[2 * t + 1]? = some (metG bs (gs t) (w t) p)
  | i + 1, h => by
    rw [toldL_succ]
    by_cases h1 : t < i
    · rw [List.getElem?_append_left (by rw [toldL_len]; omega)]
      exact toldL_get bs w k p gs h1
    · have e : t = i := by omega
      subst e
      rw [List.getElem?_append_right (by rw [toldL_len]; omega), toldL_len, show 2 * t + 1 - 2 * t = 1 by omega]
      rfl
theorem prom_next {bs : List Say} (h : Bonds bs) : bs.filter Say.isProm = bs.filter fun b => !(b.kind == ("next" : Str)) := by
  refine List.filter_congr fun b hb => ?_
  have := h.isB b hb
  cases b <;> first | (cases this; done) | (simp only [Say.kind, Say.isProm]; decide +kernel)
def nextP : Dat → Bool
  | .tup (.str k :: _) => !(k == ("next" : Str))
  | _ => false
theorem filter_next (bs : List Say) : (bs.map Say.d).filter nextP = (bs.filter fun b => !(b.kind == ("next" : Str))).map Say.d := by
  rw [List.filter_map]
  congr 1
  exact List.filter_congr fun b _ => by show nextP b.d = _; rw [say_args]; rfl
def R_promises_right : List Sl → Dat → List Sl → Prop := fun as d as' => ∃ (s : Say) (way : List Str) (ring : List Str) (k : Nat), as = [.dat s.d, .dat (saysD (bondsL s)), .dat (.lst (way.map Dat.str)), .dat (.lst (ring.map Dat.str)), .dat (guessR (bondsL s) way ring), .dat (.int k)] ∧ d = .bl true ∧ as' = [.no, .no, .no, .no, .no, .no] ∧ s.dep ≤ 5 ∧ s.Ok ∧ 1 ≤ ring.length ∧ way.length + ring.length ≤ 100 ∧ Strs (way ++ ring) ∧ k ≤ 100
theorem len_promises_right : ∀ as d as', R_promises_right as d as' → as.length = 6 := by
  rintro as d as' ⟨_, _, _, _, rfl, _⟩
  rfl
abbrev s_promises_right : Stmt := topS 31
theorem sc_promises_right : FnScope ["_law_saying", "_law_bonds_here", "_law_way", "_law_ring", "_law_guesses", "_law_k", "_law_found", "_law_run", "_law_promise", "_law_told", "_law_at", "_law_turned", "_law_guess", "_law_bond", "_law_one"] ["_law_saying", "_law_bonds_here", "_law_way", "_law_ring", "_law_guesses", "_law_k"] (defScope s_promises_right) := ⟨rfl, rfl, rfl, by decide +kernel, rfl, by decide +kernel, by decide +kernel⟩
theorem ok_promises_right {f : Addr} {fd : FuncData} (F : Fun K "_law_promises_right" "_law_promises_right" s_promises_right f fd) (T : Tx K mg) {a_promises_of : Addr} {fd_promises_of : FuncData} (c_promises_of : Cal P w K mg base "promises_of" 10 ["saying"] (spF K R_promises_of) a_promises_of fd_promises_of) {a_is_met : Addr} {fd_is_met : FuncData} (c_is_met : Cal P w K mg base "is_met" 9 ["promise", "mark", "bonds", "guess"] (spG K R_is_met) a_is_met fd_is_met) {a_meets : Addr} {fd_meets : FuncData} (c_meets : Cal P w K mg base "_law_meets" 9 ["_law_promise", "_law_mark", "_law_bonds_here", "_law_guess"] (spG K R_meets) a_meets fd_meets) : FnOk P w K mg base CX0 11 f fd ["_law_saying", "_law_bonds_here", "_law_way", "_law_ring", "_law_guesses", "_law_k"] ((spG K R_promises_right)) := by
  have nd := sc_promises_right.nd
  refine F.ok sc_promises_right (spG_len len_promises_right) (fun cdv A outer s H vs Q E hr h => ?_)
  have hu := hr.units
  have hu5 := unit5 hr
  refine ⟨_, (pss_cons (ps_set (i := 6) nd rfl (by first | exact Or.inl rfl | exact Or.inr rfl) (pe_call c_promises_of.ok (hr.mono (by omega)) (by rfl) c_promises_of.g c_promises_of.kp c_promises_of.b .nil pass0 (pa_cons (pv 0) pa_nil)))
      (pss_cons (ps_if (PW.pt (pw_or (pt_not (pt_val (pe_callB (kIsi K) (by rfl) T.b_isinstance (by decide +kernel) (pa_cons (pv 6) (pa_cons (pe_bltn (v := .ty "list") (by rfl) T.b_list (by decide +kernel) rfl) pa_nil))))) (pw_or1 (pt_cmpR (kNeD K hu) (pv 6) (pe_op op_cat (pe_lst (pa_cons pe_non pa_nil)) (pe_lc (own := [("_law_bond", 13)]) (g := gName 13) (by rfl) nd (kiList K (pi_list (pv 1))) (blkOk_by (own := [("_law_bond", 13)]) (N := ["_law_saying", "_law_bonds_here", "_law_way", "_law_ring", "_law_guesses", "_law_k", "_law_found", "_law_run", "_law_promise", "_law_told", "_law_at", "_law_turned", "_law_guess", "_law_bond", "_law_one"]) (sc := defScope s_promises_right) (by decide +kernel)) (fun _ _ _ _ _ => pg_name (i := 13) nd rfl (by first | exact Or.inl rfl | exact Or.inr rfl)) (fun _ _ _ _ _ => pts_one (pt_cmpR (kNeD K hu) (pe_ix (kIxT K) (pv 13) pe_int (fun _ _ => rfl)) pe_str (nomark _))) (fun _ _ _ _ _ => (pv 13)))) (nomark _))))) (pss_one (ps_ret pe_bl)) pss_nil)
      (pss_cons (ps_set (i := 7) nd rfl (by first | exact Or.inl rfl | exact Or.inr rfl) (pe_op op_cat (pv 2) (pv 3)))
      (pss_cons (ps_for PassesOwn.never (by rfl) (kiList K (pi_list (pv 6))) (pg_name (i := 8) nd rfl (by first | exact Or.inl rfl | exact Or.inr rfl)) (pss_cons (ps_set (i := 9) nd rfl (by first | exact Or.inl rfl | exact Or.inr rfl) (pe_lst pa_nil))
      (pss_cons (ps_for PassesOwn.never (by rfl) (pi_range1 (by rfl) T.b_range (pa_cons (pe_callB (kLen K) (by rfl) T.b_len PySem.boot_len (pa_cons (pv 7) pa_nil)) pa_nil)) (pg_name (i := 10) nd rfl (by first | exact Or.inl rfl | exact Or.inr rfl)) (pss_cons (ps_set (i := 11) nd rfl (by first | exact Or.inl rfl | exact Or.inr rfl) (pe_op (kCatA K) (pe_op (kCatA K) (pe_slice (kSlA K) (pe_ix (kIxL K) (pv 4) (pv 10) (fun _ _ => rfl)) po_none (po_some (pv 5))) (pe_callTy (kTuple K) (by rfl) T.b_tuple (by decide +kernel) (pa_cons (pe_lc (own := [("_law_one", 14)]) (g := gName 14) (tt := tYes) (by rfl) nd (kiTup K (pi_tup (pe_slice (kSlA K) (pe_ix (kIxL K) (pv 4) (pv 10) (fun _ _ => rfl)) (po_some (pv 5)) (po_some (pe_op op_add (pv 5) pe_int))))) (blkOk_by (own := [("_law_one", 14)]) (N := ["_law_saying", "_law_bonds_here", "_law_way", "_law_ring", "_law_guesses", "_law_k", "_law_found", "_law_run", "_law_promise", "_law_told", "_law_at", "_law_turned", "_law_guess", "_law_bond", "_law_one"]) (sc := defScope s_promises_right) (by decide +kernel)) (fun _ _ _ _ _ => pg_name (i := 14) nd rfl (by first | exact Or.inl rfl | exact Or.inr rfl)) (fun _ _ _ _ _ => pts_nil) (fun _ _ _ _ _ => (pe_not (pv 14)))) pa_nil))) (pe_slice (kSlA K) (pe_ix (kIxL K) (pv 4) (pv 10) (fun _ _ => rfl)) (po_some (pe_op op_add (pv 5) pe_int)) po_none)))
      (pss_one (ps_for PassesOwn.never (by rfl) (kiTup K (pi_tup (pe_tup (pa_cons (pv 11) (pa_cons (pe_ix (kIxL K) (pv 4) (pv 10) (fun _ _ => rfl)) pa_nil))))) (pg_name (i := 12) nd rfl (by first | exact Or.inl rfl | exact Or.inr rfl)) (pss_cons (ps_expr (kBM K (pe_bm PySem.F.plainAttrs_list PySem.F.slot_list_append PySem.F.type_list_append mt_append (pv 9) (pa_cons (pe_call c_is_met.ok (hr.mono (by omega)) (by rfl) c_is_met.g c_is_met.kp c_is_met.b .nil pass0 (pa_cons (pv 8) (pa_cons (pe_ix (kIxL K) (pv 7) (pv 10) (fun _ _ => rfl)) (pa_cons (pv 1) (pa_cons (pv 12) pa_nil))))) pa_nil))))
      (pss_one (ps_if (PW.pt (pw_or (pt_not (pt_val (pe_callB (kIsi K) (by rfl) T.b_isinstance (by decide +kernel) (pa_cons (pe_ix (kIxL K) (pv 9) (pe_un un_neg pe_int) (fun _ _ => rfl)) (pa_cons (pe_bltn (v := .ty "bool") (by rfl) T.b_bool (by decide +kernel) rfl) pa_nil))))) (pw_or1 (pt_cmpR (kNeD K hu) (pe_ix (kIxL K) (pv 9) (pe_un un_neg pe_int) (fun _ _ => rfl)) (pe_call c_meets.ok (hr.mono (by omega)) (by rfl) c_meets.g c_meets.kp c_meets.b .nil pass0 (pa_cons (pv 8) (pa_cons (pe_ix (kIxL K) (pv 7) (pv 10) (fun _ _ => rfl)) (pa_cons (pv 1) (pa_cons (pv 12) pa_nil))))) (nomark _))))) (pss_one (ps_ret pe_bl)) pss_nil)))))))
      (pss_one (ps_if (pt_cmpR (kNotInD K hu5) pe_bl (kStepL (K := K) (pe_stepL (pv 9) (po_some (pe_op op_add (pe_op op_mul pe_int (pe_callB (kLen K) (by rfl) T.b_len PySem.boot_len (pa_cons (pv 2) pa_nil))) pe_int)) (by decide))) (by with_unfolding_all rfl)) (pss_one (ps_ret pe_bl)) pss_nil)))))
      (pss_one (ps_ret pe_bl)))))), ?_⟩
  refine body_ok h len_promises_right fun as d as' hR => ?_
  obtain ⟨s, way, ring, k, rfl, rfl, rfl, hd, ok, hr, hl, hs, hk⟩ := hR
  walk_at "body"
  have hB := bonds_self ok (by omega)
  have hbl := hB.len
  have hgl : ∀ t, (gR (bondsL s) (wd way ring) t).length = (bondsL s).length := gR_len _ _
  refine ex_seq (ex_set (d := .lst ((promsL (bondsL s)).map promD)) (ev_of_fresh (ef_call (ea_d (ev_var rfl) ea_nil) rfl ⟨s, rfl, rfl, by omega, ok⟩)) rfl) ?_
  walk_at "nrm"
  have hpl : ((promsL (bondsL s)).map promD).length ≤ 201 := by
    have := List.length_filter_le Say.isProm (bondsL s)
    unfold promsL
    rw [List.length_map, List.length_cons, List.length_map]
    omega
  have hps : Shp 60 (.lst ((promsL (bondsL s)).map promD)) := by
    rw [shp_lst]
    refine shpAll_of fun d hd => ?_
    obtain ⟨q, hq, rfl⟩ := List.mem_map.mp hd
    cases q with
    | none => trivial
    | some b =>
      have hq : b ∈ bondsL s ∧ b.isProm = true := by simpa [promsL] using hq
      exact shp_le (say_shp b (hB.row b hq.1).1) (by have := (hB.row b hq.1).2; omega)
  have hlc := ef_lcIf (K := K) (ρ := [.dat s.d, .dat (saysD (bondsL s)), .dat (.lst (way.map Dat.str)), .dat (.lst (ring.map Dat.str)), .dat (guessR (bondsL s) way ring), .dat (.int k), .dat (.lst ((promsL (bondsL s)).map promD)), .no, .no, .no, .no, .no, .no, .no, .no]) (te := tVar 13) (tt := tTest (tOp (rNeD K) (tOp (rIxT K) (tVar 13) (tC (V.int 0))) (tC (V.str (Str.ofString "next"))))) (x := 13) nextP (fun d => d) (src_list (d := .lst ((bondsL s).map Say.d)) (ev_var (i := 1) rfl) rfl) rfl (by rw [List.length_map]; omega) (fun d hd => by
      obtain ⟨b, hb, rfl⟩ := List.mem_map.mp hd
      refine EvT.to (et_test (ev_ne (ev_ixT (ds := .str b.kind :: b.args) (ev_var (by rw [say_args b]; rfl)) ev_int (at_kind b)) ev_str (shp_lit _ (kind_ok b)) (shp_lit _ (by decide +kernel)))) ?_
      rw [eqd_str, say_args b]
      rfl) (fun d hd hp => ev_var rfl)
  rw [List.map_id', filter_next, ← prom_next hB] at hlc
  have hfl := List.length_filter_le Say.isProm (bondsL s)
  have hcat := ef_cat (K := K) (ds := [.non]) (es := ((bondsL s).filter Say.isProm).map Say.d) (a := .d (.lst [.non])) (b := .d (.lst (((bondsL s).filter Say.isProm).map Say.d))) (el_d (ev_lstA (ea_d ev_non ea_nil) rfl (by show 1 ≤ 100000; decide))) (el_d (ev_of_fresh hlc)) rfl rfl (by simp only [List.length_map, List.length_cons, List.length_nil]; omega)
  have e : [Dat.non] ++ ((bondsL s).filter Say.isProm).map Say.d = (promsL (bondsL s)).map promD := by
    unfold promsL
    rw [List.map_cons, List.map_map]
    rfl
  rw [e] at hcat
  refine ex_no (EvT.to (et_or (et_not (et_B (ev_isi (T := "list") (b := true) (ev_var rfl) rfl rfl))) fun _ => et_test (ev_ne (ev_var rfl) (ev_of_fresh hcat) hps hps)) (by rw [eqd_refl hps]; rfl)) ?_
  walk_at "nrm"
  refine ex_seq (ex_set (d := .lst ((way ++ ring).map Dat.str)) (Ev.to (ev_of_fresh (ef_cat (el_d (ev_var rfl)) (el_d (ev_var rfl)) rfl rfl (by rw [List.length_map, List.length_map]; omega))) (by rw [List.map_append])) rfl) ?_
  walk_at "nrm"
  clear hcat hlc
  refine ex_seq (ex_for (n := (promsL (bondsL s)).length) (ds := (promsL (bondsL s)).map promD) (fun _ => [.dat s.d, .dat (saysD (bondsL s)), .dat (.lst (way.map Dat.str)), .dat (.lst (ring.map Dat.str)), .dat (guessR (bondsL s) way ring), .dat (.int k), .dat (.lst ((promsL (bondsL s)).map promD)), .dat (.lst ((way ++ ring).map Dat.str)), .no, .no, .no, .no, .no, .no, .no]) (src_list (ev_var rfl) rfl) (fun _ => rfl) (by rw [List.length_map]; exact Nat.le_refl _) (fun i d hi hd => .inl ?_) (.done (by rw [List.length_map]))) (ex_retW ev_bl rfl (by walk_at "le"))
  have hpi : (promsL (bondsL s))[i]? = some (promsL (bondsL s))[i] := List.getElem?_eq_getElem hi
  rw [List.getElem?_map, hpi] at hd
  cases hd
  have hpm : (promsL (bondsL s))[i] ∈ promsL (bondsL s) := List.getElem_mem hi
  generalize (promsL (bondsL s))[i] = p at *
  walk_at "nrm"
  refine ex_seq (ex_setF (ds := []) (ef_lstA ea_nil rfl (by decide)) rfl) ?_
  walk_at "nrm"
  have hnil : toldL (bondsL s) (wd way ring) k p (gR (bondsL s) (wd way ring)) 0 = [] := rfl
  refine ex_seq (ex_for (n := way.length + ring.length) (ds := rngD 0 ((way.length + ring.length : Nat) : Int).toNat) (fun t => [.dat s.d, .dat (saysD (bondsL s)), .dat (.lst (way.map Dat.str)), .dat (.lst (ring.map Dat.str)), .dat (guessR (bondsL s) way ring), .dat (.int k), .dat (.lst ((promsL (bondsL s)).map promD)), .dat (.lst ((way ++ ring).map Dat.str)), .dat (promD p), .own (bls (toldL (bondsL s) (wd way ring) k p (gR (bondsL s) (wd way ring)) t)), .no, .no, .no, .no, .no]) (src_rng1 (Ev.to (ev_lenL rfl (el_d (ev_var rfl)) rfl) (by rw [List.length_map, List.length_append])) (by omega) (by omega)) (fun _ => rfl) (by rw [rngD_len]; omega) (fun t d ht hd => .inl ?_) (.done (by rw [rngD_len]; omega))) ?_
  · obtain ⟨_, rfl⟩ := rngD_get hd
    rw [Int.zero_add, toldL_succ]
    have htl := toldL_len (bondsL s) (wd way ring) k p (gR (bondsL s) (wd way ring)) t
    generalize toldL (bondsL s) (wd way ring) k p (gR (bondsL s) (wd way ring)) t = told at *
    have hgt := hgl t
    have hat := guess_at (bondsL s) way ring ht
    generalize gR (bondsL s) (wd way ring) t = g at *
    walk_at "nrm"
    have hg3 : Ev K (tOp (rIxL K) (tVar 4) (tVar 10)) [.dat s.d, .dat (saysD (bondsL s)), .dat (.lst (way.map Dat.str)), .dat (.lst (ring.map Dat.str)), .dat (guessR (bondsL s) way ring), .dat (.int k), .dat (.lst ((promsL (bondsL s)).map promD)), .dat (.lst ((way ++ ring).map Dat.str)), .dat (promD p), .own (bls told), .dat (.int t), .no, .no, .no, .no] (.tup (bls g)) [.dat s.d, .dat (saysD (bondsL s)), .dat (.lst (way.map Dat.str)), .dat (.lst (ring.map Dat.str)), .dat (guessR (bondsL s) way ring), .dat (.int k), .dat (.lst ((promsL (bondsL s)).map promD)), .dat (.lst ((way ++ ring).map Dat.str)), .dat (promD p), .own (bls told), .dat (.int t), .no, .no, .no, .no] := ev_ixL (el_d (ev_var rfl)) (ev_var rfl) rfl hat
    have hq : cutD (bls g) none (some (k : Int)) ++ ((cutD (bls g) (some (k : Int)) (some ((k + 1 : Nat) : Int))).map fun d => onB (fun b => !b) d) ++ cutD (bls g) (some ((k + 1 : Nat) : Int)) none = bls (turnQ g k) := by
      rw [cutD_to, cutD_one, cutD_from]
      unfold turnQ bls
      simp only [List.map_append, List.map_take, List.map_drop, List.map_map]
      rfl
    have hbg : (bls g).length ≤ 200 := by unfold bls; rw [List.length_map]; omega
    have c1 : (cutD (bls g) none (some (k : Int))).length ≤ 200 := by rw [cutD_to, List.length_take]; omega
    have c2 : (cutD (bls g) (some (k : Int)) (some ((k + 1 : Nat) : Int))).length ≤ 200 := by rw [cutD_one, List.length_take, List.length_drop]; omega
    have c3 : (cutD (bls g) (some ((k + 1 : Nat) : Int)) none).length ≤ 200 := by rw [cutD_from, List.length_drop]; omega
    have hk1 : ∀ (o : Sl), Ev K (tOp (rI0 fun i j => V.int (i + j)) (tVar 5) (tC (V.int 1))) [.dat s.d, .dat (saysD (bondsL s)), .dat (.lst (way.map Dat.str)), .dat (.lst (ring.map Dat.str)), .dat (guessR (bondsL s) way ring), .dat (.int k), .dat (.lst ((promsL (bondsL s)).map promD)), .dat (.lst ((way ++ ring).map Dat.str)), .dat (promD p), .own (bls told), .dat (.int t), .no, .no, .no, o] (.int ((k + 1 : Nat) : Int)) [.dat s.d, .dat (saysD (bondsL s)), .dat (.lst (way.map Dat.str)), .dat (.lst (ring.map Dat.str)), .dat (guessR (bondsL s) way ring), .dat (.int k), .dat (.lst ((promsL (bondsL s)).map promD)), .dat (.lst ((way ++ ring).map Dat.str)), .dat (promD p), .own (bls told), .dat (.int t), .no, .no, .no, o] := fun o => Ev.to (ev_i0 (g := fun i j => i + j) (i := (k : Int)) (j := 1) (ev_var rfl) ev_int) (by rw [Int.natCast_add]; rfl)
    have hmid : Ev K (tCB (rTupQ K) (tCons (tLc (iTup K (tSl (rSlA K) (tOp (rIxL K) (tVar 4) (tVar 10)) (tPart (tVar 5)) (tPart (tOp (rI0 fun i j => V.int (i + j)) (tVar 5) (tC (V.int 1)))))) (gName 14) tYes (tNotV (tVar 14)) (List.map (fun x => x.snd) [(Str.ofString "_law_one", 14)])) tNil)) [.dat s.d, .dat (saysD (bondsL s)), .dat (.lst (way.map Dat.str)), .dat (.lst (ring.map Dat.str)), .dat (guessR (bondsL s) way ring), .dat (.int k), .dat (.lst ((promsL (bondsL s)).map promD)), .dat (.lst ((way ++ ring).map Dat.str)), .dat (promD p), .own (bls told), .dat (.int t), .no, .no, .no, .no] (.tup ((cutD (bls g) (some (k : Int)) (some ((k + 1 : Nat) : Int))).map fun d => onB (fun b => !b) d)) [.dat s.d, .dat (saysD (bondsL s)), .dat (.lst (way.map Dat.str)), .dat (.lst (ring.map Dat.str)), .dat (guessR (bondsL s) way ring), .dat (.int k), .dat (.lst ((promsL (bondsL s)).map promD)), .dat (.lst ((way ++ ring).map Dat.str)), .dat (promD p), .own (bls told), .dat (.int t), .no, .no, .no, .no] := by
      refine ev_tupleL rfl (el_d (ev_of_fresh (ef_lcMap (onB fun b => !b) (src_tup (ev_slA hg3 (eo_some (ev_var rfl)) (eo_some (hk1 .no)))) rfl (by omega) (fun d hd => ?_)))) rfl
      rw [cutD_one] at hd
      obtain ⟨b, _, rfl⟩ := List.mem_map.mp (List.mem_of_mem_drop (List.mem_of_mem_take hd))
      exact ev_not (ev_var rfl)
    refine ex_seq (ex_set (d := tupB (turnQ g k)) (Ev.to (ev_catT (ev_catT (ev_slA hg3 eo_no (eo_some (ev_var rfl))) hmid (by rw [List.length_map]; omega)) (ev_slA (hi := none) hg3 (eo_some (hk1 .no)) eo_no) (by rw [List.length_append, List.length_map]; omega)) (congrArg Dat.tup hq)) rfl) ?_
    walk_at "nrm"
    clear hmid hk1
    have hql := turnQ_len g k
    have met : ∀ (l : List Dat) (h : List Bool), (bondsL s).length = h.length → Ev K (tCall (spG K R_is_met) [] E0 (tCons (tVar 8) (tCons (tOp (rIxL K) (tVar 7) (tVar 10)) (tCons (tVar 1) (tCons (tVar 12) tNil))))) [.dat s.d, .dat (saysD (bondsL s)), .dat (.lst (way.map Dat.str)), .dat (.lst (ring.map Dat.str)), .dat (guessR (bondsL s) way ring), .dat (.int k), .dat (.lst ((promsL (bondsL s)).map promD)), .dat (.lst ((way ++ ring).map Dat.str)), .dat (promD p), .own l, .dat (.int t), .dat (tupB (turnQ g k)), .dat (tupB h), .no, .no] (.bl (metG (bondsL s) h (wd way ring t) p)) [.dat s.d, .dat (saysD (bondsL s)), .dat (.lst (way.map Dat.str)), .dat (.lst (ring.map Dat.str)), .dat (guessR (bondsL s) way ring), .dat (.int k), .dat (.lst ((promsL (bondsL s)).map promD)), .dat (.lst ((way ++ ring).map Dat.str)), .dat (promD p), .own l, .dat (.int t), .dat (tupB (turnQ g k)), .dat (tupB h), .no, .no] := fun l h hh =>
      ev_callA (ea_d (ev_var rfl) (ea_d (ev_ixL (el_d (ev_var rfl)) (ev_var rfl) rfl (run_at way ring ht)) (ea_d (ev_var rfl) (ea_d (ev_var rfl) ea_nil)))) rfl ⟨p, _, bondsL s, h, rfl, rfl, rfl, hpm, hB, hh, run_ok hs ht⟩
    have meets : ∀ (l : List Dat) (h : List Bool), (bondsL s).length = h.length → Ev K (tCall (spG K R_meets) [] E0 (tCons (tVar 8) (tCons (tOp (rIxL K) (tVar 7) (tVar 10)) (tCons (tVar 1) (tCons (tVar 12) tNil))))) [.dat s.d, .dat (saysD (bondsL s)), .dat (.lst (way.map Dat.str)), .dat (.lst (ring.map Dat.str)), .dat (guessR (bondsL s) way ring), .dat (.int k), .dat (.lst ((promsL (bondsL s)).map promD)), .dat (.lst ((way ++ ring).map Dat.str)), .dat (promD p), .own l, .dat (.int t), .dat (tupB (turnQ g k)), .dat (tupB h), .no, .no] (.bl (metG (bondsL s) h (wd way ring t) p)) [.dat s.d, .dat (saysD (bondsL s)), .dat (.lst (way.map Dat.str)), .dat (.lst (ring.map Dat.str)), .dat (guessR (bondsL s) way ring), .dat (.int k), .dat (.lst ((promsL (bondsL s)).map promD)), .dat (.lst ((way ++ ring).map Dat.str)), .dat (promD p), .own l, .dat (.int t), .dat (tupB (turnQ g k)), .dat (tupB h), .no, .no] := fun l h hh =>
      ev_callA (ea_d (ev_var rfl) (ea_d (ev_ixL (el_d (ev_var rfl)) (ev_var rfl) rfl (run_at way ring ht)) (ea_d (ev_var rfl) (ea_d (ev_var rfl) ea_nil)))) rfl ⟨p, _, bondsL s, h, rfl, rfl, rfl, hpm, hB, hh, run_ok hs ht⟩
    have turn : ∀ (l : List Dat) (h : List Bool), l.length ≤ 1000 → (bondsL s).length = h.length → Ex K (tSeq (tDrop (tBM K "list" rAppend (tVar 9) (tCons (tCall (spG K R_is_met) [] E0 (tCons (tVar 8) (tCons (tOp (rIxL K) (tVar 7) (tVar 10)) (tCons (tVar 1) (tCons (tVar 12) tNil))))) tNil)))
        (tIfS (tOr (tNot (tB (tCB (rIsi K) (tCons (tOp (rIxL K) (tVar 9) (tUn (rU fun i => V.int (-i)) (tC (V.int 1)))) (tCons (tC (V.ty "bool")) tNil))))) (tTest (tOp (rNeD K) (tOp (rIxL K) (tVar 9) (tUn (rU fun i => V.int (-i)) (tC (V.int 1)))) (tCall (spG K R_meets) [] E0 (tCons (tVar 8) (tCons (tOp (rIxL K) (tVar 7) (tVar 10)) (tCons (tVar 1) (tCons (tVar 12) tNil))))))))
          (tRet (tC (V.bl false))) tNext)) [.dat s.d, .dat (saysD (bondsL s)), .dat (.lst (way.map Dat.str)), .dat (.lst (ring.map Dat.str)), .dat (guessR (bondsL s) way ring), .dat (.int k), .dat (.lst ((promsL (bondsL s)).map promD)), .dat (.lst ((way ++ ring).map Dat.str)), .dat (promD p), .own l, .dat (.int t), .dat (tupB (turnQ g k)), .dat (tupB h), .no, .no] (.nx [.dat s.d, .dat (saysD (bondsL s)), .dat (.lst (way.map Dat.str)), .dat (.lst (ring.map Dat.str)), .dat (guessR (bondsL s) way ring), .dat (.int k), .dat (.lst ((promsL (bondsL s)).map promD)), .dat (.lst ((way ++ ring).map Dat.str)), .dat (promD p), .own (l ++ [.bl (metG (bondsL s) h (wd way ring t) p)]), .dat (.int t), .dat (tupB (turnQ g k)), .no, .no, .no]) := fun l h hl hh => by
      refine ex_seq (ex_append (met l h hh) ⟨_, rfl, rfl⟩ rfl rfl (by omega)) ?_
      walk_at "nrm"
      have hlast : atI (l ++ [Dat.bl (metG (bondsL s) h (wd way ring t) p)]) (-1) = some (.bl (metG (bondsL s) h (wd way ring t) p)) := by
        unfold atI
        have e1 : ixN (l ++ [Dat.bl (metG (bondsL s) h (wd way ring t) p)]).length (-1) = some l.length := by
          unfold ixN
          rw [if_neg (by decide), List.length_append, if_pos (by show -((l.length + 1 : Nat) : Int) ≤ -1; omega)]
          refine congrArg some ?_
          show ((-1 : Int) + ((l.length + 1 : Nat) : Int)).toNat = _
          omega
        rw [e1]
        show (l ++ [_])[l.length]? = _
        rw [List.getElem?_append_right (Nat.le_refl _), Nat.sub_self]
        rfl
      have lastE : Ev K (tOp (rIxL K) (tVar 9) (tUn (rU fun i => V.int (-i)) (tC (V.int 1)))) [.dat s.d, .dat (saysD (bondsL s)), .dat (.lst (way.map Dat.str)), .dat (.lst (ring.map Dat.str)), .dat (guessR (bondsL s) way ring), .dat (.int k), .dat (.lst ((promsL (bondsL s)).map promD)), .dat (.lst ((way ++ ring).map Dat.str)), .dat (promD p), .own (l ++ [.bl (metG (bondsL s) h (wd way ring t) p)]), .dat (.int t), .dat (tupB (turnQ g k)), .dat (tupB h), .no, .no] (.bl (metG (bondsL s) h (wd way ring t) p)) [.dat s.d, .dat (saysD (bondsL s)), .dat (.lst (way.map Dat.str)), .dat (.lst (ring.map Dat.str)), .dat (guessR (bondsL s) way ring), .dat (.int k), .dat (.lst ((promsL (bondsL s)).map promD)), .dat (.lst ((way ++ ring).map Dat.str)), .dat (promD p), .own (l ++ [.bl (metG (bondsL s) h (wd way ring t) p)]), .dat (.int t), .dat (tupB (turnQ g k)), .dat (tupB h), .no, .no] :=
        ev_ixL (el_s) (ev_neg ev_int) rfl hlast
      refine ex_if (a := false) (EvT.to (et_or (et_not (et_B (ev_isi (T := "bool") (b := true) lastE rfl rfl))) fun _ => et_test (ev_ne lastE (meets _ h hh) (by simp only [Shp]) (by simp only [Shp]))) (by rw [eqd_bl]; simp)) (fun q => by cases q) fun _ => Ex.weak ex_next (by walk_at "le")
    refine Ex.weak (ex_for (n := 2) (ds := [tupB (turnQ g k), tupB g]) (fun j => [.dat s.d, .dat (saysD (bondsL s)), .dat (.lst (way.map Dat.str)), .dat (.lst (ring.map Dat.str)), .dat (guessR (bondsL s) way ring), .dat (.int k), .dat (.lst ((promsL (bondsL s)).map promD)), .dat (.lst ((way ++ ring).map Dat.str)), .dat (promD p), .own (bls (told ++ [metG (bondsL s) (turnQ g k) (wd way ring t) p, metG (bondsL s) g (wd way ring t) p].take j)), .dat (.int t), .dat (tupB (turnQ g k)), .no, .no, .no]) ?_ (fun _ => rfl) (Nat.le_refl _) (fun j d hj hd => .inl ?_) (.done rfl)) (by walk_at "le")
    · rw [List.take_zero, List.append_nil]
      exact src_tup (ev_tupA (ea_d (ev_var rfl) (ea_d (ev_ixL (el_d (ev_var rfl)) (ev_var rfl) rfl hat) ea_nil)) rfl (by show 2 ≤ 100000; decide))
    · rcases (show j = 0 ∨ j = 1 by omega) with rfl | rfl
      · cases hd
        have := turn (bls told) (turnQ g k) (by unfold bls; rw [List.length_map]; omega) (by omega)
        rw [List.take_zero, List.append_nil]
        have e2 : bls (told ++ [metG (bondsL s) (turnQ g k) (wd way ring t) p, metG (bondsL s) g (wd way ring t) p].take 1) = bls told ++ [.bl (metG (bondsL s) (turnQ g k) (wd way ring t) p)] := by unfold bls; rw [List.map_append]; rfl
        rw [e2]
        exact this
      · cases hd
        have e1 : bls (told ++ [metG (bondsL s) (turnQ g k) (wd way ring t) p, metG (bondsL s) g (wd way ring t) p].take 1) = bls told ++ [.bl (metG (bondsL s) (turnQ g k) (wd way ring t) p)] := by unfold bls; rw [List.map_append]; rfl
        have e2 : bls (told ++ [metG (bondsL s) (turnQ g k) (wd way ring t) p, metG (bondsL s) g (wd way ring t) p].take 2) = (bls told ++ [.bl (metG (bondsL s) (turnQ g k) (wd way ring t) p)]) ++ [.bl (metG (bondsL s) g (wd way ring t) p)] := by unfold bls; rw [List.map_append, List.append_assoc]; rfl
        have := turn (bls told ++ [.bl (metG (bondsL s) (turnQ g k) (wd way ring t) p)]) g (by unfold bls; rw [List.length_append, List.length_map]; show _ + 1 ≤ _; omega) (by omega)
        rw [e1, e2]
        exact this
  · obtain ⟨t, h1, h2, h3⟩ := met_ring hB hr hpm
    have hget := toldL_get (bondsL s) (wd way ring) k p (gR (bondsL s) (wd way ring)) h2
    have htl := toldL_len (bondsL s) (wd way ring) k p (gR (bondsL s) (wd way ring)) (way.length + ring.length)
    rw [h3] at hget
    generalize toldL (bondsL s) (wd way ring) k p (gR (bondsL s) (wd way ring)) (way.length + ring.length) = told at *
    have hstep : Ev K (tStepL K 2 (tVar 9) (tPart (tOp (rI0 fun i j => V.int (i + j)) (tOp (rI CMul fun i j => V.int (i * j)) (tC (V.int 2)) (tCB (rLenQ K) (tCons (tVar 2) tNil))) (tC (V.int 1))))) [.dat s.d, .dat (saysD (bondsL s)), .dat (.lst (way.map Dat.str)), .dat (.lst (ring.map Dat.str)), .dat (guessR (bondsL s) way ring), .dat (.int k), .dat (.lst ((promsL (bondsL s)).map promD)), .dat (.lst ((way ++ ring).map Dat.str)), .dat (promD p), .own (bls told), .no, .no, .no, .no, .no] (.lst (pickAt (bls told) (stepIx (some ((2 * way.length + 1 : Nat) : Int)) 2 (bls told).length))) [.dat s.d, .dat (saysD (bondsL s)), .dat (.lst (way.map Dat.str)), .dat (.lst (ring.map Dat.str)), .dat (guessR (bondsL s) way ring), .dat (.int k), .dat (.lst ((promsL (bondsL s)).map promD)), .dat (.lst ((way ++ ring).map Dat.str)), .dat (promD p), .own (bls told), .no, .no, .no, .no, .no] :=
      ev_of_fresh (ef_stepL (el_s) (eo_some (Ev.to (ev_i0 (ev_i ev_int (ev_lenL (ds := way.map Dat.str) rfl (el_d (ev_var rfl)) rfl) (.inl ⟨by decide, by decide⟩)) ev_int) (by rw [List.length_map]; refine congrArg Dat.int ?_; omega))) rfl)
    have hblen : (bls told).length = 2 * (way.length + ring.length) := by unfold bls; rw [List.length_map, htl]
    have hmem : Dat.bl true ∈ pickAt (bls told) (stepIx (some ((2 * way.length + 1 : Nat) : Int)) 2 (bls told).length) := by
      unfold pickAt
      rw [List.mem_filterMap]
      refine ⟨2 * way.length + 1 + 2 * (t - way.length), stepIx_mem (by omega), ?_⟩
      rw [show 2 * way.length + 1 + 2 * (t - way.length) = 2 * t + 1 by omega]
      unfold bls
      rw [List.getElem?_map, hget]
      rfl
    have hsub : ∀ d ∈ pickAt (bls told) (stepIx (some ((2 * way.length + 1 : Nat) : Int)) 2 (bls told).length), Shp 59 d := fun d hd => by
      unfold pickAt at hd
      rw [List.mem_filterMap] at hd
      obtain ⟨j, _, hj⟩ := hd
      obtain ⟨b, _, rfl⟩ := List.mem_map.mp (List.mem_of_getElem? hj)
      simp only [Shp]
    refine ex_if (a := false) (EvT.to (et_test (ev_notIn ev_bl (el_d hstep) rfl (by simp only [Shp]) (shpAll_of hsub))) ?_) (fun q => by cases q) fun _ => Ex.weak ex_next (by walk_at "le")
    rw [Bool.not_eq_false', List.any_eq_true]
    exact ⟨_, hmem, by rw [eqd_bl]; rfl⟩
def R_cell_at : List Sl → Dat → List Sl → Prop := fun as d as' => ∃ (ns : List Int) (k : Nat), as = [.dat (.scr ns), .dat (.int k)] ∧ d = .int (ns.getD k 0) ∧ as' = [.no, .no]
theorem len_cell_at : ∀ as d as', R_cell_at as d as' → as.length = 2 := by
  rintro as d as' ⟨_, _, rfl, _⟩
  rfl
abbrev s_cell_at : Stmt := topS 14
theorem sc_cell_at : FnScope ["_law_script", "_law_k"] ["_law_script", "_law_k"] (defScope s_cell_at) := ⟨rfl, rfl, rfl, by decide +kernel, rfl, by decide +kernel, by decide +kernel⟩
theorem ok_cell_at {f : Addr} {fd : FuncData} (F : Fun K "_law_cell_at" "_law_cell_at" s_cell_at f fd) (T : Tx K mg)  : FnOk P w K mg base CX0 1 f fd ["_law_script", "_law_k"] ((spG K R_cell_at)) := by
  have nd := sc_cell_at.nd
  refine F.ok sc_cell_at (spG_len len_cell_at) (fun cdv A outer s H vs Q E hr h => ?_)
  have hu := hr.units
  have hu5 := unit5 hr
  refine ⟨_, (pss_cons (ps_if (pt_cmpR op_lt (pv 1) (pe_callB (kLen K) (by rfl) T.b_len PySem.boot_len (pa_cons (pv 0) pa_nil)) (nomark _)) (pss_one (ps_ret (pe_ix (kIxL K) (pv 0) (pv 1) (fun _ _ => rfl)))) pss_nil)
      (pss_one (ps_ret pe_int))), ?_⟩
  refine body_ok h len_cell_at fun as d as' hR => ?_
  obtain ⟨ns, k, rfl, rfl, rfl⟩ := hR
  walk_at "body"
  walk_at "ifl"
  · intro h
    have h : k < ns.length := by simpa using h
    walk_at "ret"
    exact at_ints h
  · intro h
    have h : ¬ k < ns.length := by simpa using h
    walk_at "ret"
    rw [List.getD_eq_getElem?_getD, List.getElem?_eq_none (by omega)]
    rfl
theorem filter_says (ds found : List Say) : (ds.map Say.d).filter (fun d => !((found.map Say.d).any fun e => eqd e d)) = (ds.filter fun b => !decide (b ∈ found)).map Say.d := by
  rw [List.filter_map]
  congr 1
  exact List.filter_congr fun b _ => by show (!((found.map Say.d).any fun e => eqd e b.d)) = _; rw [any_say]
def R_bonds : List Sl → Dat → List Sl → Prop := fun as d as' => ∃ (s : Say), as = [.dat s.d] ∧ d = .lst ((lawBonds s).map Say.d) ∧ as' = [.no] ∧ s.dep ≤ 7 ∧ s.Ok
theorem len_bonds : ∀ as d as', R_bonds as d as' → as.length = 1 := by
  rintro as d as' ⟨_, rfl, _⟩
  rfl
abbrev s_bonds : Stmt := topS 19
theorem sc_bonds : FnScope ["_law_saying", "_law_found", "_law_one", "_law_more", "_law_other"] ["_law_saying"] (defScope s_bonds) := ⟨rfl, rfl, rfl, by decide +kernel, rfl, by decide +kernel, by decide +kernel⟩
theorem ok_bonds {f : Addr} {fd : FuncData} (F : Fun K "_law_bonds" "_law_bonds" s_bonds f fd) (T : Tx K mg) {a_all : Addr} {fd_all : FuncData} (c_all : Cal P w K mg base "_law_all" 8 ["_law_saying"] (spG K R_all) a_all fd_all) : FnOk P w K mg base CX0 9 f fd ["_law_saying"] ((spG K R_bonds)) := by
  have nd := sc_bonds.nd
  refine F.ok sc_bonds (spG_len len_bonds) (fun cdv A outer s H vs Q E hr h => ?_)
  have hu := hr.units
  have hu5 := unit5 hr
  refine ⟨_, (pss_cons (ps_set (i := 1) nd rfl (by first | exact Or.inl rfl | exact Or.inr rfl) (pe_lst pa_nil))
      (pss_cons (ps_for PassesOwn.never (by rfl) (kiList K (pi_list (pe_call c_all.ok (hr.mono (by omega)) (by rfl) c_all.g c_all.kp c_all.b .nil pass0 (pa_cons (pv 0) pa_nil)))) (pg_name (i := 2) nd rfl (by first | exact Or.inl rfl | exact Or.inr rfl)) (pss_cons (ps_set (i := 3) nd rfl (by first | exact Or.inl rfl | exact Or.inr rfl) (pe_lst pa_nil))
      (pss_cons (ps_if (pt_cmpR (kIn K) (pe_ix (kIxT K) (pv 2) pe_int (fun _ _ => rfl)) (pe_tup (pa_cons pe_str (pa_cons pe_str (pa_cons pe_str pa_nil)))) (by with_unfolding_all rfl)) (pss_one (ps_set (i := 3) nd rfl (by first | exact Or.inl rfl | exact Or.inr rfl) (pe_lst (pa_cons (pv 2) pa_nil)))) (pss_one (ps_if (pt_cmpR (kEqD K hu) (pe_ix (kIxT K) (pv 2) pe_int (fun _ _ => rfl)) pe_str (nomark _)) (pss_one (ps_set (i := 3) nd rfl (by first | exact Or.inl rfl | exact Or.inr rfl) (pe_lst (pa_cons (pe_tup (pa_cons pe_str (pa_cons (pe_tup (pa_cons pe_str pa_nil)) (pa_cons (pe_ix (kIxT K) (pv 2) pe_int (fun _ _ => rfl)) pa_nil)))) (pa_cons (pe_tup (pa_cons pe_str (pa_cons (pe_tup (pa_cons pe_str (pa_cons (pe_tup (pa_cons pe_str pa_nil)) (pa_cons (pe_ix (kIxT K) (pv 2) pe_int (fun _ _ => rfl)) pa_nil)))) pa_nil))) pa_nil))))) pss_nil)))
      (pss_one (ps_set (i := 1) nd rfl (by first | exact Or.inl rfl | exact Or.inr rfl) (pe_op op_cat (pv 1) (pe_lc (own := [("_law_other", 4)]) (g := gName 4) (by rfl) nd (kiList K (pi_list (pv 3))) (blkOk_by (own := [("_law_other", 4)]) (N := ["_law_saying", "_law_found", "_law_one", "_law_more", "_law_other"]) (sc := defScope s_bonds) (by decide +kernel)) (fun _ _ _ _ _ => pg_name (i := 4) nd rfl (by first | exact Or.inl rfl | exact Or.inr rfl)) (fun _ _ _ _ _ => pts_one (pt_cmpR (kNotInD K hu5) (pv 4) (pv 1) (by with_unfolding_all rfl))) (fun _ _ _ _ _ => (pv 4)))))))))
      (pss_one (ps_ret (pv 1))))), ?_⟩
  refine body_ok h len_bonds fun as d as' hR => ?_
  obtain ⟨s, rfl, rfl, rfl, hn, ok⟩ := hR
  walk_at "body"
  have hsz := size_small hn
  have hal := allS_len s
  have haok := allS_ok ok
  refine ex_seq (ex_set (d := .lst []) (ev_lstA ea_nil rfl (by decide)) rfl) ?_
  walk_at "nrm"
  refine ex_seq (ex_for (n := (allS s).length) (ds := (allS s).map Say.d) (fun i => [.dat s.d, .dat (.lst ((((allS s).take i).foldl lawStep []).map Say.d)), .no, .no, .no]) (src_list (ev_callA (ea_d (ev_var rfl) ea_nil) rfl ⟨s, rfl, rfl, rfl, hn, hn, ok⟩) rfl) (fun _ => rfl) (by rw [List.length_map]; exact Nat.le_refl _) (fun i d hi hd => .inl ?_) (.done (by rw [List.length_map]))) ?_
  · have hpi : (allS s)[i]? = some (allS s)[i] := List.getElem?_eq_getElem hi
    rw [List.getElem?_map, hpi] at hd
    cases hd
    have hpm : (allS s)[i] ∈ allS s := List.getElem_mem hi
    have hfl := lawFold_len ((allS s).take i) []
    have hfo : ∀ b ∈ ((allS s).take i).foldl lawStep [], b.Ok ∧ b.dep ≤ 30 := lawFold_ok (fun x hx => ⟨(haok x (List.mem_of_mem_take hx)).1, by have := (haok x (List.mem_of_mem_take hx)).2; omega⟩) (fun b hb => by cases hb)
    rw [take_next' hpi, List.foldl_append]
    have htl : ((allS s).take i).length ≤ 127 := by rw [List.length_take]; omega
    generalize ((allS s).take i).foldl lawStep [] = found at *
    generalize (allS s)[i] = one at *
    obtain ⟨ook, odep⟩ := haok one hpm
    have hfl : found.length ≤ 254 := by simp only [List.length_nil] at hfl; omega
    have hol := ownB_len one
    have ooks : ∀ b ∈ ownB one, b.Ok ∧ b.dep ≤ 30 := fun b hb => ⟨(ownB_ok hb ook).1, by have := (ownB_ok hb ook).2; omega⟩
    show Ex K _ _ (.nx [_, .dat (.lst ((lawStep found one).map Say.d)), .no, .no, .no])
    walk_at "nrm"
    refine ex_seq (ex_set (d := .lst []) (ev_lstA ea_nil rfl (by decide)) rfl) ?_
    walk_at "nrm"
    refine ex_seq (ρ1 := [.dat s.d, .dat (.lst (found.map Say.d)), .dat one.d, .dat (.lst ((ownB one).map Say.d)), .no]) ?_ ?_
    · have k0 : ∀ (ρ : List Sl), ρ[2]? = some (.dat one.d) → Ev K (tOp (rIxT K) (tVar 2) (tC (.int 0))) ρ (.str one.kind) ρ := fun ρ h => ev_ixT (ds := .str one.kind :: one.args) (ev_var (by rw [h, say_args one])) ev_int (at_kind one)
      have t1 := et_test (ev_inT (K := K) (ρ := [.dat s.d, .dat (.lst (found.map Say.d)), .dat one.d, .dat (.lst []), .no]) (ds := bondWords) (k0 _ rfl) (ev_tupA (ea_d ev_str (ea_d ev_str (ea_d ev_str ea_nil))) rfl (by show 3 ≤ 100000; decide)) rfl rfl)
      rw [bond_in] at t1
      by_cases hb : one.kn = 5 ∨ one.kn = 6 ∨ one.kn = 7
      · rw [decide_eq_true hb] at t1
        have ho : ownB one = [one] := by
          cases one <;> first | rfl | (simp [Say.kn] at hb)
        rw [ho]
        refine ex_if (a := true) t1 (fun _ => ?_) fun q => by cases q
        exact Ex.weak (ex_set (d := .lst [one.d]) (ev_lstA (ea_d (ev_var rfl) ea_nil) rfl (by show 1 ≤ 100000; decide)) rfl) (by walk_at "nrm"; walk_at "le")
      · rw [decide_eq_false hb] at t1
        refine ex_if (a := false) t1 (fun q => by cases q) fun _ => ?_
        have t2 : EvT K (tTest (tOp (rEqD K) (tOp (rIxT K) (tVar 2) (tC (.int 0))) (tC (.str "again")))) [.dat s.d, .dat (.lst (found.map Say.d)), .dat one.d, .dat (.lst []), .no] (decide (one.kn = 8)) [.dat s.d, .dat (.lst (found.map Say.d)), .dat one.d, .dat (.lst []), .no] :=
          EvT.to (et_test (ev_eq (k0 _ rfl) ev_str (shp_lit _ (kind_ok one)) (shp_lit _ (by decide +kernel)))) (by rw [eqd_str, again_eq])
        by_cases h8 : one.kn = 8
        · rw [decide_eq_true h8] at t2
          obtain ⟨u, rfl⟩ : ∃ u, one = .again u := by
            cases one <;> first | exact ⟨_, rfl⟩ | (simp [Say.kn] at h8)
          refine ex_if (a := true) t2 (fun _ => ?_) fun q => by cases q
          have at1 : ∀ (ρ : List Sl), ρ[2]? = some (.dat (Say.again u).d) → Ev K (tOp (rIxT K) (tVar 2) (tC (.int 1))) ρ u.d ρ := fun ρ h => ev_ixT (ds := [.str "again", u.d]) (ev_var h) ev_int (atI_nat (j := 1) rfl)
          have tl : ∀ (ρ : List Sl), ρ[2]? = some (.dat (Say.again u).d) → Ev K (tTup (tCons (tC (V.str (Str.ofString "till"))) (tCons (tTup (tCons (tC (V.str (Str.ofString "yes"))) tNil)) (tCons (tOp (rIxT K) (tVar 2) (tC (V.int 1))) tNil)))) ρ (Say.till .yes u).d ρ := fun ρ h =>
            Ev.to (ev_tupA (ea_d ev_str (ea_d (ev_tupA (ds := [.str "yes"]) (ea_d ev_str ea_nil) rfl (by show 1 ≤ 100000; decide)) (ea_d (at1 ρ h) ea_nil))) rfl (by show 3 ≤ 100000; decide)) rfl
          refine Ex.weak (ex_set (d := .lst [(Say.till .yes u).d, (Say.always (.till .yes u)).d]) (ev_lstA (ea_d (tl _ rfl) (ea_d (ev_tupA (ds := [.str "always", (Say.till .yes u).d]) (ea_d ev_str (ea_d (tl _ rfl) ea_nil)) rfl (by show 2 ≤ 100000; decide)) ea_nil)) rfl (by show 2 ≤ 100000; decide)) rfl) (by walk_at "nrm"; walk_at "le")
        · rw [decide_eq_false h8] at t2
          refine ex_if (a := false) t2 (fun q => by cases q) fun _ => ?_
          have ho : ownB one = [] := by
            cases one <;> first | rfl | (simp [Say.kn] at hb h8)
          rw [ho]
          exact Ex.weak ex_next (by walk_at "le")
    · have hlc := ef_lcIf (K := K) (ρ := [.dat s.d, .dat (.lst (found.map Say.d)), .dat one.d, .dat (.lst ((ownB one).map Say.d)), .no]) (te := tVar 4) (tt := tTest (tOp (rNotInD K) (tVar 4) (tVar 1))) (x := 4) (fun d => !((found.map Say.d).any fun e => eqd e d)) (fun d => d) (src_list (d := .lst ((ownB one).map Say.d)) (ev_var (i := 3) rfl) (ds := (ownB one).map Say.d) rfl) rfl (by rw [List.length_map]; omega) (fun d hd => by
          obtain ⟨b, hb, rfl⟩ := List.mem_map.mp hd
          exact et_test (ev_notIn (ds := found.map Say.d) (ev_var rfl) (el_d (ev_var rfl)) rfl (shp_le (say_shp b (ooks b hb).1) (by have := (ooks b hb).2; omega)) (shp_says fun x hx => ⟨(hfo x hx).1, by have := (hfo x hx).2; omega⟩))) (fun d hd hp => ev_var rfl)
      rw [List.map_id', filter_says] at hlc
      have hfl2 := List.length_filter_le (fun b => !decide (b ∈ found)) (ownB one)
      have e : (lawStep found one).map Say.d = found.map Say.d ++ ((ownB one).filter fun b => !decide (b ∈ found)).map Say.d := by
        unfold lawStep
        rw [List.map_append]
      rw [e]
      exact Ex.weak (ex_set (ev_of_fresh (ef_cat (el_d (ev_var rfl)) (el_d (ev_of_fresh hlc)) rfl rfl (by rw [List.length_map, List.length_map]; omega))) rfl) (by walk_at "nrm"; walk_at "le")
  · rw [List.take_length]
    exact ex_retW (ev_var rfl) rfl (by walk_at "le")
theorem lawBonds_small {s : Say} (h : s.dep ≤ 7) : (lawBonds s).length ≤ 254 := by
  have := lawBonds_len s
  have := size_small h
  omega
theorem down_add : ∀ (n : Nat) (s : Say), down (n + 1) s = lastP (down n s)
  | 0, s => rfl
  | n + 1, s => by
    show down (n + 1) (lastP s) = lastP (down n (lastP s))
    exact down_add n (lastP s)
theorem last_at {s : Say} (h : s.parts ≠ []) : atI (Dat.str s.kind :: s.args) (-1) = some (lastP s).d := by
  cases s <;> first | rfl | (exact absurd rfl h)
theorem bonds_parts {s : Say} (h : 0 < (lawBonds s).length) : s.parts ≠ [] := by
  intro e
  cases s <;> first | (cases e; done) | (exact absurd h (Nat.lt_irrefl 0))
def R_fit : List Sl → Dat → List Sl → Prop := fun as d as' => ∃ (s : Say) (m : Nat), as = [.dat s.d, .dat (.int m)] ∧ d = (fitS m s).d ∧ as' = [.no, .no] ∧ s.dep ≤ 7 ∧ s.Ok
theorem len_fit : ∀ as d as', R_fit as d as' → as.length = 2 := by
  rintro as d as' ⟨_, _, rfl, _⟩
  rfl
abbrev s_fit : Stmt := topS 20
theorem sc_fit : FnScope ["_law_saying", "_law_most"] ["_law_saying", "_law_most"] (defScope s_fit) := ⟨rfl, rfl, rfl, by decide +kernel, rfl, by decide +kernel, by decide +kernel⟩
theorem ok_fit {f : Addr} {fd : FuncData} (F : Fun K "_law_fit" "_law_fit" s_fit f fd) (T : Tx K mg) {a_bonds : Addr} {fd_bonds : FuncData} (c_bonds : Cal P w K mg base "_law_bonds" 9 ["_law_saying"] (spG K R_bonds) a_bonds fd_bonds) : FnOk P w K mg base CX0 10 f fd ["_law_saying", "_law_most"] ((spG K R_fit)) := by
  have nd := sc_fit.nd
  refine F.ok sc_fit (spG_len len_fit) (fun cdv A outer s H vs Q E hr h => ?_)
  have hu := hr.units
  have hu5 := unit5 hr
  refine ⟨_, (pss_cons (ps_while PassesOwn.never (pt_cmpR op_gt (pe_callB (kLen K) (by rfl) T.b_len PySem.boot_len (pa_cons (pe_call c_bonds.ok (hr.mono (by omega)) (by rfl) c_bonds.g c_bonds.kp c_bonds.b .nil pass0 (pa_cons (pv 0) pa_nil)) pa_nil)) (pv 1) (nomark _)) (pss_one (ps_set (i := 0) nd rfl (by first | exact Or.inl rfl | exact Or.inr rfl) (pe_ix (kIxT K) (pv 0) (pe_un un_neg pe_int) (fun _ _ => rfl)))))
      (pss_one (ps_ret (pv 0)))), ?_⟩
  refine body_ok h len_fit fun as d as' hR => ?_
  obtain ⟨s, m, rfl, rfl, rfl, hn, ok⟩ := hR
  walk_at "body"
  have hf := fit_ok m s
  have tst : ∀ i, EvT K (tTest (tOp (rI0 fun i j => V.bl (decide (j < i))) (tCB (rLenQ K) (tCons (tCall (spG K R_bonds) [] E0 (tCons (tVar 0) tNil)) tNil)) (tVar 1))) [.dat (down i s).d, .dat (.int m)] (decide ((m : Int) < ((lawBonds (down i s)).length : Nat))) [.dat (down i s).d, .dat (.int m)] := fun i => by
    have hd := down_ok i s ok
    have hc : Ev K (tCall (spG K R_bonds) [] E0 (tCons (tVar 0) tNil)) [.dat (down i s).d, .dat (.int m)] (.lst ((lawBonds (down i s)).map Say.d)) [.dat (down i s).d, .dat (.int m)] := ev_callA (ea_d (ev_var rfl) ea_nil) rfl ⟨down i s, rfl, rfl, rfl, by omega, hd.1⟩
    have := ev_lenL (K := K) rfl (el_d hc) rfl
    rw [List.length_map] at this
    exact et_test (ev_b0 (g := fun i j => decide (j < i)) this (ev_var rfl))
  refine ex_seq (ex_while (n := fitN m s) (fun i => [.dat (down i s).d, .dat (.int m)]) rfl (fun i hi => ⟨_, EvT.to (tst i) (decide_eq_true (by have := hf.2 i hi; omega)), ?_⟩) (.done (EvT.to (tst _) (decide_eq_false (by have := hf.1; unfold fitS at this; omega))))) ?_
  · have hb := hf.2 i hi
    have hp := bonds_parts (s := down i s) (by omega)
    rw [down_add]
    generalize down i s = u at *
    refine Ex.weak (ex_set (d := (lastP u).d) (ev_ixT (ds := .str u.kind :: u.args) (ev_var (by rw [say_args u]; rfl)) (ev_neg ev_int) (last_at hp)) rfl) (by walk_at "nrm"; walk_at "le")
  · exact ex_retW (ev_var rfl) rfl (by walk_at "le")
def R_law : List Sl → Dat → List Sl → Prop := fun as d as' => ∃ (ns : List Int), as = [.dat (.scr ns)] ∧ d = .bl true ∧ as' = [.no]
theorem len_law : ∀ as d as', R_law as d as' → as.length = 1 := by
  rintro as d as' ⟨_, rfl, _⟩
  rfl
abbrev s_law : Stmt := topS 32
theorem sc_law : FnScope ["_law_script", "_law_spot", "_law_names_here", "_law_saying", "_law_bonds_here", "_law_way", "_law_ring", "_law_rows", "_law_guesses", "_law_cell", "_law_k", "_law_bond", "_law_at", "_law_row"] ["_law_script"] (defScope s_law) := ⟨rfl, rfl, rfl, by decide +kernel, rfl, by decide +kernel, by decide +kernel⟩
theorem ok_law {f : Addr} {fd : FuncData} (F : Fun K "law" "law" s_law f fd) (T : Tx K mg) {a_names : Addr} {fd_names : FuncData} (c_names : Cal P w K mg base "_law_names" 1 ["_law_cell"] (spG K R_names) a_names fd_names) {a_cell_at : Addr} {fd_cell_at : FuncData} (c_cell_at : Cal P w K mg base "_law_cell_at" 1 ["_law_script", "_law_k"] (spG K R_cell_at) a_cell_at fd_cell_at) {a_fit : Addr} {fd_fit : FuncData} (c_fit : Cal P w K mg base "_law_fit" 10 ["_law_saying", "_law_most"] (spG K R_fit) a_fit fd_fit) {a_made : Addr} {fd_made : FuncData} (c_made : Cal P w K mg base "_law_made" 8 ["_law_script", "_law_spot", "_law_names_here", "_law_deep"] (spG K R_made) a_made fd_made) {a_bonds_in : Addr} {fd_bonds_in : FuncData} (c_bonds_in : Cal P w K mg base "bonds_in" 9 ["saying"] (spF K R_bonds_in) a_bonds_in fd_bonds_in) {a_marks : Addr} {fd_marks : FuncData} (c_marks : Cal P w K mg base "_law_marks" 2 ["_law_script", "_law_spot", "_law_names_here", "_law_least"] (spG K R_marks) a_marks fd_marks) {a_means : Addr} {fd_means : FuncData} (c_means : Cal P w K mg base "_law_means" 8 ["_law_saying", "_law_way", "_law_ring"] (spF K R_means) a_means fd_means) {a_rows_right : Addr} {fd_rows_right : FuncData} (c_rows_right : Cal P w K mg base "_law_rows_right" 9 ["_law_saying", "_law_bonds_here", "_law_way", "_law_ring", "_law_guesses"] (spG K R_rows_right) a_rows_right fd_rows_right) {a_guesses_right : Addr} {fd_guesses_right : FuncData} (c_guesses_right : Cal P w K mg base "_law_guesses_right" 1 ["_law_found", "_law_many"] (spG K R_guesses_right) a_guesses_right fd_guesses_right) {a_all_guesses : Addr} {fd_all_guesses : FuncData} (c_all_guesses : Cal P w K mg base "all_guesses" 1 ["bonds"] (spG K R_all_guesses) a_all_guesses fd_all_guesses) {a_draw : Addr} {fd_draw : FuncData} (c_draw : Cal P w K mg base "_law_draw" 1 ["_law_script", "_law_spot"] (spG K R_draw) a_draw fd_draw) {a_steps_right : Addr} {fd_steps_right : FuncData} (c_steps_right : Cal P w K mg base "_law_steps_right" 11 ["_law_bonds_here", "_law_way", "_law_ring", "_law_guesses", "_law_k", "_law_moment"] (spG K R_steps_right) a_steps_right fd_steps_right) {a_promises_right : Addr} {fd_promises_right : FuncData} (c_promises_right : Cal P w K mg base "_law_promises_right" 11 ["_law_saying", "_law_bonds_here", "_law_way", "_law_ring", "_law_guesses", "_law_k"] (spG K R_promises_right) a_promises_right fd_promises_right) : FnOk P w K mg base CX0 12 f fd ["_law_script"] ((spG K R_law)) := by
  have nd := sc_law.nd
  refine F.ok sc_law (spG_len len_law) (fun cdv A outer s H vs Q E hr h => ?_)
  have hu := hr.units
  have hu5 := unit5 hr
  refine ⟨_, (pss_cons (ps_set (i := 1) nd rfl (by first | exact Or.inl rfl | exact Or.inr rfl) (pe_lst (pa_cons pe_int pa_nil)))
      (pss_cons (ps_set (i := 2) nd rfl (by first | exact Or.inl rfl | exact Or.inr rfl) (pe_call c_names.ok (hr.mono (by omega)) (by rfl) c_names.g c_names.kp c_names.b .nil pass0 (pa_cons (pe_call c_cell_at.ok (hr.mono (by omega)) (by rfl) c_cell_at.g c_cell_at.kp c_cell_at.b .nil pass0 (pa_cons (pv 0) (pa_cons pe_int pa_nil))) pa_nil)))
      (pss_cons (ps_set (i := 3) nd rfl (by first | exact Or.inl rfl | exact Or.inr rfl) (pe_call c_fit.ok (hr.mono (by omega)) (by rfl) c_fit.g c_fit.kp c_fit.b .nil pass0 (pa_cons (pe_call c_made.ok (hr.mono (by omega)) (by rfl) c_made.g c_made.kp c_made.b .nil pass0 (pa_cons (pv 0) (pa_cons (pv 1) (pa_cons (pv 2) (pa_cons pe_int pa_nil))))) (pa_cons pe_int pa_nil))))
      (pss_cons (ps_set (i := 4) nd rfl (by first | exact Or.inl rfl | exact Or.inr rfl) (pe_call c_bonds_in.ok (hr.mono (by omega)) (by rfl) c_bonds_in.g c_bonds_in.kp c_bonds_in.b .nil pass0 (pa_cons (pv 3) pa_nil)))
      (pss_cons (ps_set (i := 5) nd rfl (by first | exact Or.inl rfl | exact Or.inr rfl) (pe_call c_marks.ok (hr.mono (by omega)) (by rfl) c_marks.g c_marks.kp c_marks.b .nil pass0 (pa_cons (pv 0) (pa_cons (pv 1) (pa_cons (pv 2) (pa_cons pe_int pa_nil))))))
      (pss_cons (ps_set (i := 6) nd rfl (by first | exact Or.inl rfl | exact Or.inr rfl) (pe_call c_marks.ok (hr.mono (by omega)) (by rfl) c_marks.g c_marks.kp c_marks.b .nil pass0 (pa_cons (pv 0) (pa_cons (pv 1) (pa_cons (pv 2) (pa_cons pe_int pa_nil))))))
      (pss_cons (ps_set (i := 7) nd rfl (by first | exact Or.inl rfl | exact Or.inr rfl) (pe_lc (own := [("_law_bond", 11)]) (g := gName 11) (tt := tYes) (by rfl) nd (kiList K (pi_list (pv 4))) (blkOk_by (own := [("_law_bond", 11)]) (N := ["_law_script", "_law_spot", "_law_names_here", "_law_saying", "_law_bonds_here", "_law_way", "_law_ring", "_law_rows", "_law_guesses", "_law_cell", "_law_k", "_law_bond", "_law_at", "_law_row"]) (sc := defScope s_law) (by decide +kernel)) (fun _ _ _ _ _ => pg_name (i := 11) nd rfl (by first | exact Or.inl rfl | exact Or.inr rfl)) (fun _ _ _ _ _ => pts_nil) (fun _ _ _ _ _ => (pe_call c_means.ok (hr.mono (by omega)) (by rfl) c_means.g c_means.kp c_means.b .nil pass0 (pa_cons (pv 11) (pa_cons (pv 5) (pa_cons (pv 6) pa_nil)))))))
      (pss_cons (ps_setLc (i := 8) (own := [("_law_at", 12)]) (g := gName 12) (tt := tYes) (by rfl) nd rfl rfl (sw_true rfl rfl rfl (by decide +kernel)) (pi_range1 (by rfl) T.b_range (pa_cons (pe_op op_add (pe_callB (kLen K) (by rfl) T.b_len PySem.boot_len (pa_cons (pv 5) pa_nil)) (pe_callB (kLen K) (by rfl) T.b_len PySem.boot_len (pa_cons (pv 6) pa_nil))) pa_nil)) (blkOk_by (own := [("_law_at", 12)]) (N := ["_law_script", "_law_spot", "_law_names_here", "_law_saying", "_law_bonds_here", "_law_way", "_law_ring", "_law_rows", "_law_guesses", "_law_cell", "_law_k", "_law_bond", "_law_at", "_law_row"]) (sc := defScope s_law) (by decide +kernel)) (fun _ _ _ _ _ => pg_name (i := 12) nd rfl (by first | exact Or.inl rfl | exact Or.inr rfl)) (fun _ _ _ _ _ => pts_nil) (fun _ _ _ _ _ => (pe_callTy (kTuple K) (by rfl) T.b_tuple (by decide +kernel) (pa_cons (pe_lc (own := [("_law_row", 13)]) (g := gName 13) (tt := tYes) (by rfl) nd (kiList K (pi_list (pv 7))) (blkOk_by (own := [("_law_row", 13)]) (N := ["_law_script", "_law_spot", "_law_names_here", "_law_saying", "_law_bonds_here", "_law_way", "_law_ring", "_law_rows", "_law_guesses", "_law_cell", "_law_k", "_law_bond", "_law_at", "_law_row"]) (by with_unfolding_all rfl)) (fun _ _ _ _ _ => pg_name (i := 13) nd rfl (by first | exact Or.inl rfl | exact Or.inr rfl)) (fun _ _ _ _ _ => pts_nil) (fun _ _ _ _ _ => (pe_ix (kIxL K) (pv 13) (pv 12) (fun _ _ => rfl)))) pa_nil))))
      (pss_cons (ps_if (PW.pt (pw_or (pt_not (pt_val (pe_call c_guesses_right.ok (hr.mono (by omega)) (by rfl) c_guesses_right.g c_guesses_right.kp c_guesses_right.b .nil pass0 (pa_cons (pe_call c_all_guesses.ok (hr.mono (by omega)) (by rfl) c_all_guesses.g c_all_guesses.kp c_all_guesses.b .nil pass0 (pa_cons (pv 4) pa_nil)) (pa_cons (pe_callB (kLen K) (by rfl) T.b_len PySem.boot_len (pa_cons (pv 4) pa_nil)) pa_nil))))) (pw_or1 (pt_not (pt_val (pe_call c_rows_right.ok (hr.mono (by omega)) (by rfl) c_rows_right.g c_rows_right.kp c_rows_right.b .nil pass0 (pa_cons (pv 3) (pa_cons (pv 4) (pa_cons (pv 5) (pa_cons (pv 6) (pa_cons (pv 8) pa_nil))))))))))) (pss_one (ps_ret pe_bl)) pss_nil)
      (pss_cons (ps_set (i := 9) nd rfl (by first | exact Or.inl rfl | exact Or.inr rfl) (pe_call c_draw.ok (hr.mono (by omega)) (by rfl) c_draw.g c_draw.kp c_draw.b .nil pass0 (pa_cons (pv 0) (pa_cons (pv 1) pa_nil))))
      (pss_cons (ps_set (i := 10) nd rfl (by first | exact Or.inl rfl | exact Or.inr rfl) (pe_op op_mod (pv 9) (pe_callB (call_max2 rfl) (by rfl) T.b_max (by decide +kernel) (pa_cons pe_int (pa_cons (pe_callB (kLen K) (by rfl) T.b_len PySem.boot_len (pa_cons (pv 4) pa_nil)) pa_nil)))))
      (pss_cons (ps_if (pt_not (pt_val (pe_call c_steps_right.ok (hr.mono (by omega)) (by rfl) c_steps_right.g c_steps_right.kp c_steps_right.b .nil pass0 (pa_cons (pv 4) (pa_cons (pv 5) (pa_cons (pv 6) (pa_cons (pv 8) (pa_cons (pv 10) (pa_cons (pe_op op_mod (pe_op op_fdiv (pv 9) pe_int) (pe_callB (kLen K) (by rfl) T.b_len PySem.boot_len (pa_cons (pv 8) pa_nil))) pa_nil))))))))) (pss_one (ps_ret pe_bl)) pss_nil)
      (pss_one (ps_ret (pe_and (pe_call c_promises_right.ok (hr.mono (by omega)) (by rfl) c_promises_right.g c_promises_right.kp c_promises_right.b .nil pass0 (pa_cons (pv 3) (pa_cons (pv 4) (pa_cons (pv 5) (pa_cons (pv 6) (pa_cons (pv 8) (pa_cons (pv 10) pa_nil))))))) (pe_one (pe_cmpR (kEqD K hu) (pe_call c_bonds_in.ok (hr.mono (by omega)) (by rfl) c_bonds_in.g c_bonds_in.kp c_bonds_in.b .nil pass0 (pa_cons (pv 3) pa_nil)) (pv 4) (nomark _)))))))))))))))))), ?_⟩
  refine body_ok h len_law fun as d as' hR => ?_
  obtain ⟨ns, rfl, rfl, rfl⟩ := hR
  walk_at "body"
  walk_at "setF"
  walk_at "nrm"
  have nmk := names_mark (ns.getD 0 0)
  have nml := names_len (ns.getD 0 0)
  refine' ex_seq (ex_set (ev_callA (ea_d (ev_callA (ea_d (ev_var rfl) (ea_d ev_int ea_nil)) rfl ⟨_, 0, rfl, rfl, rfl⟩) ea_nil) rfl ⟨_, rfl, rfl, rfl⟩) rfl) ?_
  walk_at "nrm"
  generalize namesS (ns.getD 0 0) = nm at *
  have nx6 : ∀ x ∈ nm, x.length ≤ 6 := fun x hx => (mark_ok (nmk x hx).1).1
  have sok := made_ok nmk nml ns 5 1
  have sdp := made_dep nm ns 5 1 (by decide)
  have hfit := fit_good 4 (madeS nm ns 5 1).1 sok
  refine' ex_seq (ex_set (d := (fitS 4 (madeS nm ns 5 1).1).d) (ev_callA (ea_d (ev_call1 (i := 1) (k := 1) (s := .own [.int 1]) (ea_d (ev_var rfl) (ea_s ⟨_, rfl, rfl⟩ (ea_d (ev_var rfl) (ea_d ev_int ea_nil)))) ?a1 rfl ⟨ns, 1, nm, 5, rfl, rfl, rfl, by decide, by decide, nml⟩ rfl rfl rfl) (ea_d ev_int ea_nil)) rfl ⟨_, 4, rfl, rfl, rfl, by omega, sok⟩) rfl) ?_
  case' a1 => exact ⟨rfl, rfl⟩
  walk_at "nrm"
  obtain ⟨sok2, sdp2, sfew⟩ := hfit
  have sdp3 : (fitS 4 (madeS nm ns 5 1).1).dep ≤ 5 := by omega
  clear sdp2 sdp sok
  generalize fitS 4 (madeS nm ns 5 1).1 = s at *
  generalize (madeS nm ns 5 1).2 = k1
  have hB := bonds_self sok2 (by omega)
  refine ex_seq (ex_set (d := saysD (bondsL s)) (ev_of_fresh (ef_call (ea_d (ev_var rfl) ea_nil) rfl ⟨s, rfl, rfl, by omega, sok2⟩)) rfl) ?_
  walk_at "nrm"
  have wok := marksM_ok nmk nml ns k1 0 4
  have wle := marksN_le ns k1 0 (md := 4) (by decide)
  rw [← marksM_len nm] at wle
  refine' ex_seq (ex_set (d := .lst ((marksM nm ns k1 0 4).map Dat.str)) (ev_call1 (i := 1) (k := 1) (s := .own [.int k1]) (ea_d (ev_var rfl) (ea_s ⟨_, rfl, rfl⟩ (ea_d (ev_var rfl) (ea_d ev_int ea_nil)))) ?a2 rfl ⟨ns, k1, nm, 0, rfl, rfl, rfl, nml, by decide, nx6⟩ rfl rfl rfl) rfl) ?_
  case' a2 => exact ⟨rfl, rfl⟩
  walk_at "nrm"
  generalize marksM nm ns k1 0 4 = way at *
  generalize k1 + 1 + marksN ns k1 0 4 = k2
  have rok := marksM_ok nmk nml ns k2 1 4
  have rle := marksN_le ns k2 1 (md := 4) (by decide)
  rw [← marksM_len nm] at rle
  refine' ex_seq (ex_set (d := .lst ((marksM nm ns k2 1 4).map Dat.str)) (ev_call1 (i := 1) (k := 1) (s := .own [.int k2]) (ea_d (ev_var rfl) (ea_s ⟨_, rfl, rfl⟩ (ea_d (ev_var rfl) (ea_d ev_int ea_nil)))) ?a3 rfl ⟨ns, k2, nm, 1, rfl, rfl, rfl, nml, by decide, nx6⟩ rfl rfl rfl) rfl) ?_
  case' a3 => exact ⟨rfl, rfl⟩
  walk_at "nrm"
  generalize marksM nm ns k2 1 4 = ring at *
  generalize k2 + 1 + marksN ns k2 1 4 = k3
  have sWR : ∀ x ∈ way ++ ring, PyData.strOk x = true := fun x hx => (List.mem_append.mp hx).elim (strs_of wok x) (strs_of rok x)
  refine ex_seq (ex_set (d := .lst ((bondsL s).map fun b => .lst (bls (rowB b way ring)))) (ev_of_fresh (ef_lcIx ((bondsL s).map fun b => .lst (bls (rowB b way ring))) (src_list (ds := (bondsL s).map Say.d) (ev_var rfl) rfl) rfl (by rw [List.length_map, List.length_map]) (by rw [List.length_map]; omega) fun i d e hd he => ?_)) rfl) ?_
  · rw [List.getElem?_map] at hd he
    cases hp : (bondsL s)[i]? with
    | none => rw [hp] at hd; cases hd
    | some b =>
      rw [hp] at hd he
      cases hd
      cases he
      have hr := addBonds_dep (n := s.dep + 1) s [] sok2 (by omega) (fun b hb => by cases hb) b (List.mem_of_getElem? hp)
      exact ev_of_fresh (ef_call (ea_d (ev_var rfl) (ea_d (ev_var rfl) (ea_d (ev_var rfl) ea_nil))) rfl ⟨b, way, ring, rfl, rfl, by omega, hr.1, by omega, by omega, sWR⟩)
  walk_at "nrm"
  have hgR : ∀ (t : Nat), gR (bondsL s) (wd way ring) t = (bondsL s).map fun b => hb (wd way ring) b t := fun t => rfl
  refine ex_seq (ex_set (d := guessR (bondsL s) way ring) (ev_of_fresh (ef_lcIx (ds := rngD 0 ((way.length + ring.length : Nat) : Int).toNat) ((List.range (way.length + ring.length)).map fun t => tupB (gR (bondsL s) (wd way ring) t)) (src_rng1 (Ev.to (ev_i0 (g := fun i j => i + j) (ev_lenL (ds := way.map Dat.str) rfl (el_d (ev_var rfl)) rfl) (ev_lenL (ds := ring.map Dat.str) rfl (el_d (ev_var rfl)) rfl)) (by rw [List.length_map, List.length_map, Int.natCast_add])) (by omega) (by omega)) rfl (by rw [rngD_len, List.length_map, List.length_range]; omega) (by rw [rngD_len]; omega) fun t d e hd he => ?_)) rfl) ?_
  · obtain ⟨ht, rfl⟩ := rngD_get hd
    have ht : t < way.length + ring.length := by omega
    rw [List.getElem?_map, List.getElem?_range ht] at he
    cases he
    rw [Int.zero_add]
    refine ev_tupleL rfl (el_d (ev_of_fresh (ef_lcIx (bls (gR (bondsL s) (wd way ring) t)) (src_list (ds := (bondsL s).map fun b => .lst (bls (rowB b way ring))) (ev_var rfl) rfl) rfl (by unfold bls; rw [List.length_map, gR_len, List.length_map]) (by rw [List.length_map]; omega) fun i d e hd he => ?_))) rfl
    unfold bls gR at he
    rw [List.getElem?_map] at hd
    rw [List.getElem?_map, List.getElem?_map] at he
    cases hp : (bondsL s)[i]? with
    | none => rw [hp] at hd; cases hd
    | some b =>
      rw [hp] at hd he
      cases hd
      cases he
      exact ev_ixL (el_d (ev_var rfl)) (ev_var rfl) rfl (row_at b way ring ht)
  walk_at "nrm"
  refine ex_no (EvT.to (et_or (et_not (et_B (b := true) (ev_callA (ea_d (ev_callA (ea_d (ev_var rfl) ea_nil) rfl ⟨(bondsL s).map Say.d, rfl, rfl, rfl, by rw [List.length_map]; omega⟩) (ea_d (ev_lenL (ds := (bondsL s).map Say.d) rfl (el_d (ev_var rfl)) rfl) ea_nil)) rfl ⟨((bondsL s).map Say.d).length, rfl, rfl, rfl, by rw [List.length_map]; omega⟩))) fun _ => et_not (et_B (b := true) (ev_callA (ea_d (ev_var rfl) (ea_d (ev_var rfl) (ea_d (ev_var rfl) (ea_d (ev_var rfl) (ea_d (ev_var rfl) ea_nil))))) rfl ⟨s, way, ring, rfl, rfl, rfl, sdp3, sok2, by omega, by omega, sWR⟩))) rfl) ?_
  refine' ex_seq (ex_set (d := .int (drawv ns k3)) (ev_call1 (i := 1) (k := 1) (s := .own [.int k3]) (ea_d (ev_var rfl) (ea_s ⟨_, rfl, rfl⟩ ea_nil)) ?a4 rfl ⟨ns, k3, rfl, rfl, rfl⟩ rfl rfl rfl) rfl) ?_
  case' a4 => exact ⟨rfl, rfl⟩
  walk_at "nrm"
  generalize drawv ns k3 = c
  have hmx : ∃ m : Nat, (if (((bondsL s).map Say.d).length : Int) > 1 then (((bondsL s).map Say.d).length : Int) else 1) = m ∧ 1 ≤ m ∧ m ≤ 4 ∧ (0 < (bondsL s).length → m = (bondsL s).length) := by
    rw [List.length_map]
    by_cases h : (((bondsL s).length : Nat) : Int) > 1
    · exact ⟨(bondsL s).length, if_pos h, by omega, sfew, fun _ => rfl⟩
    · exact ⟨1, if_neg h, by omega, by omega, fun h => by omega⟩
  obtain ⟨m, hm, m1, m4, mb⟩ := hmx
  have hkm : ∃ k : Nat, c % (m : Int) = k ∧ k < m := ⟨(c % (m : Int)).toNat, by have := Int.emod_nonneg c (show (m : Int) ≠ 0 by omega); omega, by have := Int.emod_lt_of_pos c (show (0 : Int) < m by omega); have := Int.emod_nonneg c (show (m : Int) ≠ 0 by omega); omega⟩
  obtain ⟨k, hk, hkm⟩ := hkm
  have hmo : ∃ mo : Nat, c / 4 % ((way.length + ring.length : Nat) : Int) = mo := ⟨(c / 4 % ((way.length + ring.length : Nat) : Int)).toNat, by have := Int.emod_nonneg (c / 4) (show ((way.length + ring.length : Nat) : Int) ≠ 0 by omega); omega⟩
  obtain ⟨mo, hmo⟩ := hmo
  refine ex_seq (ex_set (d := .int k) (Ev.to (ev_i (g := fun i j => i % j) (ev_var rfl) (ev_max rfl (ea_d ev_int (ea_d (ev_lenL (ds := (bondsL s).map Say.d) rfl (el_d (ev_var rfl)) rfl) ea_nil))) (by rw [hm]; omega)) (by rw [hm]; exact congrArg Dat.int hk)) rfl) ?_
  walk_at "nrm"
  refine ex_no (EvT.to (et_not (et_B (b := true) (ev_callA (ea_d (ev_var rfl) (ea_d (ev_var rfl) (ea_d (ev_var rfl) (ea_d (ev_var rfl) (ea_d (ev_var rfl) (ea_d (d := .int mo) (Ev.to (ev_i (g := fun i j => i % j) (ev_i (g := fun i j => i / j) (ev_var rfl) ev_int ⟨by decide, by decide⟩) (ev_lenL (ds := (List.range (way.length + ring.length)).map fun t => tupB (gR (bondsL s) (wd way ring) t)) rfl (el_d (ev_var rfl)) rfl) (by rw [List.length_map, List.length_range]; omega)) (by rw [List.length_map, List.length_range]; exact congrArg Dat.int hmo)) ea_nil)))))) rfl ⟨s, way, ring, k, mo, rfl, rfl, rfl, sdp3, sok2, by omega, by omega, sWR, fun h => by have := mb h; omega⟩))) rfl) ?_
  have hsh : Shp 60 (saysD (bondsL s)) := by
    unfold saysD
    rw [shp_lst]
    exact shp_says fun b hb => ⟨(hB.row b hb).1, by have := (hB.row b hb).2; omega⟩
  exact ex_retW (ev_and (a := true) (ev_callA (ea_d (ev_var rfl) (ea_d (ev_var rfl) (ea_d (ev_var rfl) (ea_d (ev_var rfl) (ea_d (ev_var rfl) (ea_d (ev_var rfl) ea_nil)))))) rfl ⟨s, way, ring, k, rfl, rfl, rfl, sdp3, sok2, by omega, by omega, sWR, by omega⟩) fun _ => ev_eq (ev_of_fresh (ef_call (ea_d (ev_var rfl) ea_nil) rfl ⟨s, rfl, rfl, by omega, sok2⟩)) (ev_var rfl) hsh hsh) (by show Dat.bl (true && eqd (saysD (bondsL s)) (saysD (bondsL s))) = _; rw [eqd_refl hsh]; rfl) (by walk_at "le")
end
theorem all_mk {l : PySem.W.OpenLaw} {w : World} {K : PySem.W.Frag} {h : Heap} {mg : Str → Option Value} {fa : Addr} {f_names : Addr} {od_names an_names : Option Addr} {sl_names : Array (Option Value)} {oc_names kV_names dc_names pm_names cd_names ct_names : Value} {f_cell_at : Addr} {od_cell_at an_cell_at : Option Addr} {sl_cell_at : Array (Option Value)} {oc_cell_at kV_cell_at dc_cell_at pm_cell_at cd_cell_at ct_cell_at : Value} {f_all : Addr} {od_all an_all : Option Addr} {sl_all : Array (Option Value)} {oc_all kV_all dc_all pm_all cd_all ct_all : Value} {f_bonds : Addr} {od_bonds an_bonds : Option Addr} {sl_bonds : Array (Option Value)} {oc_bonds kV_bonds dc_bonds pm_bonds cd_bonds ct_bonds : Value} {f_fit : Addr} {od_fit an_fit : Option Addr} {sl_fit : Array (Option Value)} {oc_fit kV_fit dc_fit pm_fit cd_fit ct_fit : Value} {f_draw : Addr} {od_draw an_draw : Option Addr} {sl_draw : Array (Option Value)} {oc_draw kV_draw dc_draw pm_draw cd_draw ct_draw : Value} {f_made : Addr} {od_made an_made : Option Addr} {sl_made : Array (Option Value)} {oc_made kV_made dc_made pm_made cd_made ct_made : Value} {f_own_bonds : Addr} {od_own_bonds an_own_bonds : Option Addr} {sl_own_bonds : Array (Option Value)} {oc_own_bonds kV_own_bonds dc_own_bonds pm_own_bonds cd_own_bonds ct_own_bonds : Value} {f_add_bonds : Addr} {od_add_bonds an_add_bonds : Option Addr} {sl_add_bonds : Array (Option Value)} {oc_add_bonds kV_add_bonds dc_add_bonds pm_add_bonds cd_add_bonds ct_add_bonds : Value} {f_bonds_in : Addr} {od_bonds_in an_bonds_in : Option Addr} {sl_bonds_in : Array (Option Value)} {oc_bonds_in kV_bonds_in dc_bonds_in pm_bonds_in cd_bonds_in ct_bonds_in : Value} {f_marks : Addr} {od_marks an_marks : Option Addr} {sl_marks : Array (Option Value)} {oc_marks kV_marks dc_marks pm_marks cd_marks ct_marks : Value} {f_after : Addr} {od_after an_after : Option Addr} {sl_after : Array (Option Value)} {oc_after kV_after dc_after pm_after cd_after ct_after : Value} {f_till : Addr} {od_till an_till : Option Addr} {sl_till : Array (Option Value)} {oc_till kV_till dc_till pm_till cd_till ct_till : Value} {f_means : Addr} {od_means an_means : Option Addr} {sl_means : Array (Option Value)} {oc_means kV_means dc_means pm_means cd_means ct_means : Value} {f_is_so : Addr} {od_is_so an_is_so : Option Addr} {sl_is_so : Array (Option Value)} {oc_is_so kV_is_so dc_is_so pm_is_so cd_is_so ct_is_so : Value} {f_rows_right : Addr} {od_rows_right an_rows_right : Option Addr} {sl_rows_right : Array (Option Value)} {oc_rows_right kV_rows_right dc_rows_right pm_rows_right cd_rows_right ct_rows_right : Value} {f_guesses_right : Addr} {od_guesses_right an_guesses_right : Option Addr} {sl_guesses_right : Array (Option Value)} {oc_guesses_right kV_guesses_right dc_guesses_right pm_guesses_right cd_guesses_right ct_guesses_right : Value} {f_all_guesses : Addr} {od_all_guesses an_all_guesses : Option Addr} {sl_all_guesses : Array (Option Value)} {oc_all_guesses kV_all_guesses dc_all_guesses pm_all_guesses cd_all_guesses ct_all_guesses : Value} {f_due_truth : Addr} {od_due_truth an_due_truth : Option Addr} {sl_due_truth : Array (Option Value)} {oc_due_truth kV_due_truth dc_due_truth pm_due_truth cd_due_truth ct_due_truth : Value} {f_sight_goes_on : Addr} {od_sight_goes_on an_sight_goes_on : Option Addr} {sl_sight_goes_on : Array (Option Value)} {oc_sight_goes_on kV_sight_goes_on dc_sight_goes_on pm_sight_goes_on cd_sight_goes_on ct_sight_goes_on : Value} {f_sight_at : Addr} {od_sight_at an_sight_at : Option Addr} {sl_sight_at : Array (Option Value)} {oc_sight_at kV_sight_at dc_sight_at pm_sight_at cd_sight_at ct_sight_at : Value} {f_goes_on : Addr} {od_goes_on an_goes_on : Option Addr} {sl_goes_on : Array (Option Value)} {oc_goes_on kV_goes_on dc_goes_on pm_goes_on cd_goes_on ct_goes_on : Value} {f_steps_right : Addr} {od_steps_right an_steps_right : Option Addr} {sl_steps_right : Array (Option Value)} {oc_steps_right kV_steps_right dc_steps_right pm_steps_right cd_steps_right ct_steps_right : Value} {f_promises_of : Addr} {od_promises_of an_promises_of : Option Addr} {sl_promises_of : Array (Option Value)} {oc_promises_of kV_promises_of dc_promises_of pm_promises_of cd_promises_of ct_promises_of : Value} {f_is_met : Addr} {od_is_met an_is_met : Option Addr} {sl_is_met : Array (Option Value)} {oc_is_met kV_is_met dc_is_met pm_is_met cd_is_met ct_is_met : Value} {f_so : Addr} {od_so an_so : Option Addr} {sl_so : Array (Option Value)} {oc_so kV_so dc_so pm_so cd_so ct_so : Value} {f_meets : Addr} {od_meets an_meets : Option Addr} {sl_meets : Array (Option Value)} {oc_meets kV_meets dc_meets pm_meets cd_meets ct_meets : Value} {f_promises_right : Addr} {od_promises_right an_promises_right : Option Addr} {sl_promises_right : Array (Option Value)} {oc_promises_right kV_promises_right dc_promises_right pm_promises_right cd_promises_right ct_promises_right : Value} {f_law : Addr} {od_law an_law : Option Addr} {sl_law : Array (Option Value)} {oc_law kV_law dc_law pm_law cd_law ct_law : Value} (X : K.In h) (G : h.Ns mainGlobals mg) (hfa : mg "law" = some (.ref fa))
    (a_names : PySem.W.nsIn K mainGlobals "_law_names" = some (some (.ref f_names)))
    (l_names : K.lookup f_names = some ⟨oc_names, od_names, .func (PySem.W.fnOf "_law_names" "_law_names" (defArgs s_names) (defBody s_names) (defScope s_names) .none kV_names dc_names pm_names an_names cd_names ct_names), sl_names⟩)
    (cc_names : PySem.W.codeIn K cd_names "_law_names" = true)
    (k_names : PySem.W.keepIn K (.ref f_names) = true)
    (a_cell_at : PySem.W.nsIn K mainGlobals "_law_cell_at" = some (some (.ref f_cell_at)))
    (l_cell_at : K.lookup f_cell_at = some ⟨oc_cell_at, od_cell_at, .func (PySem.W.fnOf "_law_cell_at" "_law_cell_at" (defArgs s_cell_at) (defBody s_cell_at) (defScope s_cell_at) .none kV_cell_at dc_cell_at pm_cell_at an_cell_at cd_cell_at ct_cell_at), sl_cell_at⟩)
    (cc_cell_at : PySem.W.codeIn K cd_cell_at "_law_cell_at" = true)
    (k_cell_at : PySem.W.keepIn K (.ref f_cell_at) = true)
    (a_all : PySem.W.nsIn K mainGlobals "_law_all" = some (some (.ref f_all)))
    (l_all : K.lookup f_all = some ⟨oc_all, od_all, .func (PySem.W.fnOf "_law_all" "_law_all" (defArgs s_all) (defBody s_all) (defScope s_all) .none kV_all dc_all pm_all an_all cd_all ct_all), sl_all⟩)
    (cc_all : PySem.W.codeIn K cd_all "_law_all" = true)
    (k_all : PySem.W.keepIn K (.ref f_all) = true)
    (a_bonds : PySem.W.nsIn K mainGlobals "_law_bonds" = some (some (.ref f_bonds)))
    (l_bonds : K.lookup f_bonds = some ⟨oc_bonds, od_bonds, .func (PySem.W.fnOf "_law_bonds" "_law_bonds" (defArgs s_bonds) (defBody s_bonds) (defScope s_bonds) .none kV_bonds dc_bonds pm_bonds an_bonds cd_bonds ct_bonds), sl_bonds⟩)
    (cc_bonds : PySem.W.codeIn K cd_bonds "_law_bonds" = true)
    (k_bonds : PySem.W.keepIn K (.ref f_bonds) = true)
    (a_fit : PySem.W.nsIn K mainGlobals "_law_fit" = some (some (.ref f_fit)))
    (l_fit : K.lookup f_fit = some ⟨oc_fit, od_fit, .func (PySem.W.fnOf "_law_fit" "_law_fit" (defArgs s_fit) (defBody s_fit) (defScope s_fit) .none kV_fit dc_fit pm_fit an_fit cd_fit ct_fit), sl_fit⟩)
    (cc_fit : PySem.W.codeIn K cd_fit "_law_fit" = true)
    (k_fit : PySem.W.keepIn K (.ref f_fit) = true)
    (a_draw : PySem.W.nsIn K mainGlobals "_law_draw" = some (some (.ref f_draw)))
    (l_draw : K.lookup f_draw = some ⟨oc_draw, od_draw, .func (PySem.W.fnOf "_law_draw" "_law_draw" (defArgs s_draw) (defBody s_draw) (defScope s_draw) .none kV_draw dc_draw pm_draw an_draw cd_draw ct_draw), sl_draw⟩)
    (cc_draw : PySem.W.codeIn K cd_draw "_law_draw" = true)
    (k_draw : PySem.W.keepIn K (.ref f_draw) = true)
    (a_made : PySem.W.nsIn K mainGlobals "_law_made" = some (some (.ref f_made)))
    (l_made : K.lookup f_made = some ⟨oc_made, od_made, .func (PySem.W.fnOf "_law_made" "_law_made" (defArgs s_made) (defBody s_made) (defScope s_made) .none kV_made dc_made pm_made an_made cd_made ct_made), sl_made⟩)
    (cc_made : PySem.W.codeIn K cd_made "_law_made" = true)
    (k_made : PySem.W.keepIn K (.ref f_made) = true)
    (a_own_bonds : PySem.W.nsIn K mainGlobals "own_bonds" = some (some (.ref f_own_bonds)))
    (l_own_bonds : K.lookup f_own_bonds = some ⟨oc_own_bonds, od_own_bonds, .func (PySem.W.fnOf "own_bonds" "own_bonds" (defArgs s_own_bonds) (defBody s_own_bonds) (defScope s_own_bonds) .none kV_own_bonds dc_own_bonds pm_own_bonds an_own_bonds cd_own_bonds ct_own_bonds), sl_own_bonds⟩)
    (cc_own_bonds : PySem.W.codeIn K cd_own_bonds "own_bonds" = true)
    (k_own_bonds : PySem.W.keepIn K (.ref f_own_bonds) = true)
    (a_add_bonds : PySem.W.nsIn K mainGlobals "_add_bonds" = some (some (.ref f_add_bonds)))
    (l_add_bonds : K.lookup f_add_bonds = some ⟨oc_add_bonds, od_add_bonds, .func (PySem.W.fnOf "_add_bonds" "_add_bonds" (defArgs s_add_bonds) (defBody s_add_bonds) (defScope s_add_bonds) .none kV_add_bonds dc_add_bonds pm_add_bonds an_add_bonds cd_add_bonds ct_add_bonds), sl_add_bonds⟩)
    (cc_add_bonds : PySem.W.codeIn K cd_add_bonds "_add_bonds" = true)
    (k_add_bonds : PySem.W.keepIn K (.ref f_add_bonds) = true)
    (a_bonds_in : PySem.W.nsIn K mainGlobals "bonds_in" = some (some (.ref f_bonds_in)))
    (l_bonds_in : K.lookup f_bonds_in = some ⟨oc_bonds_in, od_bonds_in, .func (PySem.W.fnOf "bonds_in" "bonds_in" (defArgs s_bonds_in) (defBody s_bonds_in) (defScope s_bonds_in) .none kV_bonds_in dc_bonds_in pm_bonds_in an_bonds_in cd_bonds_in ct_bonds_in), sl_bonds_in⟩)
    (cc_bonds_in : PySem.W.codeIn K cd_bonds_in "bonds_in" = true)
    (k_bonds_in : PySem.W.keepIn K (.ref f_bonds_in) = true)
    (a_marks : PySem.W.nsIn K mainGlobals "_law_marks" = some (some (.ref f_marks)))
    (l_marks : K.lookup f_marks = some ⟨oc_marks, od_marks, .func (PySem.W.fnOf "_law_marks" "_law_marks" (defArgs s_marks) (defBody s_marks) (defScope s_marks) .none kV_marks dc_marks pm_marks an_marks cd_marks ct_marks), sl_marks⟩)
    (cc_marks : PySem.W.codeIn K cd_marks "_law_marks" = true)
    (k_marks : PySem.W.keepIn K (.ref f_marks) = true)
    (a_after : PySem.W.nsIn K mainGlobals "_law_after" = some (some (.ref f_after)))
    (l_after : K.lookup f_after = some ⟨oc_after, od_after, .func (PySem.W.fnOf "_law_after" "_law_after" (defArgs s_after) (defBody s_after) (defScope s_after) .none kV_after dc_after pm_after an_after cd_after ct_after), sl_after⟩)
    (cc_after : PySem.W.codeIn K cd_after "_law_after" = true)
    (k_after : PySem.W.keepIn K (.ref f_after) = true)
    (a_till : PySem.W.nsIn K mainGlobals "_law_till" = some (some (.ref f_till)))
    (l_till : K.lookup f_till = some ⟨oc_till, od_till, .func (PySem.W.fnOf "_law_till" "_law_till" (defArgs s_till) (defBody s_till) (defScope s_till) .none kV_till dc_till pm_till an_till cd_till ct_till), sl_till⟩)
    (cc_till : PySem.W.codeIn K cd_till "_law_till" = true)
    (k_till : PySem.W.keepIn K (.ref f_till) = true)
    (a_means : PySem.W.nsIn K mainGlobals "_law_means" = some (some (.ref f_means)))
    (l_means : K.lookup f_means = some ⟨oc_means, od_means, .func (PySem.W.fnOf "_law_means" "_law_means" (defArgs s_means) (defBody s_means) (defScope s_means) .none kV_means dc_means pm_means an_means cd_means ct_means), sl_means⟩)
    (cc_means : PySem.W.codeIn K cd_means "_law_means" = true)
    (k_means : PySem.W.keepIn K (.ref f_means) = true)
    (a_is_so : PySem.W.nsIn K mainGlobals "is_so" = some (some (.ref f_is_so)))
    (l_is_so : K.lookup f_is_so = some ⟨oc_is_so, od_is_so, .func (PySem.W.fnOf "is_so" "is_so" (defArgs s_is_so) (defBody s_is_so) (defScope s_is_so) .none kV_is_so dc_is_so pm_is_so an_is_so cd_is_so ct_is_so), sl_is_so⟩)
    (cc_is_so : PySem.W.codeIn K cd_is_so "is_so" = true)
    (k_is_so : PySem.W.keepIn K (.ref f_is_so) = true)
    (a_rows_right : PySem.W.nsIn K mainGlobals "_law_rows_right" = some (some (.ref f_rows_right)))
    (l_rows_right : K.lookup f_rows_right = some ⟨oc_rows_right, od_rows_right, .func (PySem.W.fnOf "_law_rows_right" "_law_rows_right" (defArgs s_rows_right) (defBody s_rows_right) (defScope s_rows_right) .none kV_rows_right dc_rows_right pm_rows_right an_rows_right cd_rows_right ct_rows_right), sl_rows_right⟩)
    (cc_rows_right : PySem.W.codeIn K cd_rows_right "_law_rows_right" = true)
    (k_rows_right : PySem.W.keepIn K (.ref f_rows_right) = true)
    (a_guesses_right : PySem.W.nsIn K mainGlobals "_law_guesses_right" = some (some (.ref f_guesses_right)))
    (l_guesses_right : K.lookup f_guesses_right = some ⟨oc_guesses_right, od_guesses_right, .func (PySem.W.fnOf "_law_guesses_right" "_law_guesses_right" (defArgs s_guesses_right) (defBody s_guesses_right) (defScope s_guesses_right) .none kV_guesses_right dc_guesses_right pm_guesses_right an_guesses_right cd_guesses_right ct_guesses_right), sl_guesses_right⟩)
    (cc_guesses_right : PySem.W.codeIn K cd_guesses_right "_law_guesses_right" = true)
    (k_guesses_right : PySem.W.keepIn K (.ref f_guesses_right) = true)
    (a_all_guesses : PySem.W.nsIn K mainGlobals "all_guesses" = some (some (.ref f_all_guesses)))
    (l_all_guesses : K.lookup f_all_guesses = some ⟨oc_all_guesses, od_all_guesses, .func (PySem.W.fnOf "all_guesses" "all_guesses" (defArgs s_all_guesses) (defBody s_all_guesses) (defScope s_all_guesses) .none kV_all_guesses dc_all_guesses pm_all_guesses an_all_guesses cd_all_guesses ct_all_guesses), sl_all_guesses⟩)
    (cc_all_guesses : PySem.W.codeIn K cd_all_guesses "all_guesses" = true)
    (k_all_guesses : PySem.W.keepIn K (.ref f_all_guesses) = true)
    (a_due_truth : PySem.W.nsIn K mainGlobals "_due_truth" = some (some (.ref f_due_truth)))
    (l_due_truth : K.lookup f_due_truth = some ⟨oc_due_truth, od_due_truth, .func (PySem.W.fnOf "_due_truth" "_due_truth" (defArgs s_due_truth) (defBody s_due_truth) (defScope s_due_truth) .none kV_due_truth dc_due_truth pm_due_truth an_due_truth cd_due_truth ct_due_truth), sl_due_truth⟩)
    (cc_due_truth : PySem.W.codeIn K cd_due_truth "_due_truth" = true)
    (k_due_truth : PySem.W.keepIn K (.ref f_due_truth) = true)
    (a_sight_goes_on : PySem.W.nsIn K mainGlobals "sight_goes_on" = some (some (.ref f_sight_goes_on)))
    (l_sight_goes_on : K.lookup f_sight_goes_on = some ⟨oc_sight_goes_on, od_sight_goes_on, .func (PySem.W.fnOf "sight_goes_on" "sight_goes_on" (defArgs s_sight_goes_on) (defBody s_sight_goes_on) (defScope s_sight_goes_on) .none kV_sight_goes_on dc_sight_goes_on pm_sight_goes_on an_sight_goes_on cd_sight_goes_on ct_sight_goes_on), sl_sight_goes_on⟩)
    (cc_sight_goes_on : PySem.W.codeIn K cd_sight_goes_on "sight_goes_on" = true)
    (k_sight_goes_on : PySem.W.keepIn K (.ref f_sight_goes_on) = true)
    (a_sight_at : PySem.W.nsIn K mainGlobals "sight_at" = some (some (.ref f_sight_at)))
    (l_sight_at : K.lookup f_sight_at = some ⟨oc_sight_at, od_sight_at, .func (PySem.W.fnOf "sight_at" "sight_at" (defArgs s_sight_at) (defBody s_sight_at) (defScope s_sight_at) .none kV_sight_at dc_sight_at pm_sight_at an_sight_at cd_sight_at ct_sight_at), sl_sight_at⟩)
    (cc_sight_at : PySem.W.codeIn K cd_sight_at "sight_at" = true)
    (k_sight_at : PySem.W.keepIn K (.ref f_sight_at) = true)
    (a_goes_on : PySem.W.nsIn K mainGlobals "goes_on" = some (some (.ref f_goes_on)))
    (l_goes_on : K.lookup f_goes_on = some ⟨oc_goes_on, od_goes_on, .func (PySem.W.fnOf "goes_on" "goes_on" (defArgs s_goes_on) (defBody s_goes_on) (defScope s_goes_on) .none kV_goes_on dc_goes_on pm_goes_on an_goes_on cd_goes_on ct_goes_on), sl_goes_on⟩)
    (cc_goes_on : PySem.W.codeIn K cd_goes_on "goes_on" = true)
    (k_goes_on : PySem.W.keepIn K (.ref f_goes_on) = true)
    (a_steps_right : PySem.W.nsIn K mainGlobals "_law_steps_right" = some (some (.ref f_steps_right)))
    (l_steps_right : K.lookup f_steps_right = some ⟨oc_steps_right, od_steps_right, .func (PySem.W.fnOf "_law_steps_right" "_law_steps_right" (defArgs s_steps_right) (defBody s_steps_right) (defScope s_steps_right) .none kV_steps_right dc_steps_right pm_steps_right an_steps_right cd_steps_right ct_steps_right), sl_steps_right⟩)
    (cc_steps_right : PySem.W.codeIn K cd_steps_right "_law_steps_right" = true)
    (k_steps_right : PySem.W.keepIn K (.ref f_steps_right) = true)
    (a_promises_of : PySem.W.nsIn K mainGlobals "promises_of" = some (some (.ref f_promises_of)))
    (l_promises_of : K.lookup f_promises_of = some ⟨oc_promises_of, od_promises_of, .func (PySem.W.fnOf "promises_of" "promises_of" (defArgs s_promises_of) (defBody s_promises_of) (defScope s_promises_of) .none kV_promises_of dc_promises_of pm_promises_of an_promises_of cd_promises_of ct_promises_of), sl_promises_of⟩)
    (cc_promises_of : PySem.W.codeIn K cd_promises_of "promises_of" = true)
    (k_promises_of : PySem.W.keepIn K (.ref f_promises_of) = true)
    (a_is_met : PySem.W.nsIn K mainGlobals "is_met" = some (some (.ref f_is_met)))
    (l_is_met : K.lookup f_is_met = some ⟨oc_is_met, od_is_met, .func (PySem.W.fnOf "is_met" "is_met" (defArgs s_is_met) (defBody s_is_met) (defScope s_is_met) .none kV_is_met dc_is_met pm_is_met an_is_met cd_is_met ct_is_met), sl_is_met⟩)
    (cc_is_met : PySem.W.codeIn K cd_is_met "is_met" = true)
    (k_is_met : PySem.W.keepIn K (.ref f_is_met) = true)
    (a_so : PySem.W.nsIn K mainGlobals "_law_so" = some (some (.ref f_so)))
    (l_so : K.lookup f_so = some ⟨oc_so, od_so, .func (PySem.W.fnOf "_law_so" "_law_so" (defArgs s_so) (defBody s_so) (defScope s_so) .none kV_so dc_so pm_so an_so cd_so ct_so), sl_so⟩)
    (cc_so : PySem.W.codeIn K cd_so "_law_so" = true)
    (k_so : PySem.W.keepIn K (.ref f_so) = true)
    (a_meets : PySem.W.nsIn K mainGlobals "_law_meets" = some (some (.ref f_meets)))
    (l_meets : K.lookup f_meets = some ⟨oc_meets, od_meets, .func (PySem.W.fnOf "_law_meets" "_law_meets" (defArgs s_meets) (defBody s_meets) (defScope s_meets) .none kV_meets dc_meets pm_meets an_meets cd_meets ct_meets), sl_meets⟩)
    (cc_meets : PySem.W.codeIn K cd_meets "_law_meets" = true)
    (k_meets : PySem.W.keepIn K (.ref f_meets) = true)
    (a_promises_right : PySem.W.nsIn K mainGlobals "_law_promises_right" = some (some (.ref f_promises_right)))
    (l_promises_right : K.lookup f_promises_right = some ⟨oc_promises_right, od_promises_right, .func (PySem.W.fnOf "_law_promises_right" "_law_promises_right" (defArgs s_promises_right) (defBody s_promises_right) (defScope s_promises_right) .none kV_promises_right dc_promises_right pm_promises_right an_promises_right cd_promises_right ct_promises_right), sl_promises_right⟩)
    (cc_promises_right : PySem.W.codeIn K cd_promises_right "_law_promises_right" = true)
    (k_promises_right : PySem.W.keepIn K (.ref f_promises_right) = true)
    (a_law : PySem.W.nsIn K mainGlobals "law" = some (some (.ref f_law)))
    (l_law : K.lookup f_law = some ⟨oc_law, od_law, .func (PySem.W.fnOf "law" "law" (defArgs s_law) (defBody s_law) (defScope s_law) .none kV_law dc_law pm_law an_law cd_law ct_law), sl_law⟩)
    (cc_law : PySem.W.codeIn K cd_law "law" = true)
    (k_law : PySem.W.keepIn K (.ref f_law) = true)
    (b_bool : PySem.W.nsIn K mainGlobals "bool" = some none)
    (b_int : PySem.W.nsIn K mainGlobals "int" = some none)
    (b_isinstance : PySem.W.nsIn K mainGlobals "isinstance" = some none)
    (b_len : PySem.W.nsIn K mainGlobals "len" = some none)
    (b_list : PySem.W.nsIn K mainGlobals "list" = some none)
    (b_max : PySem.W.nsIn K mainGlobals "max" = some none)
    (b_range : PySem.W.nsIn K mainGlobals "range" = some none)
    (b_set : PySem.W.nsIn K mainGlobals "set" = some none)
    (b_tuple : PySem.W.nsIn K mainGlobals "tuple" = some none)
    (b_zip : PySem.W.nsIn K mainGlobals "zip" = some none)
    : ∃ fd : FuncData, (∀ (s : Shared) (v : Value), BindsTo s fd ⟨[v], []⟩ [("_law_script", v)]) ∧ ∀ base : Heap, K.In base → base.Ns mainGlobals mg → FnOk l.prog w K mg base CX0 12 fa fd ["_law_script"] (spG K R_law) := by
  have e := hfa.symm.trans (PySem.W.mg_of X G a_law)
  cases e
  have T : Tx K mg := { b_bool := PySem.W.mg_none_of X G b_bool, b_int := PySem.W.mg_none_of X G b_int, b_isinstance := PySem.W.mg_none_of X G b_isinstance, b_len := PySem.W.mg_none_of X G b_len, b_list := PySem.W.mg_none_of X G b_list, b_max := PySem.W.mg_none_of X G b_max, b_range := PySem.W.mg_none_of X G b_range, b_set := PySem.W.mg_none_of X G b_set, b_tuple := PySem.W.mg_none_of X G b_tuple, b_zip := PySem.W.mg_none_of X G b_zip }
  have F_names := fun_mk (st := s_names) l_names cc_names k_names
  have B_names := F_names.binds (ps := ["_law_cell"]) fun _ _ _ _ _ _ us hl => match us, hl with | [_], _ => rfl
  have F_cell_at := fun_mk (st := s_cell_at) l_cell_at cc_cell_at k_cell_at
  have B_cell_at := F_cell_at.binds (ps := ["_law_script", "_law_k"]) fun _ _ _ _ _ _ us hl => match us, hl with | [_, _], _ => rfl
  have F_all := fun_mk (st := s_all) l_all cc_all k_all
  have B_all := F_all.binds (ps := ["_law_saying"]) fun _ _ _ _ _ _ us hl => match us, hl with | [_], _ => rfl
  have F_bonds := fun_mk (st := s_bonds) l_bonds cc_bonds k_bonds
  have B_bonds := F_bonds.binds (ps := ["_law_saying"]) fun _ _ _ _ _ _ us hl => match us, hl with | [_], _ => rfl
  have F_fit := fun_mk (st := s_fit) l_fit cc_fit k_fit
  have B_fit := F_fit.binds (ps := ["_law_saying", "_law_most"]) fun _ _ _ _ _ _ us hl => match us, hl with | [_, _], _ => rfl
  have F_draw := fun_mk (st := s_draw) l_draw cc_draw k_draw
  have B_draw := F_draw.binds (ps := ["_law_script", "_law_spot"]) fun _ _ _ _ _ _ us hl => match us, hl with | [_, _], _ => rfl
  have F_made := fun_mk (st := s_made) l_made cc_made k_made
  have B_made := F_made.binds (ps := ["_law_script", "_law_spot", "_law_names_here", "_law_deep"]) fun _ _ _ _ _ _ us hl => match us, hl with | [_, _, _, _], _ => rfl
  have F_own_bonds := fun_mk (st := s_own_bonds) l_own_bonds cc_own_bonds k_own_bonds
  have B_own_bonds := F_own_bonds.binds (ps := ["saying"]) fun _ _ _ _ _ _ us hl => match us, hl with | [_], _ => rfl
  have F_add_bonds := fun_mk (st := s_add_bonds) l_add_bonds cc_add_bonds k_add_bonds
  have B_add_bonds := F_add_bonds.binds (ps := ["saying", "row"]) fun _ _ _ _ _ _ us hl => match us, hl with | [_, _], _ => rfl
  have F_bonds_in := fun_mk (st := s_bonds_in) l_bonds_in cc_bonds_in k_bonds_in
  have B_bonds_in := F_bonds_in.binds (ps := ["saying"]) fun _ _ _ _ _ _ us hl => match us, hl with | [_], _ => rfl
  have F_marks := fun_mk (st := s_marks) l_marks cc_marks k_marks
  have B_marks := F_marks.binds (ps := ["_law_script", "_law_spot", "_law_names_here", "_law_least"]) fun _ _ _ _ _ _ us hl => match us, hl with | [_, _, _, _], _ => rfl
  have F_after := fun_mk (st := s_after) l_after cc_after k_after
  have B_after := F_after.binds (ps := ["_law_way", "_law_ring", "_law_at"]) fun _ _ _ _ _ _ us hl => match us, hl with | [_, _, _], _ => rfl
  have F_till := fun_mk (st := s_till) l_till cc_till k_till
  have B_till := F_till.binds (ps := ["_law_ones", "_law_others", "_law_moments"]) fun _ _ _ _ _ _ us hl => match us, hl with | [_, _, _], _ => rfl
  have F_means := fun_mk (st := s_means) l_means cc_means k_means
  have B_means := F_means.binds (ps := ["_law_saying", "_law_way", "_law_ring"]) fun _ _ _ _ _ _ us hl => match us, hl with | [_, _, _], _ => rfl
  have F_is_so := fun_mk (st := s_is_so) l_is_so cc_is_so k_is_so
  have B_is_so := F_is_so.binds (ps := ["saying", "mark", "bonds", "guess"]) fun _ _ _ _ _ _ us hl => match us, hl with | [_, _, _, _], _ => rfl
  have F_rows_right := fun_mk (st := s_rows_right) l_rows_right cc_rows_right k_rows_right
  have B_rows_right := F_rows_right.binds (ps := ["_law_saying", "_law_bonds_here", "_law_way", "_law_ring", "_law_guesses"]) fun _ _ _ _ _ _ us hl => match us, hl with | [_, _, _, _, _], _ => rfl
  have F_guesses_right := fun_mk (st := s_guesses_right) l_guesses_right cc_guesses_right k_guesses_right
  have B_guesses_right := F_guesses_right.binds (ps := ["_law_found", "_law_many"]) fun _ _ _ _ _ _ us hl => match us, hl with | [_, _], _ => rfl
  have F_all_guesses := fun_mk (st := s_all_guesses) l_all_guesses cc_all_guesses k_all_guesses
  have B_all_guesses := F_all_guesses.binds (ps := ["bonds"]) fun _ _ _ _ _ _ us hl => match us, hl with | [_], _ => rfl
  have F_due_truth := fun_mk (st := s_due_truth) l_due_truth cc_due_truth k_due_truth
  have B_due_truth := F_due_truth.binds (ps := ["kind", "now", "then"]) fun _ _ _ _ _ _ us hl => match us, hl with | [_, _, _], _ => rfl
  have F_sight_goes_on := fun_mk (st := s_sight_goes_on) l_sight_goes_on cc_sight_goes_on k_sight_goes_on
  have B_sight_goes_on := F_sight_goes_on.binds (ps := ["bonds", "here", "there"]) fun _ _ _ _ _ _ us hl => match us, hl with | [_, _, _], _ => rfl
  have F_sight_at := fun_mk (st := s_sight_at) l_sight_at cc_sight_at k_sight_at
  have B_sight_at := F_sight_at.binds (ps := ["bonds", "mark", "guess"]) fun _ _ _ _ _ _ us hl => match us, hl with | [_, _, _], _ => rfl
  have F_goes_on := fun_mk (st := s_goes_on) l_goes_on cc_goes_on k_goes_on
  have B_goes_on := F_goes_on.binds (ps := ["bonds", "now", "then"]) fun _ _ _ _ _ _ us hl => match us, hl with | [_, _, _], _ => rfl
  have F_steps_right := fun_mk (st := s_steps_right) l_steps_right cc_steps_right k_steps_right
  have B_steps_right := F_steps_right.binds (ps := ["_law_bonds_here", "_law_way", "_law_ring", "_law_guesses", "_law_k", "_law_moment"]) fun _ _ _ _ _ _ us hl => match us, hl with | [_, _, _, _, _, _], _ => rfl
  have F_promises_of := fun_mk (st := s_promises_of) l_promises_of cc_promises_of k_promises_of
  have B_promises_of := F_promises_of.binds (ps := ["saying"]) fun _ _ _ _ _ _ us hl => match us, hl with | [_], _ => rfl
  have F_is_met := fun_mk (st := s_is_met) l_is_met cc_is_met k_is_met
  have B_is_met := F_is_met.binds (ps := ["promise", "mark", "bonds", "guess"]) fun _ _ _ _ _ _ us hl => match us, hl with | [_, _, _, _], _ => rfl
  have F_so := fun_mk (st := s_so) l_so cc_so k_so
  have B_so := F_so.binds (ps := ["_law_saying", "_law_mark", "_law_bonds_here", "_law_guess"]) fun _ _ _ _ _ _ us hl => match us, hl with | [_, _, _, _], _ => rfl
  have F_meets := fun_mk (st := s_meets) l_meets cc_meets k_meets
  have B_meets := F_meets.binds (ps := ["_law_promise", "_law_mark", "_law_bonds_here", "_law_guess"]) fun _ _ _ _ _ _ us hl => match us, hl with | [_, _, _, _], _ => rfl
  have F_promises_right := fun_mk (st := s_promises_right) l_promises_right cc_promises_right k_promises_right
  have B_promises_right := F_promises_right.binds (ps := ["_law_saying", "_law_bonds_here", "_law_way", "_law_ring", "_law_guesses", "_law_k"]) fun _ _ _ _ _ _ us hl => match us, hl with | [_, _, _, _, _, _], _ => rfl
  have F_law := fun_mk (st := s_law) l_law cc_law k_law
  have B_law := F_law.binds (ps := ["_law_script"]) fun _ _ _ _ _ _ us hl => match us, hl with | [_], _ => rfl
  refine ⟨PySem.W.fnOf "law" "law" (defArgs s_law) (defBody s_law) (defScope s_law) .none kV_law dc_law pm_law an_law cd_law ct_law, fun s v => .of_eq rfl, fun base _ _ => ?_⟩
  have M_names : Cal l.prog w K mg base "_law_names" 1 ["_law_cell"] (spG K R_names) f_names _ := ⟨PySem.W.mg_of X G a_names, k_names, B_names, ok_names F_names T ⟩
  have M_cell_at : Cal l.prog w K mg base "_law_cell_at" 1 ["_law_script", "_law_k"] (spG K R_cell_at) f_cell_at _ := ⟨PySem.W.mg_of X G a_cell_at, k_cell_at, B_cell_at, ok_cell_at F_cell_at T ⟩
  have M_all : Cal l.prog w K mg base "_law_all" 8 ["_law_saying"] (spG K R_all) f_all _ := ⟨PySem.W.mg_of X G a_all, k_all, B_all, ok_all F_all T (PySem.W.mg_of X G a_all) k_all B_all ⟩
  have M_bonds : Cal l.prog w K mg base "_law_bonds" 9 ["_law_saying"] (spG K R_bonds) f_bonds _ := ⟨PySem.W.mg_of X G a_bonds, k_bonds, B_bonds, ok_bonds F_bonds T M_all⟩
  have M_fit : Cal l.prog w K mg base "_law_fit" 10 ["_law_saying", "_law_most"] (spG K R_fit) f_fit _ := ⟨PySem.W.mg_of X G a_fit, k_fit, B_fit, ok_fit F_fit T M_bonds⟩
  have M_draw : Cal l.prog w K mg base "_law_draw" 1 ["_law_script", "_law_spot"] (spG K R_draw) f_draw _ := ⟨PySem.W.mg_of X G a_draw, k_draw, B_draw, ok_draw F_draw T ⟩
  have M_made : Cal l.prog w K mg base "_law_made" 8 ["_law_script", "_law_spot", "_law_names_here", "_law_deep"] (spG K R_made) f_made _ := ⟨PySem.W.mg_of X G a_made, k_made, B_made, ok_made F_made T (PySem.W.mg_of X G a_made) k_made B_made M_draw⟩
  have M_own_bonds : Cal l.prog w K mg base "own_bonds" 1 ["saying"] (spG K R_own_bonds) f_own_bonds _ := ⟨PySem.W.mg_of X G a_own_bonds, k_own_bonds, B_own_bonds, ok_own_bonds F_own_bonds T ⟩
  have M_add_bonds : Cal l.prog w K mg base "_add_bonds" 8 ["saying", "row"] (spG K R_add_bonds) f_add_bonds _ := ⟨PySem.W.mg_of X G a_add_bonds, k_add_bonds, B_add_bonds, ok_add_bonds F_add_bonds T (PySem.W.mg_of X G a_add_bonds) k_add_bonds B_add_bonds M_own_bonds⟩
  have M_bonds_in : Cal l.prog w K mg base "bonds_in" 9 ["saying"] (spF K R_bonds_in) f_bonds_in _ := ⟨PySem.W.mg_of X G a_bonds_in, k_bonds_in, B_bonds_in, ok_bonds_in F_bonds_in T M_add_bonds⟩
  have M_marks : Cal l.prog w K mg base "_law_marks" 2 ["_law_script", "_law_spot", "_law_names_here", "_law_least"] (spG K R_marks) f_marks _ := ⟨PySem.W.mg_of X G a_marks, k_marks, B_marks, ok_marks F_marks T M_draw⟩
  have M_after : Cal l.prog w K mg base "_law_after" 1 ["_law_way", "_law_ring", "_law_at"] (spG K R_after) f_after _ := ⟨PySem.W.mg_of X G a_after, k_after, B_after, ok_after F_after T ⟩
  have M_till : Cal l.prog w K mg base "_law_till" 1 ["_law_ones", "_law_others", "_law_moments"] (spG K R_till) f_till _ := ⟨PySem.W.mg_of X G a_till, k_till, B_till, ok_till F_till T ⟩
  have M_means : Cal l.prog w K mg base "_law_means" 8 ["_law_saying", "_law_way", "_law_ring"] (spF K R_means) f_means _ := ⟨PySem.W.mg_of X G a_means, k_means, B_means, ok_means F_means T (PySem.W.mg_of X G a_means) k_means B_means M_after M_till⟩
  have M_is_so : Cal l.prog w K mg base "is_so" 8 ["saying", "mark", "bonds", "guess"] (spG K R_is_so) f_is_so _ := ⟨PySem.W.mg_of X G a_is_so, k_is_so, B_is_so, ok_is_so F_is_so T (PySem.W.mg_of X G a_is_so) k_is_so B_is_so M_own_bonds⟩
  have M_rows_right : Cal l.prog w K mg base "_law_rows_right" 9 ["_law_saying", "_law_bonds_here", "_law_way", "_law_ring", "_law_guesses"] (spG K R_rows_right) f_rows_right _ := ⟨PySem.W.mg_of X G a_rows_right, k_rows_right, B_rows_right, ok_rows_right F_rows_right T M_all M_means M_is_so⟩
  have M_guesses_right : Cal l.prog w K mg base "_law_guesses_right" 1 ["_law_found", "_law_many"] (spG K R_guesses_right) f_guesses_right _ := ⟨PySem.W.mg_of X G a_guesses_right, k_guesses_right, B_guesses_right, ok_guesses_right F_guesses_right T ⟩
  have M_all_guesses : Cal l.prog w K mg base "all_guesses" 1 ["bonds"] (spG K R_all_guesses) f_all_guesses _ := ⟨PySem.W.mg_of X G a_all_guesses, k_all_guesses, B_all_guesses, ok_all_guesses F_all_guesses T ⟩
  have M_due_truth : Cal l.prog w K mg base "_due_truth" 1 ["kind", "now", "then"] (spG K R_due_truth) f_due_truth _ := ⟨PySem.W.mg_of X G a_due_truth, k_due_truth, B_due_truth, ok_due_truth F_due_truth T ⟩
  have M_sight_goes_on : Cal l.prog w K mg base "sight_goes_on" 2 ["bonds", "here", "there"] (spG K R_sight_goes_on) f_sight_goes_on _ := ⟨PySem.W.mg_of X G a_sight_goes_on, k_sight_goes_on, B_sight_goes_on, ok_sight_goes_on F_sight_goes_on T M_due_truth⟩
  have M_sight_at : Cal l.prog w K mg base "sight_at" 9 ["bonds", "mark", "guess"] (spF K R_sight_at) f_sight_at _ := ⟨PySem.W.mg_of X G a_sight_at, k_sight_at, B_sight_at, ok_sight_at F_sight_at T M_is_so⟩
  have M_goes_on : Cal l.prog w K mg base "goes_on" 10 ["bonds", "now", "then"] (spG K R_goes_on) f_goes_on _ := ⟨PySem.W.mg_of X G a_goes_on, k_goes_on, B_goes_on, ok_goes_on F_goes_on T M_sight_goes_on M_sight_at⟩
  have M_steps_right : Cal l.prog w K mg base "_law_steps_right" 11 ["_law_bonds_here", "_law_way", "_law_ring", "_law_guesses", "_law_k", "_law_moment"] (spG K R_steps_right) f_steps_right _ := ⟨PySem.W.mg_of X G a_steps_right, k_steps_right, B_steps_right, ok_steps_right F_steps_right T M_after M_goes_on⟩
  have M_promises_of : Cal l.prog w K mg base "promises_of" 10 ["saying"] (spF K R_promises_of) f_promises_of _ := ⟨PySem.W.mg_of X G a_promises_of, k_promises_of, B_promises_of, ok_promises_of F_promises_of T M_bonds_in⟩
  have M_is_met : Cal l.prog w K mg base "is_met" 9 ["promise", "mark", "bonds", "guess"] (spG K R_is_met) f_is_met _ := ⟨PySem.W.mg_of X G a_is_met, k_is_met, B_is_met, ok_is_met F_is_met T M_is_so⟩
  have M_so : Cal l.prog w K mg base "_law_so" 8 ["_law_saying", "_law_mark", "_law_bonds_here", "_law_guess"] (spG K R_so) f_so _ := ⟨PySem.W.mg_of X G a_so, k_so, B_so, ok_so F_so T (PySem.W.mg_of X G a_so) k_so B_so ⟩
  have M_meets : Cal l.prog w K mg base "_law_meets" 9 ["_law_promise", "_law_mark", "_law_bonds_here", "_law_guess"] (spG K R_meets) f_meets _ := ⟨PySem.W.mg_of X G a_meets, k_meets, B_meets, ok_meets F_meets T M_so⟩
  have M_promises_right : Cal l.prog w K mg base "_law_promises_right" 11 ["_law_saying", "_law_bonds_here", "_law_way", "_law_ring", "_law_guesses", "_law_k"] (spG K R_promises_right) f_promises_right _ := ⟨PySem.W.mg_of X G a_promises_right, k_promises_right, B_promises_right, ok_promises_right F_promises_right T M_promises_of M_is_met M_meets⟩
  exact ok_law F_law T M_names M_cell_at M_fit M_made M_bonds_in M_marks M_means M_rows_right M_guesses_right M_all_guesses M_draw M_steps_right M_promises_right
theorem walk {l : PySem.W.OpenLaw} {q : Program} {loose : List Str} {XP : (Str → Option Value) → Heap → Prop} {YP : World → Heap → Prop} {d : DefRec} {K : Params → PySem.W.Frag} (hn : l.most = some 63) (hdf : d.params.defaults = [])
    (hY : ∀ (w : World) (h : Heap), YP w h → (K w.params).In h)
    (F : ∀ (w : World) (mg : Str → Option Value) (fa : Addr) (h : Heap), (K w.params).In h → h.Ns mainGlobals mg → mg d.name = some (.ref fa) →
      ∃ fd : FuncData, (∀ (s : Shared) (u : Value), BindsTo s fd ⟨[u], []⟩ [("_law_script", u)]) ∧ ∀ base : Heap, (K w.params).In base → base.Ns mainGlobals mg → FnOk l.prog w (K w.params) mg base CX0 12 fa fd ["_law_script"] (spG (K w.params) R_law)) :
    PySem.W.WalkO q loose XP YP l.row.toRowW d [] (fun f vs => PySem.call f vs) :=
  L2.walk_of (n := 63) (k := 12) (x := "_law_script") (CX := fun _ => CX0) (sp := fun w => spG (K w.params) R_law) hn (by decide) hdf ⟨rfl, by decide, by decide⟩ hY F
    (fun _ H a ns hl _ hS => ⟨H, [], [.dat (.scr ns)], .bl true, [.no], ⟨ns, rfl, rfl, rfl⟩, start_all (Same.refl H) (.cons (.scr hS) .nil), fun v G' H' _ r => by cases r; rfl⟩) fun _ _ _ _ _ z => z
end My
open PySem PySem.W PyProof.Rows
set_option maxRecDepth 100000 in
set_option maxHeartbeats 0 in
theorem PySem.Challenge.cw_everafter_k05_right_guesses_holds : PySem.Challenge.rw_everafter_k05_right_guesses.Holds := by
  w_on; o_law; k_head; (case hw => w_witness2)
  k_fill
  refine My.walk (l := PySem.Challenge.rw_everafter_k05_right_guesses) rfl rfl (fun w h Y => PySem.W.kIn_of Y) ?F
  case F =>
    intro w mg fa h KX G hmg
    refine' My.all_mk KX G hmg ?a_names ?l_names ?cc_names ?k_names ?a_cell_at ?l_cell_at ?cc_cell_at ?k_cell_at ?a_all ?l_all ?cc_all ?k_all ?a_bonds ?l_bonds ?cc_bonds ?k_bonds ?a_fit ?l_fit ?cc_fit ?k_fit ?a_draw ?l_draw ?cc_draw ?k_draw ?a_made ?l_made ?cc_made ?k_made ?a_own_bonds ?l_own_bonds ?cc_own_bonds ?k_own_bonds ?a_add_bonds ?l_add_bonds ?cc_add_bonds ?k_add_bonds ?a_bonds_in ?l_bonds_in ?cc_bonds_in ?k_bonds_in ?a_marks ?l_marks ?cc_marks ?k_marks ?a_after ?l_after ?cc_after ?k_after ?a_till ?l_till ?cc_till ?k_till ?a_means ?l_means ?cc_means ?k_means ?a_is_so ?l_is_so ?cc_is_so ?k_is_so ?a_rows_right ?l_rows_right ?cc_rows_right ?k_rows_right ?a_guesses_right ?l_guesses_right ?cc_guesses_right ?k_guesses_right ?a_all_guesses ?l_all_guesses ?cc_all_guesses ?k_all_guesses ?a_due_truth ?l_due_truth ?cc_due_truth ?k_due_truth ?a_sight_goes_on ?l_sight_goes_on ?cc_sight_goes_on ?k_sight_goes_on ?a_sight_at ?l_sight_at ?cc_sight_at ?k_sight_at ?a_goes_on ?l_goes_on ?cc_goes_on ?k_goes_on ?a_steps_right ?l_steps_right ?cc_steps_right ?k_steps_right ?a_promises_of ?l_promises_of ?cc_promises_of ?k_promises_of ?a_is_met ?l_is_met ?cc_is_met ?k_is_met ?a_so ?l_so ?cc_so ?k_so ?a_meets ?l_meets ?cc_meets ?k_meets ?a_promises_right ?l_promises_right ?cc_promises_right ?k_promises_right ?a_law ?l_law ?cc_law ?k_law ?b_bool ?b_int ?b_isinstance ?b_len ?b_list ?b_max ?b_range ?b_set ?b_tuple ?b_zip
    (case a_names => k_is)
    (case l_names => k_is)
    (case cc_names => k_is)
    (case k_names => k_is)
    (case a_cell_at => k_is)
    (case l_cell_at => k_is)
    (case cc_cell_at => k_is)
    (case k_cell_at => k_is)
    (case a_all => k_is)
    (case l_all => k_is)
    (case cc_all => k_is)
    (case k_all => k_is)
    (case a_bonds => k_is)
    (case l_bonds => k_is)
    (case cc_bonds => k_is)
    (case k_bonds => k_is)
    (case a_fit => k_is)
    (case l_fit => k_is)
    (case cc_fit => k_is)
    (case k_fit => k_is)
    (case a_draw => k_is)
    (case l_draw => k_is)
    (case cc_draw => k_is)
    (case k_draw => k_is)
    (case a_made => k_is)
    (case l_made => k_is)
    (case cc_made => k_is)
    (case k_made => k_is)
    (case a_own_bonds => k_is)
    (case l_own_bonds => k_is)
    (case cc_own_bonds => k_is)
    (case k_own_bonds => k_is)
    (case a_add_bonds => k_is)
    (case l_add_bonds => k_is)
    (case cc_add_bonds => k_is)
    (case k_add_bonds => k_is)
    (case a_bonds_in => k_is)
    (case l_bonds_in => k_is)
    (case cc_bonds_in => k_is)
    (case k_bonds_in => k_is)
    (case a_marks => k_is)
    (case l_marks => k_is)
    (case cc_marks => k_is)
    (case k_marks => k_is)
    (case a_after => k_is)
    (case l_after => k_is)
    (case cc_after => k_is)
    (case k_after => k_is)
    (case a_till => k_is)
    (case l_till => k_is)
    (case cc_till => k_is)
    (case k_till => k_is)
    (case a_means => k_is)
    (case l_means => k_is)
    (case cc_means => k_is)
    (case k_means => k_is)
    (case a_is_so => k_is)
    (case l_is_so => k_is)
    (case cc_is_so => k_is)
    (case k_is_so => k_is)
    (case a_rows_right => k_is)
    (case l_rows_right => k_is)
    (case cc_rows_right => k_is)
    (case k_rows_right => k_is)
    (case a_guesses_right => k_is)
    (case l_guesses_right => k_is)
    (case cc_guesses_right => k_is)
    (case k_guesses_right => k_is)
    (case a_all_guesses => k_is)
    (case l_all_guesses => k_is)
    (case cc_all_guesses => k_is)
    (case k_all_guesses => k_is)
    (case a_due_truth => k_is)
    (case l_due_truth => k_is)
    (case cc_due_truth => k_is)
    (case k_due_truth => k_is)
    (case a_sight_goes_on => k_is)
    (case l_sight_goes_on => k_is)
    (case cc_sight_goes_on => k_is)
    (case k_sight_goes_on => k_is)
    (case a_sight_at => k_is)
    (case l_sight_at => k_is)
    (case cc_sight_at => k_is)
    (case k_sight_at => k_is)
    (case a_goes_on => k_is)
    (case l_goes_on => k_is)
    (case cc_goes_on => k_is)
    (case k_goes_on => k_is)
    (case a_steps_right => k_is)
    (case l_steps_right => k_is)
    (case cc_steps_right => k_is)
    (case k_steps_right => k_is)
    (case a_promises_of => k_is)
    (case l_promises_of => k_is)
    (case cc_promises_of => k_is)
    (case k_promises_of => k_is)
    (case a_is_met => k_is)
    (case l_is_met => k_is)
    (case cc_is_met => k_is)
    (case k_is_met => k_is)
    (case a_so => k_is)
    (case l_so => k_is)
    (case cc_so => k_is)
    (case k_so => k_is)
    (case a_meets => k_is)
    (case l_meets => k_is)
    (case cc_meets => k_is)
    (case k_meets => k_is)
    (case a_promises_right => k_is)
    (case l_promises_right => k_is)
    (case cc_promises_right => k_is)
    (case k_promises_right => k_is)
    (case a_law => k_is)
    (case l_law => k_is)
    (case cc_law => k_is)
    (case k_law => k_is)
    (case b_bool => k_is)
    (case b_int => k_is)
    (case b_isinstance => k_is)
    (case b_len => k_is)
    (case b_list => k_is)
    (case b_max => k_is)
    (case b_range => k_is)
    (case b_set => k_is)
    (case b_tuple => k_is)
    (case b_zip => k_is)

