import PyProof.Rows.All
import Wide.All
import OpenK.AllK
import Wide.FinOn
import HandS.ForMost
import HandS.More
import HandS.IsInst
import HandS.Zip
import HandS.Deep
import HandS.SetFor
import HandS.TupAny
import HandS.ForExc
import HandS.ExcIs
import KE.KExcIs
import KE.KIsAll
import HandS.Star
import PyProof.SeqIndex
import PySem.Challenge.RW_everafter_k03_endless_walks
set_option Elab.async false
set_option linter.all false
set_option maxRecDepth 100000
set_option maxHeartbeats 4000000
namespace Bg
open PySem L2

/-! ### data, and the values that stand for it -/
inductive Dat where
  | non | bl (b : Bool) | int (i : Int) | str (x : Str) | ty (n : String) | cls (a : Addr)
  | lst (ds : List Dat) | tup (ds : List Dat) | ins (C : Addr) (ns : List Str) (ds : List Dat) | emp | scr (ns : List Int)
mutual
inductive Rp (K : PySem.W.Frag) (G : Hp) : V → Dat → Prop
  | non : Rp K G .non .non
  | bl (b : Bool) : Rp K G (.bl b) (.bl b)
  | int (i : Int) : Rp K G (.int i) (.int i)
  | str (x : Str) : Rp K G (.str x) (.str x)
  | ty (n : String) : Rp K G (.ty n) (.ty n)
  | cls (a : Addr) : Rp K G (.ref a) (.cls a)
  | lst {a : Addr} {xs : List V} {ds : List Dat} : G a = some (.lst xs) → RpAll K G xs ds → Rp K G (.ref a) (.lst ds)
  | tup {a : Addr} {xs : List V} {ds : List Dat} : G a = some (.tup xs) → RpAll K G xs ds → Rp K G (.ref a) (.tup ds)
  | ins {a C dx : Addr} {fs : List (Str × V)} {ns : List Str} {ds : List Dat} : G a = some (.ins C dx fs) → fs.map (·.1) = ns → RpAll K G (fs.map (·.2)) ds → Rp K G (.ref a) (.ins C ns ds)
  | emp {a : Addr} : G a = some (.dK []) → Rp K G (.ref a) .emp
  | scr {a : Addr} {ns : List Int} : SqL K G a (ns.map V.int) → Rp K G (.ref a) (.scr ns)
inductive RpAll (K : PySem.W.Frag) (G : Hp) : List V → List Dat → Prop
  | nil : RpAll K G [] []
  | cons {v : V} {vs : List V} {d : Dat} {ds : List Dat} : Rp K G v d → RpAll K G vs ds → RpAll K G (v :: vs) (d :: ds)
end
section
variable {K : PySem.W.Frag} {G G' : Hp}
mutual
theorem Rp.mono (s : Same G G') : ∀ (d : Dat) (v : V), Rp K G v d → Rp K G' v d
  | .non, _, h => by cases h; exact .non
  | .bl b, _, h => by cases h; exact .bl b
  | .int b, _, h => by cases h; exact .int b
  | .str b, _, h => by cases h; exact .str b
  | .ty b, _, h => by cases h; exact .ty b
  | .cls b, _, h => by cases h; exact .cls b
  | .lst ds, _, h => by cases h with | lst e a => exact .lst (s _ _ e) (RpAll.mono s ds _ a)
  | .tup ds, _, h => by cases h with | tup e a => exact .tup (s _ _ e) (RpAll.mono s ds _ a)
  | .ins C ns ds, _, h => by cases h with | ins e n a => exact .ins (s _ _ e) n (RpAll.mono s ds _ a)
  | .emp, _, h => by cases h with | emp e => exact .emp (s _ _ e)
  | .scr ns, _, h => by cases h with | scr e => exact .scr (s.seq e)
theorem RpAll.mono (s : Same G G') : ∀ (ds : List Dat) (vs : List V), RpAll K G vs ds → RpAll K G' vs ds
  | [], _, h => by cases h; exact .nil
  | d :: ds, _, h => by cases h with | cons a b => exact .cons (Rp.mono s d _ a) (RpAll.mono s ds _ b)
end
theorem Rp.to (s : Same G G') {d : Dat} {v : V} (h : Rp K G v d) : Rp K G' v d := Rp.mono s d v h
theorem RpAll.to (s : Same G G') {d : List Dat} {v : List V} (h : RpAll K G v d) : RpAll K G' v d := RpAll.mono s d v h
theorem RpAll.length : ∀ {vs : List V} {ds : List Dat}, RpAll K G vs ds → vs.length = ds.length
  | [], _, h => by cases h; rfl
  | _ :: _, _, h => by cases h with | cons a b => simp [RpAll.length b]
theorem RpAll.get : ∀ {vs : List V} {ds : List Dat} {i : Nat} {d : Dat}, RpAll K G vs ds → ds[i]? = some d → ∃ v, vs[i]? = some v ∧ Rp K G v d
  | [], _, _, _, h, e => by cases h; simp at e
  | v :: vs, _, 0, _, h, e => by
    cases h with | cons a b => simp at e; subst e; exact ⟨v, rfl, a⟩
  | v :: vs, _, i + 1, d, h, e => by
    cases h with | cons a b =>
      obtain ⟨u, h1, h2⟩ := RpAll.get (i := i) (d := d) b (by simpa using e)
      exact ⟨u, by simpa using h1, h2⟩
theorem RpAll.getV : ∀ {vs : List V} {ds : List Dat} {i : Nat} {v : V}, RpAll K G vs ds → vs[i]? = some v → ∃ d, ds[i]? = some d ∧ Rp K G v d
  | [], _, _, _, h, e => by simp at e
  | w :: vs, _, 0, v, h, e => by
    cases h with | cons a b => simp at e; subst e; exact ⟨_, rfl, a⟩
  | w :: vs, _, i + 1, v, h, e => by
    cases h with | cons a b =>
      obtain ⟨u, h1, h2⟩ := RpAll.getV (i := i) (v := v) b (by simpa using e)
      exact ⟨u, by simpa using h1, h2⟩
theorem RpAll.app : ∀ {vs ws : List V} {ds es : List Dat}, RpAll K G vs ds → RpAll K G ws es → RpAll K G (vs ++ ws) (ds ++ es)
  | [], _, _, _, h, k => by cases h; exact k
  | _ :: _, _, _, _, h, k => by cases h with | cons a b => exact .cons a (RpAll.app b k)
theorem RpAll.takeR : ∀ {vs : List V} {ds : List Dat} (n : Nat), RpAll K G vs ds → RpAll K G (vs.take n) (ds.take n)
  | _, _, 0, _ => .nil
  | [], _, n + 1, h => by cases h; exact .nil
  | _ :: _, _, n + 1, h => by cases h with | cons a b => exact .cons a (RpAll.takeR n b)
theorem RpAll.dropR : ∀ {vs : List V} {ds : List Dat} (n : Nat), RpAll K G vs ds → RpAll K G (vs.drop n) (ds.drop n)
  | _, _, 0, h => h
  | [], _, n + 1, h => by cases h; exact .nil
  | _ :: _, _, n + 1, h => by cases h with | cons a b => exact RpAll.dropR n b
theorem RpAll.ints : ∀ (ns : List Int), RpAll K G (ns.map V.int) (ns.map Dat.int)
  | [] => .nil
  | n :: ns => .cons (.int n) (RpAll.ints ns)
theorem RpAll.intsEq : ∀ {ns : List Int} {vs : List V}, RpAll K G vs (ns.map Dat.int) → vs = ns.map V.int
  | [], _, h => by cases h; rfl
  | n :: ns, _, h => by
    cases h with | cons a b => cases a; rw [RpAll.intsEq (ns := ns) b]; rfl
theorem RpAll.strsEq : ∀ {ns : List Str} {vs : List V}, RpAll K G vs (ns.map Dat.str) → vs = ns.map V.str
  | [], _, h => by cases h; rfl
  | n :: ns, _, h => by
    cases h with | cons a b => cases a; rw [RpAll.strsEq (ns := ns) b]; rfl
theorem RpAll.blsEq : ∀ {ns : List Bool} {vs : List V}, RpAll K G vs (ns.map Dat.bl) → vs = ns.map V.bl
  | [], _, h => by cases h; rfl
  | n :: ns, _, h => by
    cases h with | cons a b => cases a; rw [RpAll.blsEq (ns := ns) b]; rfl
theorem RpAll.of_get : ∀ {vs : List V} {ds : List Dat}, vs.length = ds.length → (∀ (i : Nat) (v : V) (d : Dat), vs[i]? = some v → ds[i]? = some d → Rp K G v d) → RpAll K G vs ds
  | [], [], _, _ => .nil
  | [], _ :: _, h, _ => by cases h
  | _ :: _, [], h, _ => by cases h
  | v :: vs, d :: ds, h, k => .cons (k 0 v d rfl rfl) (RpAll.of_get (Nat.succ.inj h) fun i v d a b => k (i + 1) v d (by simpa using a) (by simpa using b))
end
theorem same_new {H : Hp} {p : Addr} {o : HO} (h : H p = none) : Same H (upd H p o) := fun b u e => by
  rw [upd_ne (ne_of_none e h)]
  exact e

/-! ### the slots -/
inductive Sl where
  /-- nothing is known -/
  | no
  /-- a value that stands for data -/
  | dat (d : Dat)
  /-- a list of this call's own that nothing else holds -/
  | own (ds : List Dat)
  /-- the j-th list that was handed in to be changed -/
  | par (j : Nat) (ds : List Dat)
structure Zs where
  G0 : Hp
  H0 : Hp
  O0 : List Addr
  /-- further objects that stand aside and stay -/
  Kp : Hp
def SlOk (K : PySem.W.Frag) (Z : Zs) (G H : Hp) (v : V) : Sl → Prop
  | .no => True
  | .dat d => Rp K G v d
  | .own ds => ∃ p xs, v = .ref p ∧ Z.H0 p = none ∧ G p = none ∧ H p = some (.lst xs) ∧ RpAll K G xs ds
  | .par j ds => ∃ p xs, v = .ref p ∧ Z.O0[j]? = some p ∧ G p = none ∧ H p = some (.lst xs) ∧ RpAll K G xs ds
def Sl.isOwn : Sl → Bool
  | .own _ => true
  | .par _ _ => true
  | _ => false
def Sl.isNo : Sl → Bool
  | .no => true
  | _ => false
/-- slot i holds a list of its own at p -/
def Hd (σ : L2.St) (ρ : List Sl) (i : Nat) (p : Addr) : Prop := σ[i]? = some (some (.ref p)) ∧ ∃ s, ρ[i]? = some s ∧ s.isOwn = true
structure Ct (K : PySem.W.Frag) (Z : Zs) (G H : Hp) (σ : L2.St) (ρ : List Sl) : Prop where
  len : σ.length = ρ.length
  gg : Same Z.G0 G
  gh : Same G H
  hh : ∀ (b : Addr) (o : HO), Z.H0 b = some o → b ∉ Z.O0 → H b = some o
  ge : ∀ b : Addr, Z.H0 b ≠ none → H b ≠ none
  fr : ∀ b : Addr, Z.H0 b ≠ none → Z.G0 b = none → G b = none
  sl : ∀ (i : Nat) (s : Sl), ρ[i]? = some s → s.isNo = false → ∃ v, σ[i]? = some (some v) ∧ SlOk K Z G H v s
  ds : ∀ (i j : Nat) (p : Addr), Hd σ ρ i p → Hd σ ρ j p → i = j
  kp : ∀ (b : Addr) (o : HO), Z.Kp b = some o → H b = some o
  kg : ∀ b : Addr, Z.Kp b ≠ none → G b = none
  kn : ∀ (i : Nat) (p : Addr), Hd σ ρ i p → Z.Kp p = none
section
variable {K : PySem.W.Frag} {Z : Zs} {G G' H H' : Hp} {σ : L2.St} {ρ : List Sl}
theorem Ct.dat (c : Ct K Z G H σ ρ) {i : Nat} {d : Dat} (h : ρ[i]? = some (.dat d)) : ∃ v, σ[i]? = some (some v) ∧ Rp K G v d := c.sl i _ h rfl
theorem Ct.freshG (c : Ct K Z G H σ ρ) {p : Addr} (h : H p = none) : G p = none := by
  cases e : G p with
  | none => rfl
  | some o => rw [c.gh _ _ e] at h; cases h
theorem Ct.fresh0 (c : Ct K Z G H σ ρ) {p : Addr} (h : H p = none) : Z.H0 p = none := by
  cases e : Z.H0 p with
  | none => rfl
  | some o => exact absurd h (c.ge p (by rw [e]; intro q; cases q))
theorem Ct.freshK (c : Ct K Z G H σ ρ) {p : Addr} (h : H p = none) : Z.Kp p = none := by
  cases e : Z.Kp p with
  | none => rfl
  | some o => rw [c.kp _ _ e] at h; cases h
/-- what an owned slot is -/
theorem Ct.ow (c : Ct K Z G H σ ρ) {i : Nat} {s : Sl} (h : ρ[i]? = some s) (ho : s.isOwn = true) :
    ∃ p xs ds, σ[i]? = some (some (.ref p)) ∧ G p = none ∧ H p = some (.lst xs) ∧ RpAll K G xs ds ∧ (Z.H0 p = none ∨ p ∈ Z.O0) ∧ Hd σ ρ i p ∧ ((s = .own ds ∧ Z.H0 p = none) ∨ ∃ j, s = .par j ds ∧ Z.O0[j]? = some p) := by
  cases s with
  | no => cases ho
  | dat d => cases ho
  | own ds =>
    obtain ⟨v, e, p, xs, rfl, z, g, hp, r⟩ := c.sl i _ h rfl
    exact ⟨p, xs, ds, e, g, hp, r, .inl z, ⟨e, _, h, rfl⟩, .inl ⟨rfl, z⟩⟩
  | par j ds =>
    obtain ⟨v, e, p, xs, rfl, z, g, hp, r⟩ := c.sl i _ h rfl
    exact ⟨p, xs, ds, e, g, hp, r, .inr (List.mem_of_getElem? z), ⟨e, _, h, rfl⟩, .inr ⟨j, rfl, z⟩⟩
theorem SlOk.mono {v : V} {s : Sl} (h : SlOk K Z G H v s) (g : Same G G') (no : ∀ p xs, v = .ref p → s.isOwn = true → G p = none → H p = some (.lst xs) → G' p = none ∧ H' p = some (.lst xs)) : SlOk K Z G' H' v s := by
  cases s with
  | no => trivial
  | dat d => exact Rp.to g h
  | own ds =>
    obtain ⟨p, xs, e, z, g0, hp, r⟩ := h
    obtain ⟨a, b⟩ := no p xs e rfl g0 hp
    exact ⟨p, xs, e, z, a, b, r.to g⟩
  | par j ds =>
    obtain ⟨p, xs, e, z, g0, hp, r⟩ := h
    obtain ⟨a, b⟩ := no p xs e rfl g0 hp
    exact ⟨p, xs, e, z, a, b, r.to g⟩
/-- the heap grows: a new object at p, data or not -/
theorem Ct.grow (c : Ct K Z G H σ ρ) {p : Addr} {o : HO} (hp : H p = none) : Ct K Z G (upd H p o) σ ρ where
  len := c.len
  gg := c.gg
  gh := fun b u e => same_new hp b u (c.gh b u e)
  hh := fun b u e n => same_new hp b u (c.hh b u e n)
  ge := fun b n => by
    have := c.ge b n
    cases e : H b with
    | none => exact absurd e this
    | some u => rw [same_new (o := o) hp b u e]; intro q; cases q
  fr := c.fr
  sl := fun i s h n => by
    obtain ⟨v, e, k⟩ := c.sl i s h n
    exact ⟨v, e, k.mono (Same.refl G) fun q xs _ _ g hq => ⟨g, same_new hp q _ hq⟩⟩
  ds := c.ds
  kp := fun b u e => same_new hp b u (c.kp b u e)
  kg := c.kg
  kn := c.kn
/-- an object that stands in H by itself becomes data -/
theorem Ct.adopt (c : Ct K Z G H σ ρ) {p : Addr} {o : HO} (h : H p = some o) (z : Z.H0 p = none) (kk : Z.Kp p = none) (no : ∀ i, ¬ Hd σ ρ i p) (g : G p = none) : Ct K Z (upd G p o) H σ ρ ∧ Same G (upd G p o) := by
  refine ⟨⟨c.len, fun b u e => same_new g b u (c.gg b u e), fun b u e => ?_, c.hh, c.ge, fun b n e => ?_, fun i s hi hn => ?_, c.ds, c.kp, fun b n => by
    rw [upd_ne (show b ≠ p from fun q => n (by rw [q]; exact kk))]; exact c.kg b n, c.kn⟩, same_new g⟩
  · by_cases q : b = p
    · subst q; rw [upd_same] at e; cases e; exact h
    · rw [upd_ne q] at e; exact c.gh b u e
  · have q : b ≠ p := fun q => n (by rw [q]; exact z)
    rw [upd_ne q]; exact c.fr b n e
  · obtain ⟨v, e, k⟩ := c.sl i s hi hn
    refine ⟨v, e, k.mono (same_new g) fun q xs ev ho gq hq => ⟨?_, hq⟩⟩
    have : q ≠ p := fun w => no i ⟨by rw [e, ev, w], s, hi, ho⟩
    rw [upd_ne this]; exact gq
theorem Ct.grown (c : Ct K Z G H σ ρ) {p : Addr} {o : HO} (hp : H p = none) : Ct K Z (upd G p o) (upd H p o) σ ρ ∧ Same G (upd G p o) := by
  refine (c.grow (o := o) hp).adopt upd_same (c.fresh0 hp) (c.freshK hp) (fun i hi => ?_) (c.freshG hp)
  obtain ⟨e, s, h, ho⟩ := hi
  obtain ⟨q, xs, ds, e2, g, hq, _⟩ := c.ow h ho
  rw [e] at e2
  cases e2
  rw [hp] at hq
  cases hq
theorem hd_set {i j : Nat} {v : V} {s : Sl} {p : Addr} (hj : j ≠ i) (h : Hd (σ.set i (some v)) (ρ.set i s) j p) : Hd σ ρ j p := by
  obtain ⟨e, t, h, o⟩ := h
  rw [List.getElem?_set_ne (Ne.symm hj)] at e h
  exact ⟨e, t, h, o⟩
/-- slot i is given a value -/
theorem Ct.setS (c : Ct K Z G H σ ρ) {i : Nat} {v : V} {s : Sl} (hi : ρ[i]?.isSome = true) (h : SlOk K Z G H v s) (no : ∀ p j, s.isOwn = true → v = .ref p → ¬ Hd σ ρ j p) (kk : ∀ p, s.isOwn = true → v = .ref p → Z.Kp p = none) : Ct K Z G H (σ.set i (some v)) (ρ.set i s) := by
  have hr : i < ρ.length := by
    rw [Option.isSome_iff_exists] at hi
    obtain ⟨a, e⟩ := hi
    exact (List.getElem?_eq_some_iff.mp e).1
  have hs : i < σ.length := by rw [c.len]; exact hr
  refine ⟨by simp [c.len], c.gg, c.gh, c.hh, c.ge, c.fr, fun j t e n => ?_, fun j k p a b => ?_, c.kp, c.kg, fun j p a => ?_⟩
  · by_cases q : i = j
    · subst q
      rw [List.getElem?_set_self hr] at e
      cases e
      exact ⟨v, List.getElem?_set_self hs, h⟩
    · rw [List.getElem?_set_ne q] at e ⊢
      exact c.sl j t e n
  · by_cases qj : j = i
    · by_cases qk : k = i
      · rw [qj, qk]
      · exfalso
        subst qj
        obtain ⟨e, t, e2, o⟩ := a
        rw [List.getElem?_set_self hr] at e2
        rw [List.getElem?_set_self hs] at e
        cases e2
        cases e
        exact no p k o rfl (hd_set qk b)
    · by_cases qk : k = i
      · exfalso
        subst qk
        obtain ⟨e, t, e2, o⟩ := b
        rw [List.getElem?_set_self hr] at e2
        rw [List.getElem?_set_self hs] at e
        cases e2
        cases e
        exact no p j o rfl (hd_set qj a)
      · exact c.ds j k p (hd_set qj a) (hd_set qk b)
  · by_cases qj : j = i
    · subst qj
      obtain ⟨e, t, e2, o⟩ := a
      rw [List.getElem?_set_self hr] at e2
      rw [List.getElem?_set_self hs] at e
      cases e2
      cases e
      exact kk p o rfl
    · exact c.kn j p (hd_set qj a)
theorem Ct.setD (c : Ct K Z G H σ ρ) {i : Nat} {v : V} {d : Dat} (hi : ρ[i]?.isSome = true) (h : Rp K G v d) : Ct K Z G H (σ.set i (some v)) (ρ.set i (.dat d)) :=
  c.setS hi h (fun _ _ o _ => by cases o) fun _ o _ => by cases o
theorem hd_sub {ρ' : List Sl} (hs : ∀ (i : Nat) (s : Sl), ρ'[i]? = some s → s.isOwn = true → ∃ t, ρ[i]? = some t ∧ t.isOwn = true) {i : Nat} {p : Addr} (h : Hd σ ρ' i p) : Hd σ ρ i p := by
  obtain ⟨e, s, a, o⟩ := h
  obtain ⟨t, b, ot⟩ := hs i s a o
  exact ⟨e, t, b, ot⟩
/-- an owned slot is given up: its list is data from then on -/
theorem Ct.freeze (c : Ct K Z G H σ ρ) {i : Nat} {ds : List Dat} (h : ρ[i]? = some (.own ds)) :
    ∃ p xs, σ[i]? = some (some (.ref p)) ∧ Same G (upd G p (.lst xs)) ∧ Ct K Z (upd G p (.lst xs)) H σ (ρ.set i (.dat (.lst ds))) ∧ Rp K (upd G p (.lst xs)) (.ref p) (.lst ds) := by
  obtain ⟨v, e, p, xs, rfl, z, g, hp, r⟩ := c.sl i _ h rfl
  have sm : Same G (upd G p (.lst xs)) := same_new g
  have hr : i < ρ.length := (List.getElem?_eq_some_iff.mp h).1
  have rp : Rp K (upd G p (.lst xs)) (.ref p) (.lst ds) := .lst upd_same (r.to sm)
  refine ⟨p, xs, e, sm, ⟨by simp [c.len], fun b u q => sm b u (c.gg b u q), fun b u q => ?_, c.hh, c.ge, fun b n q => ?_, fun j s hj hn => ?_, fun j k q a b => ?_, c.kp, fun b n => ?_, fun j q a => ?_⟩, rp⟩
  · by_cases w : b = p
    · subst w; rw [upd_same] at q; cases q; exact hp
    · rw [upd_ne w] at q; exact c.gh b u q
  · have w : b ≠ p := fun w => n (by rw [w]; exact z)
    rw [upd_ne w]; exact c.fr b n q
  · by_cases w : i = j
    · subst w
      rw [List.getElem?_set_self hr] at hj
      cases hj
      exact ⟨_, e, rp⟩
    · rw [List.getElem?_set_ne w] at hj
      obtain ⟨u, e1, k⟩ := c.sl j s hj hn
      refine ⟨u, e1, k.mono sm fun q ys ev ho gq hq => ⟨?_, hq⟩⟩
      have : q ≠ p := fun t => w (c.ds i j p ⟨e, _, h, rfl⟩ ⟨by rw [e1, ev, t], s, hj, ho⟩)
      rw [upd_ne this]; exact gq
  · have sub : ∀ (i' : Nat) (s : Sl), (ρ.set i (.dat (.lst ds)))[i']? = some s → s.isOwn = true → ∃ t, ρ[i']? = some t ∧ t.isOwn = true := fun i' s q o => by
      by_cases w : i = i'
      · subst w; rw [List.getElem?_set_self hr] at q; cases q; cases o
      · rw [List.getElem?_set_ne w] at q; exact ⟨s, q, o⟩
    exact c.ds j k q (hd_sub sub a) (hd_sub sub b)
  · have w : b ≠ p := fun w => n (by rw [w]; exact c.kn i p ⟨e, _, h, rfl⟩)
    rw [upd_ne w]; exact c.kg b n
  · have sub : ∀ (i' : Nat) (s : Sl), (ρ.set i (.dat (.lst ds)))[i']? = some s → s.isOwn = true → ∃ t, ρ[i']? = some t ∧ t.isOwn = true := fun i' s q o => by
      by_cases w : i = i'
      · subst w; rw [List.getElem?_set_self hr] at q; cases q; cases o
      · rw [List.getElem?_set_ne w] at q; exact ⟨s, q, o⟩
    exact c.kn j q (hd_sub sub a)
def Sl.put : Sl → List Dat → Sl
  | .own _, ds => .own ds
  | .par j _, ds => .par j ds
  | s, _ => s
/-- an owned slot's list is changed -/
theorem Ct.write (c : Ct K Z G H σ ρ) {i : Nat} {s : Sl} {p : Addr} {ys : List V} {es : List Dat} (h : ρ[i]? = some s) (ho : s.isOwn = true) (e : σ[i]? = some (some (.ref p))) (r : RpAll K G ys es) :
    Ct K Z G (upd H p (.lst ys)) σ (ρ.set i (s.put es)) := by
  obtain ⟨p', xs, ds, e', g, hp, r0, z, hd, w⟩ := c.ow h ho
  rw [e] at e'
  cases e'
  have hr : i < ρ.length := (List.getElem?_eq_some_iff.mp h).1
  refine ⟨by simp [c.len], c.gg, fun b u q => ?_, fun b u q n => ?_, fun b n => ?_, c.fr, fun j t hj hn => ?_, fun j k q a b => ?_, fun b u q => ?_, c.kg, fun j q a => ?_⟩
  · have : b ≠ p := fun t => by rw [t, g] at q; cases q
    rw [upd_ne this]; exact c.gh b u q
  · have : b ≠ p := fun t => by
      rcases z with z | z
      · rw [t, z] at q; cases q
      · exact n (by rw [t]; exact z)
    rw [upd_ne this]; exact c.hh b u q n
  · by_cases t : b = p
    · subst t; rw [upd_same]; intro q; cases q
    · rw [upd_ne t]; exact c.ge b n
  · by_cases q : i = j
    · subst q
      rw [List.getElem?_set_self hr] at hj
      cases hj
      refine ⟨_, e, ?_⟩
      rcases w with ⟨rfl, z0⟩ | ⟨j0, rfl, z0⟩
      · exact ⟨p, ys, rfl, z0, g, upd_same, r⟩
      · exact ⟨p, ys, rfl, z0, g, upd_same, r⟩
    · rw [List.getElem?_set_ne q] at hj
      obtain ⟨u, e1, k⟩ := c.sl j t hj hn
      refine ⟨u, e1, k.mono (Same.refl G) fun q' zs ev ho' gq hq => ⟨gq, ?_⟩⟩
      have : q' ≠ p := fun t' => q (c.ds i j p hd ⟨by rw [e1, ev, t'], t, hj, ho'⟩)
      rw [upd_ne this]; exact hq
  · have sub : ∀ (i' : Nat) (t : Sl), (ρ.set i (s.put es))[i']? = some t → t.isOwn = true → ∃ t', ρ[i']? = some t' ∧ t'.isOwn = true := fun i' t q o => by
      by_cases w : i = i'
      · subst w; exact ⟨s, h, ho⟩
      · rw [List.getElem?_set_ne w] at q; exact ⟨t, q, o⟩
    exact c.ds j k q (hd_sub sub a) (hd_sub sub b)
  · have : b ≠ p := fun t => by rw [t, c.kn i p hd] at q; cases q
    rw [upd_ne this]; exact c.kp b u q
  · have sub : ∀ (i' : Nat) (t : Sl), (ρ.set i (s.put es))[i']? = some t → t.isOwn = true → ∃ t', ρ[i']? = some t' ∧ t'.isOwn = true := fun i' t q o => by
      by_cases w : i = i'
      · subst w; exact ⟨s, h, ho⟩
      · rw [List.getElem?_set_ne w] at q; exact ⟨t, q, o⟩
    exact c.kn j q (hd_sub sub a)
/-- less is known -/
inductive Le : List Sl → List Sl → Prop
  | nil : Le [] []
  | no {s : Sl} {a b : List Sl} : Le a b → Le (.no :: a) (s :: b)
  | eq {s : Sl} {a b : List Sl} : Le a b → Le (s :: a) (s :: b)
theorem Le.len {a b : List Sl} (h : Le a b) : a.length = b.length := by
  induction h with
  | nil => rfl
  | no _ ih => simp [ih]
  | eq _ ih => simp [ih]
theorem Le.get {a b : List Sl} (h : Le a b) : ∀ {i : Nat} {s : Sl}, a[i]? = some s → s.isNo = false → b[i]? = some s := by
  induction h with
  | nil => intro i s e _; simp at e
  | no _ ih =>
    intro i s e n
    cases i with
    | zero => simp at e; subst e; cases n
    | succ i => simpa using ih (by simpa using e) n
  | eq _ ih =>
    intro i s e n
    cases i with
    | zero => simpa using e
    | succ i => simpa using ih (by simpa using e) n
theorem Le.refl : ∀ a : List Sl, Le a a
  | [] => .nil
  | _ :: a => .eq (Le.refl a)
theorem Sl.own_not_no {s : Sl} (h : s.isOwn = true) : s.isNo = false := by cases s <;> first | rfl | cases h
theorem Ct.weak {ρ' : List Sl} (c : Ct K Z G H σ ρ) (l : Le ρ' ρ) : Ct K Z G H σ ρ' :=
  ⟨by rw [c.len, l.len], c.gg, c.gh, c.hh, c.ge, c.fr, fun i s e n => c.sl i s (l.get e n) n, fun i j p a b => c.ds i j p
    (hd_sub (fun i s e o => ⟨s, l.get e (Sl.own_not_no o), o⟩) a) (hd_sub (fun i s e o => ⟨s, l.get e (Sl.own_not_no o), o⟩) b), c.kp, c.kg, fun i p a => c.kn i p (hd_sub (fun i s e o => ⟨s, l.get e (Sl.own_not_no o), o⟩) a)⟩
end

/-! ### expressions -/
section
variable (K : PySem.W.Frag)
/-- an expression makes data d of the slots ρ, which are ρ' then -/
def Ev (te : TE) (ρ : List Sl) (d : Dat) (ρ' : List Sl) : Prop := ∀ (Z : Zs) (G H : Hp) (σ : L2.St), Ct K Z G H σ ρ → ∀ Q : VK, (∀ (v : V) (G' H' : Hp), Same G G' → Ct K Z G' H' σ ρ' → Rp K G' v d → Q v H') → te σ H Q
/-- a new list that nothing holds yet -/
def EvF (te : TE) (ρ : List Sl) (ds : List Dat) (ρ' : List Sl) : Prop := ∀ (Z : Zs) (G H : Hp) (σ : L2.St), Ct K Z G H σ ρ → ∀ Q : VK,
  (∀ (p : Addr) (xs : List V) (G' H' : Hp), Same G G' → Ct K Z G' H' σ ρ' → G' p = none → H' p = some (.lst xs) → RpAll K G' xs ds → Z.H0 p = none ∧ Z.Kp p = none → (∀ i, ¬ Hd σ ρ' i p) → Q (.ref p) H') → te σ H Q
def EvT (tt : TT) (ρ : List Sl) (b : Bool) (ρ' : List Sl) : Prop := ∀ (Z : Zs) (G H : Hp) (σ : L2.St), Ct K Z G H σ ρ → ∀ Q : Bool → Hp → Prop, (∀ (G' H' : Hp), Same G G' → Ct K Z G' H' σ ρ' → Q b H') → tt σ H Q
/-- arguments: data, or a slot's own list -/
inductive Ag where
  | d (d : Dat) | s (i : Nat)
def AgAt (G : Hp) (σ : L2.St) (v : V) : Ag → Prop
  | .d d => Rp K G v d
  | .s i => σ[i]? = some (some v)
def EvA (ta : TA) (ρ : List Sl) (as : List Ag) (ρ' : List Sl) : Prop := ∀ (Z : Zs) (G H : Hp) (σ : L2.St), Ct K Z G H σ ρ → ∀ Q : List V → Hp → Prop, (∀ (vs : List V) (G' H' : Hp), Same G G' → Ct K Z G' H' σ ρ' → Paired (AgAt K G' σ) vs as → Q vs H') → ta σ H Q
def EvO (to : TO) (ρ : List Sl) (o : Option Int) (ρ' : List Sl) : Prop := ∀ (Z : Zs) (G H : Hp) (σ : L2.St), Ct K Z G H σ ρ → ∀ Q : Option Int → Hp → Prop, (∀ (G' H' : Hp), Same G G' → Ct K Z G' H' σ ρ' → Q o H') → to σ H Q
/-- a list to be read: data, or a slot's own list as it stands when it is read -/
def EvL (te : TE) (ρ : List Sl) (a : Ag) (ρ' : List Sl) : Prop := ∀ (Z : Zs) (G H : Hp) (σ : L2.St), Ct K Z G H σ ρ → ∀ Q : VK, (∀ (v : V) (G' H' : Hp), Same G G' → Ct K Z G' H' σ ρ' → AgAt K G' σ v a → Q v H') → te σ H Q
def Dat.items : Dat → Option (List Dat)
  | .lst ds => some ds
  | .scr ns => some (ns.map Dat.int)
  | _ => none
def slItems : Option Sl → Option (List Dat)
  | some (.own ds) => some ds
  | some (.par _ ds) => some ds
  | _ => none
def look (ρ : List Sl) : Ag → Option (List Dat)
  | .d d => d.items
  | .s i => slItems ρ[i]?
/-- the same, where it must be a list of the program's own making -/
def lookS (ρ : List Sl) : Ag → Option (List Dat)
  | .d (.lst ds) => some ds
  | .s i => look ρ (.s i)
  | _ => none
end
section
variable {K : PySem.W.Frag} {Z : Zs} {G G' H H' : Hp} {σ : L2.St} {ρ ρ' ρ1 ρ2 ρ3 : List Sl} {te ta tb tc : TE} {tt tu : TT} {d d1 d2 d3 : Dat} {ds es : List Dat} {b : Bool} {i : Nat}
theorem AgAt.to {a : Ag} {v : V} (s : Same G G') (h : AgAt K G σ v a) : AgAt K G' σ v a := by
  cases a with
  | d d => exact Rp.to s h
  | s i => exact h
theorem agAll_to {as : List Ag} {vs : List V} (s : Same G G') (h : Paired (AgAt K G σ) vs as) : Paired (AgAt K G' σ) vs as := by
  induction h with
  | nil => exact .nil
  | cons a _ ih => exact .cons (a.to s) ih
theorem Ct.slot (c : Ct K Z G H σ ρ) {v : V} (e : σ[i]? = some (some v)) (l : slItems ρ[i]? = some ds) : ∃ p xs, v = .ref p ∧ H p = some (.lst xs) ∧ RpAll K G xs ds := by
  cases q : ρ[i]? with
  | none => rw [q] at l; cases l
  | some t =>
    rw [q] at l
    cases t with
    | no => cases l
    | dat d => cases l
    | own es =>
      have l : some es = some ds := l
      cases l
      obtain ⟨u, e1, p, xs, rfl, z, g, hp, r⟩ := c.sl i _ q rfl
      rw [e] at e1
      cases e1
      exact ⟨p, xs, rfl, hp, r⟩
    | par j es =>
      have l : some es = some ds := l
      cases l
      obtain ⟨u, e1, p, xs, rfl, z, g, hp, r⟩ := c.sl i _ q rfl
      rw [e] at e1
      cases e1
      exact ⟨p, xs, rfl, hp, r⟩
/-- a list that is read -/
theorem Ct.read (c : Ct K Z G H σ ρ) {a : Ag} {v : V} (h : AgAt K G σ v a) (l : look ρ a = some ds) : ∃ p xs, v = .ref p ∧ SqL K H p xs ∧ RpAll K G xs ds := by
  cases a with
  | d d =>
    have l : d.items = some ds := l
    cases d with
    | lst es =>
      have l : some es = some ds := l
      cases l
      have h : Rp K G v (.lst ds) := h
      cases h with
      | lst e r => exact ⟨_, _, rfl, .inl (.inl (c.gh _ _ e)), r⟩
    | scr ns =>
      have l : some (ns.map Dat.int) = some ds := l
      cases l
      have h : Rp K G v (.scr ns) := h
      cases h with
      | scr e => exact ⟨_, _, rfl, c.gh.seq e, RpAll.ints ns⟩
    | _ => cases l
  | s i =>
    obtain ⟨p, xs, e, hp, r⟩ := c.slot (i := i) h l
    exact ⟨p, xs, e, .inl (.inl hp), r⟩
theorem Ct.readS (c : Ct K Z G H σ ρ) {a : Ag} {v : V} (h : AgAt K G σ v a) (l : lookS ρ a = some ds) : ∃ p xs, v = .ref p ∧ H p = some (.lst xs) ∧ RpAll K G xs ds := by
  cases a with
  | d d =>
    cases d with
    | lst es =>
      have l : some es = some ds := l
      cases l
      have h : Rp K G v (.lst ds) := h
      cases h with
      | lst e r => exact ⟨_, _, rfl, c.gh _ _ e, r⟩
    | _ => cases l
  | s i => exact c.slot (i := i) h l
/-! names and constants -/
theorem ev_var (h : ρ[i]? = some (.dat d) := by rfl) : Ev K (tVar i) ρ d ρ := fun _ G H _ c Q q => by
  obtain ⟨v, e, r⟩ := c.dat h
  exact ⟨v, e, q v G H (Same.refl G) c r⟩
/-- an owned list is handed on: it is data from then on -/
theorem ev_give (h : ρ[i]? = some (.own ds) := by rfl) : Ev K (tVar i) ρ (.lst ds) (ρ.set i (.dat (.lst ds))) := fun _ _ _ _ c Q q => by
  obtain ⟨p, xs, e, s, c', r⟩ := c.freeze h
  exact ⟨.ref p, e, q _ _ _ s c' r⟩
theorem ev_c {v : V} (h : ∀ G, Rp K G v d) : Ev K (tC v) ρ d ρ := fun _ G _ _ c Q q => q v G _ (Same.refl G) c (h G)
theorem ev_int {n : Int} : Ev K (tC (.int n)) ρ (.int n) ρ := ev_c fun _ => .int n
theorem ev_str {n : Str} : Ev K (tC (.str n)) ρ (.str n) ρ := ev_c fun _ => .str n
theorem ev_bl {n : Bool} : Ev K (tC (.bl n)) ρ (.bl n) ρ := ev_c fun _ => .bl n
theorem ev_non : Ev K (tC .non) ρ .non ρ := ev_c fun _ => .non
theorem ev_ty {n : String} : Ev K (tC (.ty n)) ρ (.ty n) ρ := ev_c fun _ => .ty n
theorem el_d (h : Ev K te ρ d ρ') : EvL K te ρ (.d d) ρ' := h
theorem el_s (h : ∃ s, ρ[i]? = some s ∧ s.isOwn = true := by exact ⟨_, rfl, rfl⟩) : EvL K (tVar i) ρ (.s i) ρ := fun _ G H _ c Q q => by
  obtain ⟨s, hs, ho⟩ := h
  obtain ⟨p, xs, es, e, _⟩ := c.ow hs ho
  exact ⟨_, e, q _ G H (Same.refl G) c e⟩
/-! operators by values -/
def RV (K : PySem.W.Frag) (r : R2) (ρ : List Sl) (d1 d2 d : Dat) : Prop := ∀ (Z : Zs) (G H : Hp) (σ : L2.St), Ct K Z G H σ ρ → ∀ (x y : V), Rp K G x d1 → Rp K G y d2 → ∀ Q : VK, (∀ (v : V) (G' H' : Hp), Same G G' → Ct K Z G' H' σ ρ → Rp K G' v d → Q v H') → r x y H Q
theorem ev_op {r : R2} (ha : Ev K ta ρ d1 ρ1) (hb : Ev K tb ρ1 d2 ρ2) (hr : RV K r ρ2 d1 d2 d) : Ev K (tOp r ta tb) ρ d ρ2 := fun Z G H σ c Q q => by
  refine ha Z G H σ c _ fun x G1 H1 s1 c1 r1 => ?_
  refine hb Z G1 H1 σ c1 _ fun y G2 H2 s2 c2 r2 => ?_
  exact hr Z G2 H2 σ c2 x y (r1.to s2) r2 Q fun v G3 H3 s3 => q v G3 H3 ((s1.trans s2).trans s3)
theorem rv_pure {r : R2} {d1 d2 d : Dat} (h : ∀ (G H : Hp) (x y : V), Same G H → Rp K G x d1 → Rp K G y d2 → ∃ v, Rp K G v d ∧ ∀ Q : VK, Q v H → r x y H Q) : RV K r ρ d1 d2 d := fun Z G H σ c x y rx ry Q q => by
  obtain ⟨v, rv, k⟩ := h G H x y c.gh rx ry
  exact k Q (q v G H (Same.refl G) c rv)
theorem rv_I0 {g : Int → Int → V} {i j : Int} (h : ∀ G, Rp K G (g i j) d) : RV K (rI0 g) ρ (.int i) (.int j) d := rv_pure fun G H x y _ rx ry => by
  cases rx; cases ry
  exact ⟨_, h G, fun Q q => ⟨i, j, rfl, rfl, q⟩⟩
theorem rv_I {C : Int → Int → Prop} {g : Int → Int → V} {i j : Int} (h : ∀ G, Rp K G (g i j) d) (hc : C i j) : RV K (rI C g) ρ (.int i) (.int j) d := rv_pure fun G H x y _ rx ry => by
  cases rx; cases ry
  exact ⟨_, h G, fun Q q => ⟨i, j, rfl, rfl, hc, q⟩⟩
/-- ints: a + b, a - b, a * b, a // b, a % b, a < b .. -/
theorem ev_i0 {g : Int → Int → Int} {i j : Int} (ha : Ev K ta ρ (.int i) ρ1) (hb : Ev K tb ρ1 (.int j) ρ2) : Ev K (tOp (rI0 fun i j => .int (g i j)) ta tb) ρ (.int (g i j)) ρ2 := ev_op ha hb (rv_I0 fun _ => .int _)
theorem ev_b0 {g : Int → Int → Bool} {i j : Int} (ha : Ev K ta ρ (.int i) ρ1) (hb : Ev K tb ρ1 (.int j) ρ2) : Ev K (tOp (rI0 fun i j => .bl (g i j)) ta tb) ρ (.bl (g i j)) ρ2 := ev_op ha hb (rv_I0 fun _ => .bl _)
theorem ev_i {C : Int → Int → Prop} {g : Int → Int → Int} {i j : Int} (ha : Ev K ta ρ (.int i) ρ1) (hb : Ev K tb ρ1 (.int j) ρ2) (hc : C i j) : Ev K (tOp (rI C fun i j => .int (g i j)) ta tb) ρ (.int (g i j)) ρ2 := ev_op ha hb (rv_I (fun _ => .int _) hc)
theorem ev_neg {i : Int} (ha : Ev K ta ρ (.int i) ρ1) : Ev K (tUn (rU fun i => .int (-i)) ta) ρ (.int (-i)) ρ1 := fun Z G H σ c Q q => by
  refine ha Z G H σ c _ fun x G1 H1 s1 c1 r1 => ?_
  cases r1
  exact ⟨i, rfl, q _ _ _ s1 c1 (.int _)⟩

/-! equality of data -/
mutual
def Dat.py : Dat → PyData
  | .non => .none
  | .bl b => .bool b
  | .int i => .int i
  | .str x => .str x
  | .ty _ => .none
  | .cls _ => .none
  | .lst ds => .list (Dat.pys ds)
  | .tup ds => .tuple (Dat.pys ds)
  | .ins _ _ _ => .none
  | .emp => .none
  | .scr ns => .list (ns.map PyData.int)
def Dat.pys : List Dat → List PyData
  | [] => []
  | d :: ds => d.py :: Dat.pys ds
end
mutual
/-- plain data, no deeper than n -/
def Shp : Nat → Dat → Prop
  | _, .non => True
  | _, .bl _ => True
  | _, .int _ => True
  | _, .str x => PyData.strOk x = true
  | n + 1, .lst ds => ShpAll n ds
  | n + 1, .tup ds => ShpAll n ds
  | _, _ => False
def ShpAll : Nat → List Dat → Prop
  | _, [] => True
  | n, d :: ds => Shp n d ∧ ShpAll n ds
end
theorem shpAll_of {n : Nat} : ∀ {ds : List Dat}, (∀ d ∈ ds, Shp n d) → ShpAll n ds
  | [], _ => by simp only [ShpAll]
  | d :: ds, h => by
    simp only [ShpAll]
    exact ⟨h d List.mem_cons_self, shpAll_of fun e he => h e (List.mem_cons_of_mem _ he)⟩
theorem shpAll_mem {n : Nat} : ∀ {ds : List Dat}, ShpAll n ds → ∀ d ∈ ds, Shp n d
  | [], _, d, h => by cases h
  | e :: ds, h, d, hm => by
    simp only [ShpAll] at h
    rcases List.mem_cons.mp hm with rfl | hm
    · exact h.1
    · exact shpAll_mem h.2 d hm
theorem shp_lst {n : Nat} {ds : List Dat} : Shp (n + 1) (.lst ds) = ShpAll n ds := by simp only [Shp]
theorem shp_tup {n : Nat} {ds : List Dat} : Shp (n + 1) (.tup ds) = ShpAll n ds := by simp only [Shp]
mutual
theorem shp_up {n : Nat} : ∀ {d : Dat}, Shp n d → Shp (n + 1) d
  | .non, _ => by simp only [Shp]
  | .bl _, _ => by simp only [Shp]
  | .int _, _ => by simp only [Shp]
  | .str _, h => by simp only [Shp] at h ⊢; exact h
  | .lst ds, h => by
    cases n with
    | zero => simp only [Shp] at h
    | succ n => rw [shp_lst] at h ⊢; exact shpAll_up h
  | .tup ds, h => by
    cases n with
    | zero => simp only [Shp] at h
    | succ n => rw [shp_tup] at h ⊢; exact shpAll_up h
  | .ty _, h => by simp only [Shp] at h
  | .cls _, h => by simp only [Shp] at h
  | .ins _ _ _, h => by simp only [Shp] at h
  | .emp, h => by simp only [Shp] at h
  | .scr _, h => by simp only [Shp] at h
theorem shpAll_up {n : Nat} : ∀ {ds : List Dat}, ShpAll n ds → ShpAll (n + 1) ds
  | [], _ => by simp only [ShpAll]
  | d :: ds, h => by
    simp only [ShpAll] at h ⊢
    exact ⟨shp_up h.1, shpAll_up h.2⟩
end
theorem shp_le {n m : Nat} {d : Dat} (h : Shp n d) (l : n ≤ m) : Shp m d := by
  induction l with
  | refl => exact h
  | step _ ih => exact shp_up ih
mutual
theorem shp_lay {n : Nat} : ∀ {d : Dat}, Shp n d → d.py.canLay0 = true ∧ d.py.depth ≤ n
  | .non, _ => by simp [Dat.py, PyData.canLay0, PyData.depth]
  | .bl _, _ => by simp [Dat.py, PyData.canLay0, PyData.depth]
  | .int _, _ => by simp [Dat.py, PyData.canLay0, PyData.depth]
  | .str _, h => by simp only [Shp] at h; simp [Dat.py, PyData.canLay0, PyData.depth, h]
  | .lst ds, h => by
    cases n with
    | zero => simp only [Shp] at h
    | succ n =>
      rw [shp_lst] at h
      obtain ⟨a, b⟩ := shpAll_lay h
      simp only [Dat.py, PyData.canLay0, PyData.depth]
      exact ⟨a, by omega⟩
  | .tup ds, h => by
    cases n with
    | zero => simp only [Shp] at h
    | succ n =>
      rw [shp_tup] at h
      obtain ⟨a, b⟩ := shpAll_lay h
      simp only [Dat.py, PyData.canLay0, PyData.depth]
      exact ⟨a, by omega⟩
  | .ty _, h => by simp only [Shp] at h
  | .cls _, h => by simp only [Shp] at h
  | .ins _ _ _, h => by simp only [Shp] at h
  | .emp, h => by simp only [Shp] at h
  | .scr _, h => by simp only [Shp] at h
theorem shpAll_lay {n : Nat} : ∀ {ds : List Dat}, ShpAll n ds → PyData.canLayAll0 (Dat.pys ds) = true ∧ PyData.depthAll (Dat.pys ds) ≤ n
  | [], _ => by simp [Dat.pys, PyData.canLayAll0, PyData.depthAll]
  | d :: ds, h => by
    simp only [ShpAll] at h
    obtain ⟨a, b⟩ := shp_lay h.1
    obtain ⟨a', b'⟩ := shpAll_lay h.2
    simp only [Dat.pys, PyData.canLayAll0, PyData.depthAll, a, a']
    exact ⟨rfl, by omega⟩
end
theorem shaped_of {d : Dat} (h : Shp 60 d) : SeqAt.shaped d.py = true := by
  obtain ⟨a, b⟩ := shp_lay h
  unfold SeqAt.shaped
  rw [a, Bool.true_and]
  exact decide_eq_true (by omega)
theorem dpInts (H : Hp) : ∀ ns : List Int, DpAll K H (ns.map V.int) (ns.map PyData.int)
  | [] => .nil
  | n :: ns => .cons (.int n) (dpInts H ns)
mutual
theorem Rp.dp (s : Same G H) : ∀ {d : Dat} {v : V} {n : Nat}, Rp K G v d → Shp n d → Dp K H v d.py
  | .non, _, _, h, _ => by cases h; simp only [Dat.py]; exact .non
  | .bl b, _, _, h, _ => by cases h; simp only [Dat.py]; exact .bl b
  | .int b, _, _, h, _ => by cases h; simp only [Dat.py]; exact .int b
  | .str b, _, _, h, _ => by cases h; simp only [Dat.py]; exact .str b
  | .lst ds, _, n, h, z => by
    cases h with
    | lst e a =>
      cases n with
      | zero => simp only [Shp] at z
      | succ n =>
        rw [shp_lst] at z
        simp only [Dat.py]
        exact .lst (.inl (.inl (s _ _ e))) (RpAll.dp s a z)
  | .tup ds, _, n, h, z => by
    cases h with
    | tup e a =>
      cases n with
      | zero => simp only [Shp] at z
      | succ n =>
        rw [shp_tup] at z
        simp only [Dat.py]
        exact .tup (.inl (.inl (s _ _ e))) (RpAll.dp s a z)
  | .ty _, _, _, _, h => by simp only [Shp] at h
  | .cls _, _, _, _, h => by simp only [Shp] at h
  | .ins _ _ _, _, _, _, h => by simp only [Shp] at h
  | .emp, _, _, _, h => by simp only [Shp] at h
  | .scr _, _, _, _, h => by simp only [Shp] at h
theorem RpAll.dp (s : Same G H) : ∀ {ds : List Dat} {vs : List V} {n : Nat}, RpAll K G vs ds → ShpAll n ds → DpAll K H vs (Dat.pys ds)
  | [], _, _, h, _ => by cases h; simp only [Dat.pys]; exact .nil
  | d :: ds, _, _, h, z => by
    simp only [ShpAll] at z
    cases h with
    | cons a b => simp only [Dat.pys]; exact .cons (Rp.dp s a z.1) (RpAll.dp s b z.2)
end
/-- == of data -/
def eqd (a b : Dat) : Bool := PyData.eqv a.py b.py
theorem ev_eq (ha : Ev K ta ρ d1 ρ1) (hb : Ev K tb ρ1 d2 ρ2) (s1 : Shp 60 d1) (s2 : Shp 60 d2) : Ev K (tOp (rEqD K) ta tb) ρ (.bl (eqd d1 d2)) ρ2 := ev_op ha hb (rv_pure fun G H x y s rx ry =>
  ⟨_, .bl _, fun Q q => ⟨_, _, rx.dp s s1, ry.dp s s2, shaped_of s1, shaped_of s2, q⟩⟩)
theorem ev_ne (ha : Ev K ta ρ d1 ρ1) (hb : Ev K tb ρ1 d2 ρ2) (s1 : Shp 60 d1) (s2 : Shp 60 d2) : Ev K (tOp (rNeD K) ta tb) ρ (.bl (!eqd d1 d2)) ρ2 := ev_op ha hb (rv_pure fun G H x y s rx ry =>
  ⟨_, .bl _, fun Q q => ⟨_, _, rx.dp s s1, ry.dp s s2, shaped_of s1, shaped_of s2, q⟩⟩)
theorem eqd_int (i j : Int) : eqd (.int i) (.int j) = (i == j) := by simp [eqd, Dat.py, PyData.eqv]
theorem eqd_str (i j : Str) : eqd (.str i) (.str j) = (i == j) := by simp [eqd, Dat.py, PyData.eqv]
theorem eqd_bl (i j : Bool) : eqd (.bl i) (.bl j) = (i == j) := by simp [eqd, Dat.py, PyData.eqv]
theorem eqd_lst (as bs : List Dat) : eqd (.lst as) (.lst bs) = PyData.eqvAll (Dat.pys as) (Dat.pys bs) := by simp [eqd, Dat.py, PyData.eqv]
theorem eqd_tup (as bs : List Dat) : eqd (.tup as) (.tup bs) = PyData.eqvAll (Dat.pys as) (Dat.pys bs) := by simp [eqd, Dat.py, PyData.eqv]
mutual
theorem pyeqv_refl : ∀ {n : Nat} {d : Dat}, Shp n d → PyData.eqv d.py d.py = true
  | _, .non, _ => by simp [Dat.py, PyData.eqv]
  | _, .bl _, _ => by simp [Dat.py, PyData.eqv]
  | _, .int _, _ => by simp [Dat.py, PyData.eqv]
  | _, .str _, _ => by simp [Dat.py, PyData.eqv]
  | n, .lst ds, h => by
    cases n with
    | zero => simp only [Shp] at h
    | succ n => rw [shp_lst] at h; simp only [Dat.py, PyData.eqv]; exact pyeqvAll_refl h
  | n, .tup ds, h => by
    cases n with
    | zero => simp only [Shp] at h
    | succ n => rw [shp_tup] at h; simp only [Dat.py, PyData.eqv]; exact pyeqvAll_refl h
  | _, .ty _, h => by simp only [Shp] at h
  | _, .cls _, h => by simp only [Shp] at h
  | _, .ins _ _ _, h => by simp only [Shp] at h
  | _, .emp, h => by simp only [Shp] at h
  | _, .scr _, h => by simp only [Shp] at h
theorem pyeqvAll_refl : ∀ {n : Nat} {ds : List Dat}, ShpAll n ds → PyData.eqvAll (Dat.pys ds) (Dat.pys ds) = true
  | _, [], _ => by simp only [Dat.pys, PyData.eqvAll]
  | n, d :: ds, h => by
    simp only [ShpAll] at h
    simp only [Dat.pys, PyData.eqvAll, pyeqv_refl h.1, pyeqvAll_refl h.2, Bool.and_self]
end
theorem eqd_refl {n : Nat} {d : Dat} (h : Shp n d) : eqd d d = true := pyeqv_refl h
/-- x in [..], of data of any depth -/
theorem rp_look (c : Ct K Z G H σ ρ) {a : Ag} {v : V} (h : AgAt K G σ v a) (l : look ρ a = some ds) {n : Nat} (z : ShpAll n ds) : Dp K H v (.list (Dat.pys ds)) := by
  obtain ⟨p, xs, rfl, hs, r⟩ := c.read h l
  exact .lst hs (RpAll.dp c.gh r z)
theorem pys_any (p : PyData → Bool) : ∀ ds : List Dat, (Dat.pys ds).any p = ds.any fun d => p d.py
  | [] => by simp only [Dat.pys, List.any_nil]
  | d :: ds => by simp only [Dat.pys, List.any_cons, pys_any p ds]
theorem ev_in {a : Ag} (ha : Ev K ta ρ d ρ1) (hb : EvL K tb ρ1 a ρ2) (l : look ρ2 a = some ds) (s1 : Shp 60 d) (s2 : ShpAll 59 ds) : Ev K (tOp (rInD K) ta tb) ρ (.bl (ds.any fun e => eqd e d)) ρ2 := fun Z G H σ c Q q => by
  refine ha Z G H σ c _ fun x G1 H1 t1 c1 r1 => ?_
  refine hb Z G1 H1 σ c1 _ fun y G2 H2 t2 c2 r2 => ?_
  have e := pys_any (fun z => PyData.eqv z d.py) ds
  refine ⟨d.py, Dat.pys ds, (r1.to t2).dp c2.gh s1, rp_look c2 r2 l s2, shaped_of s1, ?_, ?_⟩
  · have := shaped_of (d := .lst ds) (by rw [shp_lst]; exact s2)
    simpa only [Dat.py] using this
  · rw [e]
    exact q _ _ _ (t1.trans t2) c2 (.bl _)
theorem ev_notIn {a : Ag} (ha : Ev K ta ρ d ρ1) (hb : EvL K tb ρ1 a ρ2) (l : look ρ2 a = some ds) (s1 : Shp 60 d) (s2 : ShpAll 59 ds) : Ev K (tOp (rNotInD K) ta tb) ρ (.bl (!ds.any fun e => eqd e d)) ρ2 := fun Z G H σ c Q q => by
  refine ha Z G H σ c _ fun x G1 H1 t1 c1 r1 => ?_
  refine hb Z G1 H1 σ c1 _ fun y G2 H2 t2 c2 r2 => ?_
  have e := pys_any (fun z => PyData.eqv z d.py) ds
  refine ⟨d.py, Dat.pys ds, (r1.to t2).dp c2.gh s1, rp_look c2 r2 l s2, shaped_of s1, ?_, ?_⟩
  · have := shaped_of (d := .lst ds) (by rw [shp_lst]; exact s2)
    simpa only [Dat.py] using this
  · rw [e]
    exact q _ _ _ (t1.trans t2) c2 (.bl _)
/-! arguments, displays -/
theorem ea_nil : EvA K tNil ρ [] ρ := fun _ G H _ c Q q => q [] G H (Same.refl G) c .nil
theorem ea_d {t : TA} {as : List Ag} (ha : Ev K te ρ d ρ1) (hb : EvA K t ρ1 as ρ2) : EvA K (tCons te t) ρ (.d d :: as) ρ2 := fun Z G H σ c Q q => by
  refine ha Z G H σ c _ fun x G1 H1 s1 c1 r1 => ?_
  exact hb Z G1 H1 σ c1 _ fun vs G2 H2 s2 c2 r2 => q _ _ _ (s1.trans s2) c2 (.cons (r1.to s2) r2)
theorem ea_s {t : TA} {as : List Ag} (h : ∃ s, ρ[i]? = some s ∧ s.isOwn = true := by exact ⟨_, rfl, rfl⟩) (hb : EvA K t ρ as ρ2) : EvA K (tCons (tVar i) t) ρ (.s i :: as) ρ2 := fun Z G H σ c Q q => by
  refine el_s h Z G H σ c _ fun x G1 H1 s1 c1 r1 => ?_
  exact hb Z G1 H1 σ c1 _ fun vs G2 H2 s2 c2 r2 => q _ _ _ (s1.trans s2) c2 (.cons r1 r2)
theorem rp_args : ∀ {ds : List Dat} {vs : List V}, Paired (AgAt K G σ) vs (ds.map Ag.d) → RpAll K G vs ds
  | [], _, h => by cases h; exact .nil
  | d :: ds, _, h => by cases h with | cons a b => exact .cons a (rp_args b)
/-- fresh lists are data -/
theorem ev_of_fresh (h : EvF K te ρ ds ρ') : Ev K te ρ (.lst ds) ρ' := fun Z G H σ c Q q => by
  refine h Z G H σ c _ fun p xs G1 H1 s1 c1 g1 h1 r1 z no => ?_
  obtain ⟨c2, s2⟩ := c1.adopt h1 z.1 z.2 no g1
  exact q _ _ _ (s1.trans s2) c2 (.lst upd_same (r1.to s2))
/-- a rule that lays a new list -/
theorem fresh_of (c : Ct K Z G H σ ρ) {p : Addr} {xs : List V} (hp : H p = none) : Ct K Z G (upd H p (.lst xs)) σ ρ ∧ G p = none ∧ (Z.H0 p = none ∧ Z.Kp p = none) ∧ (∀ i, ¬ Hd σ ρ i p) :=
  ⟨c.grow hp, c.freshG hp, ⟨c.fresh0 hp, c.freshK hp⟩, fun i hi => by
    obtain ⟨e, s, h, ho⟩ := hi
    obtain ⟨q, xs, ds, e2, g, hq, _⟩ := c.ow h ho
    rw [e] at e2
    cases e2
    rw [hp] at hq
    cases hq⟩
theorem sz_ok {n : Nat} (h : n ≤ 100000) : n ≤ sizeLine := Nat.le_trans h (by decide)
theorem ef_lst {t : TA} (h : EvA K t ρ (ds.map Ag.d) ρ1) (hl : ds.length ≤ 100000) : EvF K (tLst t) ρ ds ρ1 := fun Z G H σ c Q q => by
  refine h Z G H σ c _ fun vs G1 H1 s1 c1 r1 => ?_
  have r := rp_args r1
  refine ⟨by rw [r.length]; exact sz_ok hl, fun p hp => ?_⟩
  obtain ⟨a, b, z, no⟩ := fresh_of c1 (xs := vs) hp
  exact q p vs G1 _ s1 a b upd_same r z no
theorem ev_lst {t : TA} (h : EvA K t ρ (ds.map Ag.d) ρ1) (hl : ds.length ≤ 100000) : Ev K (tLst t) ρ (.lst ds) ρ1 := ev_of_fresh (ef_lst h hl)
theorem ev_tup {t : TA} (h : EvA K t ρ (ds.map Ag.d) ρ1) (hl : ds.length ≤ 100000) : Ev K (tTup t) ρ (.tup ds) ρ1 := fun Z G H σ c Q q => by
  refine h Z G H σ c _ fun vs G1 H1 s1 c1 r1 => ?_
  have r := rp_args r1
  refine ⟨by rw [r.length]; exact sz_ok hl, fun p hp => ?_⟩
  obtain ⟨c2, s2⟩ := c1.grown (o := .tup vs) hp
  exact q _ _ _ (s1.trans s2) c2 (.tup upd_same (r.to s2))
/-! lists: +, *, items, slices, len, list(..) -/
theorem ef_cat {a b : Ag} (ha : EvL K ta ρ a ρ1) (hb : EvL K tb ρ1 b ρ2) (la : lookS ρ2 a = some ds) (lb : lookS ρ2 b = some es) (hl : ds.length + es.length ≤ 100000) : EvF K (tOp rCat ta tb) ρ (ds ++ es) ρ2 := fun Z G H σ c Q q => by
  refine ha Z G H σ c _ fun x G1 H1 s1 c1 r1 => ?_
  refine hb Z G1 H1 σ c1 _ fun y G2 H2 s2 c2 r2 => ?_
  obtain ⟨p, xs, rfl, hp, rx⟩ := c2.readS (r1.to s2) la
  obtain ⟨p', ys, rfl, hp', ry⟩ := c2.readS r2 lb
  refine ⟨p, p', xs, ys, rfl, rfl, hp, hp', by rw [rx.length, ry.length]; exact sz_ok hl, fun n hn => ?_⟩
  obtain ⟨a, b, z, no⟩ := fresh_of c2 (xs := xs ++ ys) hn
  exact q n _ G2 _ (s1.trans s2) a b upd_same (rx.app ry) z no
theorem ev_cat {a b : Ag} (ha : EvL K ta ρ a ρ1) (hb : EvL K tb ρ1 b ρ2) (la : lookS ρ2 a = some ds) (lb : lookS ρ2 b = some es) (hl : ds.length + es.length ≤ 100000) : Ev K (tOp rCat ta tb) ρ (.lst (ds ++ es)) ρ2 := ev_of_fresh (ef_cat ha hb la lb hl)
theorem ev_ixL {a : Ag} {j : Int} (ha : EvL K ta ρ a ρ1) (hb : Ev K tb ρ1 (.int j) ρ2) (l : look ρ2 a = some ds) (hj : atI ds j = some d) : Ev K (tOp (rIxL K) ta tb) ρ d ρ2 := fun Z G H σ c Q q => by
  refine ha Z G H σ c _ fun x G1 H1 s1 c1 r1 => ?_
  refine hb Z G1 H1 σ c1 _ fun y G2 H2 s2 c2 r2 => ?_
  obtain ⟨p, xs, rfl, hp, rx⟩ := c2.read (r1.to s2) l
  cases r2
  have e : ixN xs.length j = ixN ds.length j := by rw [rx.length]
  unfold atI at hj
  rw [← e] at hj
  obtain ⟨k, hk, hd⟩ := Option.bind_eq_some_iff.mp hj
  obtain ⟨v, hv, rv⟩ := rx.get hd
  exact ⟨p, xs, j, v, rfl, rfl, hp, by unfold atI; rw [hk]; exact hv, q v _ _ (s1.trans s2) c2 rv⟩
theorem ev_ixT {j : Int} (ha : Ev K ta ρ (.tup ds) ρ1) (hb : Ev K tb ρ1 (.int j) ρ2) (hj : atI ds j = some d) : Ev K (tOp (rIxT K) ta tb) ρ d ρ2 := fun Z G H σ c Q q => by
  refine ha Z G H σ c _ fun x G1 H1 s1 c1 r1 => ?_
  refine hb Z G1 H1 σ c1 _ fun y G2 H2 s2 c2 r2 => ?_
  cases r1.to s2 with
  | @tup p xs _ hp rx =>
    cases r2
    have e : ixN xs.length j = ixN ds.length j := by rw [rx.length]
    unfold atI at hj
    rw [← e] at hj
    obtain ⟨k, hk, hd⟩ := Option.bind_eq_some_iff.mp hj
    obtain ⟨v, hv, rv⟩ := rx.get hd
    exact ⟨p, xs, j, v, rfl, rfl, .inl (.inl (c2.gh _ _ hp)), by unfold atI; rw [hk]; exact hv, q v _ _ (s1.trans s2) c2 rv⟩
theorem ev_ixS {j : Int} {z : Str} {k : Nat} (ha : Ev K ta ρ (.str z) ρ1) (hb : Ev K tb ρ1 (.int j) ρ2) (hz : z.length ≤ 100000) (hj : atI z.cps.toList j = some k) : Ev K (tOp rIxS ta tb) ρ (.str ⟨#[k]⟩) ρ2 := fun Z G H σ c Q q => by
  refine ha Z G H σ c _ fun x G1 H1 s1 c1 r1 => ?_
  refine hb Z G1 H1 σ c1 _ fun y G2 H2 s2 c2 r2 => ?_
  cases r1; cases r2
  exact ⟨z, j, k, rfl, rfl, sz_ok hz, hj, q _ _ _ (s1.trans s2) c2 (.str _)⟩
theorem eo_no : EvO K tNoPart ρ none ρ := fun _ G H _ c Q q => q G H (Same.refl G) c
theorem eo_some {j : Int} (h : Ev K te ρ (.int j) ρ1) : EvO K (tPart te) ρ (some j) ρ1 := fun Z G H σ c Q q => by
  refine h Z G H σ c _ fun x G1 H1 s1 c1 r1 => ?_
  cases r1
  exact ⟨j, rfl, q _ _ s1 c1⟩
def cutD (xs : List Dat) (lo hi : Option Int) : List Dat := (xs.drop (HT.sIx xs.length 0 lo)).take (HT.sIx xs.length xs.length hi - HT.sIx xs.length 0 lo)
theorem rp_cut {xs : List V} (r : RpAll K G xs ds) (lo hi : Option Int) : RpAll K G (cutV xs lo hi) (cutD ds lo hi) := by
  unfold cutV cutD
  rw [r.length]
  exact RpAll.takeR _ (RpAll.dropR _ r)
theorem ef_slL {a : Ag} {tl th : TO} {lo hi : Option Int} (ha : EvL K ta ρ a ρ1) (hl : EvO K tl ρ1 lo ρ2) (hh : EvO K th ρ2 hi ρ3) (l : look ρ3 a = some ds) : EvF K (tSl (rSlL K) ta tl th) ρ (cutD ds lo hi) ρ3 := fun Z G H σ c Q q => by
  refine ha Z G H σ c _ fun x G1 H1 s1 c1 r1 => ?_
  refine hl Z G1 H1 σ c1 _ fun G2 H2 s2 c2 => ?_
  refine hh Z G2 H2 σ c2 _ fun G3 H3 s3 c3 => ?_
  obtain ⟨p, xs, rfl, hp, rx⟩ := c3.read (r1.to (s2.trans s3)) l
  refine ⟨p, xs, rfl, hp, fun n hn => ?_⟩
  obtain ⟨a, b, z, no⟩ := fresh_of c3 (xs := cutV xs lo hi) hn
  exact q n _ G3 _ ((s1.trans s2).trans s3) a b upd_same (rp_cut rx lo hi) z no
theorem ev_slL {a : Ag} {tl th : TO} {lo hi : Option Int} (ha : EvL K ta ρ a ρ1) (hl : EvO K tl ρ1 lo ρ2) (hh : EvO K th ρ2 hi ρ3) (l : look ρ3 a = some ds) : Ev K (tSl (rSlL K) ta tl th) ρ (.lst (cutD ds lo hi)) ρ3 := ev_of_fresh (ef_slL ha hl hh l)
theorem ev_slS {tl th : TO} {lo hi : Option Int} {z : Str} (ha : Ev K ta ρ (.str z) ρ1) (hl : EvO K tl ρ1 lo ρ2) (hh : EvO K th ρ2 hi ρ3) (hz : z.length ≤ 100000) : Ev K (tSl rSlS ta tl th) ρ (.str (cutS z lo hi)) ρ3 := fun Z G H σ c Q q => by
  refine ha Z G H σ c _ fun x G1 H1 s1 c1 r1 => ?_
  refine hl Z G1 H1 σ c1 _ fun G2 H2 s2 c2 => ?_
  refine hh Z G2 H2 σ c2 _ fun G3 H3 s3 c3 => ?_
  cases r1
  exact ⟨z, rfl, sz_ok hz, q _ _ _ ((s1.trans s2).trans s3) c3 (.str _)⟩

theorem el_get {a : Ag} (h : EvL K te ρ a ρ') (c : Ct K Z G H σ ρ) {Q : VK} (q : ∀ (v : V) (G' H' : Hp), Same G G' → Ct K Z G' H' σ ρ' → AgAt K G' σ v a → Q v H') : te σ H Q := h Z G H σ c Q q
/-- one argument that is a list to be read -/
theorem one_L {a : Ag} (h : EvL K te ρ a ρ') (c : Ct K Z G H σ ρ) {Q : List V → Hp → Prop} (q : ∀ (v : V) (G' H' : Hp), Same G G' → Ct K Z G' H' σ ρ' → AgAt K G' σ v a → Q [v] H') : tCons te tNil σ H Q :=
  h Z G H σ c _ fun v G' H' s c' r => q v G' H' s c' r
theorem ev_lenL {a : Ag} {r : List V → Hp → VK → Prop} (hr : r = fun xs H Q => ∃ p ys, xs = [.ref p] ∧ (SqL K H p ys ∨ SqT K H p ys) ∧ Q (.int ys.length) H) (ha : EvL K ta ρ a ρ1) (l : look ρ1 a = some ds) : Ev K (tCB r (tCons ta tNil)) ρ (.int ds.length) ρ1 := fun Z G H σ c Q q => by
  subst hr
  refine one_L ha c fun v G1 H1 s1 c1 r1 => ?_
  obtain ⟨p, xs, rfl, hp, rx⟩ := c1.read r1 l
  exact ⟨p, xs, rfl, .inl hp, by rw [rx.length]; exact q _ _ _ s1 c1 (.int _)⟩
theorem ev_lenT {r : List V → Hp → VK → Prop} (hr : r = fun xs H Q => ∃ p ys, xs = [.ref p] ∧ (SqL K H p ys ∨ SqT K H p ys) ∧ Q (.int ys.length) H) (ha : Ev K ta ρ (.tup ds) ρ1) : Ev K (tCB r (tCons ta tNil)) ρ (.int ds.length) ρ1 := fun Z G H σ c Q q => by
  subst hr
  refine ha Z G H σ c _ fun v G1 H1 s1 c1 r1 => ?_
  cases r1 with
  | @tup p xs _ e rx => exact ⟨p, xs, rfl, .inr (.inl (.inl (c1.gh _ _ e))), by rw [rx.length]; exact q _ _ _ s1 c1 (.int _)⟩
/-- list(xs) -/
theorem ef_list {a : Ag} {r : List V → Hp → VK → Prop} (hr : r = fun xs H Q => ∃ p ys, xs = [.ref p] ∧ (SqL K H p ys ∨ SqT K H p ys) ∧ ∀ l, H l = none → Q (.ref l) (upd H l (.lst ys))) (ha : EvL K ta ρ a ρ1) (l : look ρ1 a = some ds) : EvF K (tCB r (tCons ta tNil)) ρ ds ρ1 := fun Z G H σ c Q q => by
  subst hr
  refine one_L ha c fun v G1 H1 s1 c1 r1 => ?_
  obtain ⟨p, xs, rfl, hp, rx⟩ := c1.read r1 l
  refine ⟨p, xs, rfl, .inl hp, fun n hn => ?_⟩
  obtain ⟨a, b, z, no⟩ := fresh_of c1 (xs := xs) hn
  exact q n _ G1 _ s1 a b upd_same rx z no
theorem ev_list {a : Ag} {r : List V → Hp → VK → Prop} (hr : r = fun xs H Q => ∃ p ys, xs = [.ref p] ∧ (SqL K H p ys ∨ SqT K H p ys) ∧ ∀ l, H l = none → Q (.ref l) (upd H l (.lst ys))) (ha : EvL K ta ρ a ρ1) (l : look ρ1 a = some ds) : Ev K (tCB r (tCons ta tNil)) ρ (.lst ds) ρ1 := ev_of_fresh (ef_list hr ha l)
/-- tuple(xs), xs a list -/
theorem ev_tupleL {a : Ag} {r : List V → Hp → VK → Prop} (hr : r = fun xs H Q => ∃ p ys, xs = [.ref p] ∧ ((SqL K H p ys ∧ ∀ l, H l = none → Q (.ref l) (upd H l (.tup ys))) ∨ (SqT K H p ys ∧ Q (.ref p) H))) (ha : EvL K ta ρ a ρ1) (l : look ρ1 a = some ds) : Ev K (tCB r (tCons ta tNil)) ρ (.tup ds) ρ1 := fun Z G H σ c Q q => by
  subst hr
  refine one_L ha c fun v G1 H1 s1 c1 r1 => ?_
  obtain ⟨p, xs, rfl, hp, rx⟩ := c1.read r1 l
  refine ⟨p, xs, rfl, .inl ⟨hp, fun n hn => ?_⟩⟩
  obtain ⟨c2, s2⟩ := c1.grown (o := .tup xs) hn
  exact q _ _ _ (s1.trans s2) c2 (.tup upd_same (rx.to s2))
/-- xs * n -/
def rep (ds : List Dat) (n : Nat) : List Dat := (List.replicate n ds).flatten
theorem rp_rep {xs : List V} (r : RpAll K G xs ds) : ∀ n : Nat, RpAll K G (List.replicate n xs).flatten (rep ds n)
  | 0 => .nil
  | n + 1 => by
    unfold rep
    rw [List.replicate_succ, List.replicate_succ, List.flatten_cons, List.flatten_cons]
    exact r.app (rp_rep r n)
/-- what a value's class is called -/
def Dat.tyn : Dat → Option String
  | .non => some "NoneType"
  | .bl _ => some "bool"
  | .int _ => some "int"
  | .str _ => some "str"
  | .lst _ => some "list"
  | .tup _ => some "tuple"
  | .emp => some "dict"
  | _ => none
theorem tyOf_of {v : V} {T : String} (s : Same G H) (r : Rp K G v d) (h : d.tyn = some T) : TyOf K H v (.type T) := by
  cases r with
  | non => cases h; exact .non
  | bl b => cases h; exact .bl b
  | int b => cases h; exact .int b
  | str b => cases h; exact .str b
  | lst e _ => cases h; exact .lst (s _ _ e)
  | tup e _ => cases h; exact .tup (s _ _ e)
  | emp e => cases h; exact .dK (s _ _ e)
  | _ => cases h
/-- isinstance(x, T), T a built-in type -/
theorem ev_isi {T : String} {n : String} {b : Bool} (ha : Ev K ta ρ d ρ1) (h : d.tyn = some T) (hk : kitB T n = some b) : Ev K (tCB (rIsi K) (tCons ta (tCons (tC (.ty n)) tNil))) ρ (.bl b) ρ1 := fun Z G H σ c Q q => by
  refine ha Z G H σ c _ fun v G1 H1 s1 c1 r1 => ?_
  exact ⟨v, .ty n, _, _, b, rfl, .ty n, .base (tyOf_of c1.gh r1 h), kit_ty hk, q _ _ _ s1 c1 (.bl b)⟩
/-- int(True), int(False) -/
theorem ev_intB {r : List V → Hp → VK → Prop} (hr : r = fun xs H Q => (∃ i, xs = [.int i] ∧ Q (.int i) H) ∨ ∃ k, xs = [.bl k] ∧ Q (.int (if k then 1 else 0)) H) (ha : Ev K ta ρ (.bl b) ρ1) : Ev K (tCB r (tCons ta tNil)) ρ (.int (if b then 1 else 0)) ρ1 := fun Z G H σ c Q q => by
  subst hr
  refine ha Z G H σ c _ fun v G1 H1 s1 c1 r1 => ?_
  cases r1
  exact .inr ⟨b, rfl, q _ _ _ s1 c1 (.int _)⟩
/-- all([..]) of truths -/
theorem ev_all {bs : List Bool} {a : Ag} (ha : EvL K ta ρ a ρ1) (l : look ρ1 a = some (bs.map Dat.bl)) : Ev K (tCB (rAll K) (tCons ta tNil)) ρ (.bl (bs.all id)) ρ1 := fun Z G H σ c Q q => by
  refine one_L ha c fun v G1 H1 s1 c1 r1 => ?_
  obtain ⟨p, xs, rfl, hp, rx⟩ := c1.read r1 l
  have e := rx.blsEq
  subst e
  exact ⟨p, bs, rfl, hp, q _ _ _ s1 c1 (.bl _)⟩
theorem ev_any {bs : List Bool} {a : Ag} (ha : EvL K ta ρ a ρ1) (l : look ρ1 a = some (bs.map Dat.bl)) : Ev K (tCB (rAny K) (tCons ta tNil)) ρ (.bl (bs.any id)) ρ1 := fun Z G H σ c Q q => by
  refine one_L ha c fun v G1 H1 s1 c1 r1 => ?_
  obtain ⟨p, xs, rfl, hp, rx⟩ := c1.read r1 l
  have e := rx.blsEq
  subst e
  exact ⟨p, bs, rfl, hp, q _ _ _ s1 c1 (.bl _)⟩
/-- x + y of texts -/
theorem ev_cats {r : R2} {x y : Str} (hr : r = fun x y H Q => ∃ i j, x = .str i ∧ y = .str j ∧ i.length + j.length ≤ sizeLine ∧ Q (.str (i ++ j)) H) (ha : Ev K ta ρ (.str x) ρ1) (hb : Ev K tb ρ1 (.str y) ρ2) (hl : x.length + y.length ≤ 100000) : Ev K (tOp r ta tb) ρ (.str (x ++ y)) ρ2 := by
  subst hr
  exact ev_op ha hb (rv_pure fun G H u v s ru rv => by
    cases ru; cases rv
    exact ⟨_, .str _, fun Q q => ⟨x, y, rfl, rfl, sz_ok hl, q⟩⟩)
/-- x <= y of texts -/
theorem rv_leS {x y : Str} {r : R2} (hr : r = fun x y H Q => ∃ i j, x = .str i ∧ y = .str j ∧ Q (.bl (!decide (j.cps.toList < i.cps.toList))) H) : RV K r ρ (.str x) (.str y) (.bl (!decide (y.cps.toList < x.cps.toList))) := by
  subst hr
  exact rv_pure fun G H u v s ru rv => by
    cases ru; cases rv
    exact ⟨_, .bl _, fun Q q => ⟨x, y, rfl, rfl, q⟩⟩
/-- a op1 b op2 c -/
theorem ev_chain {r r' : R2} {k k' : Bool} (ha : Ev K ta ρ d1 ρ) (hb : Ev K tb ρ d2 ρ) (hr : RV K r ρ d1 d2 (.bl k)) (hc : k = true → Ev K tc ρ d3 ρ) (hr' : k = true → RV K r' ρ d2 d3 (.bl k')) : Ev K (tChain r r' ta tb tc) ρ (.bl (k && k')) ρ := fun Z G H σ c Q q => by
  refine ha Z G H σ c _ fun x G1 H1 s1 c1 r1 => ?_
  refine hb Z G1 H1 σ c1 _ fun y G2 H2 s2 c2 r2 => ?_
  refine hr Z G2 H2 σ c2 x y (r1.to s2) r2 _ fun z G3 H3 s3 c3 r3 => ?_
  cases r3
  refine ⟨k, rfl, ?_⟩
  cases k with
  | false => exact iteF (q _ _ _ ((s1.trans s2).trans s3) c3 (.bl _))
  | true =>
    refine iteT ?_
    refine hc rfl Z G3 H3 σ c3 _ fun w G4 H4 s4 c4 r4 => ?_
    exact hr' rfl Z G4 H4 σ c4 y w (r2.to (s3.trans s4)) r4 Q fun v G5 H5 s5 => q v G5 H5 ((((s1.trans s2).trans s3).trans s4).trans s5)
/-! tests -/
theorem et_test (h : Ev K te ρ (.bl b) ρ') : EvT K (tTest te) ρ b ρ' := fun Z G H σ c Q q => by
  refine h Z G H σ c _ fun v G1 H1 s1 c1 r1 => ?_
  cases r1
  exact ⟨b, rfl, q _ _ s1 c1⟩
theorem et_B (h : Ev K te ρ (.bl b) ρ') : EvT K (tB te) ρ b ρ' := fun Z G H σ c Q q => by
  refine h Z G H σ c _ fun v G1 H1 s1 c1 r1 => ?_
  cases r1
  exact ⟨b, rfl, q _ _ s1 c1⟩
theorem et_not (h : EvT K tt ρ b ρ') : EvT K (tNot tt) ρ (!b) ρ' := fun Z G H σ c Q q => h Z G H σ c _ fun G1 H1 s1 c1 => q _ _ s1 c1
theorem et_and {a : Bool} (h : EvT K tt ρ a ρ) (k : a = true → EvT K tu ρ b ρ) : EvT K (tAnd tt tu) ρ (a && b) ρ := fun Z G H σ c Q q => by
  refine h Z G H σ c _ fun G1 H1 s1 c1 => ?_
  cases a with
  | false => exact iteF (q _ _ s1 c1)
  | true => exact iteT (k rfl Z G1 H1 σ c1 Q fun G2 H2 s2 c2 => q _ _ (s1.trans s2) c2)
theorem et_or {a : Bool} (h : EvT K tt ρ a ρ) (k : a = false → EvT K tu ρ b ρ) : EvT K (tOr tt tu) ρ (a || b) ρ := fun Z G H σ c Q q => by
  refine h Z G H σ c _ fun G1 H1 s1 c1 => ?_
  cases a with
  | true => exact iteT (q _ _ s1 c1)
  | false => exact iteF (k rfl Z G1 H1 σ c1 Q fun G2 H2 s2 c2 => q _ _ (s1.trans s2) c2)
theorem ev_and {a : Bool} (h : Ev K ta ρ (.bl a) ρ) (k : a = true → Ev K tb ρ (.bl b) ρ) : Ev K (tAndV ta tb) ρ (.bl (a && b)) ρ := fun Z G H σ c Q q => by
  refine h Z G H σ c _ fun v G1 H1 s1 c1 r1 => ?_
  cases r1
  refine ⟨a, rfl, ?_⟩
  cases a with
  | false => exact iteF (q _ _ _ s1 c1 (.bl _))
  | true => exact iteT (k rfl Z G1 H1 σ c1 Q fun v G2 H2 s2 c2 => q _ _ _ (s1.trans s2) c2)
theorem ev_or {a : Bool} (h : Ev K ta ρ (.bl a) ρ) (k : a = false → Ev K tb ρ (.bl b) ρ) : Ev K (tOrV ta tb) ρ (.bl (a || b)) ρ := fun Z G H σ c Q q => by
  refine h Z G H σ c _ fun v G1 H1 s1 c1 r1 => ?_
  cases r1
  refine ⟨a, rfl, ?_⟩
  cases a with
  | true => exact iteT (q _ _ _ s1 c1 (.bl _))
  | false => exact iteF (k rfl Z G1 H1 σ c1 Q fun v G2 H2 s2 c2 => q _ _ _ (s1.trans s2) c2)
theorem ev_not (h : Ev K ta ρ (.bl b) ρ') : Ev K (tNotV ta) ρ (.bl (!b)) ρ' := fun Z G H σ c Q q => by
  refine h Z G H σ c _ fun v G1 H1 s1 c1 r1 => ?_
  cases r1
  exact ⟨b, rfl, q _ _ _ s1 c1 (.bl _)⟩
theorem ev_if {a : Bool} (h : EvT K tt ρ a ρ1) (k1 : a = true → Ev K ta ρ1 d ρ2) (k2 : a = false → Ev K tb ρ1 d ρ2) : Ev K (tIf tt ta tb) ρ d ρ2 := fun Z G H σ c Q q => by
  refine h Z G H σ c _ fun G1 H1 s1 c1 => ?_
  cases a with
  | true => exact iteT (k1 rfl Z G1 H1 σ c1 Q fun v G2 H2 s2 => q v G2 H2 (s1.trans s2))
  | false => exact iteF (k2 rfl Z G1 H1 σ c1 Q fun v G2 H2 s2 => q v G2 H2 (s1.trans s2))
theorem Ev.to {d' : Dat} (h : Ev K te ρ d ρ') (e : d = d') : Ev K te ρ d' ρ' := e ▸ h
theorem EvT.to {b' : Bool} (h : EvT K tt ρ b ρ') (e : b = b') : EvT K tt ρ b' ρ' := e ▸ h
end

/-! ### promises -/
section
variable {K : PySem.W.Frag}
/-- a def's promise: of arguments as it hands back d and leaves the changed lists as' -/
def spG (K : PySem.W.Frag) (R : List Sl → Dat → List Sl → Prop) : Sp := fun vs H Q _ => ∃ (G : Hp) (O : List Addr) (as : List Sl) (d : Dat) (as' : List Sl), R as d as' ∧ Ct K ⟨G, H, O, fun _ => none⟩ G H (vs.map some) as ∧
  ∀ (v : V) (G' H' : Hp), Ct K ⟨G, H, O, fun _ => none⟩ G' H' (vs.map some) as' → Rp K G' v d → Q v H'
theorem spG_len {R : List Sl → Dat → List Sl → Prop} {n : Nat} (h : ∀ as d as', R as d as' → as.length = n) : ∀ vs H Q E, spG K R vs H Q E → vs.length = n := by
  rintro vs H Q E ⟨G, O, as, d, as', r, c, _⟩
  have := c.len
  rw [List.length_map] at this
  rw [this, h _ _ _ r]
variable {Z : Zs} {G G' H H' : Hp} {σ : L2.St} {ρ ρ' ρ1 ρ2 ρ3 : List Sl}
theorem noHd {ds : List Dat} {vs : List V} {i : Nat} {p : Addr} (h : Hd (vs.map some) (ds.map Sl.dat) i p) : False := by
  obtain ⟨_, s, e, o⟩ := h
  rw [List.getElem?_map] at e
  cases q : ds[i]? with
  | none => rw [q] at e; cases e
  | some d => rw [q] at e; cases e; cases o
/-- the state in which a callee starts, its arguments data alone -/
theorem start_all (gh : Same G H) {vs : List V} {ds : List Dat} (r : RpAll K G vs ds) : Ct K ⟨G, H, [], fun _ => none⟩ G H (vs.map some) (ds.map Sl.dat) where
  len := by rw [List.length_map, List.length_map, r.length]
  gg := Same.refl G
  gh := gh
  hh := fun _ _ e _ => e
  ge := fun _ n => n
  fr := fun _ _ n => n
  sl := fun i s e _ => by
    rw [List.getElem?_map] at e
    cases q : ds[i]? with
    | none => rw [q] at e; cases e
    | some d =>
      rw [q] at e
      have e : Sl.dat d = s := Option.some.inj e
      subst e
      obtain ⟨v, h1, h2⟩ := r.get q
      exact ⟨v, by rw [List.getElem?_map, h1]; rfl, h2⟩
  ds := fun i j p a _ => (noHd a).elim
  kp := fun _ _ e => by cases e
  kg := fun _ n => absurd rfl n
  kn := fun _ _ _ => rfl
/-- behind a call whose arguments were data alone -/
theorem Ct.after0 {vs : List V} {as' : List Sl} (c : Ct K Z G H σ ρ) (k : Ct K ⟨G, H, [], fun _ => none⟩ G' H' (vs.map some) as') : Same G G' ∧ Ct K Z G' H' σ ρ := by
  refine ⟨k.gg, c.len, fun b o e => k.gg b o (c.gg b o e), k.gh, fun b o e n => k.hh b o (c.hh b o e n) (by simp), fun b n => k.ge b (c.ge b n), fun b n z => k.fr b (c.ge b n) (c.fr b n z), fun i s e n => ?_, c.ds, fun b o e => k.hh b o (c.kp b o e) (by simp), fun b n => k.fr b (by
    cases q : Z.Kp b with
    | none => exact absurd q n
    | some o => show H b ≠ none; rw [c.kp b o q]; intro w; cases w) (c.kg b n), c.kn⟩
  obtain ⟨v, e1, w⟩ := c.sl i s e n
  refine ⟨v, e1, w.mono k.gg fun p xs _ _ g h => ⟨k.fr p (by show H p ≠ none; rw [h]; intro q; cases q) g, k.hh p _ h (by simp)⟩⟩
variable {ta : TA} {te : TE} {d : Dat} {ds : List Dat}
/-- f(..), all arguments data -/
theorem ev_call {R : List Sl → Dat → List Sl → Prop} {E : XK} {as' : List Sl} (ha : EvA K ta ρ (ds.map Ag.d) ρ1) (hR : R (ds.map Sl.dat) d as') : Ev K (tCall (spG K R) [] E ta) ρ d ρ1 := fun Z G H σ c Q q => by
  refine ha Z G H σ c _ fun vs G1 H1 s1 c1 r1 => ?_
  rw [List.append_nil]
  have r := rp_args r1
  refine ⟨G1, [], _, d, as', hR, start_all c1.gh r, fun v G2 H2 c2 r2 => ?_⟩
  obtain ⟨s2, c3⟩ := c1.after0 c2
  exact q v G2 H2 (s1.trans s2) c3 r2
/-- arguments with one list that is to be changed -/
def toSl (es : List Dat) : Ag → Sl
  | .d d => .dat d
  | .s _ => .par 0 es
def oneS (i : Nat) : List Ag → Prop
  | [] => False
  | .d _ :: r => oneS i r
  | .s j :: r => j = i ∧ r.all (fun a => match a with | .d _ => true | .s _ => false) = true
theorem one_has {i : Nat} : ∀ {as : List Ag} {es : List Dat} {vs : List V}, oneS i as → Paired (AgAt K G σ) vs as → ∃ k p, vs[k]? = some p ∧ σ[i]? = some (some p) ∧ (as.map (toSl es))[k]? = some (.par 0 es) ∧ ∀ (j : Nat) (s : Sl), (as.map (toSl es))[j]? = some s → s.isOwn = true → j = k
  | [], _, _, h, _ => h.elim
  | .d d :: r, es, vs, h, pr => by
    cases pr with
    | @cons v _ vs' _ a b =>
      obtain ⟨k, p, h1, h2, h3, h4⟩ := one_has (es := es) (show oneS i r from h) b
      refine ⟨k + 1, p, by simpa using h1, h2, by simpa using h3, fun j s e o => ?_⟩
      cases j with
      | zero =>
        have e : Sl.dat d = s := by simpa [toSl] using e
        subst e; cases o
      | succ j => rw [h4 j s (by simpa using e) o]
  | .s j :: r, es, vs, h, pr => by
    obtain ⟨rfl, al⟩ := h
    cases pr with
    | @cons v _ vs' _ a b =>
      refine ⟨0, v, rfl, a, rfl, fun k s e o => ?_⟩
      cases k with
      | zero => rfl
      | succ k =>
        exfalso
        rw [List.getElem?_map, List.getElem?_cons_succ] at e
        cases q : r[k]? with
        | none => rw [q] at e; cases e
        | some x =>
          rw [q] at e
          have hx := List.all_eq_true.mp al x (List.mem_of_getElem? q)
          cases x with
          | d d =>
            have e : Sl.dat d = s := by simpa [toSl] using e
            subst e; cases o
          | s _ => cases hx
theorem start_one (c : Ct K Z G H σ ρ) {i : Nat} {as : List Ag} {es : List Dat} {vs : List V} (o : oneS i as) (r : Paired (AgAt K G σ) vs as) (l : slItems ρ[i]? = some es) :
    ∃ p, σ[i]? = some (some (.ref p)) ∧ Ct K ⟨G, H, [p], fun _ => none⟩ G H (vs.map some) (as.map (toSl es)) ∧ ∃ k : Nat, vs[k]? = some (V.ref p) ∧ (as.map (toSl es))[k]? = some (.par 0 es) := by
  obtain ⟨k, u, h1, h2, h3, h4⟩ := one_has (es := es) o r
  obtain ⟨p, xs, rfl, hp, rx⟩ := c.slot h2 l
  have gp : G p = none := by
    cases q : ρ[i]? with
    | none => rw [q] at l; cases l
    | some t =>
      have ot : t.isOwn = true := by
        rw [q] at l
        cases t <;> first | rfl | cases l
      obtain ⟨p', xs', ds', e, g, _⟩ := c.ow q ot
      rw [h2] at e
      cases e
      exact g
  have len : vs.length = as.length := Paired.length r
  refine ⟨p, h2, ⟨by simp [len], Same.refl G, c.gh, fun _ _ e _ => e, fun _ n => n, fun _ _ n => n, fun j s e n => ?_, fun j j' q a b => ?_, fun _ _ e => (by cases e), fun _ n => absurd rfl n, fun _ _ _ => rfl⟩, k, h1, h3⟩
  · have hj : j < as.length := by
      have := (List.getElem?_eq_some_iff.mp e).1
      simpa using this
    have hv : j < vs.length := by rw [len]; exact hj
    refine ⟨vs[j], by rw [List.getElem?_map, List.getElem?_eq_getElem hv]; rfl, ?_⟩
    have pj : AgAt K G σ vs[j] as[j] := by
      clear h1 h2 h3 h4 o e
      induction r generalizing j with
      | nil => cases hj
      | cons a b ih =>
        cases j with
        | zero => exact a
        | succ j => exact ih (by simpa using len) j (by simpa using hj) (by simpa using hv)
    rw [List.getElem?_map, List.getElem?_eq_getElem hj] at e
    have e : toSl es as[j] = s := by simpa using e
    cases q : as[j] with
    | d d => rw [q] at e pj; rw [← e]; exact pj
    | s i' =>
      rw [q] at e
      have jk : j = k := h4 j s (by rw [List.getElem?_map, List.getElem?_eq_getElem hj]; simpa using (show toSl es as[j] = s by rw [q]; exact e)) (by rw [← e]; rfl)
      have ev : vs[j] = V.ref p := by
        subst jk
        rw [List.getElem?_eq_getElem hv] at h1
        exact Option.some.inj h1
      rw [← e]
      exact ⟨p, xs, ev, rfl, gp, hp, rx⟩
  · obtain ⟨_, s, e, os⟩ := a
    obtain ⟨_, s', e', os'⟩ := b
    rw [h4 _ _ e os, h4 _ _ e' os']
/-- f(.., xs, ..), the list of slot i to be changed -/
theorem ev_call1 {R : List Sl → Dat → List Sl → Prop} {E : XK} {as' : List Sl} {as : List Ag} {i k : Nat} {es es' : List Dat} {s : Sl} (ha : EvA K ta ρ as ρ1) (o : oneS i as) (l : slItems ρ1[i]? = some es) (hR : R (as.map (toSl es)) d as')
    (hk : (as.map (toSl es))[k]? = some (.par 0 es)) (hk' : as'[k]? = some (.par 0 es')) (hs : ρ1[i]? = some s) : Ev K (tCall (spG K R) [] E ta) ρ d (ρ1.set i (s.put es')) := fun Z G H σ c Q q => by
  refine ha Z G H σ c _ fun vs G1 H1 s1 c1 r1 => ?_
  rw [List.append_nil]
  obtain ⟨p, sp, c0, k', hk1, hk2⟩ := start_one c1 o r1 l
  have os : s.isOwn = true := by
    rw [hs] at l
    cases s <;> first | rfl | cases l
  refine ⟨G1, [p], _, d, as', hR, c0, fun v G2 H2 c2 r2 => ?_⟩
  obtain ⟨u, e1, p', xs, eu, z', g', h', rx⟩ := c2.sl k _ hk' rfl
  have ep : p' = p := by
    have z' : some p = some p' := z'
    cases z'
    rfl
  subst ep
  -- the caller's state behind it
  obtain ⟨p2, xs2, ds2, e2, g2, h2, rx2, zz, hd2, w⟩ := c1.ow hs os
  rw [sp] at e2
  cases e2
  have hr : i < ρ1.length := (List.getElem?_eq_some_iff.mp hs).1
  have gg : Same G1 G2 := c2.gg
  refine q v G2 H2 (s1.trans gg) ?_ r2
  refine ⟨by simp [c1.len], fun b u q => gg b u (c1.gg b u q), c2.gh, fun b u q n => ?_, fun b n => c2.ge b (c1.ge b n), fun b n z => c2.fr b (c1.ge b n) (c1.fr b n z), fun j t hj hn => ?_, fun j j' q a b => ?_, fun b u q => c2.hh b u (c1.kp b u q) (by
    have : b ≠ p' := fun t => by rw [t, c1.kn i p' hd2] at q; cases q
    simpa using this), fun b n => c2.fr b (by
    cases q : Z.Kp b with
    | none => exact absurd q n
    | some o => show H1 b ≠ none; rw [c1.kp b o q]; intro w; cases w) (c1.kg b n), fun j q a => ?_⟩
  · refine c2.hh b u (c1.hh b u q n) fun m => ?_
    have m : b = p' := by simpa using m
    rcases zz with z | z
    · rw [m, z] at q; cases q
    · exact n (by rw [m]; exact z)
  · by_cases q : i = j
    · subst q
      rw [List.getElem?_set_self hr] at hj
      cases hj
      refine ⟨_, sp, ?_⟩
      rcases w with ⟨rfl, z0⟩ | ⟨j0, rfl, z0⟩
      · exact ⟨p', xs, rfl, z0, g', h', rx⟩
      · exact ⟨p', xs, rfl, z0, g', h', rx⟩
    · rw [List.getElem?_set_ne q] at hj
      obtain ⟨u, e1, k⟩ := c1.sl j t hj hn
      refine ⟨u, e1, k.mono gg fun q' zs ev ho' gq hq => ?_⟩
      have nq : q' ≠ p' := fun t' => q (c1.ds i j p' hd2 ⟨by rw [e1, ev, t'], t, hj, ho'⟩)
      exact ⟨c2.fr q' (by show H1 q' ≠ none; rw [hq]; intro q; cases q) gq, c2.hh q' _ hq (by simpa using nq)⟩
  · have sub : ∀ (i' : Nat) (t : Sl), (ρ1.set i (s.put es'))[i']? = some t → t.isOwn = true → ∃ t', ρ1[i']? = some t' ∧ t'.isOwn = true := fun i' t q o => by
      by_cases w : i = i'
      · subst w; exact ⟨s, hs, os⟩
      · rw [List.getElem?_set_ne w] at q; exact ⟨t, q, o⟩
    exact c1.ds j j' q (hd_sub sub a) (hd_sub sub b)
  · have sub : ∀ (i' : Nat) (t : Sl), (ρ1.set i (s.put es'))[i']? = some t → t.isOwn = true → ∃ t', ρ1[i']? = some t' ∧ t'.isOwn = true := fun i' t q o => by
      by_cases w : i = i'
      · subst w; exact ⟨s, hs, os⟩
      · rw [List.getElem?_set_ne w] at q; exact ⟨t, q, o⟩
    exact c1.kn j q (hd_sub sub a)
end

/-! ### statements -/
inductive Out where
  | nx (ρ : List Sl) | rt (d : Dat) (ρ : List Sl) | bk (ρ : List Sl) | ct (ρ : List Sl)
section
variable (K : PySem.W.Frag)
def OutOk (Z : Zs) (G : Hp) (D : Ends) : Out → Prop
  | .nx ρ => ∀ (σ' : L2.St) (G' H' : Hp), Same G G' → Ct K Z G' H' σ' ρ → D.nx σ' H'
  | .rt d ρ => ∀ (σ' : L2.St) (v : V) (G' H' : Hp), Same G G' → Ct K Z G' H' σ' ρ → Rp K G' v d → D.rt v H'
  | .bk ρ => ∀ (σ' : L2.St) (G' H' : Hp), Same G G' → Ct K Z G' H' σ' ρ → D.bk σ' H'
  | .ct ρ => ∀ (σ' : L2.St) (G' H' : Hp), Same G G' → Ct K Z G' H' σ' ρ → D.ct σ' H'
def Ex (t : TS) (ρ : List Sl) (o : Out) : Prop := ∀ (Z : Zs) (G H : Hp) (σ : L2.St), Ct K Z G H σ ρ → ∀ D : Ends, OutOk K Z G D o → t D σ H
end
section
variable {K : PySem.W.Frag} {Z : Zs} {G G' H H' : Hp} {σ : L2.St} {ρ ρ' ρ1 ρ2 ρ3 : List Sl} {te ta tb tc : TE} {tt tu : TT} {t u tbd : TS} {d d1 d2 d3 : Dat} {ds es : List Dat} {b : Bool} {i : Nat} {o : Out}
theorem OutOk.to {D : Ends} (s : Same G G') (h : OutOk K Z G D o) : OutOk K Z G' D o := by
  cases o with
  | nx ρ => exact fun σ' G2 H2 s2 => h σ' G2 H2 (s.trans s2)
  | rt d ρ => exact fun σ' v G2 H2 s2 => h σ' v G2 H2 (s.trans s2)
  | bk ρ => exact fun σ' G2 H2 s2 => h σ' G2 H2 (s.trans s2)
  | ct ρ => exact fun σ' G2 H2 s2 => h σ' G2 H2 (s.trans s2)
def Out.isNx : Out → Bool
  | .nx _ => true
  | _ => false
theorem ex_next : Ex K tNext ρ (.nx ρ) := fun _ G H σ c _ k => k σ G H (Same.refl G) c
theorem ex_brk : Ex K tBreak ρ (.bk ρ) := fun _ G H σ c _ k => k σ G H (Same.refl G) c
theorem ex_cont : Ex K tCont ρ (.ct ρ) := fun _ G H σ c _ k => k σ G H (Same.refl G) c
theorem ex_seq (h : Ex K t ρ (.nx ρ1)) (k : Ex K u ρ1 o) : Ex K (tSeq t u) ρ o := fun Z G H σ c D q => by
  refine h Z G H σ c { D with nx := u D } fun σ' G' H' s c' => ?_
  exact k Z G' H' σ' c' D (q.to s)
/-- what leaves the first statement leaves the block -/
theorem ex_out (h : Ex K t ρ o) (no : o.isNx = false) : Ex K (tSeq t u) ρ o := fun Z G H σ c D q => by
  refine h Z G H σ c { D with nx := u D } ?_
  cases o with
  | nx _ => cases no
  | rt d ρ => exact q
  | bk ρ => exact q
  | ct ρ => exact q
theorem ex_ret (h : Ev K te ρ d ρ1) : Ex K (tRet te) ρ (.rt d ρ1) := fun Z G H σ c D q => h Z G H σ c _ fun v G' H' s c' r => q σ v G' H' s c' r
theorem ex_retN : Ex K tRetN ρ (.rt .non ρ) := fun Z G H σ c D q => q σ .non G H (Same.refl G) c .non
theorem ex_set (h : Ev K te ρ d ρ1) (hi : ρ1[i]?.isSome = true := by rfl) : Ex K (tAsg te (gName i)) ρ (.nx (ρ1.set i (.dat d))) := fun Z G H σ c D q => by
  refine h Z G H σ c _ fun v G' H' s c' r => ?_
  exact q _ G' H' s (c'.setD hi r)
/-- a new list that the slot alone holds -/
theorem ex_setF (h : EvF K te ρ ds ρ1) (hi : ρ1[i]?.isSome = true := by rfl) : Ex K (tAsg te (gName i)) ρ (.nx (ρ1.set i (.own ds))) := fun Z G H σ c D q => by
  refine h Z G H σ c _ fun p xs G' H' s c' g hp r z no => ?_
  exact q _ G' H' s (c'.setS hi ⟨p, xs, rfl, z.1, g, hp, r⟩ (fun p' j _ e hd => by cases e; exact no j hd) fun p' _ e => by cases e; exact z.2)
theorem ex_if {a : Bool} (h : EvT K tt ρ a ρ1) (k1 : a = true → Ex K t ρ1 o) (k2 : a = false → Ex K u ρ1 o) : Ex K (tIfS tt t u) ρ o := fun Z G H σ c D q => by
  refine h Z G H σ c _ fun G' H' s c' => ?_
  cases a with
  | true => exact iteT (k1 rfl Z G' H' σ c' D (q.to s))
  | false => exact iteF (k2 rfl Z G' H' σ c' D (q.to s))
/-- less is kept -/
theorem Ex.weak (h : Ex K t ρ (.nx ρ1)) (l : Le ρ2 ρ1) : Ex K t ρ (.nx ρ2) := fun Z G H σ c D q => h Z G H σ c D fun σ' G' H' s c' => q σ' G' H' s (c'.weak l)
theorem Ex.weakR (h : Ex K t ρ (.rt d ρ1)) (l : Le ρ2 ρ1) : Ex K t ρ (.rt d ρ2) := fun Z G H σ c D q => h Z G H σ c D fun σ' v G' H' s c' => q σ' v G' H' s (c'.weak l)
theorem Ex.pre (h : Ex K t ρ1 o) (l : Le ρ1 ρ) : Ex K t ρ o := fun Z G H σ c D q => h Z G H σ (c.weak l) D q
theorem Ex.to {o' : Out} (h : Ex K t ρ o) (e : o = o') : Ex K t ρ o' := e ▸ h
theorem Ex.from (h : Ex K t ρ1 o) (e : ρ = ρ1) : Ex K t ρ o := e ▸ h
theorem ex_drop (h : Ev K te ρ d ρ1) : Ex K (tDrop te) ρ (.nx ρ1) := fun Z G H σ c D q => h Z G H σ c _ fun v G' H' s c' _ => q σ G' H' s c'
/-- xs.append(e), xs a list of the slot's own -/
theorem ex_append {s : Sl} (ha : Ev K te ρ d ρ1) (h0 : ∃ s, ρ[i]? = some s ∧ s.isOwn = true := by exact ⟨_, rfl, rfl⟩) (hs : ρ1[i]? = some s := by rfl) (l : slItems (some s) = some ds := by rfl) (hl : ds.length < 100000) :
    Ex K (tDrop (tBM K "list" rAppend (tVar i) (tCons te tNil))) ρ (.nx (ρ1.set i (s.put (ds ++ [d])))) := fun Z G H σ c D q => by
  obtain ⟨s0, e0, o0⟩ := h0
  obtain ⟨p, xs0, ds0, ep, _, hp, _⟩ := c.ow e0 o0
  refine ⟨.ref p, ep, .inl ⟨rfl, xs0, .inl (.inl hp)⟩, ?_⟩
  refine ha Z G H σ c _ fun v G1 H1 s1 c1 r1 => ?_
  obtain ⟨p', xs, e', h1, rx⟩ := c1.slot ep (by rw [hs]; exact l)
  cases e'
  have os : s.isOwn = true := by cases s <;> first | rfl | cases l
  refine ⟨p, xs, v, rfl, rfl, h1, by rw [rx.length]; exact Nat.lt_of_lt_of_le hl (by decide), ?_⟩
  exact q σ G1 _ s1 (c1.write hs os ep (rx.app (.cons r1 .nil)))
/-- xs.extend(ys) -/
theorem ex_extend {s : Sl} {a : Ag} (ha : EvL K te ρ a ρ1) (h0 : ∃ s, ρ[i]? = some s ∧ s.isOwn = true := by exact ⟨_, rfl, rfl⟩) (hs : ρ1[i]? = some s := by rfl) (l : slItems (some s) = some ds := by rfl) (la : lookS ρ1 a = some es) (hl : ds.length + es.length < 100000) :
    Ex K (tDrop (tBM K "list" rExtend (tVar i) (tCons te tNil))) ρ (.nx (ρ1.set i (s.put (ds ++ es)))) := fun Z G H σ c D q => by
  obtain ⟨s0, e0, o0⟩ := h0
  obtain ⟨p, xs0, ds0, ep, _, hp, _⟩ := c.ow e0 o0
  refine ⟨.ref p, ep, .inl ⟨rfl, xs0, .inl (.inl hp)⟩, ?_⟩
  refine ha Z G H σ c _ fun v G1 H1 s1 c1 r1 => ?_
  obtain ⟨p', xs, e', h1, rx⟩ := c1.slot ep (by rw [hs]; exact l)
  cases e'
  obtain ⟨p2, ys, rfl, h2, ry⟩ := c1.readS r1 la
  have os : s.isOwn = true := by cases s <;> first | rfl | cases l
  refine ⟨p, p2, xs, ys, rfl, rfl, h1, h2, by rw [rx.length, ry.length]; exact sz_ok (by omega), ?_⟩
  exact q σ G1 _ s1 (c1.write hs os ep (rx.app ry))
/-- xs[k] = e, xs a list of the slot's own -/
theorem ex_setIx {s : Sl} {j : Int} {k : Nat} (ha : Ev K te ρ d ρ1) (hi : Ev K ta ρ1 (.int j) ρ1) (hs : ρ1[i]? = some s := by rfl) (l : slItems (some s) = some ds := by rfl) (hk : ixN ds.length j = some k) :
    Ex K (tAsg te (gSub (tVar i) ta rSetL)) ρ (.nx (ρ1.set i (s.put (ds.set k d)))) := fun Z G H σ c D q => by
  have os : s.isOwn = true := by cases s <;> first | rfl | cases l
  refine ha Z G H σ c _ fun v G1 H1 s1 c1 r1 => ?_
  obtain ⟨p, xs0, ds0, ep, _⟩ := c1.ow hs os
  refine ⟨.ref p, ep, ?_⟩
  refine hi Z G1 H1 σ c1 _ fun w G2 H2 s2 c2 r2 => ?_
  cases r2
  obtain ⟨p', xs, e', h1, rx⟩ := c2.slot ep (by rw [hs]; exact l)
  cases e'
  refine ⟨p, xs, j, k, rfl, rfl, h1, by rw [rx.length]; exact hk, ?_⟩
  refine q σ G2 _ (s1.trans s2) (c2.write hs os ep ?_)
  exact rp_setR rx (r1.to s2) k
where
  rp_setR {xs : List V} {ds : List Dat} {v : V} {d : Dat} {G : Hp} (r : RpAll K G xs ds) (rv : Rp K G v d) : ∀ k, RpAll K G (xs.set k v) (ds.set k d) := by
    intro k
    induction xs generalizing ds k with
    | nil => cases r; exact .nil
    | cons x xs ih =>
      cases r with
      | cons a b =>
        cases k with
        | zero => exact .cons rv b
        | succ k => exact .cons a (ih b k)
/-- x += e -/
theorem ex_augI {g : Int → Int → Int} {n m : Int} {r : TIp} (hr : r = fun x y H Q => ∃ i j, x = .int i ∧ y = .int j ∧ Q (.int (g i j)) H) (h0 : ρ[i]? = some (.dat (.int n)) := by rfl) (ha : Ev K te ρ (.int m) ρ) : Ex K (tAug i te r) ρ (.nx (ρ.set i (.dat (.int (g n m))))) := fun Z G H σ c D q => by
  subst hr
  obtain ⟨v, e, r0⟩ := c.dat h0
  cases r0
  refine ⟨_, e, ?_⟩
  refine ha Z G H σ c _ fun w G1 H1 s1 c1 r1 => ?_
  cases r1
  exact ⟨n, m, rfl, rfl, q _ G1 H1 s1 (c1.setD (by rw [h0]; rfl) (.int _))⟩
/-! a, b, .. = a tuple -/
theorem rp_tup {v : V} (s : Same G H) (r : Rp K G v (.tup ds)) : ∃ a xs, v = .ref a ∧ SqT K H a xs ∧ xs.length = ds.length ∧ RpAll K G xs ds := by
  cases r with
  | @tup a xs _ e r => exact ⟨a, xs, rfl, .inl (.inl (s _ _ e)), r.length, r⟩
theorem rp_lstV {v : V} (s : Same G H) (r : Rp K G v (.lst ds)) : ∃ a xs, v = .ref a ∧ SqL K H a xs ∧ xs.length = ds.length ∧ RpAll K G xs ds := by
  cases r with
  | @lst a xs _ e r => exact ⟨a, xs, rfl, .inl (.inl (s _ _ e)), r.length, r⟩
theorem ex_set2 {j : Nat} (h : Ev K te ρ (.tup [d1, d2]) ρ1) (hi : ρ1[i]?.isSome = true := by rfl) (hj : ρ1[j]?.isSome = true := by rfl) : Ex K (tAsg te (gTup K 2 (gCons (gName i) (gCons (gName j) gNil)))) ρ (.nx ((ρ1.set i (.dat d1)).set j (.dat d2))) := fun Z G H σ c D q => by
  refine h Z G H σ c _ fun v G1 H1 s1 c1 r1 => ?_
  obtain ⟨a, xs, rfl, hs, hl, r⟩ := rp_tup c1.gh r1
  cases r with
  | cons ra r => cases r with
    | cons rb r => cases r with
      | nil =>
        refine ⟨a, _, rfl, hs, hl, _, _, rfl, _, _, rfl, rfl, ?_⟩
        have hj' : (ρ1.set i (.dat d1))[j]?.isSome = true := by
          rw [Option.isSome_iff_exists] at hj ⊢
          obtain ⟨x, ex⟩ := hj
          exact ⟨_, List.getElem?_eq_getElem (by simpa using (List.getElem?_eq_some_iff.mp ex).1)⟩
        exact q _ G1 H1 s1 ((c1.setD hi ra).setD hj' rb)
theorem isSome_set {ρ : List Sl} {i j : Nat} {s : Sl} (h : ρ[j]?.isSome = true) : (ρ.set i s)[j]?.isSome = true := by
  rw [Option.isSome_iff_exists] at h ⊢
  obtain ⟨x, ex⟩ := h
  exact ⟨_, List.getElem?_eq_getElem (by simpa using (List.getElem?_eq_some_iff.mp ex).1)⟩
theorem ex_set3 {j k : Nat} (h : Ev K te ρ (.tup [d1, d2, d3]) ρ1) (hi : ρ1[i]?.isSome = true := by rfl) (hj : ρ1[j]?.isSome = true := by rfl) (hk : ρ1[k]?.isSome = true := by rfl) :
    Ex K (tAsg te (gTup K 3 (gCons (gName i) (gCons (gName j) (gCons (gName k) gNil))))) ρ (.nx (((ρ1.set i (.dat d1)).set j (.dat d2)).set k (.dat d3))) := fun Z G H σ c D q => by
  refine h Z G H σ c _ fun v G1 H1 s1 c1 r1 => ?_
  obtain ⟨a, xs, rfl, hs, hl, r⟩ := rp_tup c1.gh r1
  cases r with
  | cons ra r => cases r with
    | cons rb r => cases r with
      | cons rc r => cases r with
        | nil =>
          refine ⟨a, _, rfl, hs, hl, _, _, rfl, _, _, rfl, _, _, rfl, rfl, ?_⟩
          exact q _ G1 H1 s1 (((c1.setD hi ra).setD (isSome_set hj) rb).setD (isSome_set (isSome_set hk)) rc)

/-! what is walked -/
/-- turn i of the walk J gives something that stands for the i-th of ds, whatever the state is then -/
def Walks (K : PySem.W.Frag) (Z : Zs) (G1 : Hp) (J : It) (ds : List Dat) : Prop := ∀ (i : Nat) (Gx Hx : Hp) (σx : L2.St) (ρx : List Sl) (Zx : Zs), Same G1 Gx → Ct K Zx Gx Hx σx ρx →
  (i = ds.length → J.stop i Hx) ∧ ∀ d, ds[i]? = some d → J.go i Hx ∧ ∀ (y : V) (Hy : Hp), J.yld i Hx y Hy → ∃ Gy, Same Gx Gy ∧ Ct K Zx Gy Hy σx ρx ∧ Rp K Gy y d
def Src (K : PySem.W.Frag) (wi : TI) (ρ : List Sl) (ds : List Dat) (ρ0 : List Sl) : Prop := ∀ (Z : Zs) (G H : Hp) (σ : L2.St), Ct K Z G H σ ρ → ∀ R : It → Hp → Prop,
  (∀ (J : It) (G1 H1 : Hp), Same G G1 → Ct K Z G1 H1 σ ρ0 → Walks K Z G1 J ds → R J H1) → wi σ H R
theorem src_list (h : Ev K te ρ d ρ1) (la : d.items = some ds) : Src K (iList K te) ρ ds ρ1 := fun Z G H σ c R q => by
  refine h Z G H σ c _ fun v G1 H1 s1 c1 r1 => ?_
  obtain ⟨p, xs, rfl, hs, rx⟩ := c1.read (a := .d d) r1 la
  refine ⟨p, rfl, ⟨xs, hs⟩, q _ G1 H1 s1 c1 fun i Gx Hx σx ρx Zx s c2 => ?_⟩
  obtain ⟨p', xs', e', hs', rx'⟩ := c2.read (a := .d d) (r1.to s) la
  cases e'
  refine ⟨fun e => ⟨xs', hs', by rw [rx'.length, e]; exact Nat.le_refl _⟩, fun d' hd => ?_⟩
  obtain ⟨x, hx, rd⟩ := rx'.get hd
  refine ⟨⟨xs', x, hs', hx⟩, fun y Hy hy => ?_⟩
  obtain ⟨e, hy⟩ := hy
  subst e
  have : y = x := Option.some.inj ((hy xs' hs').symm.trans hx)
  subst this
  exact ⟨Gx, Same.refl _, c2, rd⟩
theorem src_tup (h : Ev K te ρ (.tup ds) ρ1) : Src K (iTup K te) ρ ds ρ1 := fun Z G H σ c R q => by
  refine h Z G H σ c _ fun v G1 H1 s1 c1 r1 => ?_
  obtain ⟨p, xs, rfl, hs, hl, rx⟩ := rp_tup c1.gh r1
  refine ⟨p, rfl, ⟨xs, hs⟩, q _ G1 H1 s1 c1 fun i Gx Hx σx ρx Zx s c2 => ?_⟩
  obtain ⟨p', xs', e', hs', hl', rx'⟩ := rp_tup c2.gh (r1.to s)
  cases e'
  refine ⟨fun e => ⟨xs', hs', by rw [rx'.length, e]; exact Nat.le_refl _⟩, fun d' hd => ?_⟩
  obtain ⟨x, hx, rd⟩ := rx'.get hd
  refine ⟨⟨xs', x, hs', hx⟩, fun y Hy hy => ?_⟩
  obtain ⟨e, hy⟩ := hy
  subst e
  have : y = x := Option.some.inj ((hy xs' hs').symm.trans hx)
  subst this
  exact ⟨Gx, Same.refl _, c2, rd⟩
/-- lo, lo + 1, .. n of them -/
def rngD (lo : Int) (n : Nat) : List Dat := (List.range n).map fun i => .int (lo + (i : Nat))
theorem rngD_len (lo : Int) (n : Nat) : (rngD lo n).length = n := by simp [rngD]
theorem rngD_get {lo : Int} {n i : Nat} {d : Dat} (h : (rngD lo n)[i]? = some d) : i < n ∧ d = .int (lo + (i : Nat)) := by
  have hi : i < n := by
    have := (List.getElem?_eq_some_iff.mp h).1
    rwa [rngD_len] at this
  unfold rngD at h
  rw [List.getElem?_map, List.getElem?_range hi] at h
  exact ⟨hi, (Option.some.inj h).symm⟩
theorem rngD_at {lo : Int} {n i : Nat} (h : i < n) : (rngD lo n)[i]? = some (.int (lo + (i : Nat))) := by
  unfold rngD
  rw [List.getElem?_map, List.getElem?_range h]
  rfl
theorem walks_range {lo : Int} {n : Nat} : Walks K Z G (Itr lo n) (rngD lo n) := fun i Gx Hx σx ρx Zx s c => by
  refine ⟨fun e => ?_, fun d hd => ?_⟩
  · rw [rngD_len] at e
    show n ≤ i
    omega
  · obtain ⟨hi, rfl⟩ := rngD_get hd
    refine ⟨hi, fun y Hy hy => ?_⟩
    obtain ⟨e1, e2⟩ := hy
    subst e1 e2
    exact ⟨Gx, Same.refl _, c, .int _⟩
theorem src_rng1 {n : Int} (h : Ev K te ρ (.int n) ρ1) (h1 : -1000000 ≤ n) (h2 : n ≤ 1000000) : Src K (iRng1 (tCons te tNil)) ρ (rngD 0 n.toNat) ρ1 := fun Z G H σ c R q => by
  refine h Z G H σ c _ fun v G1 H1 s1 c1 r1 => ?_
  cases r1
  exact ⟨n, rfl, by omega, by omega, q _ G1 H1 s1 c1 walks_range⟩
theorem src_rng2 {lo hi : Int} (ha : Ev K ta ρ (.int lo) ρ1) (hb : Ev K tb ρ1 (.int hi) ρ2) (h1 : -1000000 ≤ lo) (h2 : lo ≤ 1000000) (h3 : -1000000 ≤ hi) (h4 : hi ≤ 1000000) : Src K (iRng2 (tCons ta (tCons tb tNil))) ρ (rngD lo (hi - lo).toNat) ρ2 := fun Z G H σ c R q => by
  refine ha Z G H σ c _ fun v G1 H1 s1 c1 r1 => ?_
  refine hb Z G1 H1 σ c1 _ fun w G2 H2 s2 c2 r2 => ?_
  cases r1; cases r2
  exact ⟨lo, hi, rfl, ⟨by omega, by omega, by omega, by omega⟩, q _ G2 H2 (s1.trans s2) c2 walks_range⟩
/-! loops -/
/-- how a loop ends: n turns that go on, then the end, a return, or a break -/
inductive LEnd (K : PySem.W.Frag) (tb : TS) (x : Nat) (ds : List Dat) (ρs : Nat → List Sl) (n : Nat) : Out → Prop
  | done : n = ds.length → LEnd K tb x ds ρs n (.nx (ρs n))
  | ret {d r : Dat} {ρ' : List Sl} : ds[n]? = some d → Ex K tb ((ρs n).set x (.dat d)) (.rt r ρ') → LEnd K tb x ds ρs n (.rt r ρ')
  | brk {d : Dat} {ρ' : List Sl} : ds[n]? = some d → Ex K tb ((ρs n).set x (.dat d)) (.bk ρ') → LEnd K tb x ds ρs n (.nx ρ')
theorem ex_for {wi : TI} {x n : Nat} (ρs : Nat → List Sl) (h : Src K wi ρ ds (ρs 0)) (hx : ∀ i, (ρs i)[x]?.isSome = true) (hn : n ≤ ds.length)
    (body : ∀ i d, i < n → ds[i]? = some d → Ex K tbd ((ρs i).set x (.dat d)) (.nx (ρs (i + 1))) ∨ Ex K tbd ((ρs i).set x (.dat d)) (.ct (ρs (i + 1)))) (e : LEnd K tbd x ds ρs n o) : Ex K (tFor wi (gName x) tbd) ρ o := fun Z G H σ c D q => by
  refine h Z G H σ c _ fun J G1 H1 s1 c1 wk => ?_
  refine ⟨fun i m σ' H' => m = n - i ∧ i ≤ n ∧ ∃ G', Same G1 G' ∧ Ct K Z G' H' σ' (ρs i), ⟨n, by simp, Nat.zero_le _, G1, Same.refl G1, c1⟩, ?_⟩
  rintro i m σ' H' ⟨rfl, hi, G', s', c'⟩
  obtain ⟨w1, w2⟩ := wk i G' H' σ' (ρs i) Z s' c'
  by_cases hlt : i < n
  · have hid : i < ds.length := Nat.lt_of_lt_of_le hlt hn
    obtain ⟨go, yl⟩ := w2 ds[i] (List.getElem?_eq_getElem hid)
    refine .inr ⟨go, fun σ'' H'' => ∃ G'', Same G1 G'' ∧ Ct K Z G'' H'' σ'' (ρs (i + 1)), fun σ'' H'' k => ⟨n - (i + 1), by omega, rfl, hlt, k⟩, fun y H'' hy => ?_⟩
    obtain ⟨Gy, sy, cy, ry⟩ := yl y H'' hy
    have cb := cy.setD (i := x) (hx i) ry
    rcases body i _ hlt (List.getElem?_eq_getElem hid) with hb | hb
    · exact hb Z Gy _ _ cb _ fun σ2 G2 H2 s2 c2 => ⟨G2, s'.trans (sy.trans s2), c2⟩
    · exact hb Z Gy _ _ cb _ fun σ2 G2 H2 s2 c2 => ⟨G2, s'.trans (sy.trans s2), c2⟩
  · have en : i = n := by omega
    subst en
    cases e with
    | done e => exact .inl ⟨w1 e, q σ' G' H' (s1.trans s') c'⟩
    | ret hd hb =>
      obtain ⟨go, yl⟩ := w2 _ hd
      refine .inr ⟨go, fun _ _ => False, fun _ _ k => k.elim, fun y H'' hy => ?_⟩
      obtain ⟨Gy, sy, cy, ry⟩ := yl y H'' hy
      exact hb Z Gy _ _ (cy.setD (i := x) (hx i) ry) _ fun σ2 v G2 H2 s2 c2 => q σ2 v G2 H2 ((s1.trans s').trans (sy.trans s2)) c2
    | brk hd hb =>
      obtain ⟨go, yl⟩ := w2 _ hd
      refine .inr ⟨go, fun _ _ => False, fun _ _ k => k.elim, fun y H'' hy => ?_⟩
      obtain ⟨Gy, sy, cy, ry⟩ := yl y H'' hy
      exact hb Z Gy _ _ (cy.setD (i := x) (hx i) ry) _ fun σ2 G2 H2 s2 c2 => q σ2 G2 H2 ((s1.trans s').trans (sy.trans s2)) c2
/-- while: n turns, then the test fails, or the n-th body leaves -/
inductive WEnd (K : PySem.W.Frag) (tc : TT) (tb : TS) (ρs : Nat → List Sl) (n : Nat) : Out → Prop
  | done {ρ' : List Sl} : EvT K tc (ρs n) false ρ' → WEnd K tc tb ρs n (.nx ρ')
  | ret {r : Dat} {ρ' ρ'' : List Sl} : EvT K tc (ρs n) true ρ'' → Ex K tb ρ'' (.rt r ρ') → WEnd K tc tb ρs n (.rt r ρ')
  | brk {ρ' ρ'' : List Sl} : EvT K tc (ρs n) true ρ'' → Ex K tb ρ'' (.bk ρ') → WEnd K tc tb ρs n (.nx ρ')
theorem ex_while {n : Nat} (ρs : Nat → List Sl) (h0 : ρs 0 = ρ) (body : ∀ i, i < n → ∃ ρ', EvT K tt (ρs i) true ρ' ∧ Ex K tbd ρ' (.nx (ρs (i + 1)))) (e : WEnd K tt tbd ρs n o) : Ex K (tWhile tt tbd) ρ o := fun Z G H σ c D q => by
  subst h0
  refine ⟨fun m σ' H' => ∃ i G', m = n - i ∧ i ≤ n ∧ Same G G' ∧ Ct K Z G' H' σ' (ρs i), ⟨n, 0, G, by simp, Nat.zero_le _, Same.refl G, c⟩, ?_⟩
  rintro m σ' H' ⟨i, G', rfl, hi, s', c'⟩
  by_cases hlt : i < n
  · obtain ⟨ρ', ht, hb⟩ := body i hlt
    refine ht Z G' H' σ' c' _ fun G2 H2 s2 c2 => ?_
    refine iteT ⟨fun σ3 H3 => ∃ G3, Same G G3 ∧ Ct K Z G3 H3 σ3 (ρs (i + 1)), fun σ3 H3 ⟨G3, s3, c3⟩ => ⟨n - (i + 1), by omega, i + 1, G3, rfl, hlt, s3, c3⟩, ?_⟩
    exact hb Z G2 H2 σ' c2 _ fun σ3 G3 H3 s3 c3 => ⟨G3, s'.trans (s2.trans s3), c3⟩
  · have en : i = n := by omega
    subst en
    cases e with
    | done ht => exact ht Z G' H' σ' c' _ fun G2 H2 s2 c2 => iteF (q σ' G2 H2 (s'.trans s2) c2)
    | ret ht hb =>
      refine ht Z G' H' σ' c' _ fun G2 H2 s2 c2 => ?_
      refine iteT ⟨fun _ _ => False, fun _ _ k => k.elim, ?_⟩
      exact hb Z G2 H2 σ' c2 _ fun σ3 v G3 H3 s3 c3 => q σ3 v G3 H3 (s'.trans (s2.trans s3)) c3
    | brk ht hb =>
      refine ht Z G' H' σ' c' _ fun G2 H2 s2 c2 => ?_
      refine iteT ⟨fun _ _ => False, fun _ _ k => k.elim, ?_⟩
      exact hb Z G2 H2 σ' c2 _ fun σ3 G3 H3 s3 c3 => q σ3 G3 H3 (s'.trans (s2.trans s3)) c3
/-! comprehensions -/
theorem Ct.aside (c : Ct K Z G H σ ρ) {D : Addr} {o : HO} (hD : H D = some o) (g : G D = none) (no : ∀ i, ¬ Hd σ ρ i D) : Ct K ⟨Z.G0, Z.H0, Z.O0, upd Z.Kp D o⟩ G H σ ρ :=
  ⟨c.len, c.gg, c.gh, c.hh, c.ge, c.fr, fun i s e n => by
    obtain ⟨v, e1, k⟩ := c.sl i s e n
    refine ⟨v, e1, ?_⟩
    cases s with
    | no => trivial
    | dat d => exact k
    | own ds => exact k
    | par j ds => exact k, c.ds, fun b u e => by
    by_cases q : b = D
    · subst q; have e : upd Z.Kp b o b = some u := e; rw [upd_same] at e; cases e; exact hD
    · exact c.kp b u (by have e : upd Z.Kp D o b = some u := e; rwa [upd_ne q] at e), fun b n => by
    by_cases q : b = D
    · subst q; exact g
    · exact c.kg b (by have n : upd Z.Kp D o b ≠ none := n; rwa [upd_ne q] at n), fun i p a => by
    show upd Z.Kp D o p = none
    rw [upd_ne (show p ≠ D from fun q => no i (by rw [← q]; exact a))]
    exact c.kn i p a⟩
theorem Ct.unaside {D : Addr} {o : HO} (c : Ct K ⟨Z.G0, Z.H0, Z.O0, upd Z.Kp D o⟩ G H σ ρ) (z : Z.Kp D = none) : Ct K Z G H σ ρ ∧ H D = some o ∧ G D = none ∧ ∀ i, ¬ Hd σ ρ i D := by
  refine ⟨⟨c.len, c.gg, c.gh, c.hh, c.ge, c.fr, fun i s e n => ?_, c.ds, fun b u e => ?_, fun b n => ?_, fun i p a => ?_⟩, c.kp D o upd_same, c.kg D (by show upd Z.Kp D o D ≠ none; rw [upd_same]; intro q; cases q), fun i a => ?_⟩
  · obtain ⟨v, e1, k⟩ := c.sl i s e n
    refine ⟨v, e1, ?_⟩
    cases s with
    | no => trivial
    | dat d => exact k
    | own ds => exact k
    | par j ds => exact k
  · exact c.kp b u (by
      show upd Z.Kp D o b = some u
      rw [upd_ne (show b ≠ D from fun q => by rw [q, z] at e; cases e)]; exact e)
  · exact c.kg b (by
      show upd Z.Kp D o b ≠ none
      rw [upd_ne (show b ≠ D from fun q => n (by rw [q]; exact z))]; exact n)
  · have k : upd Z.Kp D o p = none := c.kn i p a
    by_cases q : p = D
    · rw [q, upd_same] at k; cases k
    · rwa [upd_ne q] at k
  · have k : upd Z.Kp D o D = none := c.kn i D a
    rw [upd_same] at k; cases k
/-- an object that stands aside is changed -/
theorem Ct.asideSet {D : Addr} {o o' : HO} (c : Ct K Z G H σ ρ) (hD : H D = some o) (g : G D = none) (no : ∀ i, ¬ Hd σ ρ i D) (z : Z.H0 D = none) (zk : Z.Kp D = none) : Ct K Z G (upd H D o') σ ρ := by
  refine ⟨c.len, c.gg, fun b u e => ?_, fun b u e n => ?_, fun b n => ?_, c.fr, fun i s e n => ?_, c.ds, fun b u e => ?_, c.kg, c.kn⟩
  · rw [upd_ne (show b ≠ D from fun q => by rw [q, g] at e; cases e)]; exact c.gh b u e
  · rw [upd_ne (show b ≠ D from fun q => by rw [q, z] at e; cases e)]; exact c.hh b u e n
  · by_cases q : b = D
    · subst q; rw [upd_same]; intro w; cases w
    · rw [upd_ne q]; exact c.ge b n
  · obtain ⟨v, e1, k⟩ := c.sl i s e n
    refine ⟨v, e1, k.mono (Same.refl G) fun p xs ev ho gp hp => ⟨gp, ?_⟩⟩
    rw [upd_ne (show p ≠ D from fun q => no i ⟨by rw [e1, ev, q], s, e, ho⟩)]; exact hp
  · rw [upd_ne (show b ≠ D from fun q => by rw [q, zk] at e; cases e)]; exact c.kp b u e
/-- the slots of a comprehension's own names -/
def wipeS (ρ : List Sl) : List Nat → List Sl
  | [] => ρ
  | v :: vs => (wipeS ρ vs).set v .no
theorem wipe_len (σ : L2.St) : ∀ vs, (wipe σ vs).length = σ.length := wipe_length σ
theorem wipeS_len (ρ : List Sl) : ∀ vs, (wipeS ρ vs).length = ρ.length
  | [] => rfl
  | v :: vs => by unfold wipeS; rw [List.length_set, wipeS_len ρ vs]
theorem wipe_get (σ : L2.St) (ρ : List Sl) : ∀ (vs : List Nat) (i : Nat) (s : Sl), (wipeS ρ vs)[i]? = some s → s.isNo = false → ρ[i]? = some s ∧ (wipe σ vs)[i]? = σ[i]?
  | [], i, s, e, _ => ⟨e, rfl⟩
  | v :: vs, i, s, e, n => by
    unfold wipeS at e
    by_cases q : v = i
    · subst q
      by_cases l : v < (wipeS ρ vs).length
      · rw [List.getElem?_set_self l] at e; cases e; cases n
      · rw [List.getElem?_eq_none (by simpa using l)] at e; cases e
    · rw [List.getElem?_set_ne q] at e
      obtain ⟨a, b⟩ := wipe_get σ ρ vs i s e n
      refine ⟨a, ?_⟩
      unfold wipe
      rw [List.getElem?_set_ne q]
      exact b
theorem hd_wipe {vs : List Nat} {i : Nat} {p : Addr} (h : Hd (wipe σ vs) (wipeS ρ vs) i p) : Hd σ ρ i p := by
  obtain ⟨e, s, a, o⟩ := h
  obtain ⟨b, k⟩ := wipe_get σ ρ vs i s a (Sl.own_not_no o)
  exact ⟨by rw [← k]; exact e, s, b, o⟩
theorem Ct.wipe (c : Ct K Z G H σ ρ) (vs : List Nat) : Ct K Z G H (L2.wipe σ vs) (wipeS ρ vs) :=
  ⟨by rw [wipe_len, wipeS_len, c.len], c.gg, c.gh, c.hh, c.ge, c.fr, fun i s e n => by
    obtain ⟨a, b⟩ := wipe_get σ ρ vs i s e n
    obtain ⟨v, e1, k⟩ := c.sl i s a n
    exact ⟨v, by rw [b]; exact e1, k⟩, fun i j p a b => c.ds i j p (hd_wipe a) (hd_wipe b), c.kp, c.kg, fun i p a => c.kn i p (hd_wipe a)⟩

theorem hd_unwipe {vs : List Nat} {i : Nat} {p : Addr} (h : Hd σ (wipeS ρ vs) i p) : Hd (L2.wipe σ vs) (wipeS ρ vs) i p := by
  obtain ⟨e, s, a, o⟩ := h
  obtain ⟨b, k⟩ := wipe_get σ ρ vs i s a (Sl.own_not_no o)
  exact ⟨by rw [k]; exact e, s, a, o⟩
theorem Ct.unwipe {vs : List Nat} (c : Ct K Z G H (L2.wipe σ vs) (wipeS ρ vs)) : Ct K Z G H σ (wipeS ρ vs) :=
  ⟨by rw [← c.len, wipe_len], c.gg, c.gh, c.hh, c.ge, c.fr, fun i s e n => by
    obtain ⟨a, b⟩ := wipe_get σ ρ vs i s e n
    obtain ⟨v, e1, k⟩ := c.sl i s e n
    exact ⟨v, by rw [← b]; exact e1, k⟩, fun i j p a b => c.ds i j p (hd_unwipe a) (hd_unwipe b), c.kp, c.kg, fun i p a => c.kn i p (hd_unwipe a)⟩
theorem wipe_back {x : Nat} {y : V} : L2.wipe ((L2.wipe σ [x]).set x (some y)) [x] = L2.wipe σ [x] := by
  show ((σ.set x none).set x (some y)).set x none = σ.set x none
  rw [List.set_set, List.set_set]
/-- what a comprehension has made behind i turns -/
def lcOut (keep : Nat → Bool) (f : Nat → Dat) (n : Nat) : List Dat := ((List.range n).filter keep).map f
theorem lcOut_succ (keep : Nat → Bool) (f : Nat → Dat) (n : Nat) : lcOut keep f (n + 1) = lcOut keep f n ++ (if keep n then [f n] else []) := by
  unfold lcOut
  rw [List.range_succ, List.filter_append, List.map_append]
  congr 1
  cases h : keep n <;> simp [h]
theorem lcOut_len (keep : Nat → Bool) (f : Nat → Dat) (n : Nat) : (lcOut keep f n).length ≤ n := by
  unfold lcOut
  rw [List.length_map]
  exact Nat.le_trans (List.length_filter_le _ _) (by simp)
theorem ef_lc {wi : TI} {x : Nat} (ρs : Nat → List Sl) (keep : Nat → Bool) (f : Nat → Dat) (h : Src K wi ρ ds (ρs 0)) (hx : ∀ i, (ρs i)[x]?.isSome = true) (hl : ds.length < 100000)
    (body : ∀ i d, ds[i]? = some d → ∃ ρa, EvT K tt ((wipeS (ρs i) [x]).set x (.dat d)) (keep i) ρa ∧ (keep i = true → ∃ ρb, Ev K te ρa (f i) ρb ∧ wipeS ρb [x] = wipeS (ρs (i + 1)) [x]) ∧ (keep i = false → wipeS ρa [x] = wipeS (ρs (i + 1)) [x])) :
    EvF K (tLc wi (gName x) tt te [x]) ρ (lcOut keep f ds.length) (wipeS (ρs ds.length) [x]) := fun Z G H σ c Q q => by
  refine h Z G H σ c _ fun J G1 H1 s1 c1 wk D hD => ?_
  obtain ⟨c2, gD, ⟨z0, zk⟩, noD⟩ := fresh_of c1 (xs := []) hD
  refine ⟨fun i m H' => m = ds.length - i ∧ i ≤ ds.length ∧ ∃ G' acc, Same G1 G' ∧ Ct K Z G' H' (wipe σ [x]) (wipeS (ρs i) [x]) ∧ H' D = some (.lst acc) ∧ G' D = none ∧ RpAll K G' acc (lcOut keep f i) ∧ ∀ j, ¬ Hd (wipe σ [x]) (wipeS (ρs i) [x]) j D,
    ⟨ds.length, by simp, Nat.zero_le _, G1, [], Same.refl G1, c2.wipe [x], upd_same, gD, .nil, fun j a => noD j (hd_wipe a)⟩, ?_⟩
  rintro i m H' ⟨rfl, hi, G', acc, s', c', hacc, gD', rx, no'⟩
  by_cases hlt : i < ds.length
  · have ca := c'.aside hacc gD' no'
    obtain ⟨w1, w2⟩ := wk i G' H' _ _ _ s' ca
    obtain ⟨go, yl⟩ := w2 ds[i] (List.getElem?_eq_getElem hlt)
    refine .inr ⟨go, fun H'' => ∃ G'' acc', Same G1 G'' ∧ Ct K Z G'' H'' (wipe σ [x]) (wipeS (ρs (i + 1)) [x]) ∧ H'' D = some (.lst acc') ∧ G'' D = none ∧ RpAll K G'' acc' (lcOut keep f (i + 1)) ∧ ∀ j, ¬ Hd (wipe σ [x]) (wipeS (ρs (i + 1)) [x]) j D,
      fun H'' k => ⟨ds.length - (i + 1), by omega, rfl, hlt, k⟩, fun y H'' hy => ?_⟩
    obtain ⟨Gy, sy, cy, ry⟩ := yl y H'' hy
    have hx' : (wipeS (ρs i) [x])[x]?.isSome = true := isSome_set (hx i)
    have cb := cy.setD (i := x) hx' ry
    refine ⟨wipe_back, ?_⟩
    obtain ⟨ρa, ht, hy1, hy0⟩ := body i _ (List.getElem?_eq_getElem hlt)
    refine ht _ Gy _ _ cb _ fun G3 H3 s3 c3 => ?_
    cases hk : keep i with
    | false =>
      refine iteF ?_
      obtain ⟨c4, h4, g4, n4⟩ := c3.unaside zk
      have c5 := c4.wipe [x]
      rw [wipe_back, hy0 hk] at c5
      refine ⟨G3, acc, s'.trans (sy.trans s3), c5, h4, g4, ?_, fun j a => n4 j ?_⟩
      · rw [lcOut_succ, hk]
        rw [if_neg Bool.false_ne_true, List.append_nil]
        exact rx.to (sy.trans s3)
      · rw [← wipe_back (σ := σ) (x := x) (y := y), ← hy0 hk] at a
        exact hd_wipe a
    | true =>
      refine iteT ?_
      obtain ⟨ρb, he, ew⟩ := hy1 hk
      refine he _ G3 H3 _ c3 _ fun w G4 H4 s4 c4 r4 => ?_
      obtain ⟨c5, h5, g5, n5⟩ := c4.unaside zk
      refine ⟨acc, h5, by
        rw [rx.length]
        exact Nat.lt_of_le_of_lt (lcOut_len keep f i) (Nat.lt_of_lt_of_le (Nat.lt_trans hlt hl) (by decide)), ?_⟩
      have c6 := (c5.asideSet (o' := .lst (acc ++ [w])) h5 g5 n5 z0 zk).wipe [x]
      rw [wipe_back, ew] at c6
      refine ⟨G4, acc ++ [w], s'.trans (sy.trans (s3.trans s4)), c6, upd_same, g5, ?_, fun j a => n5 j ?_⟩
      · rw [lcOut_succ, hk, if_pos rfl]
        exact (rx.to (sy.trans (s3.trans s4))).app (.cons r4 .nil)
      · rw [← wipe_back (σ := σ) (x := x) (y := y), ← ew] at a
        exact hd_wipe a
  · have e : i = ds.length := by omega
    subst e
    have ca := c'.aside hacc gD' no'
    obtain ⟨w1, _⟩ := wk _ G' H' _ _ _ s' ca
    exact .inl ⟨w1 rfl, q D acc G' H' (s1.trans s') c'.unwipe gD' hacc rx ⟨z0, zk⟩ fun j a => no' j (hd_unwipe a)⟩
theorem et_yes : EvT K tYes ρ true ρ := fun _ G H _ c Q q => q G H (Same.refl G) c
theorem lcOut_all (f : Nat → Dat) (g : Dat → Dat) (h : ∀ (i : Nat) (d : Dat), ds[i]? = some d → f i = g d) : lcOut (fun _ => true) f ds.length = ds.map g := by
  unfold lcOut
  rw [List.filter_eq_self.mpr (fun _ _ => rfl)]
  apply List.ext_getElem?
  intro i
  by_cases hi : i < ds.length
  · rw [List.getElem?_map, List.getElem?_map, List.getElem?_range hi, List.getElem?_eq_getElem hi]
    show some (f i) = some (g ds[i])
    rw [h i _ (List.getElem?_eq_getElem hi)]
  · rw [List.getElem?_eq_none (by simp; omega), List.getElem?_eq_none (by simp; omega)]
/-- [e for x in ..], nothing changed on the way -/
theorem ef_lcMap {wi : TI} {x : Nat} (g : Dat → Dat) (h : Src K wi ρ ds ρ1) (hx : ρ1[x]?.isSome = true) (hl : ds.length < 100000)
    (body : ∀ d, d ∈ ds → Ev K te ((wipeS ρ1 [x]).set x (.dat d)) (g d) ((wipeS ρ1 [x]).set x (.dat d))) : EvF K (tLc wi (gName x) tYes te [x]) ρ (ds.map g) (wipeS ρ1 [x]) := by
  have e := ef_lc (tt := tYes) (te := te) (x := x) (fun _ => ρ1) (fun _ => true) (fun i => g (ds.getD i .non)) h (fun _ => hx) hl (fun i d hd => ⟨_, et_yes, fun _ => ⟨_, (body d (List.mem_of_getElem? hd)).to (by rw [List.getD_eq_getElem?_getD, hd]; rfl), by
    show (((ρ1.set x .no).set x (.dat d)).set x .no) = ρ1.set x .no
    rw [List.set_set, List.set_set]⟩, fun q => by cases q⟩)
  rwa [lcOut_all _ g (fun i d hd => by rw [List.getD_eq_getElem?_getD, hd]; rfl)] at e
theorem lcOut_some (k : Nat → Bool) (f : Nat → Dat) (p : Dat → Bool) (g : Dat → Dat) : ∀ (es : List Dat), (∀ (i : Nat) (d : Dat), es[i]? = some d → k i = p d ∧ f i = g d) → lcOut k f es.length = (es.filter p).map g := by
  intro es h
  have key : ∀ n, n ≤ es.length → lcOut k f n = ((es.take n).filter p).map g := by
    intro n
    induction n with
    | zero => intro _; rfl
    | succ n ih =>
      intro hn
      have hlt : n < es.length := hn
      obtain ⟨h1, h2⟩ := h n _ (List.getElem?_eq_getElem hlt)
      rw [lcOut_succ, ih (Nat.le_of_lt hlt), List.take_add_one, List.getElem?_eq_getElem hlt, List.filter_append, List.map_append, h1, h2]
      congr 1
      show (if p es[n] = true then [g es[n]] else []) = List.map g (List.filter p [es[n]])
      cases hp : p es[n] <;> simp [hp]
  rw [key _ (Nat.le_refl _), List.take_length]
/-- [e for x in .. if t] -/
theorem ef_lcIf {wi : TI} {x : Nat} (p : Dat → Bool) (g : Dat → Dat) (h : Src K wi ρ ds ρ1) (hx : ρ1[x]?.isSome = true) (hl : ds.length < 100000)
    (test : ∀ d, d ∈ ds → EvT K tt ((wipeS ρ1 [x]).set x (.dat d)) (p d) ((wipeS ρ1 [x]).set x (.dat d)))
    (body : ∀ d, d ∈ ds → p d = true → Ev K te ((wipeS ρ1 [x]).set x (.dat d)) (g d) ((wipeS ρ1 [x]).set x (.dat d))) : EvF K (tLc wi (gName x) tt te [x]) ρ ((ds.filter p).map g) (wipeS ρ1 [x]) := by
  have back : ∀ d, wipeS ((wipeS ρ1 [x]).set x (.dat d)) [x] = wipeS ρ1 [x] := fun d => by
    show (((ρ1.set x .no).set x (.dat d)).set x .no) = ρ1.set x .no
    rw [List.set_set, List.set_set]
  have gd : ∀ (i : Nat) (d : Dat), ds[i]? = some d → ds.getD i .non = d := fun i d hd => by rw [List.getD_eq_getElem?_getD, hd]; rfl
  have e := ef_lc (tt := tt) (te := te) (x := x) (fun _ => ρ1) (fun i => p (ds.getD i .non)) (fun i => g (ds.getD i .non)) h (fun _ => hx) hl (fun i d hd => by
    rw [gd i d hd]
    refine ⟨_, test d (List.mem_of_getElem? hd), fun k => ⟨_, body d (List.mem_of_getElem? hd) k, back d⟩, fun _ => back d⟩)
  rwa [lcOut_some _ _ p g ds (fun i d hd => by rw [gd i d hd]; exact ⟨rfl, rfl⟩)] at e
/-! a def's body -/
/-- the promise's lists as they are in the end -/
inductive Fin : List Sl → List Sl → List Sl → Prop
  | nil {ρ : List Sl} : Fin [] [] ρ
  | no {a s : Sl} {as bs ρ : List Sl} : Fin as bs ρ → Fin (a :: as) (.no :: bs) (s :: ρ)
  | par {j : Nat} {ds es : List Dat} {as bs ρ : List Sl} : Fin as bs ρ → Fin (.par j ds :: as) (.par j es :: bs) (.par j es :: ρ)
theorem Fin.len {as bs ρ : List Sl} (h : Fin as bs ρ) : bs.length = as.length := by
  induction h with
  | nil => rfl
  | no _ ih => simp [ih]
  | par _ ih => simp [ih]
theorem Fin.get {as bs ρ : List Sl} (h : Fin as bs ρ) : ∀ {i : Nat} {s : Sl}, bs[i]? = some s → s.isNo = false → ∃ j ds es, s = .par j es ∧ as[i]? = some (.par j ds) ∧ ρ[i]? = some (.par j es) := by
  induction h with
  | nil => intro i s e; simp at e
  | no _ ih =>
    intro i s e n
    cases i with
    | zero => simp at e; subst e; cases n
    | succ i => simpa using ih (by simpa using e) n
  | par _ ih =>
    intro i s e n
    cases i with
    | zero => simp at e; subst e; exact ⟨_, _, _, rfl, rfl, rfl⟩
    | succ i => simpa using ih (by simpa using e) n
theorem fin_ct {as bs : List Sl} {vs : List V} {σ' : L2.St} (c0 : Ct K Z G H (vs.map some) as) (c1 : Ct K Z G' H' σ' ρ) (f : Fin as bs ρ) : Ct K Z G' H' (vs.map some) bs := by
  have key : ∀ {i : Nat} {s : Sl}, bs[i]? = some s → s.isNo = false → ∃ v, (vs.map some)[i]? = some (some v) ∧ SlOk K Z G' H' v s ∧ ∀ p, v = .ref p → Hd σ' ρ i p := fun {i s} e n => by
    obtain ⟨j, ds, es, rfl, ea, er⟩ := f.get e n
    obtain ⟨v, ev, p, xs, rfl, z, _⟩ := c0.sl i _ ea rfl
    obtain ⟨v', ev', p', xs', rfl, z', g', h', r'⟩ := c1.sl i _ er rfl
    have : p = p' := by rw [z] at z'; exact Option.some.inj z'
    subst this
    exact ⟨_, ev, ⟨p, xs', rfl, z', g', h', r'⟩, fun q hq => by cases hq; exact ⟨ev', _, er, rfl⟩⟩
  have hd : ∀ {i : Nat} {p : Addr}, Hd (vs.map some) bs i p → Hd σ' ρ i p := fun {i p} h => by
    obtain ⟨e, s, a, o⟩ := h
    obtain ⟨v, ev, _, k⟩ := key a (Sl.own_not_no o)
    rw [e] at ev
    cases ev
    exact k p rfl
  exact ⟨by rw [c0.len, f.len], c1.gg, c1.gh, c1.hh, c1.ge, c1.fr, fun i s e n => by
    obtain ⟨v, ev, k, _⟩ := key e n
    exact ⟨v, ev, k⟩, fun i j p a b => c1.ds i j p (hd a) (hd b), c1.kp, c1.kg, fun i p a => c1.kn i p (hd a)⟩
/-- nothing is known of the other slots at the start -/
theorem start_ct {N : List Str} {vs : List V} {as : List Sl} {m : Nat} (c : Ct K Z G H (vs.map some) as) (e : start N vs = vs.map some ++ List.replicate m none) : Ct K Z G H (start N vs) (as ++ List.replicate m .no) := by
  rw [e]
  have hl := c.len
  have low : ∀ {i : Nat} {s : Sl}, (as ++ List.replicate m Sl.no)[i]? = some s → s.isNo = false → as[i]? = some s ∧ (vs.map some ++ List.replicate m none)[i]? = (vs.map some)[i]? := fun {i s} e n => by
    by_cases hi : i < as.length
    · rw [List.getElem?_append_left hi] at e
      exact ⟨e, List.getElem?_append_left (by rw [hl]; exact hi)⟩
    · rw [List.getElem?_append_right (by omega)] at e
      have := List.mem_of_getElem? e
      rw [List.mem_replicate] at this
      rw [this.2] at n
      cases n
  have hd : ∀ {i : Nat} {p : Addr}, Hd (vs.map some ++ List.replicate m none) (as ++ List.replicate m .no) i p → Hd (vs.map some) as i p := fun {i p} h => by
    obtain ⟨e, s, a, o⟩ := h
    obtain ⟨b, k⟩ := low a (Sl.own_not_no o)
    exact ⟨by rw [← k]; exact e, s, b, o⟩
  exact ⟨by simp [← hl], c.gg, c.gh, c.hh, c.ge, c.fr, fun i s e n => by
    obtain ⟨b, k⟩ := low e n
    obtain ⟨v, ev, w⟩ := c.sl i s b n
    exact ⟨v, by rw [k]; exact ev, w⟩, fun i j p a b => c.ds i j p (hd a) (hd b), c.kp, c.kg, fun i p a => c.kn i p (hd a)⟩
/-- how the promise's lists end: none is told of, or it is the changed one -/
inductive FinOk : List Sl → List Sl → Prop
  | nil : FinOk [] []
  | no {a : Sl} {as bs : List Sl} : FinOk as bs → FinOk (a :: as) (.no :: bs)
  | par {j : Nat} {ds es : List Dat} {as bs : List Sl} : FinOk as bs → FinOk (.par j ds :: as) (.par j es :: bs)
theorem FinOk.fin {as bs m : List Sl} (h : FinOk as bs) : Fin as bs (bs ++ m) := by
  induction h with
  | nil => exact .nil
  | no _ ih => exact .no ih
  | par _ ih => exact .par ih
/-- what is left of a def's body once its steps are known -/
theorem body_ok {R : List Sl → Dat → List Sl → Prop} {N : List Str} {vs : List V} {Q : VK} {E : XK} {n : Nat} (h : spG K R vs H Q E) (hn : ∀ as d as', R as d as' → as.length = n)
    (k : ∀ as d as', R as d as' → FinOk as as' ∧ Ex K t (as ++ List.replicate (N.length - n) .no) (.rt d (as' ++ List.replicate (N.length - n) .no))) : t { nx := fun _ H' => Q .non H', rt := Q } (start N vs) H := by
  obtain ⟨G, O, as, d, as', r, c, q⟩ := h
  obtain ⟨f, ex⟩ := k as d as' r
  have e : start N vs = vs.map some ++ List.replicate (N.length - n) none := by
    have l := c.len
    rw [List.length_map, hn _ _ _ r] at l
    show vs.map some ++ List.replicate (N.length - vs.length) none = _
    rw [l]
  exact ex _ G H _ (start_ct c e) _ fun σ' v G' H' s c' rv => q v G' H' (fin_ct c c' f.fin) rv
/-- if t: .. that leaves -/
theorem ex_ifL {a : Bool} (h : EvT K tt ρ a ρ1) (k1 : a = true → Ex K t ρ1 o) (k2 : a = false → Ex K u ρ1 o) (no : o.isNx = false) : Ex K (tSeq (tIfS tt t tNext) u) ρ o := by
  cases a with
  | true => exact ex_out (ex_if h (fun _ => k1 rfl) fun q => by cases q) no
  | false => exact ex_seq (ex_if h (fun q => by cases q) fun _ => ex_next) (k2 rfl)
theorem ex_retW {d' : Dat} (h : Ev K te ρ d ρ1) (e : d = d') (l : Le ρ2 ρ1) : Ex K (tRet te) ρ (.rt d' ρ2) := by
  subst e
  exact (ex_ret h).weakR l
/-- arguments that are data alone -/
def agD : List Ag → Option (List Dat)
  | [] => some []
  | .d d :: r => match agD r with
    | some ds => some (d :: ds)
    | none => none
  | .s _ :: _ => none
theorem agD_map : ∀ {as : List Ag} {ds : List Dat}, agD as = some ds → as = ds.map Ag.d
  | [], ds, h => by
    have h : some [] = some ds := h
    cases h
    rfl
  | .d d :: r, ds, h => by
    unfold agD at h
    cases q : agD r with
    | none => rw [q] at h; cases h
    | some es =>
      rw [q] at h
      have h : some (d :: es) = some ds := h
      cases h
      rw [agD_map q]
      rfl
  | .s _ :: _, ds, h => by cases h
variable {ag : List Ag} {tg : TA}
theorem ef_lstA (h : EvA K tg ρ ag ρ1) (hd : agD ag = some ds) (hl : ds.length ≤ 100000) : EvF K (tLst tg) ρ ds ρ1 := ef_lst (agD_map hd ▸ h) hl
theorem ev_lstA (h : EvA K tg ρ ag ρ1) (hd : agD ag = some ds) (hl : ds.length ≤ 100000) : Ev K (tLst tg) ρ (.lst ds) ρ1 := ev_lst (agD_map hd ▸ h) hl
theorem ev_tupA (h : EvA K tg ρ ag ρ1) (hd : agD ag = some ds) (hl : ds.length ≤ 100000) : Ev K (tTup tg) ρ (.tup ds) ρ1 := ev_tup (agD_map hd ▸ h) hl
theorem ev_callA {R : List Sl → Dat → List Sl → Prop} {E : XK} {as' : List Sl} (ha : EvA K tg ρ ag ρ1) (hd : agD ag = some ds) (hR : R (ds.map Sl.dat) d as') : Ev K (tCall (spG K R) [] E tg) ρ d ρ1 := ev_call (agD_map hd ▸ ha) hR
/-- sep.join(xs) -/
theorem ev_join {r : V → List V → Hp → VK → Prop} {a : Ag} {x : Str} {ys : List Str} (hr : r = fun x xs H Q => ∃ a p, ∃ ys : List Str, x = .str a ∧ xs = [.ref p] ∧ (SqL K H p (ys.map V.str) ∨ SqT K H p (ys.map V.str)) ∧
      (ys.map (·.length)).sum + ys.length * a.length ≤ 16777216 ∧ Q (.str (Txt.join a ys)) H) (ha : Ev K ta ρ (.str x) ρ1) (hb : EvL K tb ρ1 a ρ2) (l : look ρ2 a = some (ys.map Dat.str)) (hl : (ys.map (·.length)).sum + ys.length * x.length ≤ 16777216) :
    Ev K (tM1 r ta tb) ρ (.str (Txt.join x ys)) ρ2 := fun Z G H σ c Q q => by
  subst hr
  refine ha Z G H σ c _ fun v G1 H1 s1 c1 r1 => ?_
  cases r1
  refine ⟨⟨x, rfl⟩, ?_⟩
  refine hb Z G1 H1 σ c1 _ fun w G2 H2 s2 c2 r2 => ?_
  obtain ⟨p, xs, rfl, hp, rx⟩ := c2.read r2 l
  have e := rx.strsEq
  subst e
  exact ⟨x, p, ys, rfl, rfl, .inl hp, hl, q _ _ _ (s1.trans s2) c2 (.str _)⟩
def onI (f : Int → Dat) : Dat → Dat
  | .int i => f i
  | _ => .non
theorem rngD_mem {lo : Int} {n : Nat} {d : Dat} (h : d ∈ rngD lo n) : ∃ i, i < n ∧ d = .int (lo + (i : Nat)) := by
  obtain ⟨i, hi⟩ := List.mem_iff_getElem?.mp h
  obtain ⟨a, b⟩ := rngD_get hi
  exact ⟨i, a, b⟩
theorem rngD_map {lo : Int} {n : Nat} {f : Int → Dat} : (rngD lo n).map (onI f) = (List.range n).map fun i => f (lo + (i : Nat)) := by
  unfold rngD
  rw [List.map_map]
  rfl
theorem isSome_of_lt {ρ : List Sl} {i : Nat} (h : i < ρ.length) : ρ[i]?.isSome = true := by rw [List.getElem?_eq_getElem h]; rfl
/-- type(x) -/
theorem ev_ty1 {T : String} (ha : Ev K ta ρ d ρ1) (h : d.tyn = some T) : Ev K (tCB (rTyp K) (tCons ta tNil)) ρ (.ty T) ρ1 := fun Z G H σ c Q q => by
  refine ha Z G H σ c _ fun v G1 H1 s1 c1 r1 => ?_
  have e : TyB K H1 v T := by
    cases r1 with
    | non => cases h; exact .non
    | bl b => cases h; exact .bl b
    | int b => cases h; exact .int b
    | str b => cases h; exact .str b
    | lst e _ => cases h; exact .lst (.inl (.inl (c1.gh _ _ e)))
    | tup e _ => cases h; exact .tup (.inl (.inl (c1.gh _ _ e)))
    | emp e => cases h; exact .dK (c1.gh _ _ e)
    | _ => cases h
  exact ⟨v, T, rfl, e, q _ _ _ s1 c1 (.ty T)⟩
theorem rv_isnt {a b : String} : RV K rNT ρ (.ty a) (.ty b) (.bl (!decide (a = b))) := rv_pure fun G H x y s rx ry => by
  cases rx; cases ry
  exact ⟨_, .bl _, fun Q q => ⟨a, b, rfl, rfl, q⟩⟩
theorem rv_isTy {a b : String} {r : R2} (hr : r = fun x y H Q => ∃ a b, x = .ty a ∧ y = .ty b ∧ Q (.bl (decide (a = b))) H) : RV K r ρ (.ty a) (.ty b) (.bl (decide (a = b))) := by
  subst hr
  exact rv_pure fun G H x y s rx ry => by
    cases rx; cases ry
    exact ⟨_, .bl _, fun Q q => ⟨a, b, rfl, rfl, q⟩⟩
/-- len of a text -/
theorem ev_lenS {r : List V → Hp → VK → Prop} {z : Str} (hr : r = fun xs H Q => ∃ z, xs = [.str z] ∧ z.length ≤ sizeLine ∧ Q (.int z.length) H) (ha : Ev K ta ρ (.str z) ρ1) (hz : z.length ≤ 100000) : Ev K (tCB r (tCons ta tNil)) ρ (.int z.length) ρ1 := fun Z G H σ c Q q => by
  subst hr
  refine ha Z G H σ c _ fun v G1 H1 s1 c1 r1 => ?_
  cases r1
  exact ⟨z, rfl, sz_ok hz, q _ _ _ s1 c1 (.int _)⟩
/-- the signs of a text -/
def signs (x : Str) : List Dat := x.cps.toList.map fun c => .str ⟨#[c]⟩
theorem src_str {z : Str} (h : Ev K te ρ (.str z) ρ1) : Src K (iStr te) ρ (signs z) ρ1 := fun Z G H σ c R q => by
  refine h Z G H σ c _ fun v G1 H1 s1 c1 r1 => ?_
  cases r1
  refine ⟨z, rfl, q _ G1 H1 s1 c1 fun i Gx Hx σx ρx Zx s c2 => ⟨fun e => ?_, fun d hd => ?_⟩⟩
  · show z.cps.size ≤ i
    rw [e]
    simp [signs]
  · unfold signs at hd
    rw [List.getElem?_map] at hd
    have hi : i < z.cps.size := by
      cases e : z.cps.toList[i]? with
      | none => rw [e] at hd; cases hd
      | some x =>
        have := (List.getElem?_eq_some_iff.mp e).1
        simpa using this
    refine ⟨hi, fun y Hy hy => ?_⟩
    obtain ⟨e1, x, hx, e2⟩ := hy
    subst e1 e2
    have : z.cps.toList[i]? = some x := by simpa using hx
    rw [this] at hd
    have hd : Dat.str ⟨#[x]⟩ = d := Option.some.inj hd
    subst hd
    exact ⟨Gx, Same.refl _, c2, .str _⟩
end
/-! ### len(set(ints)) -/
def distinct (ns : List Int) : List Int := PyProof.Rows.firstMet (fun i => ns.getD i 0) ns.length
def tLenSetG (K : PySem.W.Frag) (ta : TE) : TE := fun σ H Q => ta σ H fun x H1 => ∃ (l : Addr) (ns : List Int), x = .ref l ∧ SqL K H1 l (ns.map V.int) ∧ ns.length ≤ 4000 ∧ Q (.int ((distinct ns).length : Nat)) H1
theorem pe_lenSetG {X : Cx} {a : Expr} {ta : TE} {p p2 q pos : Pos} (hg : Gl X "len") (hm : X.mg "len" = none) (hg2 : Gl X "set") (hm2 : X.mg "set" = none) (ha : PE X a ta) (hc : X.calm = true := by rfl)
    (na : starEach [a] X.env = (false, eval a X.env) :: starEach [] X.env := by rfl) : PE X (.Call (.Name "len" p) [.Call (.Name "set" p2) [a] [] q] [] pos) (tLenSetG X.K ta) := by
  refine ⟨fun pins s σ H Q I h => ?_⟩
  refine PyProof.Rows.Call_ (ld_blt I hg hm PySem.boot_len ?_)
  refine PyProof.Rows.callWith_builtin1 (PyProof.Rows.args_cons ?_ rfl) rfl rfl
  refine PyProof.Rows.Call_ (ld_blt I hg2 hm2 PyProof.Rows.boot_set ?_)
  refine PyProof.Rows.callWith_type1 (PyProof.Rows.args_cons (thn (ha.run pins s σ H _ I h) fun v s1 ⟨x, H1, I1, r1, q1⟩ => PyProof.Rows.args_nil ?_) na) na rfl
  obtain ⟨l, ns, rfl, hq, hl, q1⟩ := q1
  cases r1
  obtain ⟨its, r, pl, hz⟩ := I1.list hq
  have hlen : its.toArray.size = ns.length := by rw [List.size_toArray, ← r.length, List.length_map]
  refine PySem.call_set_list (I1.ok.hd hc) pl.isList (by simpa using L2.intsAre_of r) (by rw [hlen]; unfold scanBound; omega) fun h' tk hS hk => ?_
  refine PyProof.Rows.args_nil ?_
  rw [hlen] at hS
  have hle := PyProof.Rows.firstMet_length_le (fun i => ns.getD i 0) ns.length
  obtain ⟨o, es, ep, t, ho, hex, hd, _, _, _, hf, hn⟩ := hS
  have I2 : Inv X pins σ H1 { s1 with heap := h', toks := tk } := I1.kept fun b o e => hk b o (Heap.lt_size e) e
  exact call_len_set ho hex hd hf (by rw [hn] <;> omega) ⟨.int (distinct ns).length, H1, I2.tok _, ⟨_, by rw [hn]; rfl⟩, q1⟩
section
variable {K : PySem.W.Frag} {ρ ρ1 : List Sl} {ta : TE}
theorem ev_lenSet {ns : List Int} {a : Ag} (ha : EvL K ta ρ a ρ1) (l : look ρ1 a = some (ns.map Dat.int)) (hl : ns.length ≤ 4000) : Ev K (tLenSetG K ta) ρ (.int ((distinct ns).length : Nat)) ρ1 := fun Z G H σ c Q q => by
  refine ha Z G H σ c _ fun v G1 H1 s1 c1 r1 => ?_
  obtain ⟨p, xs, rfl, hp, rx⟩ := c1.read r1 l
  have e := rx.intsEq
  subst e
  exact ⟨p, ns, rfl, hp, hl, q _ _ _ s1 c1 (.int _)⟩
theorem distinct_le (ns : List Int) : (distinct ns).length ≤ ns.length := PyProof.Rows.firstMet_length_le _ _
theorem distinct_step (ns : List Int) : ∀ i, i ≤ ns.length → (PyProof.Rows.firstMet (fun i => ns.getD i 0) i).length = i → (ns.take i).Nodup := by
  intro i
  induction i with
  | zero => intro _ _; simp
  | succ i ih =>
    intro hi he
    have hlt : i < ns.length := hi
    have hle := PyProof.Rows.firstMet_length_le (fun i => ns.getD i 0) i
    have eg : ns.getD i 0 = ns[i] := by rw [List.getD_eq_getElem?_getD, List.getElem?_eq_getElem hlt]; rfl
    have an := PyProof.Rows.firstMet_any (fun i => ns.getD i 0) i (ns.getD i 0)
    rw [PyProof.Rows.firstMet_succ] at he
    have st : PyProof.Rows.step_dedup (PyProof.Rows.firstMet (fun i => ns.getD i 0) i) (ns.getD i 0) = if (PyProof.Rows.firstMet (fun i => ns.getD i 0) i).any (· == ns.getD i 0) then PyProof.Rows.firstMet (fun i => ns.getD i 0) i else PyProof.Rows.firstMet (fun i => ns.getD i 0) i ++ [ns.getD i 0] := rfl
    rw [st] at he
    cases hb : (PyProof.Rows.firstMet (fun i => ns.getD i 0) i).any (· == ns.getD i 0) with
    | true =>
      rw [hb] at he
      have he : (PyProof.Rows.firstMet (fun i => ns.getD i 0) i).length = i + 1 := he
      omega
    | false =>
      rw [hb] at he
      have he' : (PyProof.Rows.firstMet (fun i => ns.getD i 0) i).length = i := by simpa using he
      have nd := ih (Nat.le_of_lt hlt) he'
      rw [List.take_add_one, List.getElem?_eq_getElem hlt]
      show (ns.take i ++ [ns[i]]).Nodup
      refine List.nodup_append.mpr ⟨nd, by simp, fun a ha b hb' => ?_⟩
      have : b = ns[i] := by simpa using hb'
      subst this
      intro e
      rw [an] at hb
      have : ((List.range i).map fun i => ns.getD i 0).any (· == ns.getD i 0) = true := by
        obtain ⟨j, hj⟩ := List.mem_iff_getElem?.mp ha
        rw [List.getElem?_take] at hj
        by_cases hji : j < i
        · rw [if_pos hji] at hj
          refine List.any_eq_true.mpr ⟨ns.getD j 0, List.mem_map.mpr ⟨j, List.mem_range.mpr hji, rfl⟩, ?_⟩
          rw [List.getD_eq_getElem?_getD, hj, eg]
          simpa using e
        · rw [if_neg hji] at hj; cases hj
      rw [this] at hb
      cases hb
theorem distinct_nodup {ns : List Int} : (distinct ns).length = ns.length ↔ ns.Nodup := by
  constructor
  · intro h
    have := distinct_step ns ns.length (Nat.le_refl _) h
    rwa [List.take_length] at this
  · intro h
    unfold distinct
    rw [RZ.firstMet_nodup h ns.length (Nat.le_refl _), List.take_length]
variable {ρ' : List Sl} {tt tu : TT} {tb : TE} {d : Dat}
theorem et_orT (h : EvT K tt ρ true ρ') : EvT K (tOr tt tu) ρ true ρ' := fun Z G H σ c Q q => h Z G H σ c _ fun G1 H1 s1 c1 => iteT (q _ _ s1 c1)
theorem et_andF (h : EvT K tt ρ false ρ') : EvT K (tAnd tt tu) ρ false ρ' := fun Z G H σ c Q q => h Z G H σ c _ fun G1 H1 s1 c1 => iteF (q _ _ s1 c1)
theorem ev_andF (h : Ev K ta ρ (.bl false) ρ') : Ev K (tAndV ta tb) ρ (.bl false) ρ' := fun Z G H σ c Q q => h Z G H σ c _ fun v G1 H1 s1 c1 r1 => by
  cases r1
  exact ⟨false, rfl, iteF (q _ _ _ s1 c1 (.bl _))⟩
theorem ev_orT (h : Ev K ta ρ (.bl true) ρ') : Ev K (tOrV ta tb) ρ (.bl true) ρ' := fun Z G H σ c Q q => h Z G H σ c _ fun v G1 H1 s1 c1 r1 => by
  cases r1
  exact ⟨true, rfl, iteT (q _ _ _ s1 c1 (.bl _))⟩
/-! what may be handed in: any plain thing of a moderate size -/
mutual
def Tame : Nat → Dat → Prop
  | _, .non => True
  | _, .bl _ => True
  | _, .int _ => True
  | _, .emp => True
  | _, .str x => x.length ≤ 1000
  | n + 1, .lst ds => ds.length ≤ 1000 ∧ TameAll n ds
  | n + 1, .tup ds => ds.length ≤ 1000 ∧ TameAll n ds
  | _, _ => False
def TameAll : Nat → List Dat → Prop
  | _, [] => True
  | n, d :: ds => Tame n d ∧ TameAll n ds
end
theorem tameAll_mem {n : Nat} : ∀ {ds : List Dat}, TameAll n ds → ∀ d ∈ ds, Tame n d
  | [], _, d, h => by cases h
  | e :: ds, h, d, hm => by
    simp only [TameAll] at h
    rcases List.mem_cons.mp hm with rfl | hm
    · exact h.1
    · exact tameAll_mem h.2 d hm
theorem tameAll_of {n : Nat} : ∀ {ds : List Dat}, (∀ d ∈ ds, Tame n d) → TameAll n ds
  | [], _ => by simp only [TameAll]
  | d :: ds, h => by
    simp only [TameAll]
    exact ⟨h d List.mem_cons_self, tameAll_of fun e he => h e (List.mem_cons_of_mem _ he)⟩
theorem tame_lst {n : Nat} {ds : List Dat} : Tame (n + 1) (.lst ds) = (ds.length ≤ 1000 ∧ TameAll n ds) := by simp only [Tame]
theorem tame_tup {n : Nat} {ds : List Dat} : Tame (n + 1) (.tup ds) = (ds.length ≤ 1000 ∧ TameAll n ds) := by simp only [Tame]
theorem tame_str {n : Nat} {x : Str} : Tame n (.str x) = (x.length ≤ 1000) := by simp only [Tame]
theorem tame_tyn {n : Nat} {d : Dat} (h : Tame n d) : ∃ T, d.tyn = some T := by
  cases d <;> first | exact ⟨_, rfl⟩ | (simp only [Tame] at h)
theorem tame_len {n : Nat} {ds : List Dat} (h : Tame n (.lst ds)) : ds.length ≤ 1000 ∧ ∃ m, n = m + 1 ∧ TameAll m ds := by
  cases n with
  | zero => simp only [Tame] at h
  | succ n => rw [tame_lst] at h; exact ⟨h.1, n, rfl, h.2⟩
end

/-! ### instances: made by __init__, their fields and methods -/
section
variable (K : PySem.W.Frag)
/-- a part of an __init__: the instance stands aside, in slot 0; its fields ns hold ds, and ns', ds' behind it -/
def ExI (C : Addr) (t : TS) (ρ : List Sl) (ns : List Str) (ds : List Dat) (ρ' : List Sl) (ns' : List Str) (ds' : List Dat) : Prop :=
  ∀ (Z : Zs) (G H : Hp) (σ : L2.St) (x dx : Addr) (fs : List (Str × V)), Ct K Z G H σ ρ → σ[0]? = some (some (.ref x)) → H x = some (.ins C dx fs) → G x = none → Z.H0 x = none → Z.Kp x = none → (∀ i, ¬ Hd σ ρ i x) → fs.map (·.1) = ns → RpAll K G (fs.map (·.2)) ds →
    ∀ D : Ends, (∀ (σ' : L2.St) (G' H' : Hp) (fs' : List (Str × V)), Same G G' → Ct K Z G' H' σ' ρ' → σ'[0]? = some (some (.ref x)) → H' x = some (.ins C dx fs') → G' x = none → (∀ i, ¬ Hd σ' ρ' i x) → fs'.map (·.1) = ns' → RpAll K G' (fs'.map (·.2)) ds' → D.nx σ' H') → t D σ H
/-- an __init__'s promise: of the data es it makes an instance with fields ns that hold ds -/
def spInit (C : Addr) (R : List Dat → List Str → List Dat → Prop) : Sp := fun vs H Q _ => ∃ (G H0 : Hp) (x dx : Addr) (vs' : List V) (es : List Dat) (ns : List Str) (ds : List Dat), R es ns ds ∧ vs = .ref x :: vs' ∧ Same G H0 ∧ H0 x = none ∧ H0 dx = none ∧ dx ≠ x ∧
  H = upd (upd H0 dx (.own x)) x (.ins C dx []) ∧ RpAll K G vs' es ∧ ∀ (v : V) (G' H' : Hp), v = .non → Ct K ⟨G, H0, [], fun _ => none⟩ G' H' [] [] → Rp K G' (.ref x) (.ins C ns ds) → Q v H'
end
section
variable {K : PySem.W.Frag} {C : Addr} {Z : Zs} {G G' H H' : Hp} {σ : L2.St} {ρ ρ' ρ1 ρ2 : List Sl} {te ta tv : TE} {tt : TT} {t u : TS} {tg : TA} {d : Dat} {ds ds1 ds2 es : List Dat} {ns ns1 ns2 : List Str} {f m : Str} {ag : List Ag}
theorem exi_seq (h : ExI K C t ρ ns ds ρ1 ns1 ds1) (k : ExI K C u ρ1 ns1 ds1 ρ2 ns2 ds2) : ExI K C (tSeq t u) ρ ns ds ρ2 ns2 ds2 := fun Z G H σ x dx fs c e0 hx gx z zk no hn hr D q => by
  refine h Z G H σ x dx fs c e0 hx gx z zk no hn hr { D with nx := u D } fun σ1 G1 H1 fs1 s1 c1 e1 hx1 gx1 no1 hn1 hr1 => ?_
  exact k Z G1 H1 σ1 x dx fs1 c1 e1 hx1 gx1 z zk no1 hn1 hr1 D fun σ2 G2 H2 fs2 s2 => q σ2 G2 H2 fs2 (s1.trans s2)
theorem putF_new : ∀ {fs : List (Str × V)} {v : V}, f ∉ fs.map (·.1) → putF f v fs = fs ++ [(f, v)]
  | [], _, _ => rfl
  | (g, x) :: r, v, h => by
    have h1 : ¬ g = f := fun e => h (by rw [e]; exact List.mem_cons_self)
    have h2 : f ∉ r.map (·.1) := fun e => h (List.mem_cons_of_mem _ e)
    show (if g = f then _ else _) = _
    rw [if_neg h1, putF_new h2]
    rfl
theorem exi_fld (hv : Ev K tv ρ d ρ1) (hc : Cls K C) (hn : NoAttr K C f) (hf : f ∉ ns) (hl : ns.length < 1000) : ExI K C (sFld K (tVar 0) tv f) ρ ns ds ρ1 (ns ++ [f]) (ds ++ [d]) := fun Z G H σ x dx fs c e0 hx gx z zk no hn' hr D q => by
  have ca := c.aside hx gx no
  refine hv _ G H σ ca _ fun y G1 H1 s1 c1 r1 => ?_
  obtain ⟨c2, h2, g2, no2⟩ := c1.unaside zk
  refine ⟨.ref x, e0, x, C, dx, fs, rfl, h2, hc, hn, by rw [← hn'] at hl; simpa using hl, ?_⟩
  refine q σ G1 _ (fs ++ [(f, y)]) s1 (c2.asideSet h2 g2 no2 z zk) e0 ?_ g2 no2 ?_ ?_
  · rw [upd_same, putF_new (by rw [hn']; exact hf)]
  · rw [List.map_append, hn']
    rfl
  · rw [List.map_append]
    exact (hr.to s1).app (.cons r1 .nil)
/-- a test whose branch isn't taken -/
theorem exi_no {t1 : TS} (h : EvT K tt ρ false ρ1) (k : ExI K C u ρ1 ns ds ρ2 ns2 ds2) : ExI K C (tSeq (tIfS tt t1 tNext) u) ρ ns ds ρ2 ns2 ds2 := fun Z G H σ x dx fs c e0 hx gx z zk no hn hr D q => by
  have ca := c.aside hx gx no
  refine h _ G H σ ca _ fun G1 H1 s1 c1 => ?_
  obtain ⟨c2, h2, g2, no2⟩ := c1.unaside zk
  refine iteF ?_
  exact k Z G1 H1 σ x dx fs c2 e0 h2 g2 z zk no2 hn (hr.to s1) D fun σ2 G2 H2 fs2 s2 => q σ2 G2 H2 fs2 (s1.trans s2)
theorem ct_nil (gh : Same G H) : Ct K ⟨G, H, [], fun _ => none⟩ G H [] [] :=
  ⟨rfl, Same.refl G, gh, fun _ _ e _ => e, fun _ n => n, fun _ _ n => n, fun i s e => by simp at e, fun i j p a => by obtain ⟨e, _⟩ := a; simp at e, fun _ _ e => (by cases e), fun _ n => absurd rfl n, fun _ _ _ => rfl⟩
theorem Ct.nil (c : Ct K Z G H σ ρ) : Ct K Z G H [] [] :=
  ⟨rfl, c.gg, c.gh, c.hh, c.ge, c.fr, fun i s e => by simp at e, fun i j p a => by obtain ⟨e, _⟩ := a; simp at e, c.kp, c.kg, fun i p a => by obtain ⟨e, _⟩ := a; simp at e⟩
/-- an __init__'s body keeps its promise -/
theorem init_ok {R : List Dat → List Str → List Dat → Prop} {N : List Str} {vs : List V} {Q : VK} {E : XK} {n : Nat} (h : spInit K C R vs H Q E) (hn : ∀ es ns ds, R es ns ds → es.length = n)
    (k : ∀ es ns ds, R es ns ds → ∃ ρ', ExI K C t ([.no] ++ es.map Sl.dat ++ List.replicate (N.length - (n + 1)) .no) [] [] ρ' ns ds) : t { nx := fun _ H' => Q .non H', rt := Q } (start N vs) H := by
  obtain ⟨G, H0, x, dx, vs', es, ns, ds, r, rfl, gh, hx, hdx, ne, rfl, ra, q⟩ := h
  obtain ⟨ρ', ex⟩ := k es ns ds r
  have l : vs'.length = n := by rw [ra.length, hn _ _ _ r]
  have c0 : Ct K ⟨G, H0, [], fun _ => none⟩ G H0 (vs'.map some) (es.map Sl.dat) := start_all gh ra
  have c1 : Ct K ⟨G, H0, [], fun _ => none⟩ G (upd (upd H0 dx (.own x)) x (.ins C dx [])) (vs'.map some) (es.map Sl.dat) := (c0.grow (o := .own x) hdx).grow (by rw [upd_ne ne.symm]; exact hx)
  have gx : G x = none := c0.freshG hx
  have sl : ∀ {i : Nat} {s : Sl}, ([.no] ++ es.map Sl.dat ++ List.replicate (N.length - (n + 1)) Sl.no : List Sl)[i]? = some s → s.isNo = false → ∃ j d, i = j + 1 ∧ es[j]? = some d ∧ s = .dat d := fun {i s} e hs => by
    cases i with
    | zero =>
      have e : some Sl.no = some s := e
      cases e
      cases hs
    | succ j =>
      have e : (es.map Sl.dat ++ List.replicate (N.length - (n + 1)) Sl.no)[j]? = some s := e
      by_cases hj : j < es.length
      · rw [List.getElem?_append_left (by simpa using hj), List.getElem?_map, List.getElem?_eq_getElem hj] at e
        exact ⟨j, _, rfl, List.getElem?_eq_getElem hj, (Option.some.inj e).symm⟩
      · rw [List.getElem?_append_right (by simpa using hj)] at e
        have := List.mem_of_getElem? e
        rw [List.mem_replicate] at this
        rw [this.2] at hs
        cases hs
  have est : L2.start N (.ref x :: vs') = [some (.ref x)] ++ vs'.map some ++ List.replicate (N.length - (n + 1)) none := by
    show (V.ref x :: vs').map some ++ List.replicate (N.length - (V.ref x :: vs').length) none = _
    rw [List.length_cons, l]
    rfl
  have nohd : ∀ {i : Nat} {p : Addr}, ¬ Hd (L2.start N (.ref x :: vs')) ([.no] ++ es.map Sl.dat ++ List.replicate (N.length - (n + 1)) .no) i p := fun {i p} a => by
    obtain ⟨_, s, e, o⟩ := a
    obtain ⟨j, d, _, _, rfl⟩ := sl e (Sl.own_not_no o)
    cases o
  have c2 : Ct K ⟨G, H0, [], fun _ => none⟩ G (upd (upd H0 dx (.own x)) x (.ins C dx [])) (L2.start N (.ref x :: vs')) ([.no] ++ es.map Sl.dat ++ List.replicate (N.length - (n + 1)) .no) :=
    ⟨by rw [est]; simp [l, hn _ _ _ r], c1.gg, c1.gh, c1.hh, c1.ge, c1.fr, fun i s e hs => by
      obtain ⟨j, d, rfl, hd, rfl⟩ := sl e hs
      obtain ⟨v, hv, rv⟩ := ra.get hd
      refine ⟨v, ?_, rv⟩
      rw [est]
      show (vs'.map some ++ List.replicate (N.length - (n + 1)) none)[j]? = _
      have hj : j < vs'.length := (List.getElem?_eq_some_iff.mp hv).1
      rw [List.getElem?_append_left (by simpa using hj), List.getElem?_map, hv]
      rfl, fun i j p a => (nohd a).elim, c1.kp, c1.kg, fun i p a => (nohd a).elim⟩
  refine ex _ G _ _ x dx [] c2 (by rw [est]; rfl) upd_same gx hx rfl (fun i a => nohd a) rfl .nil _ fun σ' G' H' fs' s' c' e' hx' gx' no' hn' hr' => ?_
  obtain ⟨c3, s3⟩ := c'.adopt hx' hx rfl no' gx'
  exact q .non _ H' rfl c3.nil (.ins upd_same hn' (hr'.to s3))
/-- C(..) -/
theorem ev_make {R : List Dat → List Str → List Dat → Prop} {E : XK} (ha : EvA K tg ρ ag ρ1) (hd : agD ag = some es) (hR : R es ns ds) : Ev K (tMake C (spInit K C R) [] E tg) ρ (.ins C ns ds) ρ1 := fun Z G H σ c Q q => by
  have ha := agD_map hd ▸ ha
  refine ha Z G H σ c _ fun vs G1 H1 s1 c1 r1 => ?_
  have r := rp_args r1
  intro x dx hx hdx ne
  rw [List.append_nil]
  refine ⟨G1, H1, x, dx, vs, es, ns, ds, hR, rfl, c1.gh, hx, hdx, ne, rfl, r, fun v G2 H2 ev c2 r2 => ⟨ev, ?_⟩⟩
  obtain ⟨s2, c3⟩ := c1.after0 (vs := []) c2
  exact q _ G2 H2 (s1.trans s2) c3 r2
theorem look_zip : ∀ {fs : List (Str × V)} {ns : List Str} {ds : List Dat}, fs.map (·.1) = ns → RpAll K G (fs.map (·.2)) ds → ∀ {d : Dat}, (ns.zip ds).lookup f = some d → ∃ v, fs.lookup f = some v ∧ Rp K G v d
  | [], _, _, rfl, h, d, e => by cases h; cases e
  | (g, y) :: r, _, _, rfl, h, d, e => by
    cases h with
    | @cons _ _ d0 ds0 a b =>
      have e : List.lookup f ((g, d0) :: (r.map (·.1)).zip ds0) = some d := e
      rw [List.lookup_cons] at e
      rw [List.lookup_cons]
      cases q : f == g with
      | true => rw [q] at e; cases e; exact ⟨y, rfl, a⟩
      | false => rw [q] at e; exact look_zip rfl b e
/-- o.f -/
theorem ev_fld (ha : Ev K ta ρ (.ins C ns ds) ρ1) (hc : Cls K C) (hn : NoAttr K C f) (hl : (ns.zip ds).lookup f = some d) : Ev K (tFld K ta f) ρ d ρ1 := fun Z G H σ c Q q => by
  refine ha Z G H σ c _ fun v G1 H1 s1 c1 r1 => ?_
  cases r1 with
  | @ins a _ dx fs _ _ e n r =>
    obtain ⟨w, hw, rw⟩ := look_zip n r hl
    exact ⟨a, C, dx, fs, w, rfl, c1.gh _ _ e, hc, hn, hw, q _ _ _ s1 c1 rw⟩
theorem look_none : ∀ {fs : List (Str × V)}, m ∉ fs.map (·.1) → fs.lookup m = none
  | [], _ => rfl
  | (g, y) :: r, h => by
    have h1 : (m == g) = false := beq_eq_false_iff_ne.mpr fun e => h (by rw [e]; exact List.mem_cons_self)
    rw [List.lookup_cons, h1]
    exact look_none fun e => h (List.mem_cons_of_mem _ e)
/-- o.m(..) -/
theorem ev_meth {R : List Sl → Dat → List Sl → Prop} {E : XK} {as' : List Sl} (ha : Ev K ta ρ (.ins C ns ds) ρ1) (hb : EvA K tg ρ1 ag ρ2) (hd : agD ag = some es) (hm : m ∉ ns) (hR : R (.dat (.ins C ns ds) :: es.map Sl.dat) d as') : Ev K (tMeth C m (spG K R) [] E ta tg) ρ d ρ2 := fun Z G H σ c Q q => by
  have hb := agD_map hd ▸ hb
  refine ha Z G H σ c _ fun v G1 H1 s1 c1 r1 => ?_
  have r1' := r1
  cases r1 with
  | @ins a _ dx fs _ _ e n r =>
    refine ⟨a, dx, fs, rfl, c1.gh _ _ e, look_none (by rw [n]; exact hm), ?_⟩
    refine hb Z G1 H1 σ c1 _ fun vs G2 H2 s2 c2 r2 => ?_
    rw [List.append_nil]
    have ra : RpAll K G2 (.ref a :: vs) (.ins C ns ds :: es) := .cons (r1'.to s2) (rp_args r2)
    refine ⟨G2, [], _, d, as', hR, start_all c2.gh ra, fun v G3 H3 c3 r3 => ?_⟩
    obtain ⟨s3, c4⟩ := c2.after0 c3
    exact q v G3 H3 ((s1.trans s2).trans s3) c4 r3
end

section
variable {K : PySem.W.Frag} {ρ ρ1 ρ2 : List Sl} {ta tb : TE} {ds es : List Dat}
theorem ef_rep {n : Int} {a : Ag} (ha : EvL K ta ρ a ρ1) (hb : Ev K tb ρ1 (.int n) ρ2) (la : lookS ρ2 a = some ds) (h1 : -1000 ≤ n) (h2 : n ≤ 1000) (hl : ds.length * n.toNat ≤ 100000) : EvF K (tOp rRep ta tb) ρ (rep ds n.toNat) ρ2 := fun Z G H σ c Q q => by
  refine ha Z G H σ c _ fun x G1 H1 s1 c1 r1 => ?_
  refine hb Z G1 H1 σ c1 _ fun y G2 H2 s2 c2 r2 => ?_
  obtain ⟨p, xs, rfl, hp, rx⟩ := c2.readS (r1.to s2) la
  cases r2
  refine ⟨p, n, xs, rfl, rfl, hp, by omega, by omega, by rw [rx.length]; exact sz_ok hl, fun q' hn => ?_⟩
  obtain ⟨a, b, z, no⟩ := fresh_of c2 (xs := (List.replicate n.toNat xs).flatten) hn
  exact q q' _ G2 _ (s1.trans s2) a b upd_same (rp_rep rx _) z no
theorem ev_rep {n : Int} {a : Ag} (ha : EvL K ta ρ a ρ1) (hb : Ev K tb ρ1 (.int n) ρ2) (la : lookS ρ2 a = some ds) (h1 : -1000 ≤ n) (h2 : n ≤ 1000) (hl : ds.length * n.toNat ≤ 100000) : Ev K (tOp rRep ta tb) ρ (.lst (rep ds n.toNat)) ρ2 := ev_of_fresh (ef_rep ha hb la h1 h2 hl)
/-- {} -/
theorem ev_emp : Ev K tDNewK ρ .emp ρ := fun Z G H σ c Q q => by
  intro p hp
  obtain ⟨c2, s2⟩ := c.grown (o := .dK []) hp
  exact q _ _ _ s2 c2 (.emp upd_same)
theorem cutD_len (xs : List Dat) (lo hi : Option Int) : (cutD xs lo hi).length ≤ xs.length := by
  unfold cutD
  rw [List.length_take, List.length_drop]
  omega
end
/-! ### the rules with the written part named -/
section
variable (K : PySem.W.Frag) {X : Cx} {tg it e : Expr} {ta tb te to : TE} {t : TA} {f : Str} {T : String} {r : V → List V → Hp → VK → Prop} {n : Nat} {u : TGs}
theorem kEqD (hu : X.A.units + 64 < cLine) (h : X.K = K := by rfl) : OpR X (compareOp .Eq) (rEqD K) := h ▸ op_eqD hu
theorem kNeD (hu : X.A.units + 64 < cLine) (h : X.K = K := by rfl) : OpR X (compareOp .NotEq) (rNeD K) := h ▸ op_neD hu
theorem kInD (hu : X.A.units + 65 < cLine) (h : X.K = K := by rfl) : OpR X (compareOp .In) (rInD K) := h ▸ op_inD hu
theorem kNotInD (hu : X.A.units + 65 < cLine) (h : X.K = K := by rfl) : OpR X (compareOp .NotIn) (rNotInD K) := h ▸ op_notInD hu
theorem kIn (h : X.K = K := by rfl) : OpR X (compareOp .In) (rIn K false) := h ▸ op_in_seq
theorem kNotIn (h : X.K = K := by rfl) : OpR X (compareOp .NotIn) (rIn K true) := h ▸ op_notIn_seq
theorem kIxL (h : X.K = K := by rfl) : IxR X (rIxL K) := h ▸ ix_list
theorem kIxT (h : X.K = K := by rfl) : IxR X (rIxT K) := h ▸ ix_tup
theorem kSlL (h : X.K = K := by rfl) : SlR X (rSlL K) := h ▸ sl_list
theorem kSlA (h : X.K = K := by rfl) : SlR X (rSlA K) := h ▸ sl_tupA
theorem kCatA (h : X.K = K := by rfl) : OpR X (binaryOp .Add) (rCatA K) := h ▸ op_catA
abbrev rLenQ (K : PySem.W.Frag) : List V → Hp → VK → Prop := fun xs H Q => ∃ p ys, xs = [.ref p] ∧ (SqL K H p ys ∨ SqT K H p ys) ∧ Q (.int ys.length) H
theorem kLen (h : X.K = K := by rfl) : CallR X (.builtin "len") (rLenQ K) := h ▸ call_len_seq
abbrev rListQ (K : PySem.W.Frag) : List V → Hp → VK → Prop := fun xs H Q => ∃ p ys, xs = [.ref p] ∧ (SqL K H p ys ∨ SqT K H p ys) ∧ ∀ l, H l = none → Q (.ref l) (upd H l (.lst ys))
theorem kList (h : X.K = K := by rfl) : CallR X (.type "list") (rListQ K) := h ▸ call_list_of
abbrev rTupQ (K : PySem.W.Frag) : List V → Hp → VK → Prop := fun xs H Q => ∃ p ys, xs = [.ref p] ∧ ((SqL K H p ys ∧ ∀ l, H l = none → Q (.ref l) (upd H l (.tup ys))) ∨ (SqT K H p ys ∧ Q (.ref p) H))
theorem kTuple (h : X.K = K := by rfl) : CallR X (.type "tuple") (rTupQ K) := h ▸ call_tuple_of
theorem kIsi (h : X.K = K := by rfl) : CallR X (.builtin "isinstance") (rIsi K) := h ▸ call_isi
theorem kType (h : X.K = K := by rfl) : CallR X (.type "type") (rTyp K) := h ▸ call_type1
theorem kAll (hc : X.calm = true) (h : X.K = K := by rfl) : CallR X (.builtin "all") (rAll K) := h ▸ cr_all hc
theorem kAny (hc : X.calm = true) (h : X.K = K := by rfl) : CallR X (.builtin "any") (rAny K) := h ▸ cr_any hc
theorem kIndexD (hu : X.A.units + 65 < cLine) (h : X.K = K := by rfl) : MtR X "list.index" (rIndexD K) := h ▸ mt_indexD hu
theorem kCount (h : X.K = K := by rfl) : MtR X "list.count" (rCntI K) := h ▸ mt_lcount
theorem kFld (p : PE X e (tFld X.K ta f)) (h : X.K = K := by rfl) : PE X e (tFld K ta f) := h ▸ p
theorem kBM (p : PE X e (tBM X.K T r to t)) (h : X.K = K := by rfl) : PE X e (tBM K T r to t) := h ▸ p
theorem kBM0 (p : PE X e (tBM0 X.K T r to)) (h : X.K = K := by rfl) : PE X e (tBM0 K T r to) := h ▸ p
abbrev rJoinQ (K : PySem.W.Frag) : V → List V → Hp → VK → Prop := fun x xs H Q => ∃ a p, ∃ ys : List Str, x = .str a ∧ xs = [.ref p] ∧ (SqL K H p (ys.map V.str) ∨ SqT K H p (ys.map V.str)) ∧
      (ys.map (·.length)).sum + ys.length * a.length ≤ 16777216 ∧ Q (.str (Txt.join a ys)) H
theorem kJoin (p : PE X e (tM1 (rJoinQ X.K) to te)) (h : X.K = K := by rfl) : PE X e (tM1 (rJoinQ K) to te) := h ▸ p
theorem kLenSet (p : PE X e (tLenSetG X.K ta)) (h : X.K = K := by rfl) : PE X e (tLenSetG K ta) := h ▸ p
theorem kiList (p : PI X tg it (iList X.K te)) (h : X.K = K := by rfl) : PI X tg it (iList K te) := h ▸ p
theorem kiTup (p : PI X tg it (iTup X.K te)) (h : X.K = K := by rfl) : PI X tg it (iTup K te) := h ▸ p
theorem kiEnum (p : PI X tg it (iEnum X.K t)) (h : X.K = K := by rfl) : PI X tg it (iEnum K t) := h ▸ p
theorem kiZip (p : PI X tg it (iZip X.K t)) (h : X.K = K := by rfl) : PI X tg it (iZip K t) := h ▸ p
theorem kgTup (p : PG X e (gTup X.K n u)) (h : X.K = K := by rfl) : PG X e (gTup K n u) := h ▸ p
theorem ksFld {st : Stmt} {tv : TE} (p : PS X st (sFld X.K ta tv f)) (h : X.K = K := by rfl) : PS X st (sFld K ta tv f) := h ▸ p
end
/-! ### exceptions -/
/-- isinstance(e, (A, B, ..)) of the exception in hand -/
def rIsET (K : PySem.W.Frag) (D a : Addr) : List V → Hp → VK → Prop := fun xs H Q => ∃ (p : Addr) (cs : List V) (its : List Value) (b : Bool), xs = [.ref a, .ref p] ∧ H p = some (.tup cs) ∧ (∀ us, Vals cs us → us = its) ∧ PySem.W.kitAny K (.ref D) its = some b ∧ Q (.bl b) H
theorem call_isET {X : Cx} {a D : Addr} {oe : Obj} {pn : List (Addr × Obj)} (C : ExcC X.K D) (hz : Zc (.ref D) none oe) (hf : ∃ vs, oe.data = .fields vs) : CallR (X.suite a ((a, oe) :: pn)) (.builtin "isinstance") (rIsET X.K D a) := by
  rintro pins s σ H xs us Q I hv ⟨p, cs, its, b, rfl, hp, hits, hk, q⟩
  cases hv with
  | cons h1 h2 =>
  cases h2 with
  | cons h3 h4 =>
  cases h4
  cases h1
  cases h3
  have hpin := (I.pin (a, oe) (by simp)).1
  obtain ⟨ts, tv, tt, _⟩ := I.tuple (.inl (.inl hp))
  have e := hits _ tv
  obtain ⟨o, to, tc, n, td⟩ := tt
  obtain ⟨oc, od, odt, osl⟩ := o
  obtain ⟨vs, hf⟩ := hf
  have hcl : (PySem.W.clsIn X.K D).isSome = true := by
    have := C.hd
    unfold PySem.W.hasDictIn at this
    cases q : PySem.W.clsIn X.K D with
    | none => rw [q] at this; cases this
    | some _ => rfl
  refine PySem.W.kia_tup (PySem.W.kitx_exc (x := a) (ox := oe) (od := none) hcl C.hg C.hk C.hs C.ha C.hn C.ht C.hm) I.kIn ⟨hpin, hz.1, ?_, ?_⟩ (tp := p) (its := its) (n := n) (sl := osl) (dd := od) ?_ hk (by intro h; cases h) fun tk => ?_
  · unfold PySem.W.notCls
    rw [hf]
  · rw [hz.2]; trivial
  · rw [to, ← e]
    cases tc
    cases td
    rfl
  · exact ⟨.bl b, H, I.tok tk, rfl, q⟩
/-- C(..) that may refuse -/
theorem pe_makeX {X : Cx} {k : Nat} {f C : Addr} {fd : FuncData} {ps : List Str} {sp : Sp} {E : L2.St → XK} {x : Str} {p pos : Pos} {e : Expr} {es : List Expr} {t : TA}
    (mk : Mk X.K C f) (F : FnOk X.prog X.w X.K X.mg X.base (CX X.prog X.w) k f fd ps sp) (hr : Room (k + 1) X.A) (hg : Gl X x) (hm : X.mg x = some (.ref C)) (hb : Binds X.K fd ps []) (hx : ∀ σ, PassesAt (CX X.prog X.w) X σ (E σ)) (ha : PA X (e :: es) t)
    (h1 : (x == ("__debug__" : Str)) = false := by decide) (h2 : starEach (e :: es) X.env = (false, eval e X.env) :: starEach es X.env := by rfl) (h3 : (backTo pos (starEach es X.env)).any (·.1) = false := by rfl) :
    PE X (.Call (.Name x p) (e :: es) [] pos) (tMake C sp [] (fun cls d H => ∀ σ', σ'.length = X.N.length → E σ' cls d H) t) :=
  pe_make mk F hr hg hm hb .nil (fun pins σ H s e s' I h => hx σ pins H s e s' I (by
    obtain ⟨a, B, H', cls, d, q1, q2, q3, q4, q5, q6, q7, q8⟩ := h
    exact ⟨a, B, H', cls, d, q1, q2, q3, q4, q5, q6, q7, q8 σ I.len⟩)) ha h1 h2 h3
/-- a call that raises CB -/
def spX (K : PySem.W.Frag) (CB : Addr) (R : List Sl → Prop) : Sp := fun vs H _ E => ∃ (G : Hp) (O : List Addr) (as : List Sl), R as ∧ Ct K ⟨G, H, O, fun _ => none⟩ G H (vs.map some) as ∧
  ∀ (G' H' : Hp), Ct K ⟨G, H, O, fun _ => none⟩ G' H' (vs.map some) (as.map fun _ => .no) → E (.ref CB) none H'
/-- an __init__ that refuses -/
def spInitX (K : PySem.W.Frag) (C CB : Addr) (R : List Dat → Prop) : Sp := fun vs H _ E => ∃ (G H0 : Hp) (x dx : Addr) (vs' : List V) (es : List Dat), R es ∧ vs = .ref x :: vs' ∧ Same G H0 ∧ H0 x = none ∧ H0 dx = none ∧ dx ≠ x ∧
  H = upd (upd H0 dx (.own x)) x (.ins C dx []) ∧ RpAll K G vs' es ∧ ∀ (G' H' : Hp), Ct K ⟨G, H0, [], fun _ => none⟩ G' H' [] [] → E (.ref CB) none H'
/-- a statement raises CB, E being what the def's caller wishes -/
def ExR (K : PySem.W.Frag) (CB : Addr) (E : XK) (t : TS) (ρ : List Sl) : Prop := ∀ (Z : Zs) (G H : Hp) (σ : L2.St), Ct K Z G H σ ρ → ∀ D : Ends, (∀ (σ' : L2.St) (G' H' : Hp), Same G G' → Ct K Z G' H' σ' (ρ.map fun _ => .no) → E (.ref CB) none H') → t D σ H
section
variable {K : PySem.W.Frag} {CB : Addr} {E : XK} {ρ ρ1 : List Sl} {t u : TS} {tt : TT}
theorem Ct.blank {Z : Zs} {G H : Hp} {σ : L2.St} (c : Ct K Z G H σ ρ) : Ct K Z G H σ (ρ.map fun _ => .no) := c.weak (by
  clear c
  induction ρ with
  | nil => exact .nil
  | cons s r ih => exact .no ih)
theorem exr_raise : ExR K CB E (fun _ _ H => E (.ref CB) none H) ρ := fun Z G H σ c D q => q σ G H (Same.refl G) c.blank
theorem exr_head (h : ExR K CB E t ρ) : ExR K CB E (tSeq t u) ρ := fun Z G H σ c D q => h Z G H σ c _ q
theorem exr_if (h : EvT K tt ρ true ρ) (k : ExR K CB E t ρ) : ExR K CB E (tIfS tt t u) ρ := fun Z G H σ c D q => h Z G H σ c _ fun G1 H1 s1 c1 => iteT (k Z G1 H1 σ c1 D fun σ' G2 H2 s2 => q σ' G2 H2 (s1.trans s2))
end
section
variable {K : PySem.W.Frag} {C CB : Addr} {Z : Zs} {G G' H H' : Hp} {σ : L2.St} {ρ ρ' ρ1 ρ2 : List Sl} {te ta tv : TE} {tt : TT} {t u : TS} {tg : TA} {d : Dat} {ds es : List Dat} {ag : List Ag}
theorem Ct.reslot (c : Ct K Z G H σ ρ) {σ' : L2.St} {n : Nat} (h : σ'.length = n) : Ct K Z G H σ' (List.replicate n .no) := by
  have k : ∀ {i : Nat} {s : Sl}, (List.replicate n Sl.no)[i]? = some s → s = .no := fun {i s} e => by
    have := List.mem_of_getElem? e
    rw [List.mem_replicate] at this
    exact this.2
  have kh : ∀ {i : Nat} {p : Addr}, ¬ Hd σ' (List.replicate n Sl.no) i p := fun {i p} a => by
    obtain ⟨_, s, e, o⟩ := a
    rw [k e] at o
    cases o
  exact ⟨by rw [h, List.length_replicate], c.gg, c.gh, c.hh, c.ge, c.fr, fun i s e m => (by rw [k e] at m; cases m), fun i j p a => (kh a).elim, c.kp, c.kg, fun i p a => (kh a).elim⟩
/-- how an __init__'s body begins -/
theorem init_start {N : List Str} {x dx : Addr} {H0 : Hp} {vs' : List V} {n : Nat} (gh : Same G H0) (hx : H0 x = none) (hdx : H0 dx = none) (ne : dx ≠ x) (ra : RpAll K G vs' es) (hn : es.length = n) :
    Ct K ⟨G, H0, [], fun _ => none⟩ G (upd (upd H0 dx (.own x)) x (.ins C dx [])) (L2.start N (.ref x :: vs')) ([.no] ++ es.map Sl.dat ++ List.replicate (N.length - (n + 1)) .no) := by
  have l : vs'.length = n := by rw [ra.length, hn]
  have c0 : Ct K ⟨G, H0, [], fun _ => none⟩ G H0 (vs'.map some) (es.map Sl.dat) := start_all gh ra
  have c1 : Ct K ⟨G, H0, [], fun _ => none⟩ G (upd (upd H0 dx (.own x)) x (.ins C dx [])) (vs'.map some) (es.map Sl.dat) := (c0.grow (o := .own x) hdx).grow (by rw [upd_ne ne.symm]; exact hx)
  have sl : ∀ {i : Nat} {s : Sl}, ([.no] ++ es.map Sl.dat ++ List.replicate (N.length - (n + 1)) Sl.no : List Sl)[i]? = some s → s.isNo = false → ∃ j d, i = j + 1 ∧ es[j]? = some d ∧ s = .dat d := fun {i s} e hs => by
    cases i with
    | zero =>
      have e : some Sl.no = some s := e
      cases e
      cases hs
    | succ j =>
      have e : (es.map Sl.dat ++ List.replicate (N.length - (n + 1)) Sl.no)[j]? = some s := e
      by_cases hj : j < es.length
      · rw [List.getElem?_append_left (by simpa using hj), List.getElem?_map, List.getElem?_eq_getElem hj] at e
        exact ⟨j, _, rfl, List.getElem?_eq_getElem hj, (Option.some.inj e).symm⟩
      · rw [List.getElem?_append_right (by simpa using hj)] at e
        have := List.mem_of_getElem? e
        rw [List.mem_replicate] at this
        rw [this.2] at hs
        cases hs
  have est : L2.start N (.ref x :: vs') = [some (.ref x)] ++ vs'.map some ++ List.replicate (N.length - (n + 1)) none := by
    show (V.ref x :: vs').map some ++ List.replicate (N.length - (V.ref x :: vs').length) none = _
    rw [List.length_cons, l]
    rfl
  have nohd : ∀ {i : Nat} {p : Addr}, ¬ Hd (L2.start N (.ref x :: vs')) ([.no] ++ es.map Sl.dat ++ List.replicate (N.length - (n + 1)) .no) i p := fun {i p} a => by
    obtain ⟨_, s, e, o⟩ := a
    obtain ⟨j, d, _, _, rfl⟩ := sl e (Sl.own_not_no o)
    cases o
  exact ⟨by rw [est]; simp [l, hn], c1.gg, c1.gh, c1.hh, c1.ge, c1.fr, fun i s e hs => by
      obtain ⟨j, d, rfl, hd, rfl⟩ := sl e hs
      obtain ⟨v, hv, rv⟩ := ra.get hd
      refine ⟨v, ?_, rv⟩
      rw [est]
      show (vs'.map some ++ List.replicate (N.length - (n + 1)) none)[j]? = _
      have hj : j < vs'.length := (List.getElem?_eq_some_iff.mp hv).1
      rw [List.getElem?_append_left (by simpa using hj), List.getElem?_map, hv]
      rfl, fun i j p a => (nohd a).elim, c1.kp, c1.kg, fun i p a => (nohd a).elim⟩
/-- an __init__'s body that refuses -/
theorem initX_ok {R : List Dat → Prop} {N : List Str} {vs : List V} {Q : VK} {E : XK} {n : Nat} (h : spInitX K C CB R vs H Q E) (hn : ∀ es, R es → es.length = n)
    (k : ∀ es, R es → ExR K CB E t ([.no] ++ es.map Sl.dat ++ List.replicate (N.length - (n + 1)) .no)) : t { nx := fun _ H' => Q .non H', rt := Q } (L2.start N vs) H := by
  obtain ⟨G, H0, x, dx, vs', es, r, rfl, gh, hx, hdx, ne, rfl, ra, q⟩ := h
  exact k es r _ G _ _ (init_start gh hx hdx ne ra (hn _ r)) _ fun σ' G' H' s c => q G' H' c.nil
theorem initX_len {R : List Dat → Prop} {n : Nat} (h : ∀ es, R es → es.length = n) : ∀ vs H Q E, spInitX K C CB R vs H Q E → vs.length = n + 1 := by
  rintro vs H Q E ⟨G, H0, x, dx, vs', es, r, rfl, _, _, _, _, _, ra, _⟩
  rw [List.length_cons, ra.length, h _ r]
/-- try: C(..) except X as e: suite, where C refuses -/
theorem ex_tryMake {R : List Dat → Prop} {cv : Value} {i n : Nat} {ts : Addr → Value → Option Addr → TS} {Wout : WX} (ha : EvA K tg ρ ag ρ1) (hd : agD ag = some es) (hR : R es) (hm : PySem.W.exmOne K (.ref CB) cv = some true) (hi : i < n)
    (suite : ∀ a, Ex K (ts a (.ref CB) none) ((List.replicate n .no).set i (.dat (.cls a))) (.rt d ρ2)) :
    Ex K (fun D σ H => tDrop (tMake C (spInitX K C CB R) [] (fun cls dd H => ∀ σ', σ'.length = n → wAs K cv i ts Wout D cls dd σ' H) tg) D σ H) ρ (.rt d ρ2) := fun Z G H σ c D q => by
  have ha := agD_map hd ▸ ha
  refine ha Z G H σ c _ fun vs G1 H1 s1 c1 r1 => ?_
  have r := rp_args r1
  intro x dx hx hdx ne
  rw [List.append_nil]
  refine ⟨G1, H1, x, dx, vs, es, hR, rfl, c1.gh, hx, hdx, ne, rfl, r, fun G2 H2 c2 => ?_⟩
  obtain ⟨s2, c3⟩ := c1.after0 (vs := []) c2
  intro σ' hσ
  refine ⟨true, hm, fun _ a _ => ?_, fun h => by cases h⟩
  have c4 := (c3.reslot hσ).setD (i := i) (v := .ref a) (d := .cls a) (by rw [List.getElem?_replicate, if_pos hi]; rfl) (.cls a)
  exact suite a Z G2 H2 _ c4 _ fun σ2 v G3 H3 s3 c5 r5 => q σ2 v G3 H3 ((s1.trans s2).trans s3) c5 r5
theorem ev_isE {D a : Addr} {i : Nat} {c : V} {cv : Value} {b : Bool} (h : ρ[i]? = some (.dat (.cls a))) (hc : ∀ u, RelV c u → u = cv) (hk : PySem.W.kitOne K (.ref D) cv = some b) : Ev K (tCB (rIsE K D a) (tCons (tVar i) (tCons (tC c) tNil))) ρ (.bl b) ρ := fun Z G H σ ct Q q => by
  obtain ⟨v, e, r⟩ := ct.dat h
  cases r
  exact ⟨_, e, c, cv, b, rfl, hc, hk, q _ G H (Same.refl G) ct (.bl b)⟩
theorem ev_isET {D a : Addr} {i : Nat} {As : List Addr} {b : Bool} (h : ρ[i]? = some (.dat (.cls a))) (hb : Ev K ta ρ (.tup (As.map Dat.cls)) ρ1) (hk : PySem.W.kitAny K (.ref D) (As.map Value.ref) = some b) : Ev K (tCB (rIsET K D a) (tCons (tVar i) (tCons ta tNil))) ρ (.bl b) ρ1 := fun Z G H σ ct Q q => by
  obtain ⟨v, e, r⟩ := ct.dat h
  cases r
  refine ⟨_, e, ?_⟩
  refine hb Z G H σ ct _ fun w G1 H1 s1 c1 r1 => ?_
  cases r1 with
  | tup hp ra =>
    have hv : ∀ (As : List Addr) (cs : List V), RpAll K G1 cs (As.map Dat.cls) → ∀ us, Vals cs us → us = As.map Value.ref := by
      intro As
      induction As with
      | nil => intro cs h us hu; cases h; cases hu; rfl
      | cons A As ih =>
        intro cs h us hu
        cases h with
        | cons h1 h2 =>
          cases h1
          cases hu with
          | cons u1 u2 =>
            cases u1
            rw [ih _ h2 _ u2]
            rfl
    exact ⟨_, _, _, b, rfl, c1.gh _ _ hp, hv As _ ra, hk, q _ G1 H1 s1 c1 (.bl b)⟩
theorem ev_cref {A : Addr} : Ev K (tC (.ref A)) ρ (.cls A) ρ := ev_c fun _ => .cls A
theorem ex_seqRt (h : Ex K t ρ (.rt d ρ1)) : Ex K (tSeq t u) ρ (.rt d ρ1) := fun Z G H σ c D q => h Z G H σ c { D with nx := u D } fun σ' v G' H' s c' r => q σ' v G' H' s c' r
end
/-! ### what is new since the def began -/
def Nw (B G : Hp) : Hp := fun b => match B b with
  | none => G b
  | some _ => none
section
variable {B G G' : Hp}
theorem nw_none {b : Addr} (h : B b = none) : Nw B G b = G b := by unfold Nw; rw [h]
theorem nw_some {b : Addr} {o : HO} (h : Nw B G b = some o) : B b = none ∧ G b = some o := by
  unfold Nw at h
  cases e : B b with
  | none => rw [e] at h; exact ⟨rfl, h⟩
  | some _ => rw [e] at h; cases h
theorem nw_sub : Same (Nw B G) G := fun b o e => (nw_some e).2
theorem nw_same (s : Same G G') : Same (Nw B G) (Nw B G') := fun b o e => by
  obtain ⟨h, k⟩ := nw_some e
  rw [nw_none h]
  exact s b o k
theorem nw_base {B' : Hp} (h : ∀ b, B b ≠ none → B' b ≠ none) : Same (Nw B' G) (Nw B G) := fun b o e => by
  obtain ⟨k, e⟩ := nw_some e
  have : B b = none := by
    cases q : B b with
    | none => rfl
    | some _ => exact absurd k (h b (by rw [q]; intro z; cases z))
  rw [nw_none this]
  exact e
end
def Atom : Dat → Bool
  | .non => true | .bl _ => true | .int _ => true | .str _ => true | .ty _ => true | .cls _ => true
  | _ => false
section
variable (K : PySem.W.Frag)
def EvN (te : TE) (ρ : List Sl) (d : Dat) (ρ' : List Sl) : Prop := ∀ (Z : Zs) (G H : Hp) (σ : L2.St), Ct K Z G H σ ρ → ∀ Q : VK, (∀ (v : V) (G' H' : Hp), Same G G' → Ct K Z G' H' σ ρ' → Rp K (Nw Z.H0 G') v d → Q v H') → te σ H Q
def EvFN (te : TE) (ρ : List Sl) (ds : List Dat) (ρ' : List Sl) : Prop := ∀ (Z : Zs) (G H : Hp) (σ : L2.St), Ct K Z G H σ ρ → ∀ Q : VK,
  (∀ (p : Addr) (xs : List V) (G' H' : Hp), Same G G' → Ct K Z G' H' σ ρ' → G' p = none → H' p = some (.lst xs) → RpAll K (Nw Z.H0 G') xs ds → Z.H0 p = none ∧ Z.Kp p = none → (∀ i, ¬ Hd σ ρ' i p) → Q (.ref p) H') → te σ H Q
def EvAN (ta : TA) (ρ : List Sl) (ds : List Dat) (ρ' : List Sl) : Prop := ∀ (Z : Zs) (G H : Hp) (σ : L2.St), Ct K Z G H σ ρ → ∀ Q : List V → Hp → Prop, (∀ (vs : List V) (G' H' : Hp), Same G G' → Ct K Z G' H' σ ρ' → RpAll K (Nw Z.H0 G') vs ds → Q vs H') → ta σ H Q
def ExIN (C : Addr) (t : TS) (ρ : List Sl) (ns : List Str) (ds : List Dat) (ρ' : List Sl) (ns' : List Str) (ds' : List Dat) : Prop :=
  ∀ (Z : Zs) (G H : Hp) (σ : L2.St) (x dx : Addr) (fs : List (Str × V)), Ct K Z G H σ ρ → σ[0]? = some (some (.ref x)) → H x = some (.ins C dx fs) → G x = none → Z.H0 x = none → Z.Kp x = none → (∀ i, ¬ Hd σ ρ i x) → fs.map (·.1) = ns → RpAll K (Nw Z.H0 G) (fs.map (·.2)) ds →
    ∀ D : Ends, (∀ (σ' : L2.St) (G' H' : Hp) (fs' : List (Str × V)), Same G G' → Ct K Z G' H' σ' ρ' → σ'[0]? = some (some (.ref x)) → H' x = some (.ins C dx fs') → G' x = none → (∀ i, ¬ Hd σ' ρ' i x) → fs'.map (·.1) = ns' → RpAll K (Nw Z.H0 G') (fs'.map (·.2)) ds' → D.nx σ' H') → t D σ H
/-- a def's promise: what it hands back is new -/
def spN (R : List Dat → Dat → Prop) : Sp := fun vs H Q _ => ∃ (G : Hp) (as : List Dat) (d : Dat), R as d ∧ Same G H ∧ RpAll K G vs as ∧
  ∀ (v : V) (G' H' : Hp), Ct K ⟨G, H, [], fun _ => none⟩ G' H' (vs.map some) (List.replicate vs.length .no) → Rp K (Nw H G') v d → Q v H'
def spInitN (C : Addr) (R : List Dat → List Str → List Dat → Prop) : Sp := fun vs H Q _ => ∃ (G H0 : Hp) (x dx : Addr) (vs' : List V) (es : List Dat) (ns : List Str) (ds : List Dat), R es ns ds ∧ vs = .ref x :: vs' ∧ Same G H0 ∧ H0 x = none ∧ H0 dx = none ∧ dx ≠ x ∧
  H = upd (upd H0 dx (.own x)) x (.ins C dx []) ∧ RpAll K G vs' es ∧ ∀ (v : V) (G' H' : Hp), v = .non → Ct K ⟨G, H0, [], fun _ => none⟩ G' H' [] [] → Rp K (Nw H0 G') (.ref x) (.ins C ns ds) → Q v H'
end
section
variable {K : PySem.W.Frag} {C : Addr} {Z : Zs} {G G' H H' : Hp} {σ : L2.St} {ρ ρ' ρ1 ρ2 : List Sl} {te ta tb tv : TE} {tt : TT} {t u : TS} {tg : TA} {d : Dat} {ds ds1 ds2 es bs : List Dat} {ns ns1 ns2 : List Str} {f m : Str} {ag : List Ag}
theorem rp_atom {v : V} (h : Atom d = true) (r : Rp K G v d) : Rp K G' v d := by
  cases r <;> first | (constructor; done) | cases h
theorem rpAll_atoms : ∀ {vs : List V} {ds : List Dat}, ds.all Atom = true → RpAll K G vs ds → RpAll K G' vs ds
  | _, [], _, h => by cases h; exact .nil
  | _, d :: ds, a, h => by
    rw [List.all_cons, Bool.and_eq_true] at a
    cases h with | cons h1 h2 => exact .cons (rp_atom a.1 h1) (rpAll_atoms a.2 h2)
theorem EvN.to {d' : Dat} (h : EvN K te ρ d ρ') (e : d = d') : EvN K te ρ d' ρ' := e ▸ h
theorem evn_atom (h : Ev K te ρ d ρ') (a : Atom d = true) : EvN K te ρ d ρ' := fun Z G H σ c Q q => h Z G H σ c _ fun v G1 H1 s1 c1 r1 => q v G1 H1 s1 c1 (rp_atom a r1)
theorem ev_of_evn (h : EvN K te ρ d ρ') : Ev K te ρ d ρ' := fun Z G H σ c Q q => h Z G H σ c _ fun v G1 H1 s1 c1 r1 => q v G1 H1 s1 c1 (r1.to nw_sub)
theorem efn_atoms (h : EvF K te ρ ds ρ') (a : ds.all Atom = true) : EvFN K te ρ ds ρ' := fun Z G H σ c Q q => h Z G H σ c _ fun p xs G1 H1 s1 c1 g1 h1 r1 z no => q p xs G1 H1 s1 c1 g1 h1 (rpAll_atoms a r1) z no
theorem evn_of_fresh (h : EvFN K te ρ ds ρ') : EvN K te ρ (.lst ds) ρ' := fun Z G H σ c Q q => by
  refine h Z G H σ c _ fun p xs G1 H1 s1 c1 g1 h1 r1 z no => ?_
  obtain ⟨c2, s2⟩ := c1.adopt h1 z.1 z.2 no g1
  exact q _ _ _ (s1.trans s2) c2 (.lst (by rw [nw_none z.1]; exact upd_same) (r1.to (nw_same s2)))
theorem ean_nil : EvAN K tNil ρ [] ρ := fun _ G H _ c Q q => q [] G H (Same.refl G) c .nil
theorem ean_cons {t : TA} (ha : EvN K te ρ d ρ1) (hb : EvAN K t ρ1 ds ρ2) : EvAN K (tCons te t) ρ (d :: ds) ρ2 := fun Z G H σ c Q q => by
  refine ha Z G H σ c _ fun v G1 H1 s1 c1 r1 => ?_
  refine hb Z G1 H1 σ c1 _ fun vs G2 H2 s2 c2 r2 => ?_
  exact q _ G2 H2 (s1.trans s2) c2 (.cons (r1.to (nw_same s2)) r2)
theorem efn_lst {t : TA} (h : EvAN K t ρ ds ρ1) (hl : ds.length ≤ 100000) : EvFN K (tLst t) ρ ds ρ1 := fun Z G H σ c Q q => by
  refine h Z G H σ c _ fun vs G1 H1 s1 c1 r1 => ?_
  refine ⟨by rw [r1.length]; exact sz_ok hl, fun p hp => ?_⟩
  obtain ⟨a, b, z, no⟩ := fresh_of c1 (xs := vs) hp
  exact q p vs G1 _ s1 a b upd_same r1 z no
theorem efn_cat (ha : EvN K ta ρ (.lst ds) ρ1) (hb : EvN K tb ρ1 (.lst es) ρ2) (hl : ds.length + es.length ≤ 100000) : EvFN K (tOp rCat ta tb) ρ (ds ++ es) ρ2 := fun Z G H σ c Q q => by
  refine ha Z G H σ c _ fun x G1 H1 s1 c1 r1 => ?_
  refine hb Z G1 H1 σ c1 _ fun y G2 H2 s2 c2 r2 => ?_
  have r1 := r1.to (nw_same s2)
  cases r1 with
  | @lst p xs _ hp rx =>
    cases r2 with
    | @lst p' ys _ hp' ry =>
      refine ⟨p, p', xs, ys, rfl, rfl, c2.gh _ _ (nw_sub _ _ hp), c2.gh _ _ (nw_sub _ _ hp'), by rw [rx.length, ry.length]; exact sz_ok hl, fun n hn => ?_⟩
      obtain ⟨a, b, z, no⟩ := fresh_of c2 (xs := xs ++ ys) hn
      exact q n _ G2 _ (s1.trans s2) a b upd_same (rx.app ry) z no
theorem efn_lc {wi : TI} {x : Nat} (ρs : Nat → List Sl) (keep : Nat → Bool) (f : Nat → Dat) (h : Src K wi ρ ds (ρs 0)) (hx : ∀ i, (ρs i)[x]?.isSome = true) (hl : ds.length < 100000)
    (body : ∀ i d, ds[i]? = some d → ∃ ρa, EvT K tt ((wipeS (ρs i) [x]).set x (.dat d)) (keep i) ρa ∧ (keep i = true → ∃ ρb, EvN K te ρa (f i) ρb ∧ wipeS ρb [x] = wipeS (ρs (i + 1)) [x]) ∧ (keep i = false → wipeS ρa [x] = wipeS (ρs (i + 1)) [x])) :
    EvFN K (tLc wi (gName x) tt te [x]) ρ (lcOut keep f ds.length) (wipeS (ρs ds.length) [x]) := fun Z G H σ c Q q => by
  refine h Z G H σ c _ fun J G1 H1 s1 c1 wk D hD => ?_
  obtain ⟨c2, gD, ⟨z0, zk⟩, noD⟩ := fresh_of c1 (xs := []) hD
  refine ⟨fun i m H' => m = ds.length - i ∧ i ≤ ds.length ∧ ∃ G' acc, Same G1 G' ∧ Ct K Z G' H' (wipe σ [x]) (wipeS (ρs i) [x]) ∧ H' D = some (.lst acc) ∧ G' D = none ∧ RpAll K (Nw Z.H0 G') acc (lcOut keep f i) ∧ ∀ j, ¬ Hd (wipe σ [x]) (wipeS (ρs i) [x]) j D,
    ⟨ds.length, by simp, Nat.zero_le _, G1, [], Same.refl G1, c2.wipe [x], upd_same, gD, .nil, fun j a => noD j (hd_wipe a)⟩, ?_⟩
  rintro i m H' ⟨rfl, hi, G', acc, s', c', hacc, gD', rx, no'⟩
  by_cases hlt : i < ds.length
  · have ca := c'.aside hacc gD' no'
    obtain ⟨w1, w2⟩ := wk i G' H' _ _ _ s' ca
    obtain ⟨go, yl⟩ := w2 ds[i] (List.getElem?_eq_getElem hlt)
    refine .inr ⟨go, fun H'' => ∃ G'' acc', Same G1 G'' ∧ Ct K Z G'' H'' (wipe σ [x]) (wipeS (ρs (i + 1)) [x]) ∧ H'' D = some (.lst acc') ∧ G'' D = none ∧ RpAll K (Nw Z.H0 G'') acc' (lcOut keep f (i + 1)) ∧ ∀ j, ¬ Hd (wipe σ [x]) (wipeS (ρs (i + 1)) [x]) j D,
      fun H'' k => ⟨ds.length - (i + 1), by omega, rfl, hlt, k⟩, fun y H'' hy => ?_⟩
    obtain ⟨Gy, sy, cy, ry⟩ := yl y H'' hy
    have hx' : (wipeS (ρs i) [x])[x]?.isSome = true := isSome_set (hx i)
    have cb := cy.setD (i := x) hx' ry
    refine ⟨wipe_back, ?_⟩
    obtain ⟨ρa, ht, hy1, hy0⟩ := body i _ (List.getElem?_eq_getElem hlt)
    refine ht _ Gy _ _ cb _ fun G3 H3 s3 c3 => ?_
    cases hk : keep i with
    | false =>
      refine iteF ?_
      obtain ⟨c4, h4, g4, n4⟩ := c3.unaside zk
      have c5 := c4.wipe [x]
      rw [wipe_back, hy0 hk] at c5
      refine ⟨G3, acc, s'.trans (sy.trans s3), c5, h4, g4, ?_, fun j a => n4 j ?_⟩
      · rw [lcOut_succ, hk]
        rw [if_neg Bool.false_ne_true, List.append_nil]
        exact rx.to (nw_same (sy.trans s3))
      · rw [← wipe_back (σ := σ) (x := x) (y := y), ← hy0 hk] at a
        exact hd_wipe a
    | true =>
      refine iteT ?_
      obtain ⟨ρb, he, ew⟩ := hy1 hk
      refine he _ G3 H3 _ c3 _ fun w G4 H4 s4 c4 r4 => ?_
      obtain ⟨c5, h5, g5, n5⟩ := c4.unaside zk
      refine ⟨acc, h5, by
        rw [rx.length]
        exact Nat.lt_of_le_of_lt (lcOut_len keep f i) (Nat.lt_of_lt_of_le (Nat.lt_trans hlt hl) (by decide)), ?_⟩
      have c6 := (c5.asideSet (o' := .lst (acc ++ [w])) h5 g5 n5 z0 zk).wipe [x]
      rw [wipe_back, ew] at c6
      refine ⟨G4, acc ++ [w], s'.trans (sy.trans (s3.trans s4)), c6, upd_same, g5, ?_, fun j a => n5 j ?_⟩
      · rw [lcOut_succ, hk, if_pos rfl]
        exact (rx.to (nw_same (sy.trans (s3.trans s4)))).app (.cons r4 .nil)
      · rw [← wipe_back (σ := σ) (x := x) (y := y), ← ew] at a
        exact hd_wipe a
  · have e : i = ds.length := by omega
    subst e
    have ca := c'.aside hacc gD' no'
    obtain ⟨w1, _⟩ := wk _ G' H' _ _ _ s' ca
    exact .inl ⟨w1 rfl, q D acc G' H' (s1.trans s') c'.unwipe gD' hacc rx ⟨z0, zk⟩ fun j a => no' j (hd_unwipe a)⟩
theorem efn_lcMap {wi : TI} {x : Nat} (g : Dat → Dat) (h : Src K wi ρ ds ρ1) (hx : ρ1[x]?.isSome = true) (hl : ds.length < 100000)
    (body : ∀ d, d ∈ ds → EvN K te ((wipeS ρ1 [x]).set x (.dat d)) (g d) ((wipeS ρ1 [x]).set x (.dat d))) : EvFN K (tLc wi (gName x) tYes te [x]) ρ (ds.map g) (wipeS ρ1 [x]) := by
  have e := efn_lc (tt := tYes) (te := te) (x := x) (fun _ => ρ1) (fun _ => true) (fun i => g (ds.getD i .non)) h (fun _ => hx) hl (fun i d hd => ⟨_, et_yes, fun _ => ⟨_, (body d (List.mem_of_getElem? hd)).to (by rw [List.getD_eq_getElem?_getD, hd]; rfl), by
    show (((ρ1.set x .no).set x (.dat d)).set x .no) = ρ1.set x .no
    rw [List.set_set, List.set_set]⟩, fun q => by cases q⟩)
  rwa [lcOut_all _ g (fun i d hd => by rw [List.getD_eq_getElem?_getD, hd]; rfl)] at e
theorem exin_seq (h : ExIN K C t ρ ns ds ρ1 ns1 ds1) (k : ExIN K C u ρ1 ns1 ds1 ρ2 ns2 ds2) : ExIN K C (tSeq t u) ρ ns ds ρ2 ns2 ds2 := fun Z G H σ x dx fs c e0 hx gx z zk no hn hr D q => by
  refine h Z G H σ x dx fs c e0 hx gx z zk no hn hr { D with nx := u D } fun σ1 G1 H1 fs1 s1 c1 e1 hx1 gx1 no1 hn1 hr1 => ?_
  exact k Z G1 H1 σ1 x dx fs1 c1 e1 hx1 gx1 z zk no1 hn1 hr1 D fun σ2 G2 H2 fs2 s2 => q σ2 G2 H2 fs2 (s1.trans s2)
theorem exin_fld (hv : EvN K tv ρ d ρ1) (hc : Cls K C) (hn : NoAttr K C f) (hf : f ∉ ns) (hl : ns.length < 1000) : ExIN K C (sFld K (tVar 0) tv f) ρ ns ds ρ1 (ns ++ [f]) (ds ++ [d]) := fun Z G H σ x dx fs c e0 hx gx z zk no hn' hr D q => by
  have ca := c.aside hx gx no
  refine hv _ G H σ ca _ fun y G1 H1 s1 c1 r1 => ?_
  obtain ⟨c2, h2, g2, no2⟩ := c1.unaside zk
  refine ⟨.ref x, e0, x, C, dx, fs, rfl, h2, hc, hn, by rw [← hn'] at hl; simpa using hl, ?_⟩
  refine q σ G1 _ (fs ++ [(f, y)]) s1 (c2.asideSet h2 g2 no2 z zk) e0 ?_ g2 no2 ?_ ?_
  · rw [upd_same, putF_new (by rw [hn']; exact hf)]
  · rw [List.map_append, hn']
    rfl
  · rw [List.map_append]
    exact (hr.to (nw_same s1)).app (.cons r1 .nil)
theorem exin_no {t1 : TS} (h : EvT K tt ρ false ρ1) (k : ExIN K C u ρ1 ns ds ρ2 ns2 ds2) : ExIN K C (tSeq (tIfS tt t1 tNext) u) ρ ns ds ρ2 ns2 ds2 := fun Z G H σ x dx fs c e0 hx gx z zk no hn hr D q => by
  have ca := c.aside hx gx no
  refine h _ G H σ ca _ fun G1 H1 s1 c1 => ?_
  obtain ⟨c2, h2, g2, no2⟩ := c1.unaside zk
  refine iteF ?_
  exact k Z G1 H1 σ x dx fs c2 e0 h2 g2 z zk no2 hn (hr.to (nw_same s1)) D fun σ2 G2 H2 fs2 s2 => q σ2 G2 H2 fs2 (s1.trans s2)

theorem nw_at {B : Hp} {p : Addr} {o : HO} (h : B p = none) : Nw B (upd G p o) p = some o := by rw [nw_none h]; exact upd_same
theorem initN_len {R : List Dat → List Str → List Dat → Prop} {n : Nat} (h : ∀ es ns ds, R es ns ds → es.length = n) : ∀ vs H Q E, spInitN K C R vs H Q E → vs.length = n + 1 := by
  rintro vs H Q E ⟨G, H0, x, dx, vs', es, ns, ds, r, rfl, _, _, _, _, _, ra, _⟩
  rw [List.length_cons, ra.length, h _ _ _ r]
theorem initN_ok {R : List Dat → List Str → List Dat → Prop} {N : List Str} {vs : List V} {Q : VK} {E : XK} {n : Nat} (h : spInitN K C R vs H Q E) (hn : ∀ es ns ds, R es ns ds → es.length = n)
    (k : ∀ es ns ds, R es ns ds → ∃ ρ', ExIN K C t ([.no] ++ es.map Sl.dat ++ List.replicate (N.length - (n + 1)) .no) [] [] ρ' ns ds) : t { nx := fun _ H' => Q .non H', rt := Q } (start N vs) H := by
  obtain ⟨G, H0, x, dx, vs', es, ns, ds, r, rfl, gh, hx, hdx, ne, rfl, ra, q⟩ := h
  obtain ⟨ρ', ex⟩ := k es ns ds r
  have c2 := init_start (C := C) (N := N) gh hx hdx ne ra (hn _ _ _ r)
  have gx : G x = none := by
    cases e : G x with
    | none => rfl
    | some o => rw [gh _ _ e] at hx; cases hx
  have nohd : ∀ {i : Nat} {p : Addr}, ¬ Hd (L2.start N (.ref x :: vs')) ([.no] ++ es.map Sl.dat ++ List.replicate (N.length - (n + 1)) .no) i p := fun {i p} a => by
    obtain ⟨_, s, e, o⟩ := a
    have := List.mem_of_getElem? e
    rw [List.mem_append, List.mem_append, List.mem_singleton, List.mem_replicate, List.mem_map] at this
    rcases this with (rfl | ⟨d, _, rfl⟩) | ⟨_, rfl⟩ <;> cases o
  refine ex _ G _ _ x dx [] c2 (by rfl) upd_same gx hx rfl (fun i a => nohd a) rfl .nil _ fun σ' G' H' fs' s' c' e' hx' gx' no' hn' hr' => ?_
  obtain ⟨c3, s3⟩ := c'.adopt hx' hx rfl no' gx'
  exact q .non _ H' rfl c3.nil (.ins (nw_at hx) hn' (hr'.to (nw_same s3)))
theorem evn_make {R : List Dat → List Str → List Dat → Prop} {E : XK} (ha : EvA K tg ρ ag ρ1) (hd : agD ag = some es) (hR : R es ns ds) : EvN K (tMake C (spInitN K C R) [] E tg) ρ (.ins C ns ds) ρ1 := fun Z G H σ c Q q => by
  have ha := agD_map hd ▸ ha
  refine ha Z G H σ c _ fun vs G1 H1 s1 c1 r1 => ?_
  have r := rp_args r1
  intro x dx hx hdx ne
  rw [List.append_nil]
  refine ⟨G1, H1, x, dx, vs, es, ns, ds, hR, rfl, c1.gh, hx, hdx, ne, rfl, r, fun v G2 H2 ev c2 r2 => ⟨ev, ?_⟩⟩
  obtain ⟨s2, c3⟩ := c1.after0 (vs := []) c2
  exact q _ G2 H2 (s1.trans s2) c3 (r2.to (nw_base c1.ge))
theorem evn_meth {R : List Dat → Dat → Prop} {E : XK} (ha : Ev K ta ρ (.ins C ns ds) ρ1) (hb : EvA K tg ρ1 ag ρ2) (hd : agD ag = some es) (hm : m ∉ ns) (hR : R (.ins C ns ds :: es) d) : EvN K (tMeth C m (spN K R) [] E ta tg) ρ d ρ2 := fun Z G H σ c Q q => by
  have hb := agD_map hd ▸ hb
  refine ha Z G H σ c _ fun v G1 H1 s1 c1 r1 => ?_
  have r1' := r1
  cases r1 with
  | @ins a _ dx fs _ _ e n r =>
    refine ⟨a, dx, fs, rfl, c1.gh _ _ e, look_none (by rw [n]; exact hm), ?_⟩
    refine hb Z G1 H1 σ c1 _ fun vs G2 H2 s2 c2 r2 => ?_
    rw [List.append_nil]
    have ra : RpAll K G2 (.ref a :: vs) (.ins C ns ds :: es) := .cons (r1'.to s2) (rp_args r2)
    refine ⟨G2, _, d, hR, c2.gh, ra, fun v G3 H3 c3 r3 => ?_⟩
    obtain ⟨s3, c4⟩ := c2.after0 c3
    exact q v G3 H3 ((s1.trans s2).trans s3) c4 (r3.to (nw_base c2.ge))
theorem spN_len {R : List Dat → Dat → Prop} {n : Nat} (h : ∀ as d, R as d → as.length = n) : ∀ vs H Q E, spN K R vs H Q E → vs.length = n := by
  rintro vs H Q E ⟨G, as, d, r, _, ra, _⟩
  rw [ra.length, h _ _ r]
theorem bodyN_ok {R : List Dat → Dat → Prop} {N : List Str} {vs : List V} {Q : VK} {E : XK} {n : Nat} (h : spN K R vs H Q E) (hn : ∀ as d, R as d → as.length = n)
    (k : ∀ as d, R as d → ∃ ρ1, EvN K te (as.map Sl.dat ++ List.replicate (N.length - n) .no) d ρ1) : tRet te { nx := fun _ H' => Q .non H', rt := Q } (start N vs) H := by
  obtain ⟨G, as, d, r, gh, ra, q⟩ := h
  obtain ⟨ρ1, ev⟩ := k as d r
  have c := start_all gh ra
  have e : start N vs = vs.map some ++ List.replicate (N.length - n) none := by
    show vs.map some ++ List.replicate (N.length - vs.length) none = _
    rw [ra.length, hn _ _ r]
  exact ev _ G H _ (start_ct c e) _ fun v G' H' s c' rv => q v G' H' (c'.reslot (by rw [List.length_map])) rv
end
/-! ### step by step over the heap itself: for lists in lists that are changed -/
inductive SlAll (K : PySem.W.Frag) (G : Hp) : L2.St → List Sl → Prop
  | nil : SlAll K G [] []
  | no {o : Option V} {σ : L2.St} {ρ : List Sl} : SlAll K G σ ρ → SlAll K G (o :: σ) (.no :: ρ)
  | dat {v : V} {d : Dat} {σ : L2.St} {ρ : List Sl} : Rp K G v d → SlAll K G σ ρ → SlAll K G (some v :: σ) (.dat d :: ρ)
section
variable {K : PySem.W.Frag} {Z : Zs} {G G' H H' X : Hp} {σ σ' : L2.St} {ρ ρ' : List Sl} {te ta : TE} {tt : TT} {t u : TS} {d : Dat} {D : Ends} {i : Nat} {p a : Addr} {v : V} {b : Bool} {o : Out}
theorem SlAll.len (h : SlAll K G σ ρ) : σ.length = ρ.length := by
  induction h with
  | nil => rfl
  | no _ ih => exact congrArg (· + 1) ih
  | dat _ _ ih => exact congrArg (· + 1) ih
theorem SlAll.get (h : SlAll K G σ ρ) : ∀ (i : Nat) (s : Sl), ρ[i]? = some s → s.isNo = false → ∃ v d, s = .dat d ∧ σ[i]? = some (some v) ∧ Rp K G v d := by
  induction h with
  | nil => intro i s e; simp at e
  | no _ ih =>
    intro i s e n
    cases i with
    | zero =>
      have e : some Sl.no = some s := e
      cases e
      cases n
    | succ i => exact ih i s e n
  | @dat v d σ ρ r _ ih =>
    intro i s e n
    cases i with
    | zero =>
      have e : some (Sl.dat d) = some s := e
      cases e
      exact ⟨v, d, rfl, rfl, r⟩
    | succ i => exact ih i s e n
theorem ct_here (gh : Same G H) (h : SlAll K G σ ρ) : Ct K ⟨G, H, [], fun _ => none⟩ G H σ ρ := by
  have nohd : ∀ {i : Nat} {p : Addr}, ¬ Hd σ ρ i p := fun {i p} a => by
    obtain ⟨_, s, e, o⟩ := a
    obtain ⟨_, _, rfl, _⟩ := h.get i s e (Sl.own_not_no o)
    cases o
  exact ⟨h.len, Same.refl G, gh, fun _ _ e _ => e, fun _ n => n, fun _ _ n => n, fun i s e n => by
    obtain ⟨v, d, rfl, e2, r⟩ := h.get i s e n
    exact ⟨v, e2, r⟩, fun i j p a => (nohd a).elim, fun _ _ e => (by cases e), fun _ n => absurd rfl n, fun _ _ _ => rfl⟩
theorem Ct.fin (c : Ct K Z G H σ ρ) (s : Same H H') {n : Nat} (hσ : σ'.length = n) : Ct K Z G H' σ' (List.replicate n .no) := by
  have k : ∀ {i : Nat} {s : Sl}, (List.replicate n Sl.no)[i]? = some s → s = .no := fun {i s} e => by
    have := List.mem_of_getElem? e
    rw [List.mem_replicate] at this
    exact this.2
  have kh : ∀ {i : Nat} {p : Addr}, ¬ Hd σ' (List.replicate n Sl.no) i p := fun {i p} a => by
    obtain ⟨_, s, e, o⟩ := a
    rw [k e] at o
    cases o
  refine ⟨by rw [hσ, List.length_replicate], c.gg, fun b o e => s b o (c.gh b o e), fun b o e n => s b o (c.hh b o e n), fun b n => ?_, c.fr, fun i s e m => (by rw [k e] at m; cases m), fun i j p a => (kh a).elim, fun b o e => s b o (c.kp b o e), c.kg, fun i p a => (kh a).elim⟩
  have := c.ge b n
  cases q : H b with
  | none => exact absurd q this
  | some o =>
    rw [s b o q]
    intro z
    cases z
theorem raw_setN (h : EvN K te ρ d ρ') (sl : SlAll K H σ ρ) (k : ∀ (v : V) (X H' : Hp), Same H H' → Same X H' → (∀ b o, X b = some o → H b = none) → Rp K X v d → u D (σ.set i (some v)) H') : tSeq (tAsg te (gName i)) u D σ H :=
  h _ H H σ (ct_here (Same.refl H) sl) _ fun v G1 H1 _ c1 r1 => k v _ H1 (fun b o e => c1.hh b o e (by simp)) (nw_sub.trans c1.gh) (fun b o e => (nw_some e).1) r1
theorem raw_set (h : Ev K te ρ d ρ') (sl : SlAll K H σ ρ) (k : ∀ (v : V) (H' : Hp), Same H H' → Rp K H' v d → u D (σ.set i (some v)) H') : tSeq (tAsg te (gName i)) u D σ H :=
  h _ H H σ (ct_here (Same.refl H) sl) _ fun v G1 H1 _ c1 r1 => k v H1 (fun b o e => c1.hh b o e (by simp)) (r1.to c1.gh)
theorem raw_ifF (h : EvT K tt ρ false ρ') (sl : SlAll K H σ ρ) (k : ∀ (H' : Hp), Same H H' → u D σ H') : tSeq (tIfS tt t tNext) u D σ H :=
  h _ H H σ (ct_here (Same.refl H) sl) _ fun G1 H1 _ c1 => iteF (k H1 (fun b o e => c1.hh b o e (by simp)))
/-- the expression is the object at p, and nothing happens -/
def At (te : TE) (σ : L2.St) (H : Hp) (p : Addr) : Prop := ∀ Q : VK, Q (.ref p) H → te σ H Q
theorem at_var (e : σ[i]? = some (some (.ref p))) : At (tVar i) σ H p := fun Q q => ⟨_, e, q⟩
theorem at_ix {ps : List V} {j : Int} (h : At te σ H a) (ha : H a = some (.lst ps)) (hj : L2.atI ps j = some (.ref p)) : At (tOp (rIxL K) te (tC (.int j))) σ H p := fun Q q => h _ ⟨a, ps, j, _, rfl, rfl, .inl (.inl ha), hj, q⟩
theorem raw_app1 {xs : List V} (h : At te σ H p) (hp : H p = some (.lst xs)) (hl : xs.length ≤ 100000) (q : D.nx σ (upd H p (.lst (xs ++ [v])))) : tDrop (tBM K "list" rAppend te (tCons (tC v) tNil)) D σ H :=
  h _ ⟨.inl ⟨rfl, xs, .inl (.inl hp)⟩, p, xs, v, rfl, rfl, hp, Nat.lt_of_le_of_lt hl (by decide), q⟩
theorem raw_app {xs : List V} (h : At te σ H p) (hp : H p = some (.lst xs)) (hl : xs.length ≤ 100000) (q : u D σ (upd H p (.lst (xs ++ [v])))) : tSeq (tDrop (tBM K "list" rAppend te (tCons (tC v) tNil))) u D σ H :=
  h _ ⟨.inl ⟨rfl, xs, .inl (.inl hp)⟩, p, xs, v, rfl, rfl, hp, Nat.lt_of_le_of_lt hl (by decide), q⟩
theorem raw_pop {xs : List V} (h : At te σ H p) (hp : H p = some (.lst xs)) (hl : 0 < xs.length) (q : u D σ (upd H p (.lst xs.dropLast))) : tSeq (tDrop (tBM0 K "list" rPop te)) u D σ H :=
  h _ ⟨.inl ⟨rfl, xs, .inl (.inl hp)⟩, p, xs, xs[xs.length - 1], rfl, rfl, hp, List.getElem?_eq_getElem (by omega), q⟩
theorem raw_ixset {xs : List V} {k : Int} {m : Nat} (h : At te σ H p) (hp : H p = some (.lst xs)) (hk : ixN xs.length k = some m) (q : u D σ (upd H p (.lst (xs.set m v)))) : tSeq (tAsg (tC v) (gSub te (tC (.int k)) rSetL)) u D σ H :=
  h _ ⟨p, xs, k, m, rfl, rfl, hp, hk, q⟩
theorem same_upd {o : HO} (s : Same H H') (n : H p = none) : Same H (upd H' p o) := fun b u e => by
  rw [upd_ne (show b ≠ p from fun q => by rw [q, n] at e; cases e)]
  exact s b u e
theorem raw_ex (h : Ex K t ρ (.rt d ρ')) (sl : SlAll K H σ ρ) (k : ∀ (σ' : L2.St) (v : V) (H' : Hp), Same H H' → σ'.length = ρ'.length → Rp K H' v d → D.rt v H') : t D σ H :=
  h _ H H σ (ct_here (Same.refl H) sl) D fun σ' v G1 H1 _ c1 r1 => k σ' v H1 (fun b o e => c1.hh b o e (by simp)) c1.len (r1.to c1.gh)
/-- for x in (a list of lists): x.append(v) -/
theorem raw_forApp {x : Nat} {ps : List V} {N : Nat} (e : σ[i]? = some (some (.ref a))) (hix : i ≠ x) (hx : x < σ.length) (ha : H a = some (.lst ps)) (hps : ∀ y ∈ ps, ∃ r ys, y = .ref r ∧ r ≠ a ∧ H r = some (.lst ys) ∧ ys.length ≤ N) (hl : N + ps.length ≤ 100000)
    (k : ∀ (σ' : L2.St) (H' : Hp), (∀ j, j ≠ x → σ'[j]? = σ[j]?) → σ'.length = σ.length → (∀ b, (∀ y ∈ ps, y ≠ .ref b) → H' b = H b) → H' a = some (.lst ps) → (∀ r ys, .ref r ∈ ps → H r = some (.lst ys) → ∃ n, n ≤ ps.length ∧ H' r = some (.lst (ys ++ List.replicate n v))) → u D σ' H') :
    tSeq (tFor (iList K (tVar i)) (gName x) (tDrop (tBM K "list" rAppend (tVar x) (tCons (tC v) tNil)))) u D σ H := by
  refine ⟨.ref a, e, a, rfl, ⟨ps, .inl (.inl ha)⟩, fun n m σ' H' => m = ps.length - n ∧ n ≤ ps.length ∧ (∀ j, j ≠ x → σ'[j]? = σ[j]?) ∧ σ'.length = σ.length ∧ (∀ b, (∀ y ∈ ps, y ≠ .ref b) → H' b = H b) ∧ H' a = some (.lst ps) ∧ ∀ r ys, .ref r ∈ ps → H r = some (.lst ys) → ∃ l, l ≤ n ∧ H' r = some (.lst (ys ++ List.replicate l v)),
    ⟨ps.length, by simp, Nat.zero_le _, fun _ _ => rfl, rfl, fun _ _ => rfl, ha, fun r ys _ h => ⟨0, Nat.le_refl _, by rw [h]; simp⟩⟩, ?_⟩
  rintro n m σ1 H1 ⟨rfl, hn, h1, h2, h3, h4, h5⟩
  by_cases hlt : n < ps.length
  · refine .inr ⟨⟨ps, ps[n], .inl (.inl h4), List.getElem?_eq_getElem hlt⟩, fun σ' H' => (∀ j, j ≠ x → σ'[j]? = σ[j]?) ∧ σ'.length = σ.length ∧ (∀ b, (∀ y ∈ ps, y ≠ .ref b) → H' b = H b) ∧ H' a = some (.lst ps) ∧ ∀ r ys, .ref r ∈ ps → H r = some (.lst ys) → ∃ l, l ≤ n + 1 ∧ H' r = some (.lst (ys ++ List.replicate l v)),
      fun σ' H' kk => ⟨ps.length - (n + 1), by omega, rfl, hlt, kk⟩, ?_⟩
    rintro y H2 ⟨rfl, hy⟩
    have ey := hy ps (.inl (.inl h4))
    rw [List.getElem?_eq_getElem hlt] at ey
    obtain rfl := Option.some.inj ey
    have hmem : ps[n] ∈ ps := List.getElem_mem hlt
    obtain ⟨r, ys, er, ra, hr, hlen⟩ := hps _ hmem
    obtain ⟨l, hl2, hr2⟩ := h5 r ys (er ▸ hmem) hr
    have hre : V.ref r ∈ ps := er ▸ hmem
    show tDrop (tBM K "list" rAppend (tVar x) (tCons (tC v) tNil)) _ (σ1.set x (some ps[n])) H2
    rw [er]
    have hat : At (tVar x) (σ1.set x (some (.ref r))) H2 r := at_var (List.getElem?_set_self (by rw [h2]; exact hx))
    refine raw_app1 hat hr2 ?_ ?_
    · rw [List.length_append, List.length_replicate]
      omega
    · refine ⟨fun j hj => by rw [List.getElem?_set_ne (Ne.symm hj)]; exact h1 j hj, by rw [List.length_set]; exact h2, fun b hb => ?_, ?_, fun r2 ys2 hm2 hr3 => ?_⟩
      · rw [upd_ne (show b ≠ r from fun q => hb _ hre (by rw [q]))]
        exact h3 b hb
      · rw [upd_ne ra.symm]
        exact h4
      · by_cases q : r2 = r
        · subst q
          rw [hr] at hr3
          cases hr3
          exact ⟨l + 1, by omega, by rw [upd_same, List.append_assoc, List.replicate_succ']⟩
        · obtain ⟨l2, a1, a2⟩ := h5 r2 ys2 hm2 hr3
          exact ⟨l2, by omega, by rw [upd_ne q]; exact a2⟩
  · exact .inl ⟨⟨ps, .inl (.inl h4), by omega⟩, k σ1 H1 h1 h2 h3 h4 fun r ys hm hr => by
      obtain ⟨l, h6, h7⟩ := h5 r ys hm hr
      exact ⟨l, by omega, h7⟩⟩
end
/-! ### more: a star in a display, zip, two names in a comprehension, a def that refuses within a try -/
section
variable {K : PySem.W.Frag} {C CB : Addr} {Z : Zs} {G G' H H' : Hp} {σ : L2.St} {ρ ρ' ρ1 ρ2 : List Sl} {te ta tb tv : TE} {tt : TT} {t u : TS} {tg : TA} {d : Dat} {ds es : List Dat} {ag as : List Ag}
theorem paired_app {G : Hp} : ∀ {xs : List V} {ds : List Dat} {ys : List V} {as : List Ag}, RpAll K G xs ds → Paired (AgAt K G σ) ys as → Paired (AgAt K G σ) (xs ++ ys) (ds.map Ag.d ++ as)
  | _, [], _, _, h, k => by cases h; exact k
  | _, d :: ds, _, _, h, k => by cases h with | cons a b => exact .cons a (paired_app b k)
theorem ea_star {a : Ag} (ha : EvL K te ρ a ρ1) (l : look ρ1 a = some ds) (hb : EvA K tg ρ1 as ρ2) : EvA K (StX.tStar K te tg) ρ (ds.map Ag.d ++ as) ρ2 := fun Z G H σ c Q q => by
  refine ha Z G H σ c _ fun x G1 H1 s1 c1 r1 => ?_
  obtain ⟨p, xs, rfl, hs, rx⟩ := c1.read r1 l
  refine ⟨p, xs, rfl, .inr hs, ?_⟩
  refine hb Z G1 H1 σ c1 _ fun ys G2 H2 s2 c2 r2 => ?_
  exact q _ G2 H2 (s1.trans s2) c2 (paired_app (rx.to s2) r2)
/-- isinstance(o, C), o an instance of C -/
theorem ev_isC {ns : List Str} (ha : Ev K ta ρ (.ins C ns ds) ρ1) (hc : Cls K C) (h1 : PySem.W.findIn K (.ref C) "__class__" = some (some (.builtin "object.__class__"))) (h2 : PySem.W.specialIn K (.builtin "object.__class__") "__get__" = some (some (.builtin "getset_descriptor.__get__")))
    (h3 : PySem.W.takesIn K (.builtin "object.__class__") = some true) (h4 : PySem.W.mroIn K C (.type "object") = some true) : Ev K (tCB (rIsi K) (tCons ta (tCons (tC (.ref C)) tNil))) ρ (.bl true) ρ1 := fun Z G H σ c Q q => by
  refine ha Z G H σ c _ fun v G1 H1 s1 c1 r1 => ?_
  cases r1 with
  | ins e n r =>
    refine ⟨_, .ref C, .ref C, .ref C, true, rfl, .own C, .base (.ins (c1.gh _ _ e) hc h1 h2 h3 h4), ?_, q _ _ _ s1 c1 (.bl true)⟩
    unfold PySem.W.kitOne
    rw [if_pos (by simp)]
def zipD (ds es : List Dat) : List Dat := List.zipWith (fun a b => .tup [a, b]) ds es
theorem src_zip (ha : Ev K ta ρ d ρ1) (hb : Ev K tb ρ1 d2 ρ2) (la : d.items = some ds) (lb : d2.items = some es) : Src K (iZip K (tCons ta (tCons tb tNil))) ρ (zipD ds es) ρ2 := fun Z G H σ c R q => by
  refine ha Z G H σ c _ fun v G1 H1 s1 c1 r1 => ?_
  refine hb Z G1 H1 σ c1 _ fun v2 G2 H2 s2 c2 r2 => ?_
  have r1 := r1.to s2
  obtain ⟨p, xs, rfl, hs, rx⟩ := c2.read (a := .d d) r1 la
  obtain ⟨p2, ys, rfl, hs2, ry⟩ := c2.read (a := .d d2) r2 lb
  refine ⟨p, p2, xs, ys, rfl, hs, hs2, q _ G2 H2 (s1.trans s2) c2 fun i Gx Hx σx ρx Zx s cx => ?_⟩
  obtain ⟨p', xs', e', hs', rx'⟩ := cx.read (a := .d d) (r1.to s) la
  obtain ⟨p2', ys', e2', hs2', ry'⟩ := cx.read (a := .d d2) (r2.to s) lb
  cases e'
  cases e2'
  refine ⟨fun e => ⟨xs', ys', hs', hs2', ?_⟩, fun d' hd => ?_⟩
  · rw [rx'.length, ry'.length]
    have e : i = min ds.length es.length := by rw [e]; exact List.length_zipWith
    omega
  · rw [zipD, List.getElem?_zipWith] at hd
    cases q1 : ds[i]? with
    | none => rw [q1] at hd; cases hd
    | some d1 =>
      cases q2 : es[i]? with
      | none => rw [q1, q2] at hd; cases hd
      | some e1 =>
        rw [q1, q2] at hd
        cases hd
        obtain ⟨x, hx, rd⟩ := rx'.get q1
        obtain ⟨y, hy, re⟩ := ry'.get q2
        refine ⟨⟨xs', ys', x, y, hs', hs2', hx, hy⟩, fun v Hy hv => ?_⟩
        obtain ⟨T, x2, y2, rfl, hT, rfl, h1, h2⟩ := hv
        have ex : x2 = x := Option.some.inj ((h1 xs' hs').symm.trans hx)
        have ey : y2 = y := Option.some.inj ((h2 ys' hs2').symm.trans hy)
        subst ex
        subst ey
        obtain ⟨c3, s3⟩ := cx.grown (o := .tup [x2, y2]) hT
        exact ⟨_, s3, c3, .tup upd_same (.cons (rd.to s3) (.cons (re.to s3) .nil))⟩
theorem wipe_back2 {x y : Nat} {a b : V} (h : x ≠ y) : L2.wipe (((L2.wipe σ [x, y]).set x (some a)).set y (some b)) [x, y] = L2.wipe σ [x, y] := by
  show ((((((σ.set y none).set x none).set x (some a)).set y (some b)).set y none).set x none) = (σ.set y none).set x none
  rw [List.set_set, List.set_set, List.set_comm _ _ h, List.set_set, List.set_set]
theorem wipeS_back2 {x y : Nat} {a b : Sl} (h : x ≠ y) : wipeS (((wipeS ρ [x, y]).set x a).set y b) [x, y] = wipeS ρ [x, y] := by
  show ((((((ρ.set y .no).set x .no).set x a).set y b).set y .no).set x .no) = (ρ.set y .no).set x .no
  rw [List.set_set, List.set_set, List.set_comm _ _ h, List.set_set, List.set_set]
/-- [e for x, y in ..] -/
theorem ef_lcMap2 {wi : TI} {x y : Nat} {pairs : List (Dat × Dat)} (g : Dat → Dat → Dat) (hxy : x ≠ y) (h : Src K wi ρ (pairs.map fun p => .tup [p.1, p.2]) ρ1) (hx : x < ρ1.length) (hy : y < ρ1.length) (hl : pairs.length < 100000)
    (body : ∀ p ∈ pairs, Ev K te (((wipeS ρ1 [x, y]).set x (.dat p.1)).set y (.dat p.2)) (g p.1 p.2) (((wipeS ρ1 [x, y]).set x (.dat p.1)).set y (.dat p.2))) :
    EvF K (tLc wi (gTup K 2 (gCons (gName x) (gCons (gName y) gNil))) tYes te [x, y]) ρ (pairs.map fun p => g p.1 p.2) (wipeS ρ1 [x, y]) := fun Z G H σ c Q q => by
  refine h Z G H σ c _ fun J G1 H1 s1 c1 wk D hD => ?_
  obtain ⟨c2, gD, ⟨z0, zk⟩, noD⟩ := fresh_of c1 (xs := []) hD
  have lw : (wipeS ρ1 [x, y]).length = ρ1.length := wipeS_len _ _
  refine ⟨fun i m H' => m = pairs.length - i ∧ i ≤ pairs.length ∧ ∃ G' acc, Same G1 G' ∧ Ct K Z G' H' (wipe σ [x, y]) (wipeS ρ1 [x, y]) ∧ H' D = some (.lst acc) ∧ G' D = none ∧ RpAll K G' acc ((pairs.take i).map fun p => g p.1 p.2) ∧ ∀ j, ¬ Hd (wipe σ [x, y]) (wipeS ρ1 [x, y]) j D,
    ⟨pairs.length, by simp, Nat.zero_le _, G1, [], Same.refl G1, c2.wipe [x, y], upd_same, gD, .nil, fun j a => noD j (hd_wipe a)⟩, ?_⟩
  rintro i m H' ⟨rfl, hi, G', acc, s', c', hacc, gD', rx, no'⟩
  by_cases hlt : i < pairs.length
  · have ca := c'.aside hacc gD' no'
    obtain ⟨w1, w2⟩ := wk i G' H' _ _ _ s' ca
    obtain ⟨go, yl⟩ := w2 (.tup [pairs[i].1, pairs[i].2]) (by rw [List.getElem?_map, List.getElem?_eq_getElem hlt]; rfl)
    refine .inr ⟨go, fun H'' => ∃ G'' acc', Same G1 G'' ∧ Ct K Z G'' H'' (wipe σ [x, y]) (wipeS ρ1 [x, y]) ∧ H'' D = some (.lst acc') ∧ G'' D = none ∧ RpAll K G'' acc' ((pairs.take (i + 1)).map fun p => g p.1 p.2) ∧ ∀ j, ¬ Hd (wipe σ [x, y]) (wipeS ρ1 [x, y]) j D,
      fun H'' k => ⟨pairs.length - (i + 1), by omega, rfl, hlt, k⟩, fun v H'' hy2 => ?_⟩
    obtain ⟨Gy, sy, cy, ry⟩ := yl v H'' hy2
    obtain ⟨a, xs, rfl, hs, hl2, r⟩ := rp_tup cy.gh ry
    cases r with
    | @cons v1 _ _ _ ra r =>
    cases r with
    | @cons v2 _ _ _ rb r =>
    cases r
    have cb := (cy.setD (i := x) (by rw [List.getElem?_eq_getElem (by rw [lw]; exact hx)]; rfl) ra).setD (i := y) (by rw [List.getElem?_eq_getElem (by rw [List.length_set, lw]; exact hy)]; rfl) rb
    refine ⟨a, _, rfl, hs, hl2, _, _, rfl, _, _, rfl, rfl, wipe_back2 hxy, ?_⟩
    refine et_yes _ Gy _ _ cb _ fun G3 H3 s3 c3 => ?_
    refine iteT ?_
    refine body _ (List.getElem_mem hlt) _ G3 _ _ c3 _ fun w G4 H4 s4 c4 r4 => ?_
    obtain ⟨c5, h5, g5, n5⟩ := c4.unaside zk
    refine ⟨acc, h5, ?_, ?_⟩
    · rw [rx.length, List.length_map, List.length_take]
      exact Nat.lt_of_le_of_lt (Nat.min_le_right _ _) (Nat.lt_of_lt_of_le hl (by decide))
    · have c6 := (c5.asideSet (o' := .lst (acc ++ [w])) h5 g5 n5 z0 zk).wipe [x, y]
      rw [wipe_back2 hxy, wipeS_back2 hxy] at c6
      refine ⟨G4, acc ++ [w], s'.trans (sy.trans (s3.trans s4)), c6, upd_same, g5, ?_, fun j a => n5 j ?_⟩
      · rw [List.take_add_one, List.getElem?_eq_getElem hlt, List.map_append]
        exact (rx.to (sy.trans (s3.trans s4))).app (.cons r4 .nil)
      · rw [← wipe_back2 (σ := σ) (x := x) (y := y) (a := v1) (b := v2) hxy, ← wipeS_back2 (ρ := ρ1) (x := x) (y := y) (a := .dat pairs[i].1) (b := .dat pairs[i].2) hxy] at a
        exact hd_wipe a
  · have e : i = pairs.length := by omega
    subst e
    have ca := c'.aside hacc gD' no'
    obtain ⟨w1, _⟩ := wk _ G' H' _ _ _ s' ca
    rw [List.take_length] at rx
    exact .inl ⟨w1 (by rw [List.length_map]), q D acc G' H' (s1.trans s') c'.unwipe gD' hacc rx ⟨z0, zk⟩ fun j a => no' j (hd_unwipe a)⟩
/-- try: f(..) except X as e: suite, where f refuses -/
theorem ex_tryCall {R : List Sl → Prop} {cv : Value} {i : Nat} {ts : Addr → Value → Option Addr → TS} {Wout : WX} (ha : EvA K tg ρ ag ρ1) (hd : agD ag = some es) (hR : R (es.map Sl.dat)) (hm : PySem.W.exmOne K (.ref CB) cv = some true) (hi : ρ1[i]?.isSome = true)
    (suite : ∀ a, Ex K (ts a (.ref CB) none) (ρ1.set i (.dat (.cls a))) (.rt d ρ2)) :
    Ex K (fun D σ H => tDrop (tCallS (spX K CB R) (fun σ cls dd H => wAs K cv i ts Wout D cls dd σ H) tg) D σ H) ρ (.rt d ρ2) := fun Z G H σ c D q => by
  have ha := agD_map hd ▸ ha
  refine ha Z G H σ c _ fun vs G1 H1 s1 c1 r1 => ?_
  have r := rp_args r1
  refine ⟨G1, [], _, hR, start_all c1.gh r, fun G2 H2 c2 => ?_⟩
  obtain ⟨s2, c3⟩ := c1.after0 c2
  refine ⟨true, hm, fun _ a _ => ?_, fun h => by cases h⟩
  exact suite a Z G2 H2 _ (c3.setD hi (.cls a)) _ fun σ2 v G3 H3 s3 c5 r5 => q σ2 v G3 H3 ((s1.trans s2).trans s3) c5 r5
end
theorem kStar {X : Cx} (K : PySem.W.Frag) {es : List Expr} {te : TE} {t : TA} (p : PA X es (StX.tStar X.K te t)) (h : X.K = K := by rfl) : PA X es (StX.tStar K te t) := h ▸ p
/-! ### defs that refuse, defs whose answer is new -/
section
variable {K : PySem.W.Frag} {C CB : Addr} {Z : Zs} {G G' H H' : Hp} {σ : L2.St} {ρ ρ' ρ1 ρ2 : List Sl} {te ta tb tv : TE} {tt : TT} {t t1 u : TS} {tg : TA} {d : Dat} {ds es : List Dat}
theorem spX_len {R : List Sl → Prop} {n : Nat} (h : ∀ as, R as → as.length = n) : ∀ vs H Q E, spX K CB R vs H Q E → vs.length = n := by
  rintro vs H Q E ⟨G, O, as, r, c, _⟩
  have := c.len
  rw [List.length_map] at this
  rw [this, h _ r]
theorem bodyX_ok {R : List Sl → Prop} {N : List Str} {vs : List V} {Q : VK} {E : XK} {n : Nat} (h : spX K CB R vs H Q E) (hn : ∀ as, R as → as.length = n)
    (k : ∀ as, R as → ExR K CB E t (as ++ List.replicate (N.length - n) .no)) : t { nx := fun _ H' => Q .non H', rt := Q } (start N vs) H := by
  obtain ⟨G, O, as, r, c, q⟩ := h
  have l := c.len
  rw [List.length_map] at l
  have e : start N vs = vs.map some ++ List.replicate (N.length - n) none := by
    show vs.map some ++ List.replicate (N.length - vs.length) none = _
    rw [l, hn _ r]
  refine k as r _ G H _ (start_ct c e) _ fun σ' G' H' s c' => q G' H' ?_
  have := c'.reslot (σ' := vs.map some) (n := as.length) (by rw [List.length_map, l])
  rw [List.map_const']
  exact this
theorem evn_tup {t : TA} (h : EvAN K t ρ ds ρ1) (hl : ds.length ≤ 100000) : EvN K (tTup t) ρ (.tup ds) ρ1 := fun Z G H σ c Q q => by
  refine h Z G H σ c _ fun vs G1 H1 s1 c1 r1 => ?_
  refine ⟨by rw [r1.length]; exact sz_ok hl, fun p hp => ?_⟩
  obtain ⟨c2, s2⟩ := c1.grown (o := .tup vs) hp
  exact q _ _ _ (s1.trans s2) c2 (.tup (nw_at (c1.fresh0 hp)) (r1.to (nw_same s2)))
def ExN (K : PySem.W.Frag) (t : TS) (ρ : List Sl) (d : Dat) : Prop := ∀ (Z : Zs) (G H : Hp) (σ : L2.St), Ct K Z G H σ ρ → ∀ D : Ends, (∀ (σ' : L2.St) (ρ' : List Sl) (v : V) (G' H' : Hp), Same G G' → Ct K Z G' H' σ' ρ' → Rp K (Nw Z.H0 G') v d → D.rt v H') → t D σ H
theorem exn_ret (h : EvN K te ρ d ρ1) : ExN K (tRet te) ρ d := fun Z G H σ c D q => h Z G H σ c _ fun v G1 H1 s1 c1 r1 => q σ ρ1 v G1 H1 s1 c1 r1
theorem exn_no (h : EvT K tt ρ false ρ1) (k : ExN K u ρ1 d) : ExN K (tSeq (tIfS tt t1 tNext) u) ρ d := fun Z G H σ c D q => by
  refine h Z G H σ c _ fun G1 H1 s1 c1 => ?_
  refine iteF ?_
  exact k Z G1 H1 σ c1 D fun σ' ρ' v G2 H2 s2 => q σ' ρ' v G2 H2 (s1.trans s2)
theorem bodyN2_ok {R : List Dat → Dat → Prop} {N : List Str} {vs : List V} {Q : VK} {E : XK} {n : Nat} (h : spN K R vs H Q E) (hn : ∀ as d, R as d → as.length = n)
    (k : ∀ as d, R as d → ExN K t (as.map Sl.dat ++ List.replicate (N.length - n) .no) d) : t { nx := fun _ H' => Q .non H', rt := Q } (start N vs) H := by
  obtain ⟨G, as, d, r, gh, ra, q⟩ := h
  have c := start_all gh ra
  have e : start N vs = vs.map some ++ List.replicate (N.length - n) none := by
    show vs.map some ++ List.replicate (N.length - vs.length) none = _
    rw [ra.length, hn _ _ r]
  exact k as d r _ G H _ (start_ct c e) _ fun σ' ρ' v G' H' s c' rv => q v G' H' (c'.reslot (by rw [List.length_map])) rv
theorem evn_call {R : List Dat → Dat → Prop} {E : XK} {ag : List Ag} (hb : EvA K tg ρ ag ρ1) (hd : agD ag = some es) (hR : R es d) : EvN K (tCall (spN K R) [] E tg) ρ d ρ1 := fun Z G H σ c Q q => by
  have hb := agD_map hd ▸ hb
  refine hb Z G H σ c _ fun vs G2 H2 s2 c2 r2 => ?_
  rw [List.append_nil]
  refine ⟨G2, _, d, hR, c2.gh, rp_args r2, fun v G3 H3 c3 r3 => ?_⟩
  obtain ⟨s3, c4⟩ := c2.after0 c3
  exact q v G3 H3 (s2.trans s3) c4 (r3.to (nw_base c2.ge))
end
/-! ### index, index from a place on, count -/
section
variable {X : Cx}
def rIndexF (K : PySem.W.Frag) : V → List V → Hp → VK → Prop := fun x xs H Q => ∃ (a : Addr) (ys : List V) (y : V) (lo j : Nat) (z : V), x = V.ref a ∧ xs = [y, .int lo] ∧ SqL K H a ys ∧ flatV y = true ∧ ys.all flatV = true ∧ lo ≤ j ∧ ys[j]? = some z ∧ eqV z y = true ∧
  (∀ (m : Nat) (z' : V), lo ≤ m → m < j → ys[m]? = some z' → eqV z' y = false) ∧ Q (.int (j : Nat)) H
theorem mt_indexF : MtR X "list.index" (rIndexF X.K) := by
  intro pins s σ H x xs v us Q I rx rxs h
  obtain ⟨a, ys, y, lo, j, z, rfl, rfl, hs, fy, fys, hlo, hz, hzj, hno, q⟩ := h
  cases rx
  cases rxs with
  | cons ry rt =>
    rename_i uy ut
    cases rt with
    | cons rl rt =>
      rename_i ul ut
      cases rt
      obtain ⟨tl, rfl⟩ := rl
      obtain ⟨its, rv, ⟨⟨cls, dd, data, sl⟩, n, ho, hc, hdn, hd⟩, hlen⟩ := I.list hs
      simp only at hc hd
      subst hc hd
      obtain ⟨u, hu, ru⟩ := rv.get hz
      obtain ⟨hjl, hje⟩ := List.getElem?_eq_some_iff.mp hu
      have hvl := rv.length
      have hj : j < its.toArray.size := by simpa using hjl
      have hsl := sizeLine_eq
      have hlo' : SeqAt.searchFrom (lo : Int) its.toArray.size = lo := SeqAt.searchFrom_nat lo _
      refine call_meets PySem.F.slot_list_index ⟨_, ho, rfl⟩ PySem.F.entry_list_index (PySem.F.args_list_index_3 _ _ _)
        (SeqAt.list_index3_found a its.toArray n dd sl uy (fun m => eqU y (its.toArray.getD m .none)) (lo : Int) tl j hj (by rw [hlo']; exact hlo) (by omega) ?_ ?_) ⟨ho, fun m hm => ?_, ?_⟩
      · have e1 : its.toArray.getD j .none = u := by
          rw [Array.getD_eq_getD_getElem?, Array.getElem?_eq_getElem hj]
          simpa using hje
        show eqU y (its.toArray.getD j .none) = true
        rw [e1, eqU_of ru (flat_at fys hz)]
        exact hzj
      · intro m hm hml hmj
        rw [hlo'] at hml
        have hml2 : m < its.length := by simpa using hm
        have hmy : m < ys.length := by omega
        have hy' : ys[m]? = some ys[m] := List.getElem?_eq_getElem hmy
        obtain ⟨u2, hu2, ru2⟩ := rv.get hy'
        obtain ⟨_, hme⟩ := List.getElem?_eq_some_iff.mp hu2
        have e1 : its.toArray.getD m .none = u2 := by
          rw [Array.getD_eq_getD_getElem?, Array.getElem?_eq_getElem hm]
          simpa using hme
        show eqU y (its.toArray.getD m .none) = false
        rw [e1, eqU_of ru2 (flat_at fys hy')]
        exact hno m _ hml hmj hy'
      · have e1 : its.toArray.getD m .none = its.toArray[m] := by
          rw [Array.getD_eq_getD_getElem?, Array.getElem?_eq_getElem hm]
          rfl
        show SeqAt.EqAt _ _ its.toArray[m] uy (eqU y (its.toArray.getD m .none))
        rw [e1]
        exact mem_eqAt ry fy rv fys _ (by simp)
      · exact ⟨.int (j : Nat), H, I.tok _, ⟨_, rfl⟩, q⟩
theorem kIndex (K : PySem.W.Frag) (h : X.K = K := by rfl) : MtR X "list.index" (rIndex K) := h ▸ mt_index
theorem kIndexF (K : PySem.W.Frag) (h : X.K = K := by rfl) : MtR X "list.index" (rIndexF K) := h ▸ mt_indexF
end
section
variable {K : PySem.W.Frag} {Z : Zs} {G G' H H' : Hp} {σ : L2.St} {ρ ρ' ρ1 ρ2 ρ3 : List Sl} {te ta tb tc : TE} {tt tu : TT} {t u tbd : TS} {d d1 d2 d3 : Dat} {ds es : List Dat} {b : Bool} {i : Nat} {o : Out}
theorem flat_ints (zs : List Int) : (zs.map V.int).all flatV = true := by
  rw [List.all_map, List.all_eq_true]
  intro _ _
  rfl
/-- xs.index(y) of ints -/
theorem ev_index {a : Ag} {zs : List Int} {y : Int} {j : Nat} (ha : EvL K ta ρ a ρ1) (hb : Ev K tb ρ1 (.int y) ρ2) (l1 : look ρ1 a = some (zs.map Dat.int)) (l : look ρ2 a = some (zs.map Dat.int)) (hj : zs[j]? = some y) (hno : ∀ m, m < j → zs[m]? ≠ some y) :
    Ev K (tBM K "list" (rIndex K) ta (tCons tb tNil)) ρ (.int j) ρ2 := fun Z G H σ c Q q => by
  refine ha Z G H σ c _ fun v G1 H1 s1 c1 r1 => ?_
  obtain ⟨p, xs, rfl, hs, rx⟩ := c1.read r1 l1
  refine ⟨.inl ⟨rfl, _, hs⟩, ?_⟩
  refine hb Z G1 H1 σ c1 _ fun w G2 H2 s2 c2 r2 => ?_
  obtain ⟨p', xs', e', hs', rx'⟩ := c2.read (r1.to s2) l
  cases e'
  cases RpAll.intsEq rx'
  cases r2
  refine ⟨p, zs.map V.int, .int y, j, .int y, rfl, rfl, hs', rfl, flat_ints zs, by rw [List.getElem?_map, hj]; rfl, by simp [eqV], fun m z' hm hz => ?_, q _ _ _ (s1.trans s2) c2 (.int _)⟩
  rw [List.getElem?_map] at hz
  cases e : zs[m]? with
  | none => rw [e] at hz; cases hz
  | some k =>
    rw [e] at hz
    cases hz
    have : k ≠ y := fun q => hno m hm (by rw [e, q])
    simpa [eqV] using this
/-- xs.index(y, lo) of ints -/
theorem ev_indexF {a : Ag} {zs : List Int} {y : Int} {lo j : Nat} (ha : EvL K ta ρ a ρ1) (hb : Ev K tb ρ1 (.int y) ρ2) (hc : Ev K tc ρ2 (.int lo) ρ3) (l1 : look ρ1 a = some (zs.map Dat.int)) (l : look ρ3 a = some (zs.map Dat.int)) (hlo : lo ≤ j) (hj : zs[j]? = some y) (hno : ∀ m, lo ≤ m → m < j → zs[m]? ≠ some y) :
    Ev K (tBM K "list" (rIndexF K) ta (tCons tb (tCons tc tNil))) ρ (.int j) ρ3 := fun Z G H σ c Q q => by
  refine ha Z G H σ c _ fun v G1 H1 s1 c1 r1 => ?_
  obtain ⟨p, xs, rfl, hs, rx⟩ := c1.read r1 l1
  refine ⟨.inl ⟨rfl, _, hs⟩, ?_⟩
  refine hb Z G1 H1 σ c1 _ fun w G2 H2 s2 c2 r2 => ?_
  refine hc Z G2 H2 σ c2 _ fun w2 G3 H3 s3 c3 r3 => ?_
  obtain ⟨p', xs', e', hs', rx'⟩ := c3.read (r1.to (s2.trans s3)) l
  cases e'
  cases RpAll.intsEq rx'
  cases r2
  cases r3
  refine ⟨p, zs.map V.int, .int y, lo, j, .int y, rfl, rfl, hs', rfl, flat_ints zs, hlo, by rw [List.getElem?_map, hj]; rfl, by simp [eqV], fun m z' hl hm hz => ?_, q _ _ _ (s1.trans (s2.trans s3)) c3 (.int _)⟩
  rw [List.getElem?_map] at hz
  cases e : zs[m]? with
  | none => rw [e] at hz; cases hz
  | some k =>
    rw [e] at hz
    cases hz
    have : k ≠ y := fun q => hno m hl hm (by rw [e, q])
    simpa [eqV] using this
/-- xs.count(y) of ints -/
theorem ev_count {a : Ag} {zs : List Int} {y : Int} (ha : EvL K ta ρ a ρ1) (hb : Ev K tb ρ1 (.int y) ρ2) (l1 : look ρ1 a = some (zs.map Dat.int)) (l : look ρ2 a = some (zs.map Dat.int)) :
    Ev K (tBM K "list" (rCntI K) ta (tCons tb tNil)) ρ (.int (zs.count y : Nat)) ρ2 := fun Z G H σ c Q q => by
  refine ha Z G H σ c _ fun v G1 H1 s1 c1 r1 => ?_
  obtain ⟨p, xs, rfl, hs, rx⟩ := c1.read r1 l1
  refine ⟨.inl ⟨rfl, _, hs⟩, ?_⟩
  refine hb Z G1 H1 σ c1 _ fun w G2 H2 s2 c2 r2 => ?_
  obtain ⟨p', xs', e', hs', rx'⟩ := c2.read (r1.to s2) l
  cases e'
  cases RpAll.intsEq rx'
  cases r2
  exact ⟨p, zs, y, rfl, rfl, hs', q _ _ _ (s1.trans s2) c2 (.int _)⟩
end
/-! ### loops that look at each item, and leave where one is not as it should be -/
section
variable {K : PySem.W.Frag} {Z : Zs} {G G' H H' : Hp} {σ : L2.St} {ρ ρ' ρ0 ρ1 ρ2 ρ3 : List Sl} {te ta tb tc : TE} {tt tu : TT} {t u tbd : TS} {d r d1 d2 d3 : Dat} {ds es : List Dat} {b : Bool} {i : Nat} {o : Out}
theorem Src.weak {wi : TI} (h : Src K wi ρ ds ρ0) (l : Le ρ1 ρ0) : Src K wi ρ ds ρ1 := fun Z G H σ c R q => h Z G H σ c R fun J G1 H1 s1 c1 wk => q J G1 H1 s1 (c1.weak l) wk
theorem ex_forT {wi : TI} {x : Nat} (p : Dat → Bool) (h : Src K wi ρ ds ρ0) (l : Le ρ1 ρ0) (hx : x < ρ1.length) (ha : ds.all p = true) (k : ∀ d ∈ ds, p d = true → Ex K tbd (ρ1.set x (.dat d)) (.nx ρ1)) : Ex K (tFor wi (gName x) tbd) ρ (.nx ρ1) :=
  ex_for (n := ds.length) (fun _ => ρ1) (h.weak l) (fun _ => isSome_of_lt hx) (Nat.le_refl _) (fun i d hi hd => .inl (k d (List.mem_of_getElem? hd) (List.all_eq_true.mp ha d (List.mem_of_getElem? hd)))) (.done rfl)
theorem ex_forF {wi : TI} {x : Nat} (p : Dat → Bool) (h : Src K wi ρ ds ρ0) (l : Le ρ1 ρ0) (hx : x < ρ1.length) (ha : ds.all p = false) (k : ∀ d ∈ ds, p d = true → Ex K tbd (ρ1.set x (.dat d)) (.nx ρ1)) (kf : ∀ d ∈ ds, p d = false → Ex K tbd (ρ1.set x (.dat d)) (.rt r ρ')) : Ex K (tFor wi (gName x) tbd) ρ (.rt r ρ') := by
  have hn : ds.findIdx (fun d => !p d) < ds.length := by
    rw [List.findIdx_lt_length]
    obtain ⟨d, hd, hp⟩ := List.all_eq_false.mp ha
    exact ⟨d, hd, by simpa using hp⟩
  have hat : ds[ds.findIdx (fun d => !p d)]? = some ds[ds.findIdx (fun d => !p d)] := List.getElem?_eq_getElem hn
  have hp : (!p ds[ds.findIdx (fun d => !p d)]) = true := List.findIdx_getElem (p := fun d => !p d)
  refine ex_for (n := ds.findIdx (fun d => !p d)) (fun _ => ρ1) (h.weak l) (fun _ => isSome_of_lt hx) (Nat.le_of_lt hn) (fun i d hi hd => .inl (k d (List.mem_of_getElem? hd) ?_)) (.ret hat (kf _ (List.getElem_mem hn) (by simpa using hp)))
  obtain ⟨hl, e⟩ := List.getElem?_eq_some_iff.mp hd
  have := List.not_of_lt_findIdx (p := fun d => !p d) hi
  rw [e] at this
  simpa using this
end
section
variable {K : PySem.W.Frag} {Z : Zs} {G G' H H' : Hp} {σ : L2.St} {ρ ρ' ρ0 ρ1 ρ2 ρ3 : List Sl} {te ta tb tc : TE} {tt tu : TT} {t u tbd : TS} {d r d1 d2 d3 : Dat} {ds es : List Dat} {b : Bool} {i : Nat} {o : Out}
/-- a test that isn't met; one that is, and leaves -/
theorem ex_no (h : EvT K tt ρ false ρ1) (k : Ex K u ρ1 o) : Ex K (tSeq (tIfS tt t tNext) u) ρ o :=
  ex_seq (ex_if h (fun q => by cases q) fun _ => ex_next) k
theorem ex_yes (h : EvT K tt ρ true ρ1) (k : Ex K t ρ1 o) (no : o.isNx = false) : Ex K (tSeq (tIfS tt t tNext) u) ρ o :=
  ex_out (ex_if h (fun _ => k) fun q => by cases q) no
/-- what goes on, or leaves with r -/
theorem ex_seqC (h : Ex K t ρ (bif b then .nx ρ1 else .rt r ρ')) (k : b = true → Ex K u ρ1 o) (e : b = false → o = .rt r ρ') : Ex K (tSeq t u) ρ o := by
  cases b with
  | true => exact ex_seq h (k rfl)
  | false =>
    rw [e rfl]
    exact ex_out h rfl
theorem ex_forC {wi : TI} {x : Nat} (p : Dat → Bool) (h : Src K wi ρ ds ρ0) (l : Le ρ1 ρ0) (hx : x < ρ1.length) (k : ∀ d ∈ ds, Ex K tbd (ρ1.set x (.dat d)) (bif p d then .nx ρ1 else .rt r ρ')) : Ex K (tFor wi (gName x) tbd) ρ (bif ds.all p then .nx ρ1 else .rt r ρ') := by
  cases ha : ds.all p with
  | true => exact ex_forT p h l hx ha fun d hd hp => by have := k d hd; rwa [hp] at this
  | false => exact ex_forF p h l hx ha (fun d hd hp => by have := k d hd; rwa [hp] at this) fun d hd hp => by have := k d hd; rwa [hp] at this
theorem ex_ifC (h : EvT K tt ρ (!b) ρ2) (l : Le ρ1 ρ2) (k : b = false → Ex K t ρ2 (.rt r ρ')) : Ex K (tIfS tt t tNext) ρ (bif b then .nx ρ1 else .rt r ρ') := by
  cases b with
  | true => exact ex_if h (fun q => by cases q) fun _ => Ex.weak ex_next l
  | false => exact ex_if h (fun _ => k rfl) fun q => by cases q
end
end Bg

namespace My
open PySem L2 Bg
def topS (i : Nat) : Stmt := PySem.Challenge.pw_everafter_k03_endless_walks.main.body.getD i (.Pass ⟨0, 0, 0, 0⟩)
/-- a def that may be called -/
structure Cal (P : Program) (w : World) (K : PySem.W.Frag) (mg : Str → Option Value) (base : Heap) (x : Str) (k : Nat) (ps : List Str) (sp : Sp) (f : Addr) (fd : FuncData) : Prop where
  g : mg x = some (.ref f)
  kp : PySem.W.keepIn K (.ref f) = true
  b : Binds K fd ps []
  ok : FnOk P w K mg base CX0 k f fd ps sp
/-- a def that may be called and may raise -/
structure CalX (P : Program) (w : World) (K : PySem.W.Frag) (mg : Str → Option Value) (base : Heap) (CX : CXT) (x : Str) (k : Nat) (ps : List Str) (sp : Sp) (f : Addr) (fd : FuncData) : Prop where
  g : mg x = some (.ref f)
  kp : PySem.W.keepIn K (.ref f) = true
  b : Binds K fd ps []
  ok : FnOk P w K mg base CX k f fd ps sp
/-- a class that may be made, a method that may be called -/
structure CalI (P : Program) (w : World) (K : PySem.W.Frag) (mg : Str → Option Value) (base : Heap) (C : Addr) (k : Nat) (ps : List Str) (sp : Sp) (f : Addr) (fd : FuncData) : Prop where
  mkc : Mk K C f
  b : Binds K fd ps []
  ok : FnOk P w K mg base CX0 k f fd ps sp
structure CalIX (P : Program) (w : World) (K : PySem.W.Frag) (mg : Str → Option Value) (base : Heap) (CX : CXT) (C : Addr) (k : Nat) (ps : List Str) (sp : Sp) (f : Addr) (fd : FuncData) : Prop where
  mkc : Mk K C f
  b : Binds K fd ps []
  ok : FnOk P w K mg base CX k f fd ps sp
structure CalM (P : Program) (w : World) (K : PySem.W.Frag) (mg : Str → Option Value) (base : Heap) (C : Addr) (x : Str) (k : Nat) (ps : List Str) (sp : Sp) (f : Addr) (fd : FuncData) : Prop where
  m : Meth K C x f
  b : Binds K fd ps []
  ok : FnOk P w K mg base CX0 k f fd ps sp
theorem init_len {K : PySem.W.Frag} {C : Addr} {R : List Dat → List Str → List Dat → Prop} {n : Nat} (h : ∀ es ns ds, R es ns ds → es.length = n) : ∀ vs H Q E, spInit K C R vs H Q E → vs.length = n + 1 := by
  rintro vs H Q E ⟨G, H0, x, dx, vs', es, ns, ds, r, rfl, _, _, _, _, _, ra, _⟩
  rw [List.length_cons, ra.length, h _ _ _ r]
theorem cxK {CX : CXT} {P : Program} {w : World} {K : PySem.W.Frag} {mg : Str → Option Value} {base : Heap} {N : List Str} {q : Str} {sc : Scope} {f : Addr} {c : Value} {A : Around} {outer : List Env} {s : Shared} {H : Hp} {E : XK} : (cxOf CX P w K mg base N q sc f c A outer s H E).K = K := rfl
theorem wipeS_one {ρ : List Sl} {v : Nat} : wipeS ρ [v] = ρ.set v .no := rfl
theorem unit5 {k : Nat} {A : Around} (r : Room k A) : A.units + 65 < cLine := by
  have := r.un
  omega
theorem kcls {K : PySem.W.Frag} {t : Value} {C : Addr} {b : Bool} (i : PySem.W.isClsIn K C = true) (ty : PySem.W.typeIn K (.ref C) = some (.type "type")) (s : PySem.W.subIn K t (.ref C) = some b) : PySem.W.kitCls K t (.ref C) = some b := by
  show (if ((PySem.W.clsIn K C).isSome && PySem.W.typeIn K (.ref C) == some (.type "type")) = true then PySem.W.subIn K t (.ref C) else none) = some b
  rw [show (PySem.W.clsIn K C).isSome = true from i, ty]
  simpa using s
theorem kexm {K : PySem.W.Frag} {A B : Addr} (b : PySem.W.subIn K (.ref B) (.type "BaseException") = some true) (i : PySem.W.isClsIn K B = true) (ty : PySem.W.typeIn K (.ref B) = some (.type "type")) (s : PySem.W.subIn K (.ref A) (.ref B) = some true) : PySem.W.exmOne K (.ref A) (.ref B) = some true := by
  unfold PySem.W.exmOne
  rw [b]
  simpa using kcls i ty s
theorem kone_ty {K : PySem.W.Frag} {t : Addr} {T : String} {b : Bool} (m : PySem.W.kitMeta T = true) (s : PySem.W.subIn K (.ref t) (.type T) = some b) : PySem.W.kitOne K (.ref t) (.type T) = some b := by
  unfold PySem.W.kitOne
  rw [if_neg (by simp)]
  show (if PySem.W.kitMeta T = true then PySem.W.subIn K (.ref t) (.type T) else none) = some b
  rw [m]
  simpa using s
theorem kone_ref {K : PySem.W.Frag} {t C : Addr} {b : Bool} (ne : t ≠ C) (i : PySem.W.isClsIn K C = true) (ty : PySem.W.typeIn K (.ref C) = some (.type "type")) (s : PySem.W.subIn K (.ref t) (.ref C) = some b) : PySem.W.kitOne K (.ref t) (.ref C) = some b := by
  unfold PySem.W.kitOne
  rw [if_neg (by simpa using ne)]
  exact kcls i ty s
theorem kany_nil {K : PySem.W.Frag} {t : Value} : PySem.W.kitAny K t (([] : List Addr).map Value.ref) = some false := PySem.W.kitAny.eq_1 K t
theorem kany_cons {K : PySem.W.Frag} {t : Value} {A : Addr} {As : List Addr} (h : PySem.W.kitOne K t (.ref A) = some false) (k : PySem.W.kitAny K t (As.map Value.ref) = some false) : PySem.W.kitAny K t ((A :: As).map Value.ref) = some false := by
  rw [List.map_cons, PySem.W.kitAny.eq_2, h]
  exact k
/-! ### the steps of a body, by their shape -/
local macro_rules | `(tactic| walk_at "side") => `(tactic| ((try dsimp only); first | exact rfl | exact ⟨by decide, by decide⟩ | exact Or.inl ⟨by decide, by decide⟩ | exact Or.inr ⟨by decide, by decide⟩ | omega | decide | (simp only [List.length_append, List.length_map, List.length_cons, List.length_nil, List.length_range]; omega) | skip))
local macro_rules | `(tactic| walk_at "ev") => `(tactic| first
  | with_reducible exact ev_int
  | with_reducible exact ev_str
  | with_reducible exact ev_bl
  | with_reducible exact ev_non
  | with_reducible exact ev_ty
  | ((with_reducible refine' ev_var ?hv); (case' hv => exact rfl))
  | ((with_reducible refine' ev_i0 ?q1ha ?q1hb); (case' q1ha => walk_at "ev"); (case' q1hb => walk_at "ev"))
  | ((with_reducible refine' ev_b0 ?q2ha ?q2hb); (case' q2ha => walk_at "ev"); (case' q2hb => walk_at "ev"))
  | ((with_reducible refine' ev_i ?q3ha ?q3hb ?q3hc); (case' q3ha => walk_at "ev"); (case' q3hb => walk_at "ev"); (case' q3hc => walk_at "side"))
  | ((with_reducible refine' ev_neg ?q4ha); (case' q4ha => walk_at "ev"))
  | ((with_reducible refine' ev_eq ?q5ha ?q5hb ?q5h1 ?q5h2); (case' q5ha => walk_at "ev"); (case' q5hb => walk_at "ev"); (case' q5h1 => walk_at "shp"); (case' q5h2 => walk_at "shp"))
  | ((with_reducible refine' ev_ne ?q6ha ?q6hb ?q6h1 ?q6h2); (case' q6ha => walk_at "ev"); (case' q6hb => walk_at "ev"); (case' q6h1 => walk_at "shp"); (case' q6h2 => walk_at "shp"))
  | ((with_reducible refine' ev_ixL ?q7ha ?q7hb ?q7hl ?q7hj); (case' q7ha => walk_at "el"); (case' q7hb => walk_at "ev"); (case' q7hl => exact rfl); (case' q7hj => walk_at "side"))
  | ((with_reducible refine' ev_ixT ?q8ha ?q8hb ?q8hj); (case' q8ha => walk_at "ev"); (case' q8hb => walk_at "ev"); (case' q8hj => walk_at "side"))
  | ((with_reducible refine' ev_ixS ?q9ha ?q9hb ?q9hz ?q9hj); (case' q9ha => walk_at "ev"); (case' q9hb => walk_at "ev"); (case' q9hz => walk_at "side"); (case' q9hj => walk_at "side"))
  | ((with_reducible refine' ev_lenL ?q10hr ?q10ha ?q10hl); (case' q10hr => exact rfl); (case' q10ha => walk_at "el"); (case' q10hl => exact rfl))
  | ((with_reducible refine' ev_lstA ?q11ha ?q11hd ?q11hl); (case' q11ha => walk_at "ead"); (case' q11hd => exact rfl); (case' q11hl => walk_at "side"))
  | ((with_reducible refine' ev_tupA ?q12ha ?q12hd ?q12hl); (case' q12ha => walk_at "ead"); (case' q12hd => exact rfl); (case' q12hl => walk_at "side"))
  | ((with_reducible refine' ev_cat ?q13ha ?q13hb ?q13la ?q13lb ?q13hl); (case' q13ha => walk_at "el"); (case' q13hb => walk_at "el"); (case' q13la => exact rfl); (case' q13lb => exact rfl); (case' q13hl => walk_at "side"))
  | ((with_reducible refine' ev_slL ?q14ha ?q14hb ?q14hc ?q14hl); (case' q14ha => walk_at "el"); (case' q14hb => walk_at "eo"); (case' q14hc => walk_at "eo"); (case' q14hl => exact rfl))
  | ((with_reducible refine' ev_slS ?q15ha ?q15hb ?q15hc ?q15hl); (case' q15ha => walk_at "ev"); (case' q15hb => walk_at "eo"); (case' q15hc => walk_at "eo"); (case' q15hl => walk_at "side"))
  | ((with_reducible refine' ev_cats ?q16hr ?q16ha ?q16hb ?q16hl); (case' q16hr => exact rfl); (case' q16ha => walk_at "ev"); (case' q16hb => walk_at "ev"); (case' q16hl => walk_at "side"))
  | ((with_reducible refine' ev_list ?q17hr ?q17ha ?q17hl); (case' q17hr => exact rfl); (case' q17ha => walk_at "el"); (case' q17hl => exact rfl))
  | ((with_reducible refine' ev_isi ?q18ha ?q18hb ?q18hc); (case' q18ha => walk_at "ev"); (case' q18hb => walk_at "side"); (case' q18hc => walk_at "side"))
  | ((with_reducible refine' ev_not ?q19ha); (case' q19ha => walk_at "ev"))
  | ((with_reducible refine' ev_callA ?q20ha ?q20hd ?q20hR); (case' q20ha => walk_at "ead"); (case' q20hd => exact rfl); (case' q20hR => simp only [List.map_cons, List.map_nil]))
  | walk_at "draw"
  | ((with_reducible refine' ev_give ?hv); (case' hv => exact rfl))
  | ((with_reducible refine' ev_ty1 ?q60a ?q60b); (case' q60a => walk_at "ev"); (case' q60b => walk_at "tyn"))
  | ((with_reducible refine' ev_lenS ?q61a ?q61b ?q61c); (case' q61a => exact rfl); (case' q61b => walk_at "ev"); (case' q61c => walk_at "side"))
  | ((with_reducible refine' ev_lenSet ?q62a ?q62b ?q62c); (case' q62a => walk_at "el"); (case' q62b => exact rfl); (case' q62c => walk_at "side"))
  | ((with_reducible refine' ev_chain ?q63a ?q63b ?q63c ?q63d ?q63e); (case' q63a => walk_at "ev"); (case' q63b => walk_at "ev"); (case' q63c => walk_at "rv"); (case' q63d => (intro _; walk_at "ev")); (case' q63e => (intro _; walk_at "rv")))
  | ((with_reducible refine' ev_all ?q64a ?q64b); (case' q64a => walk_at "el"); (case' q64b => (try exact rfl)))
  | ((with_reducible refine' ev_rep ?q66a ?q66b ?q66c ?q66d ?q66e ?q66f); (case' q66a => walk_at "el"); (case' q66b => walk_at "ev"); (case' q66c => exact rfl); (case' q66d => walk_at "side"); (case' q66e => walk_at "side"); (case' q66f => walk_at "side"))
  | ((with_reducible refine' ev_tupleL ?q67a ?q67b ?q67c); (case' q67a => exact rfl); (case' q67b => walk_at "el"); (case' q67c => exact rfl))
  | with_reducible exact ev_emp
  | ((with_reducible refine' ev_op ?q65a ?q65b ?q65c); (case' q65a => walk_at "ev"); (case' q65b => walk_at "ev"); (case' q65c => walk_at "rv"))
  | skip)
local macro_rules | `(tactic| walk_at "rv") => `(tactic| first | exact rv_isnt | exact rv_isTy rfl | exact rv_leS rfl | exact rv_I0 (fun _ => .bl _) | skip)
local macro_rules | `(tactic| walk_at "tyn") => `(tactic| first | exact rfl | assumption | skip)
local macro_rules | `(tactic| walk_at "el") => `(tactic| first
  | ((with_reducible refine' el_s ?hs); (case' hs => exact ⟨_, rfl, rfl⟩))
  | ((with_reducible refine' el_d ?q21ha); (case' q21ha => walk_at "ev")))
local macro_rules | `(tactic| walk_at "eo") => `(tactic| first
  | with_reducible exact eo_no
  | ((with_reducible refine' eo_some ?q22ha); (case' q22ha => walk_at "ev")))
local macro_rules | `(tactic| walk_at "ea") => `(tactic| first
  | with_reducible exact ea_nil
  | ((with_reducible refine' ea_s ?q23hs ?q23hb); (case' q23hs => exact ⟨_, rfl, rfl⟩); (case' q23hb => walk_at "ea"))
  | ((with_reducible refine' ea_d ?q24ha ?q24hb); (case' q24ha => walk_at "ev"); (case' q24hb => walk_at "ea")))
local macro_rules | `(tactic| walk_at "ead") => `(tactic| first
  | with_reducible exact ea_nil
  | ((with_reducible refine' ea_d ?q54ha ?q54hb); (case' q54ha => walk_at "ev"); (case' q54hb => walk_at "ead")))
local macro_rules | `(tactic| walk_at "et") => `(tactic| first
  | ((with_reducible refine' et_not ?q25ha); (case' q25ha => walk_at "et"))
  | ((with_reducible refine' et_test ?q26ha); (case' q26ha => walk_at "ev"))
  | ((with_reducible refine' et_B ?q27ha); (case' q27ha => walk_at "ev"))
  | ((with_reducible refine' et_and ?q28ha ?q28hb); (case' q28ha => walk_at "et"); (case' q28hb => (intro _; walk_at "et")))
  | ((with_reducible refine' et_or ?q29ha ?q29hb); (case' q29ha => walk_at "et"); (case' q29hb => (intro _; walk_at "et")))
  | with_reducible exact et_yes)
local macro_rules | `(tactic| walk_at "shp") => `(tactic| first | (simp only [Shp]; done) | skip)
local macro_rules | `(tactic| walk_at "set") => `(tactic| ((with_reducible refine' ex_seq (ex_set ?ha ?hi) ?hb); (case' ha => walk_at "ev"); (case' hi => exact rfl)))
local macro_rules | `(tactic| walk_at "setF") => `(tactic| ((with_reducible refine' ex_seq (ex_setF ?ha ?hi) ?hb); (case' ha => walk_at "ef"); (case' hi => exact rfl)))
local macro_rules | `(tactic| walk_at "ef") => `(tactic| first
  | ((with_reducible refine' ef_lstA ?q32ha ?q32hd ?q32hl); (case' q32ha => walk_at "ead"); (case' q32hd => exact rfl); (case' q32hl => walk_at "side"))
  | ((with_reducible refine' ef_cat ?q33ha ?q33hb ?q33la ?q33lb ?q33hl); (case' q33ha => walk_at "el"); (case' q33hb => walk_at "el"); (case' q33la => exact rfl); (case' q33lb => exact rfl); (case' q33hl => walk_at "side"))
  | ((with_reducible refine' ef_list ?q34hr ?q34ha ?q34hl); (case' q34hr => exact rfl); (case' q34ha => walk_at "el"); (case' q34hl => exact rfl))
  | ((with_reducible refine' ef_slL ?q35ha ?q35hb ?q35hc ?q35hl); (case' q35ha => walk_at "el"); (case' q35hb => walk_at "eo"); (case' q35hc => walk_at "eo"); (case' q35hl => exact rfl)))
local macro_rules | `(tactic| walk_at "le") => `(tactic| first | exact Le.nil | ((refine' Le.no ?_); (walk_at "le")) | (refine' Le.eq ?_; walk_at "le"))
local macro_rules | `(tactic| walk_at "fin") => `(tactic| first | exact FinOk.nil | ((refine' FinOk.no ?_); (walk_at "fin")) | (refine' FinOk.par ?_; walk_at "fin"))
local macro_rules | `(tactic| walk_at "body") => `(tactic| (refine ⟨by walk_at "fin", ?_⟩; simp only [List.length_cons, List.length_nil, Nat.reduceAdd, Nat.reduceSub, List.replicate, List.cons_append, List.nil_append, cxK]))
local macro_rules | `(tactic| walk_at "ret") => `(tactic| ((with_reducible refine' ex_retW ?ha ?he ?hl); (case' ha => walk_at "ev"); (case' hl => walk_at "le"); (case' he => (try exact rfl))))
local macro_rules | `(tactic| walk_at "ifl") => `(tactic| ((with_reducible refine' ex_ifL ?ht ?h1 ?h2 ?hn); (case' ht => walk_at "et"); (case' hn => exact rfl)))
local macro_rules | `(tactic| walk_at "nrm") => `(tactic| try simp only [wipeS_one, List.set_cons_zero, List.set_cons_succ, Sl.put])
local macro_rules | `(tactic| walk_at "app") => `(tactic| ((with_reducible refine' ex_append ?q50a ?q50b ?q50c ?q50d ?q50e); (case' q50a => walk_at "ev"); (case' q50b => exact ⟨_, rfl, rfl⟩); (case' q50c => exact rfl); (case' q50d => exact rfl); (case' q50e => walk_at "side")))
local macro_rules | `(tactic| walk_at "draw") => `(tactic| ((with_reducible refine' ev_call1 (k := 1) ?q51a ?q51b ?q51c ?q51d ?q51e ?q51f ?q51g); (case' q51a => walk_at "ea"); (case' q51b => exact ⟨rfl, rfl⟩); (case' q51c => exact rfl); (case' q51d => exact ⟨_, _, rfl, rfl, rfl⟩); (case' q51e => exact rfl); (case' q51f => exact rfl); (case' q51g => exact rfl)))
local macro_rules | `(tactic| walk_at "appS") => `(tactic| ((with_reducible refine' ex_seq ?q52a ?q52b); (case' q52a => walk_at "app")))
local macro_rules | `(tactic| walk_at "wk") => `(tactic| (refine' Ex.weak ?q53a ?q53b))

/-! ### plain facts -/
theorem at_map {α : Type} {f : α → Dat} {xs : List α} {k : Nat} {x : α} (h : xs[k]? = some x) : atI (xs.map f) (k : Int) = some (f x) := atI_nat (by rw [List.getElem?_map, h]; rfl)
theorem at_ints {ns : List Int} {k : Nat} (h : k < ns.length) : atI (ns.map Dat.int) (k : Int) = some (.int (ns.getD k 0)) :=
  at_map (by rw [List.getD_eq_getElem?_getD, List.getElem?_eq_getElem h]; rfl)
theorem at_of_eq {ds : List Dat} {i j : Int} {d : Dat} (e : i = j) (h : atI ds j = some d) : atI ds i = some d := e ▸ h
theorem cps_append (x y : Str) : (x ++ y).cps.toList = x.cps.toList ++ y.cps.toList := by
  show (x.cps ++ y.cps).toList = _
  simp
theorem len_cps (x : Str) : x.length = x.cps.toList.length := by simp [Str.length]
theorem tyn_str {d : Dat} (h : d.tyn = some "str") : ∃ x, d = .str x := by
  cases d <;> first | exact ⟨_, rfl⟩ | (simp [Dat.tyn] at h)
theorem tyn_list {d : Dat} (h : d.tyn = some "list") : ∃ x, d = .lst x := by
  cases d <;> first | exact ⟨_, rfl⟩ | (simp [Dat.tyn] at h)
theorem tyn_int {d : Dat} (h : d.tyn = some "int") : ∃ x, d = .int x := by
  cases d <;> first | exact ⟨_, rfl⟩ | (simp [Dat.tyn] at h)
theorem at_mod {ds : List Dat} {x n : Int} (h : 0 < n) (hl : (ds.length : Int) = n) : atI ds (x % n) = some (ds.getD (x % n).toNat .non) := by
  have h1 : 0 ≤ x % n := Int.emod_nonneg _ (by omega)
  have h2 : x % n < n := Int.emod_lt_of_pos _ h
  generalize x % n = j at *
  obtain ⟨k, rfl⟩ := Int.eq_ofNat_of_zero_le h1
  have hk : k < ds.length := by omega
  exact atI_nat (by rw [Int.toNat_natCast, List.getD_eq_getElem?_getD, List.getElem?_eq_getElem hk]; rfl)

structure Tx (K : PySem.W.Frag) (mg : Str → Option Value) (C_BadMachine : Addr) (C_BadSaying : Addr) (C_Machine : Addr) (C_NoWalk : Addr) (C_TooMany : Addr) (C_WalkError : Addr) : Prop where
  c_BadMachine : mg "BadMachine" = some (.ref C_BadMachine)
  c_BadSaying : mg "BadSaying" = some (.ref C_BadSaying)
  c_Machine : mg "Machine" = some (.ref C_Machine)
  k_Machine : Cls K C_Machine
  c_NoWalk : mg "NoWalk" = some (.ref C_NoWalk)
  c_TooMany : mg "TooMany" = some (.ref C_TooMany)
  c_WalkError : mg "WalkError" = some (.ref C_WalkError)
  x_NoWalk : PySem.W.excIn K C_NoWalk [.type "ValueError", .type "Exception", .type "BaseException", .type "object"] "ValueError.__new__" = true
  kp_NoWalk : PySem.W.keepIn K (.ref C_NoWalk) = true
  sb_NoWalk : PySem.W.subIn K (.ref C_NoWalk) (.type "BaseException") = some true
  ty_NoWalk : PySem.W.typeIn K (.ref C_NoWalk) = some (.type "type")
  i1_Machine : PySem.W.findIn K (.ref C_Machine) "__class__" = some (some (.builtin "object.__class__"))
  i2_Machine : PySem.W.specialIn K (.builtin "object.__class__") "__get__" = some (some (.builtin "getset_descriptor.__get__"))
  i3_Machine : PySem.W.takesIn K (.builtin "object.__class__") = some true
  i4_Machine : PySem.W.mroIn K C_Machine (.type "object") = some true
  em_NoWalk : PySem.W.exmOne K (.ref C_NoWalk) (.ref C_WalkError) = some true
  ec_NoWalk : ExcC K C_NoWalk
  ka_NoWalk : PySem.W.kitAny K (.ref C_NoWalk) ([C_BadMachine, C_BadSaying, C_TooMany].map Value.ref) = some false
  kv_NoWalk : PySem.W.kitOne K (.ref C_NoWalk) (.type "ValueError") = some true
  n_Machine__begins : NoAttr K C_Machine "_begins"
  n_Machine__marks : NoAttr K C_Machine "_marks"
  n_Machine__ways : NoAttr K C_Machine "_ways"
  b_ValueError : mg "ValueError" = none
  b_all : mg "all" = none
  b_bool : mg "bool" = none
  b_int : mg "int" = none
  b_isinstance : mg "isinstance" = none
  b_len : mg "len" = none
  b_list : mg "list" = none
  b_range : mg "range" = none
  b_set : mg "set" = none
  b_str : mg "str" = none
  b_tuple : mg "tuple" = none
  b_type : mg "type" = none
  b_zip : mg "zip" = none
  g_LONGEST : ∃ t, mg "LONGEST" = some (.int 6 t)
  g_MOST_PLACES : ∃ t, mg "MOST_PLACES" = some (.int 12 t)
section
variable {P : Program} {w : World} {K : PySem.W.Frag} {mg : Str → Option Value} {base : Heap} {C_BadMachine C_BadSaying C_Machine C_NoWalk C_TooMany C_WalkError : Addr}
def okCode (c : Nat) : Bool := decide (97 ≤ c) && decide (c ≤ 122)
def isMark : Dat → Bool
  | .str x => decide (x.length ≤ 6) && x.cps.toList.all okCode
  | _ => false
theorem lex1 (a b : Nat) : decide (([a] : List Nat) < [b]) = decide (a < b) := by
  rw [decide_eq_decide]
  constructor
  · intro h
    cases h with
    | rel h => exact h
    | cons h => cases h
  · intro h
    exact List.Lex.rel h
def okSign : Dat → Dat
  | .str x => .bl (!decide (x.cps.toList < [97]) && !decide ([122] < x.cps.toList))
  | _ => .non
def R_is_mark : List Sl → Dat → List Sl → Prop := fun as d as' => ∃ (x0 : Dat) (n : Nat), as = [.dat x0] ∧ d = .bl (isMark x0) ∧ as' = [.no] ∧ Tame n x0
theorem len_is_mark : ∀ as d as', R_is_mark as d as' → as.length = 1 := by
  rintro as d as' ⟨_, _, rfl, _⟩
  rfl
abbrev s_is_mark : Stmt := topS 8
theorem sc_is_mark : FnScope ["thing", "letter"] ["thing"] (defScope s_is_mark) := ⟨rfl, rfl, rfl, by decide +kernel, rfl, by decide +kernel, by decide +kernel⟩
theorem ok_is_mark {f : Addr} {fd : FuncData} (F : Fun K "is_mark" "is_mark" s_is_mark f fd) (T : Tx K mg C_BadMachine C_BadSaying C_Machine C_NoWalk C_TooMany C_WalkError)  : FnOk P w K mg base CX0 1 f fd ["thing"] (spG K R_is_mark) := by
  have nd := sc_is_mark.nd
  refine F.ok sc_is_mark (spG_len len_is_mark) (fun cdv A outer s H vs Q E hr h => ?_)
  have hu := hr.units
  have hu5 := unit5 hr
  refine ⟨_, (pss_cons (ps_if (PW.pt (pw_or (pt_cmpR op_notTyB (pe_callTy (kType K) (by rfl) T.b_type (by decide +kernel) (pa_cons (pv 0) pa_nil)) (pe_bltn (v := .ty "str") (by rfl) T.b_str (by decide +kernel) rfl) (nomark _)) (pw_or1 (pt_cmpR op_gt (pe_callB call_len_str (by rfl) T.b_len PySem.boot_len (pa_cons (pv 0) pa_nil)) (pe_glob (v := .int 6) (by rfl) T.g_LONGEST.choose_spec ⟨_, rfl⟩) (nomark _))))) (pss_one (ps_ret pe_bl)) pss_nil)
      (pss_one (ps_ret (pe_callB (kAll K (by rfl)) (by rfl) T.b_all (by decide +kernel) (pa_cons (pe_lc (own := [("letter", 1)]) (g := gName 1) (tt := tYes) (by rfl) nd (pi_str (pv 0)) (blkOk_by (own := [("letter", 1)]) (N := ["thing", "letter"]) (sc := defScope s_is_mark) (by decide +kernel)) (fun _ _ _ _ _ => pg_name (i := 1) nd rfl (Or.inl rfl)) (fun _ _ _ _ _ => pts_nil) (fun _ _ _ _ _ => (pe_chain op_le_str op_le_str pe_str (pv 1) pe_str))) pa_nil))))), ?_⟩
  refine body_ok h len_is_mark fun as d as' hR => ?_
  obtain ⟨x0, n, rfl, rfl, rfl, ht⟩ := hR
  obtain ⟨ty, hty⟩ := tame_tyn ht
  walk_at "body"
  by_cases hs : ty = "str"
  · subst hs
    obtain ⟨x, rfl⟩ := tyn_str hty
    · rw [tame_str] at ht
      walk_at "ifl"
      · intro h
        walk_at "ret"
        have h : (6 : Int) < x.length := by simpa using h
        show Dat.bl false = .bl (decide (x.length ≤ 6) && x.cps.toList.all okCode)
        rw [decide_eq_false (by omega)]
        rfl
      · intro h
        have h : x.length ≤ 6 := by
          have : ¬ (6 : Int) < (x.length : Int) := by simpa using h
          omega
        have ea : (Str.ofString "a").cps.toList = [97] := by decide +kernel
        have ez : (Str.ofString "z").cps.toList = [122] := by decide +kernel
        refine ex_retW (ev_all (bs := x.cps.toList.map okCode) (el_d (ev_of_fresh (ef_lcMap okSign (src_str (ev_var rfl)) (by exact rfl) ?_ ?_))) ?_) ?_ (by walk_at "nrm"; walk_at "le")
        · show (List.map _ _).length < _
          rw [List.length_map, ← len_cps]
          omega
        · intro d hd
          obtain ⟨c, hc, rfl⟩ := List.mem_map.mp hd
          walk_at "nrm"
          refine Ev.to (d := .bl (!decide ([c] < (Str.ofString "a").cps.toList) && !decide ((Str.ofString "z").cps.toList < [c]))) ?_ (by rw [ea, ez]; rfl)
          exact ev_chain ev_str (ev_var rfl) (rv_leS rfl) (fun _ => ev_str) (fun _ => rv_leS rfl)
        · show some _ = some _
          unfold signs
          rw [List.map_map, List.map_map]
          refine congrArg some (List.map_congr_left fun c _ => ?_)
          show Dat.bl (!decide ([c] < [97]) && !decide ([122] < [c])) = .bl (okCode c)
          rw [lex1, lex1]
          unfold okCode
          by_cases h1 : c < 97
          · rw [decide_eq_true h1, decide_eq_false (show ¬ 97 ≤ c by omega)]
            rfl
          · by_cases h2 : 122 < c
            · rw [decide_eq_false h1, decide_eq_true h2, decide_eq_true (show 97 ≤ c by omega), decide_eq_false (show ¬ c ≤ 122 by omega)]
              rfl
            · rw [decide_eq_false h1, decide_eq_false h2, decide_eq_true (show 97 ≤ c by omega), decide_eq_true (show c ≤ 122 by omega)]
              rfl
        · show Dat.bl ((x.cps.toList.map okCode).all id) = .bl (decide (x.length ≤ 6) && x.cps.toList.all okCode)
          rw [decide_eq_true h, List.all_map]
          rfl
  · have hf : isMark x0 = false := by
      cases x0 <;> first | rfl | exact absurd (Option.some.inj hty).symm hs
    rw [hf]
    refine' ex_ifL (a := true) (et_orT (EvT.to ?ha ?hb)) ?hc ?hd rfl
    case' ha => walk_at "et"
    case hb => rw [decide_eq_false hs]; rfl
    case hc =>
      intro _
      walk_at "ret"
    case hd =>
      intro h
      cases h
def isPlace (x : Dat) (m : Int) : Bool := match x with
  | .int i => decide (0 ≤ i) && decide (i < m)
  | _ => false
def R_is_place : List Sl → Dat → List Sl → Prop := fun as d as' => ∃ (x0 : Dat) (m : Int) (n : Nat), as = [.dat x0, .dat (.int m)] ∧ d = .bl (isPlace x0 m) ∧ as' = [.no, .no] ∧ Tame n x0
theorem len_is_place : ∀ as d as', R_is_place as d as' → as.length = 2 := by
  rintro as d as' ⟨_, _, _, rfl, _⟩
  rfl
abbrev s_is_place : Stmt := topS 15
theorem sc_is_place : FnScope ["thing", "many"] ["thing", "many"] (defScope s_is_place) := ⟨rfl, rfl, rfl, by decide +kernel, rfl, by decide +kernel, by decide +kernel⟩
theorem ok_is_place {f : Addr} {fd : FuncData} (F : Fun K "_is_place" "_is_place" s_is_place f fd) (T : Tx K mg C_BadMachine C_BadSaying C_Machine C_NoWalk C_TooMany C_WalkError)  : FnOk P w K mg base CX0 1 f fd ["thing", "many"] (spG K R_is_place) := by
  have nd := sc_is_place.nd
  refine F.ok sc_is_place (spG_len len_is_place) (fun cdv A outer s H vs Q E hr h => ?_)
  have hu := hr.units
  have hu5 := unit5 hr
  refine ⟨_, (pss_one (ps_ret (pe_and (pe_cmpR op_isTyB (pe_callTy (kType K) (by rfl) T.b_type (by decide +kernel) (pa_cons (pv 0) pa_nil)) (pe_bltn (v := .ty "int") (by rfl) T.b_int (by decide +kernel) rfl) (nomark _)) (pe_one (pe_chain op_le op_lt pe_int (pv 0) (pv 1)))))), ?_⟩
  refine body_ok h len_is_place fun as d as' hR => ?_
  obtain ⟨x0, m, n, rfl, rfl, rfl, ht⟩ := hR
  obtain ⟨ty, hty⟩ := tame_tyn ht
  walk_at "body"
  by_cases hs : ty = "int"
  · subst hs
    obtain ⟨x, rfl⟩ := tyn_int hty
    refine ex_retW (ev_and (a := true) (Ev.to (ev_op (ev_ty1 (ev_var rfl) rfl) ev_ty (rv_isTy rfl)) rfl) (fun _ => ev_chain ev_int (ev_var rfl) (rv_I0 fun _ => .bl _) (fun _ => ev_var rfl) (fun _ => rv_I0 fun _ => .bl _))) ?_ (by walk_at "le")
    rfl
  · have hf : isPlace x0 m = false := by
      cases x0 <;> first | rfl | exact absurd (Option.some.inj hty).symm hs
    rw [hf]
    refine ex_retW (ev_andF (Ev.to (ev_op (ev_ty1 (ev_var rfl) hty) ev_ty (rv_isTy rfl)) ?_)) rfl (by walk_at "le")
    rw [decide_eq_false hs]
def placeOf (m : Int) : Dat → Dat := fun x => .bl (isPlace x m)
def dInts : List Dat → List Int
  | .int i :: r => i :: dInts r
  | _ :: r => 0 :: dInts r
  | [] => []
theorem dInts_eq : ∀ {ds : List Dat} {m : Int}, (ds.all fun x => isPlace x m) = true → ds = (dInts ds).map Dat.int
  | [], _, _ => rfl
  | .int i :: r, m, h => by
    rw [List.all_cons, Bool.and_eq_true] at h
    show Dat.int i :: r = Dat.int i :: (dInts r).map Dat.int
    rw [← dInts_eq h.2]
  | .non :: r, m, h => by simp [isPlace] at h
  | .bl _ :: r, m, h => by simp [isPlace] at h
  | .str _ :: r, m, h => by simp [isPlace] at h
  | .ty _ :: r, m, h => by simp [isPlace] at h
  | .cls _ :: r, m, h => by simp [isPlace] at h
  | .lst _ :: r, m, h => by simp [isPlace] at h
  | .tup _ :: r, m, h => by simp [isPlace] at h
  | .ins _ _ _ :: r, m, h => by simp [isPlace] at h
  | .emp :: r, m, h => by simp [isPlace] at h
  | .scr _ :: r, m, h => by simp [isPlace] at h
def areChoices (x : Dat) (m : Int) : Bool := match x with
  | .lst ds => !ds.isEmpty && ((ds.all fun x => isPlace x m) && decide ((dInts ds).Nodup))
  | _ => false
def R_are_choices : List Sl → Dat → List Sl → Prop := fun as d as' => ∃ (x0 : Dat) (m : Int) (n : Nat), as = [.dat x0, .dat (.int m)] ∧ d = .bl (areChoices x0 m) ∧ as' = [.no, .no] ∧ Tame n x0
theorem len_are_choices : ∀ as d as', R_are_choices as d as' → as.length = 2 := by
  rintro as d as' ⟨_, _, _, rfl, _⟩
  rfl
abbrev s_are_choices : Stmt := topS 14
theorem sc_are_choices : FnScope ["things", "many", "thing"] ["things", "many"] (defScope s_are_choices) := ⟨rfl, rfl, rfl, by decide +kernel, rfl, by decide +kernel, by decide +kernel⟩
theorem ok_are_choices {f : Addr} {fd : FuncData} (F : Fun K "_are_choices" "_are_choices" s_are_choices f fd) (T : Tx K mg C_BadMachine C_BadSaying C_Machine C_NoWalk C_TooMany C_WalkError) {a_is_place : Addr} {fd_is_place : FuncData} (c_is_place : Cal P w K mg base "_is_place" 1 ["thing", "many"] (spG K R_is_place) a_is_place fd_is_place) : FnOk P w K mg base CX0 2 f fd ["things", "many"] (spG K R_are_choices) := by
  have nd := sc_are_choices.nd
  refine F.ok sc_are_choices (spG_len len_are_choices) (fun cdv A outer s H vs Q E hr h => ?_)
  have hu := hr.units
  have hu5 := unit5 hr
  refine ⟨_, (pss_cons (ps_if (PW.pt (pw_or (pt_cmpR op_notTyB (pe_callTy (kType K) (by rfl) T.b_type (by decide +kernel) (pa_cons (pv 0) pa_nil)) (pe_bltn (v := .ty "list") (by rfl) T.b_list (by decide +kernel) rfl) (nomark _)) (pw_or1 (pt_cmpR (kEqD K hu) (pe_callB (kLen K) (by rfl) T.b_len PySem.boot_len (pa_cons (pv 0) pa_nil)) pe_int (nomark _))))) (pss_one (ps_ret pe_bl)) pss_nil)
      (pss_one (ps_ret (pe_and (pe_callB (kAll K (by rfl)) (by rfl) T.b_all (by decide +kernel) (pa_cons (pe_lc (own := [("thing", 2)]) (g := gName 2) (tt := tYes) (by rfl) nd (kiList K (pi_list (pv 0))) (blkOk_by (own := [("thing", 2)]) (N := ["things", "many", "thing"]) (sc := defScope s_are_choices) (by decide +kernel)) (fun _ _ _ _ _ => pg_name (i := 2) nd rfl (Or.inl rfl)) (fun _ _ _ _ _ => pts_nil) (fun _ _ _ _ _ => (pe_call c_is_place.ok (hr.mono (by omega)) (by rfl) c_is_place.g c_is_place.kp c_is_place.b .nil pass0 (pa_cons (pv 2) (pa_cons (pv 1) pa_nil))))) pa_nil)) (pe_one (pe_cmpR (kEqD K hu) (kLenSet K (pe_lenSetG (by rfl) T.b_len (by rfl) T.b_set (pv 0))) (pe_callB (kLen K) (by rfl) T.b_len PySem.boot_len (pa_cons (pv 0) pa_nil)) (nomark _))))))), ?_⟩
  refine body_ok h len_are_choices fun as d as' hR => ?_
  obtain ⟨x0, m, n, rfl, rfl, rfl, ht⟩ := hR
  obtain ⟨ty, hty⟩ := tame_tyn ht
  walk_at "body"
  by_cases hs : ty = "list"
  · subst hs
    obtain ⟨ds, rfl⟩ := tyn_list hty
    obtain ⟨hl, n, rfl, hall⟩ := tame_len ht
    have e0 : (!decide ("list" = "list") || eqd (Dat.int ↑ds.length) (Dat.int 0)) = ds.isEmpty := by
      rw [eqd_int]
      cases ds with
      | nil => rfl
      | cons _ _ => show (false || ((((_ + 1 : Nat) : Int)) == 0)) = false; rw [Bool.false_or]; exact beq_eq_false_iff_ne.mpr (by omega)
    walk_at "ifl"
    · intro h
      rw [e0] at h
      walk_at "ret"
      show Dat.bl false = .bl (!ds.isEmpty && _)
      rw [h]
      rfl
    · intro h
      rw [e0] at h
      have hc : areChoices (.lst ds) m = ((ds.all fun x => isPlace x m) && decide ((dInts ds).Nodup)) := by
        show (!ds.isEmpty && _) = _
        rw [h]
        rfl
      rw [hc]
      refine ex_retW (ev_and (a := ds.all fun x => isPlace x m) (Ev.to (ev_all (bs := ds.map fun x => isPlace x m) (el_d (ev_of_fresh (ef_lcMap (placeOf m) (src_list (ev_var rfl) rfl) (by exact rfl) (by omega) ?ha))) ?hb) ?hc) (fun hq => Ev.to (ev_eq (ev_lenSet (ns := dInts ds) (el_d (ev_var rfl)) ?hd ?he) (ev_lenL rfl (el_d (ev_var rfl)) rfl) (by simp only [Shp]) (by simp only [Shp])) ?hf)) rfl (by walk_at "nrm"; walk_at "le")
      case ha =>
        intro d hd
        walk_at "nrm"
        exact ev_callA (ea_d (ev_var rfl) (ea_d (ev_var rfl) ea_nil)) rfl ⟨_, _, _, rfl, rfl, rfl, tameAll_mem hall d hd⟩
      case hb =>
        show some _ = some _
        rw [List.map_map]
        rfl
      case hc =>
        rw [List.all_map]
        rfl
      case hd => exact congrArg some (dInts_eq hq)
      case he =>
        have := congrArg List.length (dInts_eq hq)
        rw [List.length_map] at this
        omega
      case hf =>
        have hl2 := congrArg List.length (dInts_eq hq)
        rw [List.length_map] at hl2
        rw [eqd_int, hl2]
        by_cases hn : (dInts ds).Nodup
        · rw [decide_eq_true hn, distinct_nodup.mpr hn]
          simp
        · rw [decide_eq_false hn]
          have := distinct_le (dInts ds)
          have h3 : ¬ (distinct (dInts ds)).length = (dInts ds).length := fun e => hn (distinct_nodup.mp e)
          exact congrArg Dat.bl (beq_eq_false_iff_ne.mpr (by omega))
  · have hf : areChoices x0 m = false := by
      cases x0 <;> first | rfl | exact absurd (Option.some.inj hty).symm hs
    rw [hf]
    refine' ex_ifL (a := true) (et_orT (EvT.to ?ha ?hb)) ?hc ?hd rfl
    case' ha => walk_at "et"
    case hb => rw [decide_eq_false hs]; rfl
    case hc =>
      intro _
      walk_at "ret"
    case hd =>
      intro h
      cases h
def markOf : Dat → Dat := fun x => .bl (isMark x)
def choiceOf (m : Int) : Dat → Dat := fun x => .bl (areChoices x m)
def isMachine (dm dw db : Dat) : Bool := match dm, dw with
  | .lst ms, .lst ws => decide (1 ≤ ms.length) && (decide (ms.length ≤ 12) && (decide (ws.length = ms.length) && ((ms.all isMark) && ((ws.all fun x => areChoices x ms.length) && areChoices db ms.length))))
  | _, _ => false
theorem isMachine_no {dm dw db : Dat} (h : (∀ ms, dm ≠ .lst ms) ∨ (∀ ws, dw ≠ .lst ws)) : isMachine dm dw db = false := by
  cases dm <;> first | rfl | skip
  cases dw <;> first | rfl | skip
  rcases h with h | h
  · exact absurd rfl (h _)
  · exact absurd rfl (h _)
def R_is_machine : List Sl → Dat → List Sl → Prop := fun as d as' => ∃ (dm dw db : Dat) (n : Nat), as = [.dat dm, .dat dw, .dat db] ∧ d = .bl (isMachine dm dw db) ∧ as' = [.no, .no, .no] ∧ Tame n dm ∧ Tame n dw ∧ Tame n db
theorem len_is_machine : ∀ as d as', R_is_machine as d as' → as.length = 3 := by
  rintro as d as' ⟨_, _, _, _, rfl, _⟩
  rfl
abbrev s_is_machine : Stmt := topS 13
theorem sc_is_machine : FnScope ["marks", "ways", "begins", "many", "mark", "row"] ["marks", "ways", "begins"] (defScope s_is_machine) := ⟨rfl, rfl, rfl, by decide +kernel, rfl, by decide +kernel, by decide +kernel⟩
theorem ok_is_machine {f : Addr} {fd : FuncData} (F : Fun K "_is_machine" "_is_machine" s_is_machine f fd) (T : Tx K mg C_BadMachine C_BadSaying C_Machine C_NoWalk C_TooMany C_WalkError) {a_are_choices : Addr} {fd_are_choices : FuncData} (c_are_choices : Cal P w K mg base "_are_choices" 2 ["things", "many"] (spG K R_are_choices) a_are_choices fd_are_choices) {a_is_mark : Addr} {fd_is_mark : FuncData} (c_is_mark : Cal P w K mg base "is_mark" 1 ["thing"] (spG K R_is_mark) a_is_mark fd_is_mark) : FnOk P w K mg base CX0 3 f fd ["marks", "ways", "begins"] (spG K R_is_machine) := by
  have nd := sc_is_machine.nd
  refine F.ok sc_is_machine (spG_len len_is_machine) (fun cdv A outer s H vs Q E hr h => ?_)
  have hu := hr.units
  have hu5 := unit5 hr
  refine ⟨_, (pss_cons (ps_if (PW.pt (pw_or (pt_cmpR op_notTyB (pe_callTy (kType K) (by rfl) T.b_type (by decide +kernel) (pa_cons (pv 0) pa_nil)) (pe_bltn (v := .ty "list") (by rfl) T.b_list (by decide +kernel) rfl) (nomark _)) (pw_or1 (pt_not (pt_chain op_le op_le pe_int (pe_callB (kLen K) (by rfl) T.b_len PySem.boot_len (pa_cons (pv 0) pa_nil)) (pe_glob (v := .int 12) (by rfl) T.g_MOST_PLACES.choose_spec ⟨_, rfl⟩)))))) (pss_one (ps_ret pe_bl)) pss_nil)
      (pss_cons (ps_if (PW.pt (pw_or (pt_cmpR op_notTyB (pe_callTy (kType K) (by rfl) T.b_type (by decide +kernel) (pa_cons (pv 1) pa_nil)) (pe_bltn (v := .ty "list") (by rfl) T.b_list (by decide +kernel) rfl) (nomark _)) (pw_or1 (pt_cmpR (kNeD K hu) (pe_callB (kLen K) (by rfl) T.b_len PySem.boot_len (pa_cons (pv 1) pa_nil)) (pe_callB (kLen K) (by rfl) T.b_len PySem.boot_len (pa_cons (pv 0) pa_nil)) (nomark _))))) (pss_one (ps_ret pe_bl)) pss_nil)
      (pss_cons (ps_set (i := 3) nd rfl (by first | exact Or.inl rfl | exact Or.inr rfl) (pe_callB (kLen K) (by rfl) T.b_len PySem.boot_len (pa_cons (pv 0) pa_nil)))
      (pss_one (ps_ret (pe_and (pe_callB (kAll K (by rfl)) (by rfl) T.b_all (by decide +kernel) (pa_cons (pe_lc (own := [("mark", 4)]) (g := gName 4) (tt := tYes) (by rfl) nd (kiList K (pi_list (pv 0))) (blkOk_by (own := [("mark", 4)]) (N := ["marks", "ways", "begins", "many", "mark", "row"]) (sc := defScope s_is_machine) (by decide +kernel)) (fun _ _ _ _ _ => pg_name (i := 4) nd rfl (Or.inl rfl)) (fun _ _ _ _ _ => pts_nil) (fun _ _ _ _ _ => (pe_call c_is_mark.ok (hr.mono (by omega)) (by rfl) c_is_mark.g c_is_mark.kp c_is_mark.b .nil pass0 (pa_cons (pv 4) pa_nil)))) pa_nil)) (pe_and (pe_callB (kAll K (by rfl)) (by rfl) T.b_all (by decide +kernel) (pa_cons (pe_lc (own := [("row", 5)]) (g := gName 5) (tt := tYes) (by rfl) nd (kiList K (pi_list (pv 1))) (blkOk_by (own := [("row", 5)]) (N := ["marks", "ways", "begins", "many", "mark", "row"]) (sc := defScope s_is_machine) (by decide +kernel)) (fun _ _ _ _ _ => pg_name (i := 5) nd rfl (Or.inl rfl)) (fun _ _ _ _ _ => pts_nil) (fun _ _ _ _ _ => (pe_call c_are_choices.ok (hr.mono (by omega)) (by rfl) c_are_choices.g c_are_choices.kp c_are_choices.b .nil pass0 (pa_cons (pv 5) (pa_cons (pv 3) pa_nil))))) pa_nil)) (pe_one (pe_call c_are_choices.ok (hr.mono (by omega)) (by rfl) c_are_choices.g c_are_choices.kp c_are_choices.b .nil pass0 (pa_cons (pv 2) (pa_cons (pv 3) pa_nil))))))))))), ?_⟩
  refine body_ok h len_is_machine fun as d as' hR => ?_
  obtain ⟨dm, dw, db, n, rfl, rfl, rfl, tm, tw, tb⟩ := hR
  obtain ⟨ty, hty⟩ := tame_tyn tm
  obtain ⟨ty2, hty2⟩ := tame_tyn tw
  walk_at "body"
  by_cases hs : ty = "list"
  · subst hs
    obtain ⟨ms, rfl⟩ := tyn_list hty
    obtain ⟨hl, n1, hn1, hall⟩ := tame_len tm
    have e0 : (!decide ("list" = "list") || !(decide ((1 : Int) ≤ ms.length) && decide ((ms.length : Int) ≤ 12))) = !(decide (1 ≤ ms.length) && decide (ms.length ≤ 12)) := by
      have a1 : decide ((1 : Int) ≤ ms.length) = decide (1 ≤ ms.length) := decide_eq_decide.mpr (by omega)
      have a2 : decide ((ms.length : Int) ≤ 12) = decide (ms.length ≤ 12) := decide_eq_decide.mpr (by omega)
      rw [a1, a2]
      rfl
    walk_at "ifl"
    · intro h
      rw [e0] at h
      walk_at "ret"
      cases dw <;> first | rfl | skip
      rename_i ws
      show Dat.bl false = .bl (decide (1 ≤ ms.length) && (decide (ms.length ≤ 12) && _))
      rw [← Bool.and_assoc]
      have h2 : (decide (1 ≤ ms.length) && decide (ms.length ≤ 12)) = false := by
        cases hq : (decide (1 ≤ ms.length) && decide (ms.length ≤ 12)) with
        | false => rfl
        | true => rw [hq] at h; cases h
      rw [h2]
      rfl
    · intro h
      rw [e0] at h
      have h2 : (decide (1 ≤ ms.length) && decide (ms.length ≤ 12)) = true := by
        cases hq : (decide (1 ≤ ms.length) && decide (ms.length ≤ 12)) with
        | true => rfl
        | false => rw [hq] at h; cases h
      by_cases hs2 : ty2 = "list"
      · subst hs2
        obtain ⟨ws, rfl⟩ := tyn_list hty2
        obtain ⟨hlw, n2, hn2, hallw⟩ := tame_len tw
        have e1 : (!decide ("list" = "list") || !eqd (Dat.int ws.length) (Dat.int ms.length)) = !decide (ws.length = ms.length) := by
          rw [eqd_int]
          show (false || !decide ((ws.length : Int) = ms.length)) = _
          have a1 : decide ((ws.length : Int) = ms.length) = decide (ws.length = ms.length) := decide_eq_decide.mpr (by omega)
          rw [a1]
          rfl
        walk_at "ifl"
        · intro h3
          rw [e1] at h3
          walk_at "ret"
          show Dat.bl false = .bl (decide (1 ≤ ms.length) && (decide (ms.length ≤ 12) && (decide (ws.length = ms.length) && _)))
          rw [← Bool.and_assoc, h2]
          cases hq : decide (ws.length = ms.length) with
          | true => rw [hq] at h3; cases h3
          | false => rfl
        · intro h3
          rw [e1] at h3
          have h4 : decide (ws.length = ms.length) = true := by
            cases hq : decide (ws.length = ms.length) with
            | true => rfl
            | false => rw [hq] at h3; cases h3
          walk_at "set"
          walk_at "nrm"
          have hc : isMachine (.lst ms) (.lst ws) db = ((ms.all isMark) && ((ws.all fun x => areChoices x ms.length) && areChoices db ms.length)) := by
            show (decide (1 ≤ ms.length) && (decide (ms.length ≤ 12) && (decide (ws.length = ms.length) && _))) = _
            rw [← Bool.and_assoc, h2, h4]
            rfl
          rw [hc]
          refine ex_retW (ev_and (a := ms.all isMark) (Ev.to (ev_all (bs := ms.map isMark) (el_d (ev_of_fresh (ef_lcMap markOf (src_list (ev_var rfl) rfl) (by exact rfl) (by omega) ?ha))) ?hb) ?hc)
            (fun _ => ev_and (a := ws.all fun x => areChoices x ms.length) (Ev.to (ev_all (bs := ws.map fun x => areChoices x ms.length) (el_d (ev_of_fresh (ef_lcMap (choiceOf ms.length) (src_list (ev_var rfl) rfl) (by exact rfl) (by omega) ?hd))) ?he) ?hf)
              (fun _ => ev_callA (ea_d (ev_var rfl) (ea_d (ev_var rfl) ea_nil)) rfl ⟨_, _, _, rfl, rfl, rfl, tb⟩))) rfl (by walk_at "nrm"; walk_at "le")
          case ha =>
            intro d hd
            walk_at "nrm"
            exact ev_callA (ea_d (ev_var rfl) ea_nil) rfl ⟨_, _, rfl, rfl, rfl, tameAll_mem hall d hd⟩
          case hb => exact congrArg some (List.map_map (g := Dat.bl) (f := isMark)).symm
          case hc => rw [List.all_map]; rfl
          case hd =>
            intro d hd
            walk_at "nrm"
            exact ev_callA (ea_d (ev_var rfl) (ea_d (ev_var rfl) ea_nil)) rfl ⟨_, _, _, rfl, rfl, rfl, tameAll_mem hallw d hd⟩
          case he => exact congrArg some (List.map_map (g := Dat.bl) (f := fun x => areChoices x ms.length)).symm
          case hf => rw [List.all_map]; rfl
      · have hf : isMachine (.lst ms) dw db = false := isMachine_no (.inr fun ms e => hs2 (by subst e; exact (Option.some.inj hty2).symm))
        rw [hf]
        refine' ex_ifL (a := true) (et_orT (EvT.to ?ya ?yb)) ?yc ?yd rfl
        case' ya => walk_at "et"
        case yb => rw [decide_eq_false hs2]; rfl
        case yc =>
          intro _
          walk_at "ret"
        case yd =>
          intro h
          cases h
  · have hf : isMachine dm dw db = false := isMachine_no (.inl fun ms e => hs (by subst e; exact (Option.some.inj hty).symm))
    rw [hf]
    refine' ex_ifL (a := true) (et_orT (EvT.to ?za ?zb)) ?zc ?zd rfl
    case' za => walk_at "et"
    case zb => rw [decide_eq_false hs]; rfl
    case zc =>
      intro _
      walk_at "ret"
    case zd =>
      intro h
      cases h
def letters : Str := "abcdefghijklmnopqrstuvwxyz"
def chr1 (i : Int) : Str := ⟨#[97 + (i % 26).toNat]⟩
theorem letters_at (i : Int) : atI letters.cps.toList (i % 26) = some (97 + (i % 26).toNat) := by
  have h1 : 0 ≤ i % 26 := Int.emod_nonneg _ (by decide)
  have h2 : i % 26 < 26 := Int.emod_lt_of_pos _ (by decide)
  generalize i % 26 = j at *
  obtain ⟨n, rfl⟩ := Int.eq_ofNat_of_zero_le h1
  have hn : n < 26 := by omega
  have key : ∀ n : Fin 26, letters.cps.toList[n.val]? = some (97 + n.val) := by decide +kernel
  exact atI_nat (key ⟨n, hn⟩)
theorem cut_len (z : Str) (lo hi : Option Int) : (cutS z lo hi).length ≤ z.length := by
  rw [len_cps, len_cps]
  unfold cutS
  rw [List.length_take, List.length_drop]
  omega
theorem len_append (x y : Str) : (x ++ y).length = x.length + y.length := by
  rw [len_cps, len_cps, len_cps, cps_append, List.length_append]
def restS (c : Int) : Str := Txt.join "" ((List.range 6).map fun j => chr1 (c / 7 + 5 * (0 + (j : Nat))))
def namesS (c : Int) : List Str :=
  if c % 3 = 2 then (List.range 3).map fun k => cutS (restS c) none (some (1 + c / 3 % 4 + (0 + (k : Nat))))
  else (List.range 3).map fun k => cutS (restS c) none (some (c / 18 % (c / 3 % 6 + 1))) ++ chr1 (c / 90 + 7 * (0 + (k : Nat))) ++ cutS (restS c) (some (c / 18 % (c / 3 % 6 + 1))) (some (c / 3 % 6))
theorem len_chr (i : Int) : (chr1 i).length = 1 := rfl
theorem joinE : ∀ ys : List Str, (Txt.join "" ys).cps.toList = (ys.map fun y => y.cps.toList).flatten := by
  intro ys
  have h : TL.tl (Str.join "" ys) = TL.joinL (TL.tl "") (ys.map TL.tl) := TL.tl_join "" ys
  have e : TL.tl ("" : Str) = [] := rfl
  rw [e] at h
  have j : ∀ ps : List (List Nat), TL.joinL [] ps = ps.flatten := by
    intro ps
    induction ps with
    | nil => rfl
    | cons p ps ih =>
      cases ps with
      | nil => simp [TL.joinL]
      | cons q r =>
        show p ++ ([] ++ TL.joinL [] (q :: r)) = _
        rw [ih]
        simp
  rw [j] at h
  rw [TL.join_eq]
  exact h
theorem rest_cps (c : Int) : (restS c).cps.toList = (List.range 6).map fun j => 97 + ((c / 7 + 5 * (0 + ((j : Nat) : Int))) % 26).toNat := by
  unfold restS
  rw [joinE, List.map_map]
  rfl
theorem rest_len (c : Int) : (restS c).length = 6 := by
  rw [len_cps, rest_cps]
  simp
def R_names : List Sl → Dat → List Sl → Prop := fun as d as' => ∃ (c : Int), as = [.dat (.int c)] ∧ d = .lst ((namesS c).map Dat.str) ∧ as' = [.no]
theorem len_names : ∀ as d as', R_names as d as' → as.length = 1 := by
  rintro as d as' ⟨_, rfl, _⟩
  rfl
abbrev s_names : Stmt := topS 20
theorem sc_names : FnScope ["_law_cell", "_law_letters", "_law_rest", "_law_size", "_law_at", "_law_found", "_law_k", "_law_letter", "_law_j"] ["_law_cell"] (defScope s_names) := ⟨rfl, rfl, rfl, by decide +kernel, rfl, by decide +kernel, by decide +kernel⟩
theorem ok_names {f : Addr} {fd : FuncData} (F : Fun K "_law_names" "_law_names" s_names f fd) (T : Tx K mg C_BadMachine C_BadSaying C_Machine C_NoWalk C_TooMany C_WalkError)  : FnOk P w K mg base CX0 1 f fd ["_law_cell"] (spG K R_names) := by
  have nd := sc_names.nd
  refine F.ok sc_names (spG_len len_names) (fun cdv A outer s H vs Q E hr h => ?_)
  have hu := hr.units
  have hu5 := unit5 hr
  refine ⟨_, (pss_cons (ps_set (i := 1) nd rfl (by first | exact Or.inl rfl | exact Or.inr rfl) pe_str)
      (pss_cons (ps_set (i := 2) nd rfl (by first | exact Or.inl rfl | exact Or.inr rfl) (kJoin K (pe_join pe_str (pe_lc (own := [("_law_j", 8)]) (g := gName 8) (tt := tYes) (by rfl) nd (pi_range1 (by rfl) T.b_range (pa_cons pe_int pa_nil)) (blkOk_by (own := [("_law_j", 8)]) (N := ["_law_cell", "_law_letters", "_law_rest", "_law_size", "_law_at", "_law_found", "_law_k", "_law_letter", "_law_j"]) (sc := defScope s_names) (by decide +kernel)) (fun _ _ _ _ _ => pg_name (i := 8) nd rfl (Or.inl rfl)) (fun _ _ _ _ _ => pts_nil) (fun _ _ _ _ _ => (pe_ix ix_str (pv 1) (pe_op op_mod (pe_op op_add (pe_op op_fdiv (pv 0) pe_int) (pe_op op_mul pe_int (pv 8))) pe_int) (fun _ _ => rfl)))))))
      (pss_cons (ps_if (pt_cmpR (kEqD K hu) (pe_op op_mod (pv 0) pe_int) pe_int (nomark _)) (pss_cons (ps_set (i := 3) nd rfl (by first | exact Or.inl rfl | exact Or.inr rfl) (pe_op op_add pe_int (pe_op op_mod (pe_op op_fdiv (pv 0) pe_int) pe_int)))
      (pss_one (ps_ret (pe_lc (own := [("_law_k", 6)]) (g := gName 6) (tt := tYes) (by rfl) nd (pi_range1 (by rfl) T.b_range (pa_cons pe_int pa_nil)) (blkOk_by (own := [("_law_k", 6)]) (N := ["_law_cell", "_law_letters", "_law_rest", "_law_size", "_law_at", "_law_found", "_law_k", "_law_letter", "_law_j"]) (sc := defScope s_names) (by decide +kernel)) (fun _ _ _ _ _ => pg_name (i := 6) nd rfl (Or.inl rfl)) (fun _ _ _ _ _ => pts_nil) (fun _ _ _ _ _ => (pe_slice sl_str (pv 2) po_none (po_some (pe_op op_add (pv 3) (pv 6))))))))) pss_nil)
      (pss_cons (ps_set (i := 3) nd rfl (by first | exact Or.inl rfl | exact Or.inr rfl) (pe_op op_mod (pe_op op_fdiv (pv 0) pe_int) pe_int))
      (pss_cons (ps_set (i := 4) nd rfl (by first | exact Or.inl rfl | exact Or.inr rfl) (pe_op op_mod (pe_op op_fdiv (pv 0) pe_int) (pe_op op_add (pv 3) pe_int)))
      (pss_cons (ps_set (i := 5) nd rfl (by first | exact Or.inl rfl | exact Or.inr rfl) (pe_lst pa_nil))
      (pss_cons (ps_for PassesOwn.never (by rfl) (pi_range1 (by rfl) T.b_range (pa_cons pe_int pa_nil)) (pg_name (i := 6) nd rfl (by first | exact Or.inl rfl | exact Or.inr rfl)) (pss_cons (ps_set (i := 7) nd rfl (by first | exact Or.inl rfl | exact Or.inr rfl) (pe_ix ix_str (pv 1) (pe_op op_mod (pe_op op_add (pe_op op_fdiv (pv 0) pe_int) (pe_op op_mul pe_int (pv 6))) pe_int) (fun _ _ => rfl)))
      (pss_one (ps_expr (kBM K (pe_bm PySem.F.plainAttrs_list PySem.F.slot_list_append PySem.F.type_list_append mt_append (pv 5) (pa_cons (pe_op op_add_str (pe_op op_add_str (pe_slice sl_str (pv 2) po_none (po_some (pv 4))) (pv 7)) (pe_slice sl_str (pv 2) (po_some (pv 4)) (po_some (pv 3)))) pa_nil)))))))
      (pss_one (ps_ret (pv 5)))))))))), ?_⟩
  refine body_ok h len_names fun as d as' hR => ?_
  obtain ⟨c, rfl, rfl, rfl⟩ := hR
  walk_at "body"
  walk_at "set"
  walk_at "nrm"
  -- rest
  refine' ex_seq (ex_set (d := .str (restS c)) (ev_join rfl ev_str (el_d (ev_of_fresh (ef_lcMap (onI fun j => .str (chr1 (c / 7 + 5 * j))) (src_rng1 ev_int (by decide) (by decide)) (by exact rfl) (by rw [rngD_len]; decide) ?hb))) ?hl ?hz) ?hi) ?hc
  case hb =>
    intro d hd
    obtain ⟨j, hj, rfl⟩ := rngD_mem hd
    show Ev K _ _ (.str ⟨#[97 + ((c / 7 + 5 * (0 + (j : Nat))) % 26).toNat]⟩) _
    walk_at "nrm"
    walk_at "ev"
    exact letters_at _
  case hl =>
    show some _ = some _
    rw [rngD_map]
    exact congrArg some (List.map_map.symm)
  case hz =>
    rw [List.map_map]
    show (List.map (fun _ => 1) (List.range 6)).sum + _ * 0 ≤ _
    rw [Nat.mul_zero]
    decide
  case hi => exact rfl
  walk_at "nrm"
  have h3 : eqd (.int (c % 3)) (.int 2) = decide (c % 3 = 2) := by rw [eqd_int]; rfl
  walk_at "ifl"
  · intro h
    rw [h3, decide_eq_true_eq] at h
    walk_at "set"
    walk_at "nrm"
    refine ex_retW (ev_of_fresh (ef_lcMap (onI fun k => .str (cutS (restS c) none (some (1 + c / 3 % 4 + k)))) (src_rng1 ev_int (by decide) (by decide)) (by exact rfl) (by rw [rngD_len]; decide) ?_)) ?_ (by walk_at "nrm"; walk_at "le")
    · intro d hd
      obtain ⟨j, hj, rfl⟩ := rngD_mem hd
      show Ev K _ _ (.str (cutS (restS c) none (some (1 + c / 3 % 4 + (0 + (j : Nat)))))) _
      walk_at "nrm"
      walk_at "ev"
      rw [rest_len]
      decide
    · rw [rngD_map, show namesS c = _ from if_pos h, List.map_map]
      rfl
  · intro h
    rw [h3, decide_eq_false_iff_not] at h
    have p1 : 0 ≤ c / 3 % 6 := Int.emod_nonneg _ (by decide)
    walk_at "set"
    walk_at "nrm"
    walk_at "set"
    walk_at "nrm"
    walk_at "setF"
    walk_at "nrm"
    refine' ex_seq (ex_for (n := 3) (fun i => [.dat (.int c), .dat (.str letters), .dat (.str (restS c)), .dat (.int (c / 3 % 6)), .dat (.int (c / 18 % (c / 3 % 6 + 1))),
        .own ((List.range i).map fun k => .str (cutS (restS c) none (some (c / 18 % (c / 3 % 6 + 1))) ++ chr1 (c / 90 + 7 * (0 + (k : Nat))) ++ cutS (restS c) (some (c / 18 % (c / 3 % 6 + 1))) (some (c / 3 % 6)))), .no, .no, .no])
      (src_rng1 ev_int (by decide) (by decide)) (fun _ => rfl) (by rw [rngD_len]; decide) (fun i d hi hd => .inl ?hb) (.done (by rw [rngD_len]; decide))) ?hr
    case hb =>
      obtain ⟨_, rfl⟩ := rngD_get hd
      walk_at "nrm"
      refine' Ex.weak (ex_seq (ex_set (d := .str ⟨#[97 + ((c / 90 + 7 * (0 + (i : Nat))) % 26).toNat]⟩) ?h1 ?h1i) ?h2) ?h4
      case h1 =>
        walk_at "ev"
        exact letters_at _
      case' h1i => exact rfl
      case' h2 => walk_at "app"
      all_goals walk_at "nrm"
      any_goals (rw [rest_len]; decide)
      all_goals first | (simp only [List.length_map, List.length_range]; omega) | skip
      any_goals (rw [List.range_succ, List.map_append]; walk_at "le")
      · have h1 := cut_len (restS c) none (some (c / 18 % (c / 3 % 6 + 1)))
        rw [rest_len] at h1
        show _ + 1 ≤ _
        omega
      · have h1 := cut_len (restS c) none (some (c / 18 % (c / 3 % 6 + 1)))
        have h2 := cut_len (restS c) (some (c / 18 % (c / 3 % 6 + 1))) (some (c / 3 % 6))
        rw [rest_len] at h1 h2
        rw [len_append]
        show _ + 1 + _ ≤ _
        omega
    case hr =>
      walk_at "ret"
      rw [show namesS c = _ from if_neg h, List.map_map]
      rfl
def drawv (ns : List Int) (k : Nat) : Int := if k < ns.length then ns.getD k 0 else if 4 < ns.length ∧ k < 50 then (ns.getD (k % ns.length) 0 + 7919 * k) * 48271 % 1000003 else 0
def R_draw : List Sl → Dat → List Sl → Prop := fun as d as' => ∃ (ns : List Int) (k : Nat), as = [.dat (.scr ns), .par 0 [.int k]] ∧ d = .int (drawv ns k) ∧ as' = [.no, .par 0 [.int (k + 1 : Nat)]]
theorem len_draw : ∀ as d as', R_draw as d as' → as.length = 2 := by
  rintro as d as' ⟨_, _, rfl, _⟩
  rfl
abbrev s_draw : Stmt := topS 19
theorem sc_draw : FnScope ["_law_script", "_law_spot", "_law_k"] ["_law_script", "_law_spot"] (defScope s_draw) := ⟨rfl, rfl, rfl, by decide +kernel, rfl, by decide +kernel, by decide +kernel⟩
theorem ok_draw {f : Addr} {fd : FuncData} (F : Fun K "_law_draw" "_law_draw" s_draw f fd) (T : Tx K mg C_BadMachine C_BadSaying C_Machine C_NoWalk C_TooMany C_WalkError)  : FnOk P w K mg base CX0 1 f fd ["_law_script", "_law_spot"] (spG K R_draw) := by
  have nd := sc_draw.nd
  refine F.ok sc_draw (spG_len len_draw) (fun cdv A outer s H vs Q E hr h => ?_)
  have hu := hr.units
  have hu5 := unit5 hr
  refine ⟨_, (pss_cons (ps_asg (pe_op op_add (pe_ix (kIxL K) (pv 1) pe_int (fun _ _ => rfl)) pe_int) (pg_sub (pv 1) pe_int set_list))
      (pss_cons (ps_set (i := 2) nd rfl (by first | exact Or.inl rfl | exact Or.inr rfl) (pe_op op_sub (pe_ix (kIxL K) (pv 1) pe_int (fun _ _ => rfl)) pe_int))
      (pss_cons (ps_if (pt_cmpR op_lt (pv 2) (pe_callB (kLen K) (by rfl) T.b_len PySem.boot_len (pa_cons (pv 0) pa_nil)) (nomark _)) (pss_one (ps_ret (pe_ix (kIxL K) (pv 0) (pv 2) (fun _ _ => rfl)))) pss_nil)
      (pss_cons (ps_if (PW.pt (pw_and (pt_cmpR op_gt (pe_callB (kLen K) (by rfl) T.b_len PySem.boot_len (pa_cons (pv 0) pa_nil)) pe_int (nomark _)) (pw_and1 (pt_cmpR op_lt (pv 2) pe_int (nomark _))))) (pss_one (ps_ret (pe_op op_mod (pe_op op_mul (pe_op op_add (pe_ix (kIxL K) (pv 0) (pe_op op_mod (pv 2) (pe_callB (kLen K) (by rfl) T.b_len PySem.boot_len (pa_cons (pv 0) pa_nil))) (fun _ _ => rfl)) (pe_op op_mul pe_int (pv 2))) pe_int) pe_int))) pss_nil)
      (pss_one (ps_ret pe_int)))))), ?_⟩
  refine body_ok h len_draw fun as d as' hR => ?_
  obtain ⟨ns, k, rfl, rfl, rfl⟩ := hR
  walk_at "body"
  refine' ex_seq (ex_setIx (k := 0) ?ha ?hi ?hs ?hl ?hk) ?hb
  case' ha => walk_at "ev"
  case' hi => walk_at "ev"
  case' hs => exact rfl
  case' hl => exact rfl
  case' hk => exact rfl
  walk_at "set"
  walk_at "nrm"
  rw [show (k : Int) + 1 - 1 = (k : Int) by omega, show (k : Int) + 1 = ((k + 1 : Nat) : Int) by omega]
  walk_at "ifl"
  · intro h
    have h : k < ns.length := by simpa using h
    walk_at "ret"
    rw [show drawv ns k = ns.getD k 0 from if_pos h]
    exact at_ints h
  · intro h
    have h : ¬ k < ns.length := by simpa using h
    walk_at "ifl"
    · intro h2
      have h2 : 4 < ns.length ∧ k < 50 := by
        simp only [List.length_map, Bool.and_eq_true, decide_eq_true_eq] at h2
        omega
      have hm : k % ns.length < ns.length := Nat.mod_lt _ (by omega)
      walk_at "ret"
      any_goals (refine at_of_eq ?_ (at_ints hm); simp only [List.length_map]; omega)
      rw [show drawv ns k = _ from (if_neg h).trans (if_pos h2)]
    · intro h2
      have h2 : ¬ (4 < ns.length ∧ k < 50) := by
        simp only [List.length_map, Bool.and_eq_false_iff, decide_eq_false_iff_not] at h2
        omega
      walk_at "ret"
      rw [show drawv ns k = _ from (if_neg h).trans (if_neg h2)]
def rr (c : Int) : Nat → Int
  | 0 => c * 48271 % 1000003
  | k + 1 => rr c k / 3
def takes3 (c : Int) (k : Nat) : Bool := decide (rr c k % 3 = 1)
def someS (c : Int) (m : Nat) (f : Int) : List Int := (f % m) :: ((List.range (m - 1)).filter (takes3 c)).map fun k => (f + (1 + (k : Nat))) % m
def R_some : List Sl → Dat → List Sl → Prop := fun as d as' => ∃ (c : Int) (m : Nat) (f : Int), as = [.dat (.int c), .dat (.int m), .dat (.int f)] ∧ d = .lst ((someS c m f).map Dat.int) ∧ as' = [.no, .no, .no] ∧ 1 ≤ m ∧ m ≤ 100
theorem len_some : ∀ as d as', R_some as d as' → as.length = 3 := by
  rintro as d as' ⟨_, _, _, rfl, _⟩
  rfl
abbrev s_some : Stmt := topS 22
theorem sc_some : FnScope ["_law_cell", "_law_many", "_law_first", "_law_rest", "_law_found", "_law_k"] ["_law_cell", "_law_many", "_law_first"] (defScope s_some) := ⟨rfl, rfl, rfl, by decide +kernel, rfl, by decide +kernel, by decide +kernel⟩
theorem ok_some {f : Addr} {fd : FuncData} (F : Fun K "_law_some" "_law_some" s_some f fd) (T : Tx K mg C_BadMachine C_BadSaying C_Machine C_NoWalk C_TooMany C_WalkError)  : FnOk P w K mg base CX0 1 f fd ["_law_cell", "_law_many", "_law_first"] (spG K R_some) := by
  have nd := sc_some.nd
  refine F.ok sc_some (spG_len len_some) (fun cdv A outer s H vs Q E hr h => ?_)
  have hu := hr.units
  have hu5 := unit5 hr
  refine ⟨_, (pss_cons (ps_set (i := 3) nd rfl (by first | exact Or.inl rfl | exact Or.inr rfl) (pe_op op_mod (pe_op op_mul (pv 0) pe_int) pe_int))
      (pss_cons (ps_set (i := 4) nd rfl (by first | exact Or.inl rfl | exact Or.inr rfl) (pe_lst (pa_cons (pe_op op_mod (pv 2) (pv 1)) pa_nil)))
      (pss_cons (ps_for PassesOwn.never (by rfl) (pi_range2 (by rfl) T.b_range (pa_cons pe_int (pa_cons (pv 1) pa_nil))) (pg_name (i := 5) nd rfl (by first | exact Or.inl rfl | exact Or.inr rfl)) (pss_cons (ps_if (pt_cmpR (kEqD K hu) (pe_op op_mod (pv 3) pe_int) pe_int (nomark _)) (pss_one (ps_expr (kBM K (pe_bm PySem.F.plainAttrs_list PySem.F.slot_list_append PySem.F.type_list_append mt_append (pv 4) (pa_cons (pe_op op_mod (pe_op op_add (pv 2) (pv 5)) (pv 1)) pa_nil))))) pss_nil)
      (pss_one (ps_set (i := 3) nd rfl (by first | exact Or.inl rfl | exact Or.inr rfl) (pe_op op_fdiv (pv 3) pe_int)))))
      (pss_one (ps_ret (pv 4)))))), ?_⟩
  refine body_ok h len_some fun as d as' hR => ?_
  obtain ⟨c, m, f, rfl, rfl, rfl, h1, h2⟩ := hR
  have hm : 0 < (m : Int) := by omega
  walk_at "body"
  walk_at "set"
  walk_at "nrm"
  walk_at "setF"
  walk_at "nrm"
  refine' ex_seq (ex_for (n := m - 1) (fun i => [.dat (.int c), .dat (.int m), .dat (.int f), .dat (.int (rr c i)),
      .own ((f % m :: ((List.range i).filter (takes3 c)).map fun k => (f + (1 + (k : Nat))) % m).map Dat.int), .no])
    (src_rng2 (lo := 1) (hi := m) ?ha ?hb (by decide) (by decide) (by omega) (by omega)) (fun _ => rfl) (by rw [rngD_len]; omega) (fun i d hi hd => .inl ?hc) (.done (by rw [rngD_len]; omega))) ?hr
  case' ha => exact ev_int
  case' hb => exact ev_var rfl
  case hc =>
    obtain ⟨_, rfl⟩ := rngD_get hd
    walk_at "nrm"
    have e3 : rr c (i + 1) = rr c i / 3 := rfl
    have tk : takes3 c i = decide (rr c i % 3 = 1) := rfl
    rw [e3]
    generalize rr c i = r at *
    have he : eqd (.int (r % 3)) (.int 1) = decide (r % 3 = 1) := by rw [eqd_int]; rfl
    refine' Ex.weak (ex_seq (ex_if (a := decide (r % 3 = 1)) (ρ1 := _) (o := .nx [.dat (.int c), .dat (.int m), .dat (.int f), .dat (.int r),
      .own ((f % m :: ((List.range (i + 1)).filter (takes3 c)).map fun k => (f + (1 + (k : Nat))) % m).map Dat.int), .dat (.int (1 + (i : Nat)))]) (EvT.to ?h1 he) ?h2 ?h3) (ex_set ?h4 ?h5)) ?h6
    case' h1 => walk_at "et"
    case h2 =>
      intro hq
      rw [← tk] at hq
      rw [List.range_succ, List.filter_append, List.map_append, List.filter_cons, if_pos hq]
      have hl : ((List.range i).filter (takes3 c)).length ≤ i := by simpa using List.length_filter_le (takes3 c) (List.range i)
      refine' Ex.to ?a1 ?a2
      case' a1 => walk_at "app"
      walk_at "nrm"
      simp only [List.map_cons, List.map_append, List.filter_nil, List.map_nil, List.cons_append]
    case h3 =>
      intro hq
      rw [← tk] at hq
      rw [List.range_succ, List.filter_append, List.map_append, List.filter_cons, if_neg (by rw [hq]; decide), List.filter_nil, List.map_nil, List.append_nil]
      exact ex_next
    case' h4 => walk_at "ev"
    case' h5 => exact rfl
    case h6 =>
      walk_at "nrm"
      walk_at "le"
  case hr =>
    walk_at "ret"
structure Mach where
  marks : List Str
  ways : List (List Int)
  begins : List Int
def intsD (ns : List Int) : Dat := .lst (ns.map Dat.int)
def Mach.enc (m : Mach) : Dat := .tup [.lst (m.marks.map Dat.str), .lst (m.ways.map intsD), intsD m.begins]
def manyM (ns : List Int) (k most : Nat) : Nat := 1 + (drawv ns k % (most : Int)).toNat
def six (nm : List Str) : List Str := nm ++ [("" : Str), nm.getD 0 "", nm.getD 1 ""]
def markM (ns : List Int) (k : Nat) (nm : List Str) (j : Nat) : Str := (six nm).getD (drawv ns (k + 1 + j) % 6).toNat ""
def wayM (ns : List Int) (k m : Nat) (j : Nat) : List Int := someS (drawv ns (k + 1 + j)) m (drawv ns (k + 1 + j) / 6)
def beginsM (c : Int) (m : Nat) : List Int := if c % 4 = 3 then someS c m (c / 4) else [c / 4 % m]
def machM (ns : List Int) (k : Nat) (nm : List Str) (most : Nat) : Mach :=
  { marks := (List.range (manyM ns k most)).map (markM ns k nm), ways := (List.range (manyM ns k most)).map (wayM ns k (manyM ns k most)), begins := beginsM (drawv ns (k + 1 + manyM ns k most)) (manyM ns k most) }
theorem six_at (a b c : Str) (x : Int) : atI ((six [a, b, c]).map Dat.str) (x % 6) = some (.str ((six [a, b, c]).getD (x % 6).toNat "")) := by
  have h1 : 0 ≤ x % 6 := Int.emod_nonneg _ (by decide)
  have h2 : x % 6 < 6 := Int.emod_lt_of_pos _ (by decide)
  generalize x % 6 = j at *
  obtain ⟨n, rfl⟩ := Int.eq_ofNat_of_zero_le h1
  have hn : n < (six [a, b, c]).length := by show n < 6; omega
  exact at_map (by rw [Int.toNat_natCast, List.getD_eq_getElem?_getD, List.getElem?_eq_getElem hn]; rfl)
theorem manyM_le (ns : List Int) (k : Nat) {most : Nat} (h : 1 ≤ most) : 1 ≤ manyM ns k most ∧ manyM ns k most ≤ most := by
  have h1 : 0 ≤ drawv ns k % (most : Int) := Int.emod_nonneg _ (by omega)
  have h2 : drawv ns k % (most : Int) < most := Int.emod_lt_of_pos _ (by omega)
  unfold manyM
  omega
def R_machine : List Sl → Dat → List Sl → Prop := fun as d as' => ∃ (ns : List Int) (k : Nat) (nm : List Str) (most : Nat), as = [.dat (.scr ns), .par 0 [.int k], .dat (.lst (nm.map Dat.str)), .dat (.int most)] ∧ d = (machM ns k nm most).enc ∧ as' = [.no, .par 0 [.int (k + 2 + manyM ns k most : Nat)], .no, .no] ∧ nm.length = 3 ∧ 1 ≤ most ∧ most ≤ 100
theorem len_machine : ∀ as d as', R_machine as d as' → as.length = 4 := by
  rintro as d as' ⟨_, _, _, _, rfl, _⟩
  rfl
abbrev s_machine : Stmt := topS 23
theorem sc_machine : FnScope ["_law_script", "_law_spot", "_law_names_here", "_law_most", "_law_many", "_law_some_here", "_law_marks", "_law_ways", "_law_k", "_law_cell"] ["_law_script", "_law_spot", "_law_names_here", "_law_most"] (defScope s_machine) := ⟨rfl, rfl, rfl, by decide +kernel, rfl, by decide +kernel, by decide +kernel⟩
theorem ok_machine {f : Addr} {fd : FuncData} (F : Fun K "_law_machine" "_law_machine" s_machine f fd) (T : Tx K mg C_BadMachine C_BadSaying C_Machine C_NoWalk C_TooMany C_WalkError) {a_draw : Addr} {fd_draw : FuncData} (c_draw : Cal P w K mg base "_law_draw" 1 ["_law_script", "_law_spot"] (spG K R_draw) a_draw fd_draw) {a_some : Addr} {fd_some : FuncData} (c_some : Cal P w K mg base "_law_some" 1 ["_law_cell", "_law_many", "_law_first"] (spG K R_some) a_some fd_some) : FnOk P w K mg base CX0 2 f fd ["_law_script", "_law_spot", "_law_names_here", "_law_most"] (spG K R_machine) := by
  have nd := sc_machine.nd
  refine F.ok sc_machine (spG_len len_machine) (fun cdv A outer s H vs Q E hr h => ?_)
  have hu := hr.units
  have hu5 := unit5 hr
  refine ⟨_, (pss_cons (ps_set (i := 4) nd rfl (by first | exact Or.inl rfl | exact Or.inr rfl) (pe_op op_add pe_int (pe_op op_mod (pe_call c_draw.ok (hr.mono (by omega)) (by rfl) c_draw.g c_draw.kp c_draw.b .nil pass0 (pa_cons (pv 0) (pa_cons (pv 1) pa_nil))) (pv 3))))
      (pss_cons (ps_set (i := 5) nd rfl (by first | exact Or.inl rfl | exact Or.inr rfl) (pe_op op_cat (pv 2) (pe_lst (pa_cons pe_str (pa_cons (pe_ix (kIxL K) (pv 2) pe_int (fun _ _ => rfl)) (pa_cons (pe_ix (kIxL K) (pv 2) pe_int (fun _ _ => rfl)) pa_nil))))))
      (pss_cons (ps_set (i := 6) nd rfl (by first | exact Or.inl rfl | exact Or.inr rfl) (pe_lst pa_nil))
      (pss_cons (ps_set (i := 7) nd rfl (by first | exact Or.inl rfl | exact Or.inr rfl) (pe_lst pa_nil))
      (pss_cons (ps_for PassesOwn.never (by rfl) (pi_range1 (by rfl) T.b_range (pa_cons (pv 4) pa_nil)) (pg_name (i := 8) nd rfl (by first | exact Or.inl rfl | exact Or.inr rfl)) (pss_cons (ps_set (i := 9) nd rfl (by first | exact Or.inl rfl | exact Or.inr rfl) (pe_call c_draw.ok (hr.mono (by omega)) (by rfl) c_draw.g c_draw.kp c_draw.b .nil pass0 (pa_cons (pv 0) (pa_cons (pv 1) pa_nil))))
      (pss_cons (ps_expr (kBM K (pe_bm PySem.F.plainAttrs_list PySem.F.slot_list_append PySem.F.type_list_append mt_append (pv 6) (pa_cons (pe_ix (kIxL K) (pv 5) (pe_op op_mod (pv 9) pe_int) (fun _ _ => rfl)) pa_nil))))
      (pss_one (ps_expr (kBM K (pe_bm PySem.F.plainAttrs_list PySem.F.slot_list_append PySem.F.type_list_append mt_append (pv 7) (pa_cons (pe_call c_some.ok (hr.mono (by omega)) (by rfl) c_some.g c_some.kp c_some.b .nil pass0 (pa_cons (pv 9) (pa_cons (pv 4) (pa_cons (pe_op op_fdiv (pv 9) pe_int) pa_nil)))) pa_nil))))))))
      (pss_cons (ps_set (i := 9) nd rfl (by first | exact Or.inl rfl | exact Or.inr rfl) (pe_call c_draw.ok (hr.mono (by omega)) (by rfl) c_draw.g c_draw.kp c_draw.b .nil pass0 (pa_cons (pv 0) (pa_cons (pv 1) pa_nil))))
      (pss_cons (ps_if (pt_cmpR (kEqD K hu) (pe_op op_mod (pv 9) pe_int) pe_int (nomark _)) (pss_one (ps_ret (pe_tup (pa_cons (pv 6) (pa_cons (pv 7) (pa_cons (pe_call c_some.ok (hr.mono (by omega)) (by rfl) c_some.g c_some.kp c_some.b .nil pass0 (pa_cons (pv 9) (pa_cons (pv 4) (pa_cons (pe_op op_fdiv (pv 9) pe_int) pa_nil)))) pa_nil)))))) pss_nil)
      (pss_one (ps_ret (pe_tup (pa_cons (pv 6) (pa_cons (pv 7) (pa_cons (pe_lst (pa_cons (pe_op op_mod (pe_op op_fdiv (pv 9) pe_int) (pv 4)) pa_nil)) pa_nil))))))))))))), ?_⟩
  refine body_ok h len_machine fun as d as' hR => ?_
  obtain ⟨ns, k, nm, most, rfl, rfl, rfl, hn, hm1, hm2⟩ := hR
  obtain ⟨hb1, hb2⟩ := manyM_le ns k hm1
  walk_at "body"
  -- many
  refine' ex_seq (ex_set (d := .int (manyM ns k most : Nat)) (Ev.to (ev_i0 ev_int (ev_i ?ha (ev_var ?hb) ?hc)) ?hd) ?he) ?hf
  case' ha => walk_at "draw"
  case' hb => exact rfl
  case' hd =>
    unfold manyM
    have h1 : 0 ≤ drawv ns k % (most : Int) := Int.emod_nonneg _ (by omega)
    rw [show ((1 + (drawv ns k % (most : Int)).toNat : Nat) : Int) = 1 + drawv ns k % (most : Int) by omega]
  case' he => exact rfl
  case hc =>
    show (0 : Int) < most
    omega
  case hf =>
    walk_at "nrm"
    generalize hmm : manyM ns k most = m at *
    obtain ⟨n0, n1, n2, rfl⟩ : ∃ a b c, nm = [a, b, c] := by
      match nm, hn with
      | [a, b, c], _ => exact ⟨a, b, c, rfl⟩
    refine' ex_seq (ex_set (d := .lst ((six [n0, n1, n2]).map Dat.str)) (Ev.to ?ga ?ge) ?gb) ?gc
    case' ga => walk_at "ev"
    case' ge => exact rfl
    case' gb => exact rfl
    walk_at "nrm"
    walk_at "setF"
    walk_at "nrm"
    walk_at "setF"
    walk_at "nrm"
    refine' ex_seq (ex_for (n := m) (fun i => [.dat (.scr ns), .par 0 [.int (k + 1 + i : Nat)], .dat (.lst ([n0, n1, n2].map Dat.str)), .dat (.int most), .dat (.int m), .dat (.lst ((six [n0, n1, n2]).map Dat.str)),
        .own ((List.range i).map fun j => .str (markM ns k [n0, n1, n2] j)), .own ((List.range i).map fun j => intsD (wayM ns k m j)), .no, .no])
      (src_rng1 (n := m) ?fa (by omega) (by omega)) (fun _ => rfl) (by rw [rngD_len]; omega) (fun i d hi hd => .inl ?fb) (.done (by rw [rngD_len]; omega))) ?fc
    case' fa => exact ev_var rfl
    case fb =>
      obtain ⟨_, rfl⟩ := rngD_get hd
      walk_at "nrm"
      walk_at "set"
      walk_at "nrm"
      walk_at "appS"
      any_goals exact six_at _ _ _ _
      all_goals first | (simp only [List.length_map, List.length_range]; omega) | skip
      walk_at "nrm"
      refine' Ex.weak ?ka ?kb
      case' ka => walk_at "app"
      all_goals first | exact ⟨_, _, _, rfl, rfl, rfl, hb1, by omega⟩ | (simp only [List.length_map, List.length_range]; omega) | skip
      walk_at "nrm"
      rw [List.range_succ, List.map_append, List.map_append]
      walk_at "le"
    case fc =>
      walk_at "set"
      walk_at "nrm"
      have e2 : k + 1 + m + 1 = k + 2 + m := by omega
      rw [e2]
      have hen : (machM ns k [n0, n1, n2] most).enc = .tup [.lst ((List.range m).map fun j => .str (markM ns k [n0, n1, n2] j)), .lst ((List.range m).map fun j => intsD (wayM ns k m j)), intsD (beginsM (drawv ns (k + 1 + m)) m)] := by
        unfold machM
        rw [hmm]
        unfold Mach.enc
        rw [List.map_map, List.map_map]
        rfl
      rw [hen]
      generalize drawv ns (k + 1 + m) = c
      have he : eqd (.int (c % 4)) (.int 3) = decide (c % 4 = 3) := by rw [eqd_int]; rfl
      walk_at "ifl"
      · intro hq
        rw [he, decide_eq_true_eq] at hq
        rw [show beginsM c m = _ from if_pos hq]
        walk_at "ret"
        exact ⟨_, _, _, rfl, rfl, rfl, hb1, by omega⟩
      · intro hq
        rw [he, decide_eq_false_iff_not] at hq
        rw [show beginsM c m = _ from if_neg hq]
        walk_at "ret"
def machD (C : Addr) (dm dw db : Dat) : Dat := .ins C ["_marks", "_ways", "_begins"] [dm, dw, db]
theorem isMachine_forms {dm dw db : Dat} (h : isMachine dm dw db = true) : ∃ ms ws bs, dm = .lst ms ∧ dw = .lst ws ∧ db = .lst bs ∧ ∀ w ∈ ws, ∃ r, w = .lst r := by
  cases dm with
  | lst ms =>
    cases dw with
    | lst ws =>
      have h : (decide (1 ≤ ms.length) && (decide (ms.length ≤ 12) && (decide (ws.length = ms.length) && ((ms.all isMark) && ((ws.all fun x => areChoices x ms.length) && areChoices db ms.length))))) = true := h
      simp only [Bool.and_eq_true] at h
      obtain ⟨_, _, _, _, h1, h2⟩ := h
      have lst : ∀ x m, areChoices x m = true → ∃ r, x = .lst r := fun x m hx => by
        cases x <;> first | exact ⟨_, rfl⟩ | cases hx
      obtain ⟨bs, rfl⟩ := lst _ _ h2
      exact ⟨ms, ws, bs, rfl, rfl, rfl, fun w hw => lst _ _ (List.all_eq_true.mp h1 w hw)⟩
    | _ => cases h
  | _ => cases dw <;> cases h
def R_Machine___init__ : List Dat → List Str → List Dat → Prop := fun es ns ds => ∃ (dm dw db : Dat) (n : Nat), es = [dm, dw, db] ∧ ns = ([("_marks" : Str), "_ways", "_begins"] : List Str) ∧ ds = [dm, dw, db] ∧ isMachine dm dw db = true ∧ Tame n dm ∧ Tame n dw ∧ Tame n db
theorem len_Machine___init__ : ∀ es ns ds, R_Machine___init__ es ns ds → es.length = 3 := by
  rintro es ns ds ⟨_, _, _, _, rfl, _⟩
  rfl
abbrev s_Machine___init__ : Stmt := inClass (topS 11) 0
theorem sc_Machine___init__ : FnScope ["self", "marks", "ways", "begins", "row"] ["self", "marks", "ways", "begins"] (defScope s_Machine___init__) := ⟨rfl, rfl, rfl, by decide +kernel, rfl, by decide +kernel, by decide +kernel⟩
theorem ok_Machine___init__ {f : Addr} {fd : FuncData} (F : Fun K "__init__" "Machine.__init__" s_Machine___init__ f fd) (T : Tx K mg C_BadMachine C_BadSaying C_Machine C_NoWalk C_TooMany C_WalkError) {a_is_machine : Addr} {fd_is_machine : FuncData} (c_is_machine : Cal P w K mg base "_is_machine" 3 ["marks", "ways", "begins"] (spG K R_is_machine) a_is_machine fd_is_machine) : FnOk P w K mg base CX0 4 f fd ["self", "marks", "ways", "begins"] (spInit K C_Machine R_Machine___init__) := by
  have nd := sc_Machine___init__.nd
  refine F.ok sc_Machine___init__ (init_len len_Machine___init__) (fun cdv A outer s H vs Q E hr h => ?_)
  have hu := hr.units
  have hu5 := unit5 hr
  refine ⟨_, (pss_cons (ps_if (pt_not (pt_val (pe_call c_is_machine.ok (hr.mono (by omega)) (by rfl) c_is_machine.g c_is_machine.kp c_is_machine.b .nil pass0 (pa_cons (pv 1) (pa_cons (pv 2) (pa_cons (pv 3) pa_nil)))))) (pss_one ps_never) pss_nil)
      (pss_cons (ksFld K (ps_fld (pv 0) (pe_callTy (kList K) (by rfl) T.b_list (by decide +kernel) (pa_cons (pv 1) pa_nil)) rfl))
      (pss_cons (ksFld K (ps_fld (pv 0) (pe_lc (own := [("row", 4)]) (g := gName 4) (tt := tYes) (by rfl) nd (kiList K (pi_list (pv 2))) (blkOk_by (own := [("row", 4)]) (N := ["self", "marks", "ways", "begins", "row"]) (sc := defScope s_Machine___init__) (by decide +kernel)) (fun _ _ _ _ _ => pg_name (i := 4) nd rfl (Or.inl rfl)) (fun _ _ _ _ _ => pts_nil) (fun _ _ _ _ _ => (pe_callTy (kList K) (by rfl) T.b_list (by decide +kernel) (pa_cons (pv 4) pa_nil)))) rfl))
      (pss_one (ksFld K (ps_fld (pv 0) (pe_callTy (kList K) (by rfl) T.b_list (by decide +kernel) (pa_cons (pv 3) pa_nil)) rfl)))))), ?_⟩
  refine init_ok h len_Machine___init__ fun es ns ds hR => ?_
  obtain ⟨dm, dw, db, n, rfl, rfl, rfl, hm, tm, tw, tb⟩ := hR
  obtain ⟨ms, ws, bs, rfl, rfl, rfl, hw⟩ := isMachine_forms hm
  show ∃ ρ', ExI K C_Machine _ [.no, .dat (.lst ms), .dat (.lst ws), .dat (.lst bs), .no] [] [] ρ' _ _
  obtain ⟨lw, _⟩ := tame_len tw
  refine ⟨[.no, .dat (.lst ms), .dat (.lst ws), .dat (.lst bs), .no], exi_no (EvT.to (et_not (et_B (ev_callA (ea_d (ev_var rfl) (ea_d (ev_var rfl) (ea_d (ev_var rfl) ea_nil))) rfl ⟨_, _, _, _, rfl, rfl, rfl, tm, tw, tb⟩))) (by rw [hm]; rfl)) (exi_seq (exi_fld (ev_list rfl (el_d (ev_var rfl)) rfl) T.k_Machine T.n_Machine__marks (by decide) (by decide))
    (exi_seq (exi_fld (Ev.to (ev_of_fresh (ef_lcMap (fun d => d) (src_list (ev_var rfl) rfl) (by exact rfl) (by omega) ?ha)) ?hb) T.k_Machine T.n_Machine__ways (by decide) (by decide))
      (exi_fld (ev_list rfl (el_d (ev_var rfl)) rfl) T.k_Machine T.n_Machine__begins (by decide) (by decide))))⟩
  case ha =>
    intro d hd
    obtain ⟨r, rfl⟩ := hw d hd
    walk_at "nrm"
    exact ev_list rfl (el_d (ev_var rfl)) rfl
  case hb => rw [List.map_id']
def marksD (m : Mach) : List Dat := m.marks.map Dat.str
def waysD (m : Mach) : List Dat := m.ways.map intsD
structure Mach.Ok (m : Mach) : Prop where
  n1 : 1 ≤ m.marks.length
  n2 : m.marks.length ≤ 12
  nw : m.ways.length = m.marks.length
  nb : 1 ≤ m.begins.length ∧ m.begins.length ≤ 12
  nr : ∀ w ∈ m.ways, 1 ≤ w.length ∧ w.length ≤ 12
  nm : ∀ x ∈ m.marks, isMark (.str x) = true
  nc : ∀ w ∈ m.ways, areChoices (intsD w) m.marks.length = true
  nd : areChoices (intsD m.begins) m.marks.length = true
theorem mark_ok {x : Str} (h : isMark (.str x) = true) : x.length ≤ 6 ∧ PyData.strOk x = true := by
  have h : (decide (x.length ≤ 6) && x.cps.toList.all okCode) = true := h
  rw [Bool.and_eq_true, decide_eq_true_eq] at h
  refine ⟨h.1, ?_⟩
  unfold PyData.strOk
  rw [← Array.all_toList, List.all_eq_true]
  intro c hc
  have := List.all_eq_true.mp h.2 c hc
  unfold okCode at this
  rw [Bool.and_eq_true, decide_eq_true_eq, decide_eq_true_eq] at this
  exact decide_eq_true (by omega)
theorem shp_ints {n : Nat} (ns : List Int) : ShpAll n (ns.map Dat.int) := shpAll_of fun d hd => by
  obtain ⟨i, _, rfl⟩ := List.mem_map.mp hd
  cases n <;> simp only [Shp]
theorem shp_intsD {n : Nat} (ns : List Int) : Shp (n + 1) (intsD ns) := by
  show Shp (n + 1) (.lst _)
  rw [shp_lst]
  exact shp_ints ns
theorem isPlace_int (i n : Int) : isPlace (.int i) n = (decide (0 ≤ i) && decide (i < n)) := rfl
def okLet (x : Str) : Bool := x.cps.toList.all okCode
theorem okLet_cut {z : Str} {lo hi : Option Int} (h : okLet z = true) : okLet (cutS z lo hi) = true := by
  unfold okLet at *
  rw [List.all_eq_true] at *
  intro c hc
  refine h c ?_
  have hc : c ∈ (List.take _ (List.drop _ z.cps.toList)) := hc
  exact List.mem_of_mem_drop (List.mem_of_mem_take hc)
theorem okLet_app {x y : Str} (h : okLet x = true) (k : okLet y = true) : okLet (x ++ y) = true := by
  unfold okLet at *
  rw [cps_append, List.all_append, h, k]
  rfl
theorem okCode_26 (i : Int) : okCode (97 + (i % 26).toNat) = true := by
  have h1 : 0 ≤ i % 26 := Int.emod_nonneg _ (by decide)
  have h2 : i % 26 < 26 := Int.emod_lt_of_pos _ (by decide)
  unfold okCode
  rw [Bool.and_eq_true, decide_eq_true_eq, decide_eq_true_eq]
  omega
theorem okLet_chr (i : Int) : okLet (chr1 i) = true := by
  show ([97 + (i % 26).toNat] : List Nat).all okCode = true
  rw [List.all_cons, okCode_26]
  rfl
theorem okLet_rest (c : Int) : okLet (restS c) = true := by
  unfold okLet
  rw [rest_cps, List.all_map, List.all_eq_true]
  intro j _
  exact okCode_26 _
theorem isMark_of {x : Str} (h : x.length ≤ 6) (k : okLet x = true) : isMark (.str x) = true := by
  show (decide (x.length ≤ 6) && x.cps.toList.all okCode) = true
  rw [decide_eq_true h]
  exact k
theorem names_ok (c : Int) : ∀ x ∈ namesS c, isMark (.str x) = true := by
  have cl : ∀ (z : Str) (a : Int), 0 ≤ a → (cutS z none (some a)).length ≤ a.toNat := fun z a ha => by
    rw [len_cps]
    show (List.take (HT.sIx z.length z.length (some a) - HT.sIx z.length 0 none) (List.drop (HT.sIx z.length 0 none) z.cps.toList)).length ≤ _
    rw [List.length_take]
    have h1 : HT.sIx z.length z.length (some a) ≤ a.toNat := by
      simp only [HT.sIx]
      split <;> omega
    omega
  have cl2 : ∀ (z : Str) (a b : Int), 0 ≤ a → 0 ≤ b → a ≤ z.length → (cutS z (some a) (some b)).length ≤ b.toNat - a.toNat := fun z a b ha hb hz => by
    rw [len_cps]
    show (List.take (HT.sIx z.length z.length (some b) - HT.sIx z.length 0 (some a)) (List.drop (HT.sIx z.length 0 (some a)) z.cps.toList)).length ≤ _
    rw [List.length_take]
    have h1 : HT.sIx z.length z.length (some b) ≤ b.toNat := by
      simp only [HT.sIx]
      split <;> omega
    have h2 : HT.sIx z.length 0 (some a) = a.toNat := by
      simp only [HT.sIx]
      split <;> omega
    omega
  intro x hx
  unfold namesS at hx
  by_cases h : c % 3 = 2
  · rw [if_pos h, List.mem_map] at hx
    obtain ⟨k, _, rfl⟩ := hx
    exact isMark_of (by have := cut_len (restS c) none (some (1 + c / 3 % 4 + (0 + (k : Nat)))); rw [rest_len] at this; exact this) (okLet_cut (okLet_rest c))
  · rw [if_neg h, List.mem_map] at hx
    obtain ⟨k, _, rfl⟩ := hx
    have p1 : 0 ≤ c / 3 % 6 := Int.emod_nonneg _ (by decide)
    have p2 : c / 3 % 6 < 6 := Int.emod_lt_of_pos _ (by decide)
    have p3 : 0 ≤ c / 18 % (c / 3 % 6 + 1) := Int.emod_nonneg _ (by omega)
    have p4 : c / 18 % (c / 3 % 6 + 1) < c / 3 % 6 + 1 := Int.emod_lt_of_pos _ (by omega)
    refine isMark_of ?_ (okLet_app (okLet_app (okLet_cut (okLet_rest c)) (okLet_chr _)) (okLet_cut (okLet_rest c)))
    rw [len_append, len_append, len_chr]
    have q1 := cl (restS c) (c / 18 % (c / 3 % 6 + 1)) p3
    have q2 := cl2 (restS c) (c / 18 % (c / 3 % 6 + 1)) (c / 3 % 6) p3 p1 (by rw [rest_len]; omega)
    omega
theorem dInts_map : ∀ ns : List Int, dInts (ns.map Dat.int) = ns
  | [] => rfl
  | n :: ns => congrArg (n :: ·) (dInts_map ns)
theorem choices_of {ns : List Int} {m : Int} (h0 : ns ≠ []) (h1 : ∀ x ∈ ns, 0 ≤ x ∧ x < m) (h2 : ns.Nodup) : areChoices (intsD ns) m = true := by
  show (!(ns.map Dat.int).isEmpty && (((ns.map Dat.int).all fun x => isPlace x m) && decide ((dInts (ns.map Dat.int)).Nodup))) = true
  rw [dInts_map, decide_eq_true h2, List.all_map]
  have e1 : (ns.all ((fun x => isPlace x m) ∘ Dat.int)) = true := by
    rw [List.all_eq_true]
    intro x hx
    have := h1 x hx
    show (decide (0 ≤ x) && decide (x < m)) = true
    rw [decide_eq_true this.1, decide_eq_true this.2]
    rfl
  rw [e1]
  cases ns with
  | nil => exact absurd rfl h0
  | cons _ _ => rfl
theorem mod_inj {f : Int} {i j m : Nat} (hi : i < m) (hj : j < m) (h : (f + (i : Nat)) % (m : Int) = (f + (j : Nat)) % (m : Int)) : i = j := by
  have h1 := Int.emod_emod_of_dvd (f + (i : Nat)) (Int.dvd_refl (m : Int))
  have d : ((f + (i : Nat)) - (f + (j : Nat))) % (m : Int) = 0 := by
    rw [Int.sub_emod, h, Int.sub_self]
    exact Int.zero_emod _
  have d2 : (m : Int) ∣ ((i : Int) - (j : Int)) := by
    have := Int.dvd_of_emod_eq_zero d
    have e : (f + (i : Nat)) - (f + (j : Nat)) = ((i : Int) - (j : Int)) := by omega
    rwa [e] at this
  have d3 : ((i : Int) - (j : Int)) = 0 := by
    obtain ⟨k, hk⟩ := d2
    by_cases k0 : k = 0
    · rw [k0, Int.mul_zero] at hk
      exact hk
    · exfalso
      have hm : (0 : Int) < m := by omega
      rcases Int.lt_or_gt_of_ne k0 with k1 | k1
      · have : (m : Int) * k ≤ m * (-1) := Int.mul_le_mul_of_nonneg_left (by omega) (by omega)
        omega
      · have : (m : Int) * 1 ≤ m * k := Int.mul_le_mul_of_nonneg_left (by omega) (by omega)
        omega
  omega
theorem some_ok (c f : Int) {m : Nat} (hm : 1 ≤ m) : areChoices (intsD (someS c m f)) m = true ∧ 1 ≤ (someS c m f).length ∧ (someS c m f).length ≤ m := by
  have e : someS c m f = (0 :: ((List.range (m - 1)).filter (takes3 c)).map (· + 1)).map fun j : Nat => (f + (j : Nat)) % (m : Int) := by
    unfold someS
    rw [List.map_cons, List.map_map]
    refine congr (congrArg List.cons ?_) (List.map_congr_left fun k _ => ?_)
    · show f % (m : Int) = (f + ((0 : Nat) : Int)) % m
      rw [Int.natCast_zero, Int.add_zero]
    · show (f + (1 + (k : Nat))) % (m : Int) = (f + ((k + 1 : Nat) : Int)) % m
      rw [Int.natCast_add, Int.add_comm (k : Int)]
      rfl
  have lt : ∀ j ∈ (0 :: ((List.range (m - 1)).filter (takes3 c)).map (· + 1)), j < m := fun j hj => by
    rcases List.mem_cons.mp hj with rfl | hj
    · omega
    · obtain ⟨k, hk, rfl⟩ := List.mem_map.mp hj
      have := List.mem_range.mp (List.mem_filter.mp hk).1
      omega
  have nd : (0 :: ((List.range (m - 1)).filter (takes3 c)).map (· + 1)).Nodup := by
    rw [List.nodup_cons]
    refine ⟨fun h => ?_, ?_⟩
    · obtain ⟨k, _, hk⟩ := List.mem_map.mp h
      omega
    · unfold List.Nodup
      rw [List.pairwise_map]
      exact (List.Pairwise.filter _ (List.nodup_range (n := m - 1))).imp fun h q => h (by omega)
  refine ⟨?_, ?_, ?_⟩
  · rw [e]
    refine choices_of (by simp) (fun x hx => ?_) ?_
    · obtain ⟨j, _, rfl⟩ := List.mem_map.mp hx
      exact ⟨Int.emod_nonneg _ (by omega), Int.emod_lt_of_pos _ (by omega)⟩
    · unfold List.Nodup
      rw [List.pairwise_map]
      exact List.Pairwise.imp_of_mem (fun {a b} ha hb hab q => hab (mod_inj (lt a ha) (lt b hb) q)) nd
  · unfold someS
    rw [List.length_cons]
    omega
  · unfold someS
    rw [List.length_cons, List.length_map]
    have := List.length_filter_le (takes3 c) (List.range (m - 1))
    rw [List.length_range] at this
    omega
theorem mach_okG (ns : List Int) (k : Nat) (c0 : Int) {most : Nat} (hm1 : 1 ≤ most) (hm2 : most ≤ 12) : (machM ns k (namesS c0) most).Ok := by
  obtain ⟨h1, h3⟩ := manyM_le ns k hm1
  have h2 : manyM ns k most ≤ 12 := by omega
  have lmk : (machM ns k (namesS c0) most).marks.length = manyM ns k most := by
    show ((List.range _).map _).length = _
    rw [List.length_map, List.length_range]
  have lwk : (machM ns k (namesS c0) most).ways.length = manyM ns k most := by
    show ((List.range _).map _).length = _
    rw [List.length_map, List.length_range]
  have hb : areChoices (intsD (beginsM (drawv ns (k + 1 + manyM ns k most)) (manyM ns k most))) (manyM ns k most) = true ∧ 1 ≤ (beginsM (drawv ns (k + 1 + manyM ns k most)) (manyM ns k most)).length ∧ (beginsM (drawv ns (k + 1 + manyM ns k most)) (manyM ns k most)).length ≤ manyM ns k most := by
    unfold beginsM
    split
    · exact some_ok _ _ h1
    · refine ⟨choices_of (by simp) (fun x hx => ?_) (by simp), Nat.le_refl _, h1⟩
      rw [List.mem_singleton] at hx
      subst hx
      exact ⟨Int.emod_nonneg _ (by omega), Int.emod_lt_of_pos _ (by omega)⟩
  refine ⟨by rw [lmk]; exact h1, by rw [lmk]; exact h2, by rw [lwk, lmk], ⟨hb.2.1, Nat.le_trans hb.2.2 h2⟩, fun w hw => ?_, fun x hx => ?_, fun w hw => ?_, ?_⟩
  · obtain ⟨j, _, rfl⟩ := List.mem_map.mp hw
    have := some_ok (drawv ns (k + 1 + j)) (drawv ns (k + 1 + j) / 6) h1
    exact ⟨this.2.1, Nat.le_trans this.2.2 h2⟩
  · obtain ⟨j, _, rfl⟩ := List.mem_map.mp hx
    obtain ⟨a, b, d, e⟩ : ∃ a b c, namesS c0 = [a, b, c] := by
      have : (namesS c0).length = 3 := by
        unfold namesS
        split <;> rw [List.length_map, List.length_range]
      match namesS c0, this with
      | [a, b, c], _ => exact ⟨a, b, c, rfl⟩
    have hn := names_ok c0
    rw [e] at hn ⊢
    unfold markM
    have kk1 : 0 ≤ drawv ns (k + 1 + j) % 6 := Int.emod_nonneg _ (by decide)
    have kk2 : drawv ns (k + 1 + j) % 6 < 6 := Int.emod_lt_of_pos _ (by decide)
    have kk3 : (drawv ns (k + 1 + j) % 6).toNat < (six [a, b, d]).length := by show _ < 6; omega
    rw [List.getD_eq_getElem?_getD, List.getElem?_eq_getElem kk3]
    have hm : (six [a, b, d])[(drawv ns (k + 1 + j) % 6).toNat] ∈ six [a, b, d] := List.getElem_mem kk3
    show isMark (.str (six [a, b, d])[(drawv ns (k + 1 + j) % 6).toNat]) = true
    generalize (six [a, b, d])[(drawv ns (k + 1 + j) % 6).toNat] = x at hm
    have hm : x ∈ [a, b, d, ("" : Str), a, b] := hm
    simp only [List.mem_cons, List.not_mem_nil, or_false] at hm
    rcases hm with rfl | rfl | rfl | rfl | rfl | rfl
    · exact hn _ (by simp)
    · exact hn _ (by simp)
    · exact hn _ (by simp)
    · rfl
    · exact hn _ (by simp)
    · exact hn _ (by simp)
  · obtain ⟨j, _, rfl⟩ := List.mem_map.mp hw
    rw [lmk]
    exact (some_ok (drawv ns (k + 1 + j)) (drawv ns (k + 1 + j) / 6) h1).1
  · rw [lmk]
    exact hb.1
theorem mach_ok (ns : List Int) : (machM ns 2 (namesS (ns.getD 0 0)) 12).Ok := mach_okG ns 2 _ (by decide) (by decide)
theorem names_len (c : Int) : (namesS c).length = 3 := by
  unfold namesS
  split <;> rw [List.length_map, List.length_range]
theorem tame_mem {n : Nat} {ds : List Dat} (h : ∀ d ∈ ds, Tame n d) (l : ds.length ≤ 1000) : Tame (n + 1) (.lst ds) := by
  rw [tame_lst]
  exact ⟨l, tameAll_of h⟩
theorem tame_ints {n : Nat} {ns : List Int} (l : ns.length ≤ 1000) : Tame (n + 1) (intsD ns) := tame_mem (fun d hd => by
  obtain ⟨i, _, rfl⟩ := List.mem_map.mp hd
  cases n <;> simp only [Tame]) (by rw [List.length_map]; exact l)
theorem tame_way {n : Nat} {m : Mach} (ok : m.Ok) : ∀ d ∈ waysD m, Tame (n + 1) d := fun d hd => by
  obtain ⟨w, hw, rfl⟩ := List.mem_map.mp hd
  exact tame_ints (by have := (ok.nr w hw).2; omega)
theorem tame_mark {n : Nat} {m : Mach} (ok : m.Ok) : ∀ d ∈ marksD m, Tame n d := fun d hd => by
  obtain ⟨x, hx, rfl⟩ := List.mem_map.mp hd
  rw [tame_str]
  have := (mark_ok (ok.nm x hx)).1
  omega
theorem isMachine_eq (ms ws : List Dat) (db : Dat) : isMachine (.lst ms) (.lst ws) db = (decide (1 ≤ ms.length) && (decide (ms.length ≤ 12) && (decide (ws.length = ms.length) && ((ms.all isMark) && ((ws.all fun x => areChoices x ms.length) && areChoices db ms.length))))) := rfl
theorem marksD_len (m : Mach) : (marksD m).length = m.marks.length := List.length_map ..
theorem all_marks {m : Mach} (ok : m.Ok) : (marksD m).all isMark = true := by
  rw [List.all_eq_true]
  intro d hd
  obtain ⟨x, hx, rfl⟩ := List.mem_map.mp hd
  exact ok.nm x hx
theorem all_ways {m : Mach} (ok : m.Ok) : ((waysD m).all fun x => areChoices x (marksD m).length) = true := by
  rw [List.all_eq_true]
  intro d hd
  obtain ⟨w, hw, rfl⟩ := List.mem_map.mp hd
  rw [marksD_len]
  exact ok.nc w hw
theorem good_b {m : Mach} (ok : m.Ok) {db : Dat} (h : areChoices db m.marks.length = true) : isMachine (.lst (marksD m)) (.lst (waysD m)) db = true := by
  have lw : (waysD m).length = (marksD m).length := (List.length_map ..).trans (ok.nw.trans (marksD_len m).symm)
  rw [isMachine_eq, all_marks ok, all_ways ok, decide_eq_true lw, decide_eq_true (by rw [marksD_len]; exact ok.n1), decide_eq_true (by rw [marksD_len]; exact ok.n2), marksD_len, h]
  rfl
theorem good_m {m : Mach} (ok : m.Ok) : isMachine (.lst (marksD m)) (.lst (waysD m)) (intsD m.begins) = true := good_b ok ok.nd
theorem good_last {m : Mach} (ok : m.Ok) : isMachine (.lst (marksD m)) (.lst (waysD m)) (intsD [(m.marks.length : Int) - 1]) = true := by
  have := ok.n1
  refine good_b ok (choices_of (by simp) (fun x hx => ?_) (by simp))
  rw [List.mem_singleton] at hx
  omega
theorem good_tame {m : Mach} (ok : m.Ok) : Tame 5 (.lst (marksD m)) ∧ Tame 5 (.lst (waysD m)) ∧ Tame 5 (intsD m.begins) := by
  have h1 := ok.n2
  have h2 := ok.nw
  have h3 := ok.nb.2
  exact ⟨tame_mem (tame_mark ok) (by rw [marksD_len]; omega), tame_mem (tame_way ok) (by rw [show (waysD m).length = m.ways.length from List.length_map ..]; omega), tame_ints (by omega)⟩
def R_Machine_has_place (C_Machine : Addr) : List Sl → Dat → List Sl → Prop := fun as d as' => ∃ (ms : List Dat) (dw db x : Dat) (n : Nat), as = [.dat (machD C_Machine (.lst ms) dw db), .dat x] ∧ d = .bl (isPlace x ms.length) ∧ as' = [.no, .no] ∧ Tame n x
theorem len_Machine_has_place {C_Machine : Addr} : ∀ as d as', R_Machine_has_place C_Machine as d as' → as.length = 2 := by
  rintro as d as' ⟨_, _, _, _, _, rfl, _⟩
  rfl
abbrev s_Machine_has_place : Stmt := inClass (topS 11) 5
theorem sc_Machine_has_place : FnScope ["self", "thing"] ["self", "thing"] (defScope s_Machine_has_place) := ⟨rfl, rfl, rfl, by decide +kernel, rfl, by decide +kernel, by decide +kernel⟩
theorem ok_Machine_has_place {f : Addr} {fd : FuncData} (F : Fun K "has_place" "Machine.has_place" s_Machine_has_place f fd) (T : Tx K mg C_BadMachine C_BadSaying C_Machine C_NoWalk C_TooMany C_WalkError) {a_is_place : Addr} {fd_is_place : FuncData} (c_is_place : Cal P w K mg base "_is_place" 1 ["thing", "many"] (spG K R_is_place) a_is_place fd_is_place) : FnOk P w K mg base CX0 2 f fd ["self", "thing"] (spG K (R_Machine_has_place C_Machine)) := by
  have nd := sc_Machine_has_place.nd
  refine F.ok sc_Machine_has_place (spG_len len_Machine_has_place) (fun cdv A outer s H vs Q E hr h => ?_)
  have hu := hr.units
  have hu5 := unit5 hr
  refine ⟨_, (pss_one (ps_ret (pe_call c_is_place.ok (hr.mono (by omega)) (by rfl) c_is_place.g c_is_place.kp c_is_place.b .nil pass0 (pa_cons (pv 1) (pa_cons (pe_callB (kLen K) (by rfl) T.b_len PySem.boot_len (pa_cons (kFld K (pe_fld (pv 0) rfl)) pa_nil)) pa_nil))))), ?_⟩
  refine body_ok h len_Machine_has_place fun as d as' hR => ?_
  obtain ⟨ms, dw, db, x, n, rfl, rfl, rfl, hx⟩ := hR
  walk_at "body"
  exact ex_retW (ev_callA (ea_d (ev_var rfl) (ea_d (ev_lenL rfl (el_d (ev_fld (ev_var rfl) T.k_Machine T.n_Machine__marks rfl)) rfl) ea_nil)) rfl ⟨_, _, _, rfl, rfl, rfl, hx⟩) rfl (by walk_at "le")
def R_Machine_starts (C_Machine : Addr) : List Sl → Dat → List Sl → Prop := fun as d as' => ∃ (dm dw : Dat) (r : List Dat), as = [.dat (machD C_Machine dm dw (.lst r))] ∧ d = .lst r ∧ as' = [.no]
theorem len_Machine_starts {C_Machine : Addr} : ∀ as d as', R_Machine_starts C_Machine as d as' → as.length = 1 := by
  rintro as d as' ⟨_, _, _, rfl, _⟩
  rfl
abbrev s_Machine_starts : Stmt := inClass (topS 11) 3
theorem sc_Machine_starts : FnScope ["self"] ["self"] (defScope s_Machine_starts) := ⟨rfl, rfl, rfl, by decide +kernel, rfl, by decide +kernel, by decide +kernel⟩
theorem ok_Machine_starts {f : Addr} {fd : FuncData} (F : Fun K "starts" "Machine.starts" s_Machine_starts f fd) (T : Tx K mg C_BadMachine C_BadSaying C_Machine C_NoWalk C_TooMany C_WalkError)  : FnOk P w K mg base CX0 1 f fd ["self"] (spG K (R_Machine_starts C_Machine)) := by
  have nd := sc_Machine_starts.nd
  refine F.ok sc_Machine_starts (spG_len len_Machine_starts) (fun cdv A outer s H vs Q E hr h => ?_)
  have hu := hr.units
  have hu5 := unit5 hr
  refine ⟨_, (pss_one (ps_ret (pe_callTy (kList K) (by rfl) T.b_list (by decide +kernel) (pa_cons (kFld K (pe_fld (pv 0) rfl)) pa_nil)))), ?_⟩
  refine body_ok h len_Machine_starts fun as d as' hR => ?_
  obtain ⟨dm, dw, r, rfl, rfl, rfl⟩ := hR
  walk_at "body"
  exact ex_retW (ev_list rfl (el_d (ev_fld (ev_var rfl) T.k_Machine T.n_Machine__begins rfl)) rfl) rfl (by walk_at "le")
def R_Machine_leads (C_Machine : Addr) : List Sl → Dat → List Sl → Prop := fun as d as' => ∃ (ws : List Dat) (dm db : Dat) (r : List Dat) (k : Nat), as = [.dat (machD C_Machine dm (.lst ws) db), .dat (.int k)] ∧ d = .lst r ∧ as' = [.no, .no] ∧ ws[k]? = some (.lst r)
theorem len_Machine_leads {C_Machine : Addr} : ∀ as d as', R_Machine_leads C_Machine as d as' → as.length = 2 := by
  rintro as d as' ⟨_, _, _, _, _, rfl, _⟩
  rfl
abbrev s_Machine_leads : Stmt := inClass (topS 11) 2
theorem sc_Machine_leads : FnScope ["self", "place"] ["self", "place"] (defScope s_Machine_leads) := ⟨rfl, rfl, rfl, by decide +kernel, rfl, by decide +kernel, by decide +kernel⟩
theorem ok_Machine_leads {f : Addr} {fd : FuncData} (F : Fun K "leads" "Machine.leads" s_Machine_leads f fd) (T : Tx K mg C_BadMachine C_BadSaying C_Machine C_NoWalk C_TooMany C_WalkError)  : FnOk P w K mg base CX0 1 f fd ["self", "place"] (spG K (R_Machine_leads C_Machine)) := by
  have nd := sc_Machine_leads.nd
  refine F.ok sc_Machine_leads (spG_len len_Machine_leads) (fun cdv A outer s H vs Q E hr h => ?_)
  have hu := hr.units
  have hu5 := unit5 hr
  refine ⟨_, (pss_one (ps_ret (pe_callTy (kList K) (by rfl) T.b_list (by decide +kernel) (pa_cons (pe_ix (kIxL K) (kFld K (pe_fld (pv 0) rfl)) (pv 1) (fun _ _ => rfl)) pa_nil)))), ?_⟩
  refine body_ok h len_Machine_leads fun as d as' hR => ?_
  obtain ⟨ws, dm, db, r, k, rfl, rfl, rfl, hx⟩ := hR
  walk_at "body"
  exact ex_retW (ev_list rfl (el_d (ev_ixL (el_d (ev_fld (ev_var rfl) T.k_Machine T.n_Machine__ways rfl)) (ev_var rfl) rfl (atI_nat hx))) rfl) rfl (by walk_at "le")
def rowI (m : Mach) (i : Int) : List Int := m.ways.getD i.toNat []
def machO (C : Addr) (m : Mach) : Dat := machD C (.lst (marksD m)) (.lst (waysD m)) (intsD m.begins)
def pairsOf (zs : List Int) : List (Dat × Dat) := (zs.zip (zs.drop 1)).map fun p => (.int p.1, .int p.2)
def inRow (m : Mach) : Dat → Dat → Dat := fun a b => match a with
  | .int i => .bl (((rowI m i).map Dat.int).any fun e => eqd e b)
  | _ => .non
def okI (m : Mach) (zs : List Int) : Bool := (zs.zip (zs.drop 1)).all fun p => ((rowI m p.1).map Dat.int).any fun e => eqd e (.int p.2)
def startOk (m : Mach) (zs : List Int) : Bool := (m.begins.map Dat.int).any fun e => eqd e (.int (zs.getD 0 0))
def isWalk (m : Mach) (dw dr : Dat) : Bool := match dw, dr with
  | .lst ws, .lst rs => !rs.isEmpty && ((ws ++ (rs ++ rs.take 1)).all (fun x => isPlace x m.marks.length) && (startOk m (dInts (ws ++ (rs ++ rs.take 1))) && okI m (dInts (ws ++ (rs ++ rs.take 1)))))
  | _, _ => false
theorem isWalk_no {m : Mach} {dw dr : Dat} (h : (∀ ms, dw ≠ .lst ms) ∨ (∀ ws, dr ≠ .lst ws)) : isWalk m dw dr = false := by
  cases dw <;> first | rfl | skip
  cases dr <;> first | rfl | skip
  rcases h with h | h
  · exact absurd rfl (h _)
  · exact absurd rfl (h _)
def R_is_walk (C_Machine : Addr) : List Sl → Dat → List Sl → Prop := fun as d as' => ∃ (m : Mach) (dw dr : Dat) (n : Nat), as = [.dat (machO C_Machine m), .dat dw, .dat dr] ∧ d = .bl (isWalk m dw dr) ∧ as' = [.no, .no, .no] ∧ m.Ok ∧ Tame n dw ∧ Tame n dr
theorem len_is_walk {C_Machine : Addr} : ∀ as d as', R_is_walk C_Machine as d as' → as.length = 3 := by
  rintro as d as' ⟨_, _, _, _, rfl, _⟩
  rfl
abbrev s_is_walk : Stmt := topS 16
theorem sc_is_walk : FnScope ["machine", "way", "ring", "walk", "place", "here", "there"] ["machine", "way", "ring"] (defScope s_is_walk) := ⟨rfl, rfl, rfl, by decide +kernel, rfl, by decide +kernel, by decide +kernel⟩
theorem ok_is_walk {f : Addr} {fd : FuncData} (F : Fun K "_is_walk" "_is_walk" s_is_walk f fd) (T : Tx K mg C_BadMachine C_BadSaying C_Machine C_NoWalk C_TooMany C_WalkError) {a_Machine_starts : Addr} {fd_Machine_starts : FuncData} (c_Machine_starts : CalM P w K mg base C_Machine "starts" 1 ["self"] (spG K (R_Machine_starts C_Machine)) a_Machine_starts fd_Machine_starts) {a_Machine_has_place : Addr} {fd_Machine_has_place : FuncData} (c_Machine_has_place : CalM P w K mg base C_Machine "has_place" 2 ["self", "thing"] (spG K (R_Machine_has_place C_Machine)) a_Machine_has_place fd_Machine_has_place) {a_Machine_leads : Addr} {fd_Machine_leads : FuncData} (c_Machine_leads : CalM P w K mg base C_Machine "leads" 1 ["self", "place"] (spG K (R_Machine_leads C_Machine)) a_Machine_leads fd_Machine_leads) : FnOk P w K mg base CX0 3 f fd ["machine", "way", "ring"] (spG K (R_is_walk C_Machine)) := by
  have nd := sc_is_walk.nd
  refine F.ok sc_is_walk (spG_len len_is_walk) (fun cdv A outer s H vs Q E hr h => ?_)
  have hu := hr.units
  have hu5 := unit5 hr
  refine ⟨_, (pss_cons (ps_if (PW.pt (pw_or (pt_cmpR op_notTyB (pe_callTy (kType K) (by rfl) T.b_type (by decide +kernel) (pa_cons (pv 1) pa_nil)) (pe_bltn (v := .ty "list") (by rfl) T.b_list (by decide +kernel) rfl) (nomark _)) (pw_or (pt_cmpR op_notTyB (pe_callTy (kType K) (by rfl) T.b_type (by decide +kernel) (pa_cons (pv 2) pa_nil)) (pe_bltn (v := .ty "list") (by rfl) T.b_list (by decide +kernel) rfl) (nomark _)) (pw_or1 (pt_cmpR (kEqD K hu) (pe_callB (kLen K) (by rfl) T.b_len PySem.boot_len (pa_cons (pv 2) pa_nil)) pe_int (nomark _)))))) (pss_one (ps_ret pe_bl)) pss_nil)
      (pss_cons (ps_set (i := 3) nd rfl (by first | exact Or.inl rfl | exact Or.inr rfl) (pe_lst (kStar K (StX.pa_star (pv 1) (kStar K (StX.pa_star (pv 2) (pa_cons (pe_ix (kIxL K) (pv 2) pe_int (fun _ _ => rfl)) pa_nil)))))))
      (pss_cons (ps_if (PW.pt (pw_or (pt_not (pt_val (pe_callB (kAll K (by rfl)) (by rfl) T.b_all (by decide +kernel) (pa_cons (pe_lc (own := [("place", 4)]) (g := gName 4) (tt := tYes) (by rfl) nd (kiList K (pi_list (pv 3))) (blkOk_by (own := [("place", 4)]) (N := ["machine", "way", "ring", "walk", "place", "here", "there"]) (sc := defScope s_is_walk) (by decide +kernel)) (fun _ _ _ _ _ => pg_name (i := 4) nd rfl (Or.inl rfl)) (fun _ _ _ _ _ => pts_nil) (fun _ _ _ _ _ => (pe_meth (pv 0) T.k_Machine c_Machine_has_place.m c_Machine_has_place.ok (hr.mono (by omega)) c_Machine_has_place.b .nil pass0 (pa_cons (pv 4) pa_nil)))) pa_nil)))) (pw_or1 (pt_cmpR (kNotInD K hu5) (pe_ix (kIxL K) (pv 3) pe_int (fun _ _ => rfl)) (pe_meth0 (pv 0) T.k_Machine c_Machine_starts.m c_Machine_starts.ok (hr.mono (by omega)) c_Machine_starts.b .nil pass0) (by with_unfolding_all rfl))))) (pss_one (ps_ret pe_bl)) pss_nil)
      (pss_one (ps_ret (pe_callB (kAll K (by rfl)) (by rfl) T.b_all (by decide +kernel) (pa_cons (pe_lc (own := [("here", 5), ("there", 6)]) (g := gTup K 2 (gCons (gName 5) (gCons (gName 6) gNil))) (tt := tYes) (by rfl) nd (kiZip K (pi_zip (by rfl) T.b_zip (pa_cons (pv 3) (pa_cons (pe_slice (kSlL K) (pv 3) (po_some pe_int) po_none) pa_nil)))) (blkOk_by (own := [("here", 5), ("there", 6)]) (N := ["machine", "way", "ring", "walk", "place", "here", "there"]) (sc := defScope s_is_walk) (by decide +kernel)) (fun _ _ _ _ _ => (kgTup K (pg_tup (n := 2) (by rfl) (pgs_cons (pg_name (i := 5) nd rfl (by first | exact Or.inl rfl | exact Or.inr rfl)) (pgs_cons (pg_name (i := 6) nd rfl (by first | exact Or.inl rfl | exact Or.inr rfl)) pgs_nil))))) (fun _ _ _ _ _ => pts_nil) (fun _ _ _ _ _ => (pe_cmpR (kInD K hu5) (pv 6) (pe_meth (pv 0) T.k_Machine c_Machine_leads.m c_Machine_leads.ok (hr.mono (by omega)) c_Machine_leads.b .nil pass0 (pa_cons (pv 5) pa_nil)) (by with_unfolding_all rfl)))) pa_nil))))))), ?_⟩
  refine body_ok h len_is_walk fun as d as' hR => ?_
  obtain ⟨m, dw, dr, n, rfl, rfl, rfl, ok, tw, tr⟩ := hR
  obtain ⟨ty, hty⟩ := tame_tyn tw
  obtain ⟨ty2, hty2⟩ := tame_tyn tr
  walk_at "body"
  by_cases hs : ty = "list"
  · subst hs
    obtain ⟨ws, rfl⟩ := tyn_list hty
    obtain ⟨lw, n1, hn1, hallw⟩ := tame_len tw
    by_cases hs2 : ty2 = "list"
    · subst hs2
      obtain ⟨rs, rfl⟩ := tyn_list hty2
      obtain ⟨lr, n2, hn2, hallr⟩ := tame_len tr
      cases rs with
      | nil =>
        refine' ex_ifL (a := true) (EvT.to ?ya ?yb) (fun _ => ?yc) (fun h => by cases h) rfl
        case' ya => walk_at "et"
        case yb => rfl
        case yc => walk_at "ret"
      | cons r0 rs =>
        have hb0 : eqd (.int (r0 :: rs).length) (.int 0) = false := by
          rw [eqd_int]
          exact beq_eq_false_iff_ne.mpr (by simp only [List.length_cons]; omega)
        refine' ex_ifL (a := false) (EvT.to ?wa ?wb) (fun h => by cases h) (fun _ => ?wc) rfl
        case' wa => walk_at "et"
        case wb =>
          rw [hb0]
          rfl
        case wc =>
          have lw' : (ws ++ ((r0 :: rs) ++ [r0])).length ≤ 3000 := by
            rw [List.length_append, List.length_append, List.length_singleton]
            omega
          have hA : EvA K (StX.tStar K (tVar 1) (StX.tStar K (tVar 2) (tCons (tOp (rIxL K) (tVar 2) (tC (.int 0))) tNil))) [.dat (machO C_Machine m), .dat (.lst ws), .dat (.lst (r0 :: rs)), .no, .no, .no, .no] ((ws ++ ((r0 :: rs) ++ [r0])).map Ag.d) [.dat (machO C_Machine m), .dat (.lst ws), .dat (.lst (r0 :: rs)), .no, .no, .no, .no] := by
            rw [List.map_append, List.map_append]
            exact ea_star (el_d (ev_var rfl)) rfl (ea_star (el_d (ev_var rfl)) rfl (ea_d (ev_ixL (el_d (ev_var rfl)) ev_int rfl (atI_nat (j := 0) (xs := r0 :: rs) rfl)) ea_nil))
          have hall : ∀ x ∈ ws ++ ((r0 :: rs) ++ [r0]), ∃ n, Tame n x := fun x hx => by
            rcases List.mem_append.mp hx with hx | hx
            · exact ⟨_, tameAll_mem hallw x hx⟩
            rcases List.mem_append.mp hx with hx | hx
            · exact ⟨_, tameAll_mem hallr x hx⟩
            rw [List.mem_singleton] at hx
            exact ⟨_, hx ▸ tameAll_mem hallr r0 List.mem_cons_self⟩
          have hv : isWalk m (.lst ws) (.lst (r0 :: rs)) = ((ws ++ ((r0 :: rs) ++ [r0])).all (fun x => isPlace x m.marks.length) && (startOk m (dInts (ws ++ ((r0 :: rs) ++ [r0]))) && okI m (dInts (ws ++ ((r0 :: rs) ++ [r0]))))) := rfl
          rw [hv]
          refine ex_seq (ex_set (ev_lst hA (by omega)) rfl) ?_
          walk_at "nrm"
          have hne : ws ++ ((r0 :: rs) ++ [r0]) ≠ [] := by simp
          generalize ws ++ ((r0 :: rs) ++ [r0]) = W at lw' hall hne
          clear hA hv
          have hplace : Ev K (tCB (rAll K) (tCons (tLc (iList K (tVar 3)) (gName 4) tYes (tMeth C_Machine (Str.ofString "has_place") (spG K (R_Machine_has_place C_Machine)) [] E0 (tVar 0) (tCons (tVar 4) tNil)) (List.map (fun x => x.snd) [(Str.ofString "place", 4)])) tNil)) [.dat (machO C_Machine m), .dat (.lst ws), .dat (.lst (r0 :: rs)), .dat (.lst W), .no, .no, .no] (.bl (W.all fun x => isPlace x m.marks.length)) [.dat (machO C_Machine m), .dat (.lst ws), .dat (.lst (r0 :: rs)), .dat (.lst W), .no, .no, .no] := by
            refine Ev.to (ev_all (bs := W.map fun x => isPlace x m.marks.length) (el_d (ev_of_fresh (ef_lcMap (fun x => .bl (isPlace x m.marks.length)) (src_list (ev_var rfl) rfl) (by exact rfl) (by omega) ?_))) ?_) ?_
            · intro d hd
              obtain ⟨n, hn⟩ := hall d hd
              walk_at "nrm"
              exact Ev.to (ev_meth (es := [d]) (ev_var rfl) (ea_d (ev_var rfl) ea_nil) rfl (by decide) ⟨_, _, _, _, _, rfl, rfl, rfl, hn⟩) (by rw [marksD_len])
            · exact congrArg some (List.map_map (g := Dat.bl) (f := fun x => isPlace x m.marks.length)).symm
            · rw [List.all_map]
              rfl
          cases hp : W.all fun x => isPlace x m.marks.length with
          | false =>
            refine ex_ifL (a := true) (et_orT (EvT.to (et_not (et_B hplace)) (by rw [hp]; rfl))) (fun _ => ?_) (fun h => by cases h) rfl
            walk_at "ret"
          | true =>
            have eW := dInts_eq hp
            generalize hz : dInts W = zs at eW
            subst eW
            have hin : ∀ z ∈ zs, 0 ≤ z ∧ z < m.marks.length := fun z hz => by
              have := List.all_eq_true.mp hp (.int z) (List.mem_map_of_mem hz)
              rw [isPlace_int, Bool.and_eq_true, decide_eq_true_eq, decide_eq_true_eq] at this
              exact this
            obtain ⟨z0, zt, rfl⟩ : ∃ z t, zs = z :: t := by
              cases zs with
              | nil => exact absurd rfl hne
              | cons z t => exact ⟨z, t, rfl⟩
            have lz : (z0 :: zt).length ≤ 3000 := by rw [← List.length_map (f := Dat.int)]; exact lw'
            have sint : Shp 60 (.int z0) := by simp only [Shp]
            have hstart : EvT K (tOr (tNot (tB (tCB (rAll K) (tCons (tLc (iList K (tVar 3)) (gName 4) tYes (tMeth C_Machine (Str.ofString "has_place") (spG K (R_Machine_has_place C_Machine)) [] E0 (tVar 0) (tCons (tVar 4) tNil)) (List.map (fun x => x.snd) [(Str.ofString "place", 4)])) tNil))))
                (tTest (tOp (rNotInD K) (tOp (rIxL K) (tVar 3) (tC (.int 0))) (tMeth C_Machine (Str.ofString "starts") (spG K (R_Machine_starts C_Machine)) [] E0 (tVar 0) tNil))))
                [.dat (machO C_Machine m), .dat (.lst ws), .dat (.lst (r0 :: rs)), .dat (.lst ((z0 :: zt).map Dat.int)), .no, .no, .no] (!startOk m (z0 :: zt)) [.dat (machO C_Machine m), .dat (.lst ws), .dat (.lst (r0 :: rs)), .dat (.lst ((z0 :: zt).map Dat.int)), .no, .no, .no] :=
              EvT.to (et_or (et_not (et_B hplace)) fun _ => et_test (ev_notIn (ev_ixL (el_d (ev_var rfl)) ev_int rfl (atI_nat (j := 0) (xs := (z0 :: zt).map Dat.int) rfl)) (el_d (ev_meth (es := []) (ev_var rfl) ea_nil rfl (by decide) ⟨_, _, _, rfl, rfl, rfl⟩)) rfl sint (shp_ints _))) (by rw [hp]; rfl)
            refine ex_ifL (a := !startOk m (z0 :: zt)) hstart (fun h => ?_) (fun h => ?_) rfl
            · have h : startOk m (z0 :: zt) = false := by
                cases q : startOk m (z0 :: zt) with
                | false => rfl
                | true => rw [q] at h; cases h
              rw [h]
              walk_at "ret"
            · have h : startOk m (z0 :: zt) = true := by
                cases q : startOk m (z0 :: zt) with
                | true => rfl
                | false => rw [q] at h; cases h
              rw [h]
              have hcut : cutD ((z0 :: zt).map Dat.int) (some 1) none = zt.map Dat.int := by
                unfold cutD
                simp only [HT.sIx]
                rw [if_neg (by decide)]
                have : min (1 : Int).toNat ((z0 :: zt).map Dat.int).length = 1 := by
                  rw [List.length_map, List.length_cons]
                  show min 1 _ = 1
                  omega
                rw [this, List.map_cons, List.drop_one, List.tail_cons, List.take_of_length_le (by rw [List.length_cons]; omega)]
              have hzip : zipD ((z0 :: zt).map Dat.int) (zt.map Dat.int) = (pairsOf (z0 :: zt)).map fun p => .tup [p.1, p.2] := by
                unfold zipD pairsOf
                rw [List.drop_one, List.tail_cons, List.zipWith_map, List.map_map, List.zip_eq_zipWith, List.map_zipWith]
                rfl
              have hsrc : Src K (iZip K (tCons (tVar 3) (tCons (tSl (rSlL K) (tVar 3) (tPart (tC (V.int 1))) tNoPart) tNil))) [.dat (machO C_Machine m), .dat (.lst ws), .dat (.lst (r0 :: rs)), .dat (.lst ((z0 :: zt).map Dat.int)), .no, .no, .no] ((pairsOf (z0 :: zt)).map fun p => .tup [p.1, p.2]) [.dat (machO C_Machine m), .dat (.lst ws), .dat (.lst (r0 :: rs)), .dat (.lst ((z0 :: zt).map Dat.int)), .no, .no, .no] := by
                rw [← hzip, ← hcut]
                exact src_zip (ev_var rfl) (ev_slL (el_d (ev_var rfl)) (eo_some ev_int) eo_no rfl) rfl rfl
              have hpl : (pairsOf (z0 :: zt)).length < 100000 := by
                unfold pairsOf
                rw [List.length_map, List.length_zip]
                omega
              refine ex_retW (ev_all (bs := ((z0 :: zt).zip ((z0 :: zt).drop 1)).map fun p => ((rowI m p.1).map Dat.int).any fun e => eqd e (.int p.2)) (el_d (ev_of_fresh (ef_lcMap2 (pairs := pairsOf (z0 :: zt)) (inRow m) (by decide) hsrc (by show 5 < 7; decide) (by show 6 < 7; decide) hpl ?_))) ?_) ?_ (ρ2 := [.no, .no, .no, .no, .no, .no, .no]) (by show Le _ [_, _, _, _, _, _, _]; walk_at "le")
              · intro p hpp
                obtain ⟨⟨a, b⟩, hab, rfl⟩ := List.mem_map.mp hpp
                have ha := hin a (List.of_mem_zip hab).1
                have hrow : (waysD m)[a.toNat]? = some (.lst ((rowI m a).map Dat.int)) := by
                  unfold waysD rowI
                  rw [List.getElem?_map, List.getD_eq_getElem?_getD, List.getElem?_eq_getElem (by rw [ok.nw]; omega)]
                  rfl
                show Ev K _ [.dat (machO C_Machine m), .dat (.lst ws), .dat (.lst (r0 :: rs)), .dat (.lst ((z0 :: zt).map Dat.int)), .no, .dat (.int a), .dat (.int b)] (.bl (((rowI m a).map Dat.int).any fun e => eqd e (.int b))) [.dat (machO C_Machine m), .dat (.lst ws), .dat (.lst (r0 :: rs)), .dat (.lst ((z0 :: zt).map Dat.int)), .no, .dat (.int a), .dat (.int b)]
                refine ev_in (ev_var rfl) (el_d (ev_meth (es := [.int (a.toNat : Nat)]) (ev_var rfl) (ea_d (Ev.to (ev_var rfl) (by rw [Int.toNat_of_nonneg ha.1])) ea_nil) rfl (by decide) ⟨_, _, _, _, _, rfl, rfl, rfl, hrow⟩)) rfl (by simp only [Shp]) (shp_ints _)
              · show some _ = some _
                unfold pairsOf
                rw [List.map_map, List.map_map]
                rfl
              · show Dat.bl (List.all _ id) = .bl (true && (true && okI m (z0 :: zt)))
                unfold okI
                rw [List.all_map]
                rfl
    · have hf : isWalk m (.lst ws) dr = false := isWalk_no (.inr fun ms e => hs2 (by subst e; exact (Option.some.inj hty2).symm))
      rw [hf]
      refine' ex_ifL (a := true) (EvT.to (et_or (a := false) (EvT.to ?za ?zb) fun _ => et_orT (EvT.to ?zc ?zd)) rfl) (fun _ => ?ze) (fun h => by cases h) rfl
      case' za => walk_at "et"
      case' zc => walk_at "et"
      case zb => rfl
      case zd => rw [decide_eq_false hs2]; rfl
      case ze => walk_at "ret"
  · have hf : isWalk m dw dr = false := isWalk_no (.inl fun ms e => hs (by subst e; exact (Option.some.inj hty).symm))
    rw [hf]
    refine' ex_ifL (a := true) (et_orT (EvT.to ?xa ?xb)) (fun _ => ?xc) (fun h => by cases h) rfl
    case' xa => walk_at "et"
    case xb => rw [decide_eq_false hs]; rfl
    case xc => walk_at "ret"
def R_Machine_mark (C_Machine : Addr) : List Sl → Dat → List Sl → Prop := fun as d as' => ∃ (ms : List Dat) (dw db x : Dat) (k : Nat), as = [.dat (machD C_Machine (.lst ms) dw db), .dat (.int k)] ∧ d = x ∧ as' = [.no, .no] ∧ ms[k]? = some x
theorem len_Machine_mark {C_Machine : Addr} : ∀ as d as', R_Machine_mark C_Machine as d as' → as.length = 2 := by
  rintro as d as' ⟨_, _, _, _, _, rfl, _⟩
  rfl
abbrev s_Machine_mark : Stmt := inClass (topS 11) 1
theorem sc_Machine_mark : FnScope ["self", "place"] ["self", "place"] (defScope s_Machine_mark) := ⟨rfl, rfl, rfl, by decide +kernel, rfl, by decide +kernel, by decide +kernel⟩
theorem ok_Machine_mark {f : Addr} {fd : FuncData} (F : Fun K "mark" "Machine.mark" s_Machine_mark f fd) (T : Tx K mg C_BadMachine C_BadSaying C_Machine C_NoWalk C_TooMany C_WalkError)  : FnOk P w K mg base CX0 1 f fd ["self", "place"] (spG K (R_Machine_mark C_Machine)) := by
  have nd := sc_Machine_mark.nd
  refine F.ok sc_Machine_mark (spG_len len_Machine_mark) (fun cdv A outer s H vs Q E hr h => ?_)
  have hu := hr.units
  have hu5 := unit5 hr
  refine ⟨_, (pss_one (ps_ret (pe_ix (kIxL K) (kFld K (pe_fld (pv 0) rfl)) (pv 1) (fun _ _ => rfl)))), ?_⟩
  refine body_ok h len_Machine_mark fun as d as' hR => ?_
  obtain ⟨ms, dw, db, x, k, rfl, rfl, rfl, hx⟩ := hR
  walk_at "body"
  exact ex_retW (ev_ixL (el_d (ev_fld (ev_var rfl) T.k_Machine T.n_Machine__marks rfl)) (ev_var rfl) rfl (atI_nat hx)) rfl (by walk_at "le")
def R_marks_along_x (C_Machine : Addr) : List Sl → Prop := fun as => ∃ (m : Mach) (dw dr : Dat) (n : Nat), as = [.dat (machO C_Machine m), .dat dw, .dat dr] ∧ isWalk m dw dr = false ∧ m.Ok ∧ Tame n dw ∧ Tame n dr
theorem len_marks_along_x {C_Machine : Addr} : ∀ as, R_marks_along_x C_Machine as → as.length = 3 := by
  rintro as ⟨_, _, _, _, rfl, _⟩
  rfl
abbrev s_marks_along_x : Stmt := topS 12
theorem sc_marks_along_x : FnScope ["machine", "way", "ring", "place"] ["machine", "way", "ring"] (defScope s_marks_along_x) := ⟨rfl, rfl, rfl, by decide +kernel, rfl, by decide +kernel, by decide +kernel⟩
theorem ok_marks_along_x {f : Addr} {fd : FuncData} (F : Fun K "marks_along" "marks_along" s_marks_along_x f fd) (T : Tx K mg C_BadMachine C_BadSaying C_Machine C_NoWalk C_TooMany C_WalkError) {a_is_walk : Addr} {fd_is_walk : FuncData} (c_is_walk : Cal P w K mg base "_is_walk" 3 ["machine", "way", "ring"] (spG K (R_is_walk C_Machine)) a_is_walk fd_is_walk) : FnOk P w K mg base (CX P w) 4 f fd ["machine", "way", "ring"] ((spX K C_NoWalk (R_marks_along_x C_Machine))) := by
  have nd := sc_marks_along_x.nd
  refine F.okX sc_marks_along_x (spX_len len_marks_along_x) (fun cdv A outer s H vs Q E hr h => ?_)
  refine ⟨_, pss_cons (ps_if (PW.pt (pw_or (pt_not (pt_val (pe_callB (kIsi K) (by rfl) T.b_isinstance (by decide +kernel) (pa_cons (pv 0) (pa_cons (pe_glob (v := .ref _) (by rfl) T.c_Machine rfl) pa_nil))))) (pw_or1 (pt_not (pt_val (pe_call c_is_walk.ok (hr.mono (by omega)) (by rfl) c_is_walk.g c_is_walk.kp c_is_walk.b .nil pass0 (pa_cons (pv 0) (pa_cons (pv 1) (pa_cons (pv 2) pa_nil))))))))) (pss_one (ps_raise rfl (takes_of rfl rfl rfl rfl) (pmk_own PySem.F.excBase_ValueError T.x_NoWalk T.c_NoWalk T.kp_NoWalk (raises_own T.sb_NoWalk T.ty_NoWalk) rfl))) pss_nil) pss_never, ?_⟩
  refine bodyX_ok h len_marks_along_x fun as hR => ?_
  obtain ⟨m, dw, dr, n, rfl, hm, ok, tw, tr⟩ := hR
  show ExR K C_NoWalk _ _ [.dat (machO C_Machine m), .dat dw, .dat dr, .no]
  exact exr_head (exr_if (EvT.to (et_or (et_not (et_B (ev_isC (ev_var rfl) T.k_Machine T.i1_Machine T.i2_Machine T.i3_Machine T.i4_Machine))) fun _ => et_not (et_B (ev_callA (ea_d (ev_var rfl) (ea_d (ev_var rfl) (ea_d (ev_var rfl) ea_nil))) rfl ⟨m, dw, dr, n, rfl, rfl, rfl, ok, tw, tr⟩))) (by rw [hm]; rfl)) exr_raise)
def alongI (m : Mach) (zs : List Int) : List Dat := zs.map fun z => .str (m.marks.getD z.toNat "")
def alongD (m : Mach) : Dat → Dat := onI fun z => .str (m.marks.getD z.toNat "")
def R_marks_along_n (C_Machine : Addr) : List Dat → Dat → Prop := fun as d => ∃ (m : Mach) (way ring : List Int), as = [machO C_Machine m, intsD way, intsD ring] ∧ d = .tup [.lst (alongI m way), .lst (alongI m ring)] ∧ isWalk m (intsD way) (intsD ring) = true ∧ m.Ok ∧ way.length ≤ 1000 ∧ ring.length ≤ 1000
theorem len_marks_along_n {C_Machine : Addr} : ∀ as d, R_marks_along_n C_Machine as d → as.length = 3 := by
  rintro as d ⟨_, _, _, rfl, _⟩
  rfl
theorem isWalk_in {m : Mach} {way ring : List Int} (h : isWalk m (intsD way) (intsD ring) = true) : (∀ z ∈ way, 0 ≤ z ∧ z < m.marks.length) ∧ ∀ z ∈ ring, 0 ≤ z ∧ z < m.marks.length := by
  have h : (!(ring.map Dat.int).isEmpty && ((way.map Dat.int ++ (ring.map Dat.int ++ (ring.map Dat.int).take 1)).all (fun x => isPlace x m.marks.length) && _)) = true := h
  rw [Bool.and_eq_true, Bool.and_eq_true, List.all_append, List.all_append, Bool.and_eq_true, Bool.and_eq_true] at h
  have key : ∀ zs : List Int, (zs.map Dat.int).all (fun x => isPlace x m.marks.length) = true → ∀ z ∈ zs, 0 ≤ z ∧ z < m.marks.length := fun zs h z hz => by
    have := List.all_eq_true.mp h (.int z) (List.mem_map_of_mem hz)
    rw [isPlace_int, Bool.and_eq_true, decide_eq_true_eq, decide_eq_true_eq] at this
    exact this
  exact ⟨key _ h.2.1.1, key _ h.2.1.2.1⟩
abbrev s_marks_along_n : Stmt := topS 12
theorem sc_marks_along_n : FnScope ["machine", "way", "ring", "place"] ["machine", "way", "ring"] (defScope s_marks_along_n) := ⟨rfl, rfl, rfl, by decide +kernel, rfl, by decide +kernel, by decide +kernel⟩
theorem ok_marks_along_n {f : Addr} {fd : FuncData} (F : Fun K "marks_along" "marks_along" s_marks_along_n f fd) (T : Tx K mg C_BadMachine C_BadSaying C_Machine C_NoWalk C_TooMany C_WalkError) {a_is_walk : Addr} {fd_is_walk : FuncData} (c_is_walk : Cal P w K mg base "_is_walk" 3 ["machine", "way", "ring"] (spG K (R_is_walk C_Machine)) a_is_walk fd_is_walk) {a_Machine_mark : Addr} {fd_Machine_mark : FuncData} (c_Machine_mark : CalM P w K mg base C_Machine "mark" 1 ["self", "place"] (spG K (R_Machine_mark C_Machine)) a_Machine_mark fd_Machine_mark) : FnOk P w K mg base CX0 4 f fd ["machine", "way", "ring"] ((spN K (R_marks_along_n C_Machine))) := by
  have nd := sc_marks_along_n.nd
  refine F.ok sc_marks_along_n (spN_len len_marks_along_n) (fun cdv A outer s H vs Q E hr h => ?_)
  refine ⟨_, (pss_cons (ps_if (PW.pt (pw_or (pt_not (pt_val (pe_callB (kIsi K) (by rfl) T.b_isinstance (by decide +kernel) (pa_cons (pv 0) (pa_cons (pe_glob (v := .ref _) (by rfl) T.c_Machine rfl) pa_nil))))) (pw_or1 (pt_not (pt_val (pe_call c_is_walk.ok (hr.mono (by omega)) (by rfl) c_is_walk.g c_is_walk.kp c_is_walk.b .nil pass0 (pa_cons (pv 0) (pa_cons (pv 1) (pa_cons (pv 2) pa_nil))))))))) (pss_one ps_never) pss_nil)
      (pss_one (ps_ret (pe_tup (pa_cons (pe_lc (own := [("place", 3)]) (g := gName 3) (tt := tYes) (by rfl) nd (kiList K (pi_list (pv 1))) (blkOk_by (own := [("place", 3)]) (N := ["machine", "way", "ring", "place"]) (sc := defScope s_marks_along_n) (by decide +kernel)) (fun _ _ _ _ _ => pg_name (i := 3) nd rfl (Or.inl rfl)) (fun _ _ _ _ _ => pts_nil) (fun _ _ _ _ _ => (pe_meth (pv 0) T.k_Machine c_Machine_mark.m c_Machine_mark.ok (hr.mono (by omega)) c_Machine_mark.b .nil pass0 (pa_cons (pv 3) pa_nil)))) (pa_cons (pe_lc (own := [("place", 3)]) (g := gName 3) (tt := tYes) (by rfl) nd (kiList K (pi_list (pv 2))) (blkOk_by (own := [("place", 3)]) (N := ["machine", "way", "ring", "place"]) (sc := defScope s_marks_along_n) (by decide +kernel)) (fun _ _ _ _ _ => pg_name (i := 3) nd rfl (Or.inl rfl)) (fun _ _ _ _ _ => pts_nil) (fun _ _ _ _ _ => (pe_meth (pv 0) T.k_Machine c_Machine_mark.m c_Machine_mark.ok (hr.mono (by omega)) c_Machine_mark.b .nil pass0 (pa_cons (pv 3) pa_nil)))) pa_nil)))))), ?_⟩
  refine bodyN2_ok h len_marks_along_n fun as d hR => ?_
  obtain ⟨m, way, ring, rfl, rfl, hm, ok, lw, lr⟩ := hR
  obtain ⟨iw, ir⟩ := isWalk_in hm
  show ExN K _ [.dat (machO C_Machine m), .dat (intsD way), .dat (intsD ring), .no] _
  have one : ∀ (i : Nat) (zs : List Int), (i = 1 ∧ zs = way ∨ i = 2 ∧ zs = ring) → EvN K (tLc (iList K (tVar i)) (gName 3) tYes (tMeth C_Machine (Str.ofString "mark") (spG K (R_Machine_mark C_Machine)) [] E0 (tVar 0) (tCons (tVar 3) tNil)) (List.map (fun x => x.snd) [(Str.ofString "place", 3)])) [.dat (machO C_Machine m), .dat (intsD way), .dat (intsD ring), .no] (.lst (alongI m zs)) [.dat (machO C_Machine m), .dat (intsD way), .dat (intsD ring), .no] := fun i zs hi => by
    have hin : ∀ z ∈ zs, 0 ≤ z ∧ z < m.marks.length := by rcases hi with ⟨_, rfl⟩ | ⟨_, rfl⟩ <;> assumption
    have hl : zs.length ≤ 1000 := by rcases hi with ⟨_, rfl⟩ | ⟨_, rfl⟩ <;> assumption
    have hv : ([.dat (machO C_Machine m), .dat (intsD way), .dat (intsD ring), .no] : List Sl)[i]? = some (.dat (intsD zs)) := by rcases hi with ⟨rfl, rfl⟩ | ⟨rfl, rfl⟩ <;> rfl
    have e : (zs.map Dat.int).map (alongD m) = alongI m zs := by rw [List.map_map]; rfl
    rw [← e]
    refine evn_of_fresh (efn_atoms (ef_lcMap (alongD m) (src_list (ev_var hv) rfl) (by exact rfl) (by rw [List.length_map]; omega) fun d hd => ?_) ?_)
    · obtain ⟨z, hz, rfl⟩ := List.mem_map.mp hd
      have hz2 := hin z hz
      show Ev K _ [.dat (machO C_Machine m), .dat (intsD way), .dat (intsD ring), .dat (.int z)] (.str (m.marks.getD z.toNat "")) [.dat (machO C_Machine m), .dat (intsD way), .dat (intsD ring), .dat (.int z)]
      refine ev_meth (es := [.int (z.toNat : Nat)]) (ev_var rfl) (ea_d (Ev.to (ev_var rfl) (by rw [Int.toNat_of_nonneg hz2.1])) ea_nil) rfl (by decide) ⟨_, _, _, _, _, rfl, rfl, rfl, ?_⟩
      unfold marksD
      rw [List.getElem?_map, List.getD_eq_getElem?_getD, List.getElem?_eq_getElem (by omega)]
      rfl
    · rw [e, List.all_eq_true]
      intro d hd
      obtain ⟨z, _, rfl⟩ := List.mem_map.mp hd
      rfl
  refine exn_no (EvT.to (et_or (et_not (et_B (ev_isC (ev_var rfl) T.k_Machine T.i1_Machine T.i2_Machine T.i3_Machine T.i4_Machine))) fun _ => et_not (et_B (ev_callA (ea_d (ev_var rfl) (ea_d (ev_var rfl) (ea_d (ev_var rfl) ea_nil))) rfl ⟨m, _, _, 2, rfl, rfl, rfl, ok, tame_ints lw, tame_ints lr⟩))) (by rw [hm]; rfl)) ?_
  exact exn_ret (evn_tup (ean_cons (one 1 way (.inl ⟨rfl, rfl⟩)) (ean_cons (one 2 ring (.inr ⟨rfl, rfl⟩)) ean_nil)) (by show 2 ≤ 100000; decide))
theorem at_ixT {K : PySem.W.Frag} {te : TE} {σ : L2.St} {H : Hp} {a p : Addr} {ps : List V} {j : Int} (h : At te σ H a) (ha : H a = some (.tup ps)) (hj : L2.atI ps j = some (.ref p)) : At (tOp (rIxT K) te (tC (.int j))) σ H p := fun Q q => h _ ⟨a, ps, j, _, rfl, rfl, .inl (.inl ha), hj, q⟩
def R_right (C_Machine : Addr) : List Sl → Dat → List Sl → Prop := fun as d as' => ∃ (m : Mach) (way ring : List Int), as = [.dat (machO C_Machine m), .dat (.lst (marksD m)), .dat (intsD way), .dat (intsD ring)] ∧ d = .bl true ∧ as' = [.no, .no, .no, .no] ∧ m.Ok ∧ isWalk m (intsD way) (intsD ring) = true ∧ way.length ≤ 200 ∧ ring.length ≤ 200
theorem len_right {C_Machine : Addr} : ∀ as d as', R_right C_Machine as d as' → as.length = 4 := by
  rintro as d as' ⟨_, _, _, rfl, _⟩
  rfl
abbrev s_right : Stmt := topS 28
theorem sc_right : FnScope ["_law_machine_here", "_law_marks", "_law_way", "_law_ring", "_law_handed", "_law_found", "_law_due", "_law_place"] ["_law_machine_here", "_law_marks", "_law_way", "_law_ring"] (defScope s_right) := ⟨rfl, rfl, rfl, by decide +kernel, rfl, by decide +kernel, by decide +kernel⟩
theorem ok_right {f : Addr} {fd : FuncData} (F : Fun K "_law_right" "_law_right" s_right f fd) (T : Tx K mg C_BadMachine C_BadSaying C_Machine C_NoWalk C_TooMany C_WalkError) {a_marks_along_n : Addr} {fd_marks_along_n : FuncData} (c_marks_along_n : Cal P w K mg base "marks_along" 4 ["machine", "way", "ring"] (spN K (R_marks_along_n C_Machine)) a_marks_along_n fd_marks_along_n) : FnOk P w K mg base CX0 5 f fd ["_law_machine_here", "_law_marks", "_law_way", "_law_ring"] (spG K (R_right C_Machine)) := by
  have nd := sc_right.nd
  refine F.ok sc_right (spG_len len_right) (fun cdv A outer s H vs Q E hr h => ?_)
  have hu := hr.units
  have hu5 := unit5 hr
  refine ⟨_, (pss_cons (ps_set (i := 4) nd rfl (by first | exact Or.inl rfl | exact Or.inr rfl) (pe_lst (pa_cons (pe_callTy (kList K) (by rfl) T.b_list (by decide +kernel) (pa_cons (pv 2) pa_nil)) (pa_cons (pe_callTy (kList K) (by rfl) T.b_list (by decide +kernel) (pa_cons (pv 3) pa_nil)) pa_nil))))
      (pss_cons (ps_set (i := 5) nd rfl (by first | exact Or.inl rfl | exact Or.inr rfl) (pe_call c_marks_along_n.ok (hr.mono (by omega)) (by rfl) c_marks_along_n.g c_marks_along_n.kp c_marks_along_n.b .nil pass0 (pa_cons (pv 0) (pa_cons (pe_ix (kIxL K) (pv 4) pe_int (fun _ _ => rfl)) (pa_cons (pe_ix (kIxL K) (pv 4) pe_int (fun _ _ => rfl)) pa_nil)))))
      (pss_cons (ps_set (i := 6) nd rfl (by first | exact Or.inl rfl | exact Or.inr rfl) (pe_tup (pa_cons (pe_lc (own := [("_law_place", 7)]) (g := gName 7) (tt := tYes) (by rfl) nd (kiList K (pi_list (pv 2))) (blkOk_by (own := [("_law_place", 7)]) (N := ["_law_machine_here", "_law_marks", "_law_way", "_law_ring", "_law_handed", "_law_found", "_law_due", "_law_place"]) (sc := defScope s_right) (by decide +kernel)) (fun _ _ _ _ _ => pg_name (i := 7) nd rfl (Or.inl rfl)) (fun _ _ _ _ _ => pts_nil) (fun _ _ _ _ _ => (pe_ix (kIxL K) (pv 1) (pv 7) (fun _ _ => rfl)))) (pa_cons (pe_lc (own := [("_law_place", 7)]) (g := gName 7) (tt := tYes) (by rfl) nd (kiList K (pi_list (pv 3))) (blkOk_by (own := [("_law_place", 7)]) (N := ["_law_machine_here", "_law_marks", "_law_way", "_law_ring", "_law_handed", "_law_found", "_law_due", "_law_place"]) (sc := defScope s_right) (by decide +kernel)) (fun _ _ _ _ _ => pg_name (i := 7) nd rfl (Or.inl rfl)) (fun _ _ _ _ _ => pts_nil) (fun _ _ _ _ _ => (pe_ix (kIxL K) (pv 1) (pv 7) (fun _ _ => rfl)))) pa_nil))))
      (pss_cons (ps_if (PW.pt (pw_or (pt_not (pt_val (pe_callB (kIsi K) (by rfl) T.b_isinstance (by decide +kernel) (pa_cons (pv 5) (pa_cons (pe_bltn (v := .ty "tuple") (by rfl) T.b_tuple (by decide +kernel) rfl) pa_nil))))) (pw_or (pt_cmpR (kNeD K hu) (pv 5) (pv 6) (nomark _)) (pw_or (pt_not (pt_val (pe_callB (kIsi K) (by rfl) T.b_isinstance (by decide +kernel) (pa_cons (pe_ix (kIxT K) (pv 5) pe_int (fun _ _ => rfl)) (pa_cons (pe_bltn (v := .ty "list") (by rfl) T.b_list (by decide +kernel) rfl) pa_nil))))) (pw_or1 (pt_not (pt_val (pe_callB (kIsi K) (by rfl) T.b_isinstance (by decide +kernel) (pa_cons (pe_ix (kIxT K) (pv 5) pe_int (fun _ _ => rfl)) (pa_cons (pe_bltn (v := .ty "list") (by rfl) T.b_list (by decide +kernel) rfl) pa_nil)))))))))) (pss_one (ps_ret pe_bl)) pss_nil)
      (pss_cons (ps_expr (kBM K (pe_bm PySem.F.plainAttrs_list PySem.F.slot_list_append PySem.F.type_list_append mt_append (pe_ix (kIxT K) (pv 5) pe_int (fun _ _ => rfl)) (pa_cons pe_str pa_nil))))
      (pss_cons (ps_expr (kBM K (pe_bm PySem.F.plainAttrs_list PySem.F.slot_list_append PySem.F.type_list_append mt_append (pe_ix (kIxT K) (pv 5) pe_int (fun _ _ => rfl)) (pa_cons pe_str pa_nil))))
      (pss_one (ps_ret (pe_and (pe_cmpR (kEqD K hu) (pv 4) (pe_lst (pa_cons (pv 2) (pa_cons (pv 3) pa_nil))) (nomark _)) (pe_one (pe_cmpR (kEqD K hu) (pe_call c_marks_along_n.ok (hr.mono (by omega)) (by rfl) c_marks_along_n.g c_marks_along_n.kp c_marks_along_n.b .nil pass0 (pa_cons (pv 0) (pa_cons (pv 2) (pa_cons (pv 3) pa_nil)))) (pv 6) (nomark _)))))))))))), ?_⟩
  refine body_ok h len_right fun as d as' hR => ?_
  obtain ⟨m, way, ring, rfl, rfl, rfl, ok, hm, lw, lr⟩ := hR
  walk_at "body"
  obtain ⟨iw, ir⟩ := isWalk_in hm
  refine fun Z G H0 σ c D q => ?_
  obtain ⟨vx, ex0, rx⟩ := c.dat (i := 0) rfl
  obtain ⟨vm, em, rm⟩ := c.dat (i := 1) rfl
  obtain ⟨vw, ew, rw2⟩ := c.dat (i := 2) rfl
  obtain ⟨vr, er, rr⟩ := c.dat (i := 3) rfl
  have lσ := c.len
  have gH := c.gh
  have cfin : ∀ {H' : Hp} {σ' : L2.St}, Same H0 H' → σ'.length = 8 → Ct K Z G H' σ' (List.replicate 8 .no) := fun s l => c.fin s l
  clear c
  obtain ⟨a0, a1, a2, a3, a4, a5, a6, a7, rfl⟩ : ∃ a0 a1 a2 a3 a4 a5 a6 a7, σ = [a0, a1, a2, a3, a4, a5, a6, a7] := by
    match σ, lσ with
    | [a0, a1, a2, a3, a4, a5, a6, a7], _ => exact ⟨a0, a1, a2, a3, a4, a5, a6, a7, rfl⟩
  cases ex0
  cases em
  cases ew
  cases er
  have rx := rx.to gH
  have rm := rm.to gH
  have rw2 := rw2.to gH
  have rr := rr.to gH
  have ai : ∀ zs : List Int, (zs.map Dat.int).all Atom = true := fun zs => by
    rw [List.all_map, List.all_eq_true]
    intro _ _
    rfl
  have aa : ∀ zs : List Int, (alongI m zs).all Atom = true := fun zs => by
    rw [List.all_eq_true]
    intro d hd
    obtain ⟨_, _, rfl⟩ := List.mem_map.mp hd
    rfl
  refine raw_setN (d := .lst [intsD way, intsD ring]) (ρ := [.no, .no, .dat (intsD way), .dat (intsD ring), .no, .no, .no, .no])
    (evn_of_fresh (efn_lst (ean_cons (evn_of_fresh (efn_atoms (ef_list rfl (el_d (ev_var rfl)) rfl) (ai way))) (ean_cons (evn_of_fresh (efn_atoms (ef_list rfl (el_d (ev_var rfl)) rfl) (ai ring))) ean_nil)) (by show 2 ≤ 100000; decide)))
    (.no (.no (.dat rw2 (.dat rr (.no (.no (.no (.no .nil)))))))) fun vh X0 H1 s1 g1 z1 r1 => ?_
  show tSeq _ _ D [some vx, some vm, some vw, some vr, some vh, a5, a6, a7] H1
  have l0 : atI [intsD way, intsD ring] 0 = some (intsD way) := rfl
  have l1 : atI [intsD way, intsD ring] 1 = some (intsD ring) := rfl
  refine raw_setN (d := .tup [.lst (alongI m way), .lst (alongI m ring)]) (ρ := [.dat (machO C_Machine m), .no, .no, .no, .dat (.lst [intsD way, intsD ring]), .no, .no, .no])
    (evn_call (ea_d (ev_var rfl) (ea_d (ev_ixL (el_d (ev_var rfl)) ev_int rfl l0) (ea_d (ev_ixL (el_d (ev_var rfl)) ev_int rfl l1) ea_nil))) rfl ⟨m, way, ring, rfl, rfl, hm, ok, by omega, by omega⟩)
    (.dat (rx.to s1) (.no (.no (.no (.dat (r1.to g1) (.no (.no (.no .nil)))))))) fun vf X1 H2 s2 g2 z2 r2 => ?_
  show tSeq _ _ D [some vx, some vm, some vw, some vr, some vh, some vf, a6, a7] H2
  have s02 := s1.trans s2
  have due : ∀ (i : Nat) (zs : List Int), (i = 2 ∧ zs = way ∨ i = 3 ∧ zs = ring) → EvN K (tLc (iList K (tVar i)) (gName 7) tYes (tOp (rIxL K) (tVar 1) (tVar 7)) (List.map (fun x => x.snd) [(Str.ofString "_law_place", 7)])) [.no, .dat (.lst (marksD m)), .dat (intsD way), .dat (intsD ring), .no, .no, .no, .no] (.lst (alongI m zs)) [.no, .dat (.lst (marksD m)), .dat (intsD way), .dat (intsD ring), .no, .no, .no, .no] := fun i zs hi => by
    have hin : ∀ z ∈ zs, 0 ≤ z ∧ z < m.marks.length := by rcases hi with ⟨_, rfl⟩ | ⟨_, rfl⟩ <;> assumption
    have hl : zs.length ≤ 200 := by rcases hi with ⟨_, rfl⟩ | ⟨_, rfl⟩ <;> assumption
    have hv : ([.no, .dat (.lst (marksD m)), .dat (intsD way), .dat (intsD ring), .no, .no, .no, .no] : List Sl)[i]? = some (.dat (intsD zs)) := by rcases hi with ⟨rfl, rfl⟩ | ⟨rfl, rfl⟩ <;> rfl
    have e : (zs.map Dat.int).map (alongD m) = alongI m zs := by rw [List.map_map]; rfl
    rw [← e]
    refine evn_of_fresh (efn_atoms (ef_lcMap (alongD m) (src_list (ev_var hv) rfl) (by exact rfl) (by rw [List.length_map]; omega) fun d hd => ?_) (by rw [e]; exact aa zs))
    obtain ⟨z, hz, rfl⟩ := List.mem_map.mp hd
    have hz2 := hin z hz
    show Ev K _ [.no, .dat (.lst (marksD m)), .dat (intsD way), .dat (intsD ring), .no, .no, .no, .dat (.int z)] (.str (m.marks.getD z.toNat "")) [.no, .dat (.lst (marksD m)), .dat (intsD way), .dat (intsD ring), .no, .no, .no, .dat (.int z)]
    have hat : atI (marksD m) z = some (.str (m.marks.getD z.toNat "")) := by
      have h := at_map (f := Dat.str) (xs := m.marks) (k := z.toNat) (x := m.marks.getD z.toNat "") (by rw [List.getD_eq_getElem?_getD, List.getElem?_eq_getElem (by omega)]; rfl)
      rwa [Int.toNat_of_nonneg hz2.1] at h
    exact ev_ixL (el_d (ev_var rfl)) (ev_var rfl) rfl hat
  refine raw_setN (d := .tup [.lst (alongI m way), .lst (alongI m ring)]) (ρ := [.no, .dat (.lst (marksD m)), .dat (intsD way), .dat (intsD ring), .no, .no, .no, .no])
    (evn_tup (ean_cons (due 2 way (.inl ⟨rfl, rfl⟩)) (ean_cons (due 3 ring (.inr ⟨rfl, rfl⟩)) ean_nil)) (by show 2 ≤ 100000; decide))
    (.no (.dat (rm.to s02) (.dat (rw2.to s02) (.dat (rr.to s02) (.no (.no (.no (.no .nil)))))))) fun vd X2 H3 s3 g3 z3 r3 => ?_
  show tSeq _ _ D [some vx, some vm, some vw, some vr, some vh, some vf, some vd, a7] H3
  have salong : ∀ zs : List Int, (∀ z ∈ zs, 0 ≤ z ∧ z < m.marks.length) → Shp 58 (.lst (alongI m zs)) := fun zs hz => by
    rw [shp_lst]
    refine shpAll_of fun d hd => ?_
    obtain ⟨z, hz2, rfl⟩ := List.mem_map.mp hd
    have h3 := hz z hz2
    have := (mark_ok (ok.nm (m.marks.getD z.toNat "") (by rw [List.getD_eq_getElem?_getD, List.getElem?_eq_getElem (by omega)]; exact List.getElem_mem _))).2
    simpa only [Shp] using this
  have sdue : Shp 60 (.tup [.lst (alongI m way), .lst (alongI m ring)]) := by
    refine shp_up ?_
    rw [shp_tup]
    refine shpAll_of fun d hd => ?_
    simp only [List.mem_cons, List.not_mem_nil, or_false] at hd
    rcases hd with rfl | rfl
    · exact salong way iw
    · exact salong ring ir
  have k0 : atI [Dat.lst (alongI m way), .lst (alongI m ring)] 0 = some (.lst (alongI m way)) := rfl
  have k1 : atI [Dat.lst (alongI m way), .lst (alongI m ring)] 1 = some (.lst (alongI m ring)) := rfl
  refine raw_ifF (ρ := [.no, .no, .no, .no, .no, .dat (.tup [.lst (alongI m way), .lst (alongI m ring)]), .dat (.tup [.lst (alongI m way), .lst (alongI m ring)]), .no])
    (EvT.to (et_or (et_not (et_B (ev_isi (T := "tuple") (ev_var rfl) rfl rfl))) fun _ => et_or (et_test (ev_ne (ev_var rfl) (ev_var rfl) sdue sdue)) fun _ => et_or (et_not (et_B (ev_isi (T := "list") (ev_ixT (ev_var rfl) ev_int k0) rfl rfl))) fun _ => et_not (et_B (ev_isi (T := "list") (ev_ixT (ev_var rfl) ev_int k1) rfl rfl))) (by rw [eqd_refl sdue]; rfl))
    (.no (.no (.no (.no (.no (.dat (r2.to (g2.trans s3)) (.dat (r3.to g3) (.no .nil)))))))) fun H4 s4 => ?_
  cases r2 with
  | @tup a ps _ ha ra =>
  cases ra with
  | @cons v0 _ _ _ q0 ra =>
  cases ra with
  | @cons v1 _ _ _ q1 ra =>
  cases ra
  cases q0 with
  | @lst p0 xs0 _ h0 rx0 =>
  cases q1 with
  | @lst p1 xs1 _ h1 rx1 =>
  have gX : Same X1 H4 := g2.trans (s3.trans s4)
  have d0 : a ≠ p0 := fun e => by rw [← e, ha] at h0; cases h0
  have d1 : a ≠ p1 := fun e => by rw [← e, ha] at h1; cases h1
  have n0 : xs0.length ≤ 200 := by rw [rx0.length]; unfold alongI; rw [List.length_map]; exact lw
  have n1 : xs1.length ≤ 200 := by rw [rx1.length]; unfold alongI; rw [List.length_map]; exact lr
  refine raw_app (at_ixT (at_var rfl) (gX _ _ ha) rfl) (gX _ _ h0) (by omega) ?_
  obtain ⟨zs, hz, hzl⟩ : ∃ zs, upd H4 p0 (.lst (xs0 ++ [.str (Str.ofString "more")])) p1 = some (.lst zs) ∧ zs.length ≤ 300 := by
    by_cases e : p1 = p0
    · exact ⟨_, by rw [e, upd_same], by rw [List.length_append, List.length_singleton]; omega⟩
    · exact ⟨_, by rw [upd_ne e]; exact gX _ _ h1, by omega⟩
  refine raw_app (at_ixT (at_var rfl) (by rw [upd_ne d0]; exact gX _ _ ha) rfl) hz (by omega) ?_
  have none1 : ∀ {p o}, X1 p = some o → H1 p = none := fun e => z2 _ _ e
  have none0 : ∀ {p o}, X1 p = some o → H0 p = none := fun {p o} e => by
    cases qq : H0 p with
    | none => rfl
    | some o2 =>
      have := s1 _ _ qq
      rw [none1 e] at this
      cases this
  have noneX0 : ∀ {p o}, X1 p = some o → X0 p = none := fun {p o} e => by
    cases qq : X0 p with
    | none => rfl
    | some o2 =>
      have := g1 _ _ qq
      rw [none1 e] at this
      cases this
  have noneX2 : ∀ {p o}, X1 p = some o → X2 p = none := fun {p o} e => by
    cases qq : X2 p with
    | none => rfl
    | some o2 =>
      have := z3 _ _ qq
      rw [g2 _ _ e] at this
      cases this
  have t0 : Same H0 (upd (upd H4 p0 (.lst (xs0 ++ [.str (Str.ofString "more")]))) p1 (.lst (zs ++ [.str (Str.ofString "more")]))) := same_upd (same_upd (s02.trans (s3.trans s4)) (none0 h0)) (none0 h1)
  have t1 : Same X0 (upd (upd H4 p0 (.lst (xs0 ++ [.str (Str.ofString "more")]))) p1 (.lst (zs ++ [.str (Str.ofString "more")]))) := same_upd (same_upd (g1.trans (s2.trans (s3.trans s4))) (noneX0 h0)) (noneX0 h1)
  have t2 : Same X2 (upd (upd H4 p0 (.lst (xs0 ++ [.str (Str.ofString "more")]))) p1 (.lst (zs ++ [.str (Str.ofString "more")]))) := same_upd (same_upd (g3.trans s4) (noneX2 h0)) (noneX2 h1)
  generalize upd (upd H4 p0 (.lst (xs0 ++ [.str (Str.ofString "more")]))) p1 (.lst (zs ++ [.str (Str.ofString "more")])) = H6 at t0 t1 t2 ⊢
  have shh : Shp 60 (.lst [intsD way, intsD ring]) := by
    rw [shp_lst]
    refine shpAll_of fun d hd => ?_
    simp only [List.mem_cons, List.not_mem_nil, or_false] at hd
    rcases hd with rfl | rfl <;> exact shp_intsD _
  refine raw_ex (d := .bl true) (ρ := [.dat (machO C_Machine m), .no, .dat (intsD way), .dat (intsD ring), .dat (.lst [intsD way, intsD ring]), .no, .dat (.tup [.lst (alongI m way), .lst (alongI m ring)]), .no]) (ρ' := List.replicate 8 .no) ?G1
    (.dat (rx.to t0) (.no (.dat (rw2.to t0) (.dat (rr.to t0) (.dat (r1.to t1) (.no (.dat (r3.to t2) (.no .nil)))))))) fun σ' v H' s' l' r' => ?_
  case G1 =>
    exact ex_retW (ev_and (a := eqd (.lst [intsD way, intsD ring]) (.lst [intsD way, intsD ring])) (ev_eq (ev_var rfl) (ev_lstA (ea_d (ev_var rfl) (ea_d (ev_var rfl) ea_nil)) rfl (by show 2 ≤ 100000; decide)) shh shh) fun _ => ev_eq (ev_of_evn (evn_call (ea_d (ev_var rfl) (ea_d (ev_var rfl) (ea_d (ev_var rfl) ea_nil))) rfl ⟨m, way, ring, rfl, rfl, hm, ok, by omega, by omega⟩)) (ev_var rfl) sdue sdue) (by rw [eqd_refl shh, eqd_refl sdue]; rfl) (ρ2 := [.no, .no, .no, .no, .no, .no, .no, .no]) (by walk_at "le")
  exact q σ' v G H' (Same.refl G) (cfin (t0.trans s') l') (rp_atom rfl r')
def R_refused (C_Machine : Addr) : List Sl → Dat → List Sl → Prop := fun as d as' => ∃ (m : Mach) (dw dr : Dat) (n : Nat), as = [.dat (machO C_Machine m), .dat dw, .dat dr] ∧ d = .bl true ∧ as' = [.no, .no, .no] ∧ isWalk m dw dr = false ∧ m.Ok ∧ Tame n dw ∧ Tame n dr
theorem len_refused {C_Machine : Addr} : ∀ as d as', R_refused C_Machine as d as' → as.length = 3 := by
  rintro as d as' ⟨_, _, _, _, rfl, _⟩
  rfl
abbrev s_refused : Stmt := topS 27
theorem sc_refused : FnScope ["_law_machine_here", "_law_way", "_law_ring", "e", "_law_others"] ["_law_machine_here", "_law_way", "_law_ring"] (defScope s_refused) := ⟨rfl, rfl, rfl, by decide +kernel, rfl, by decide +kernel, by decide +kernel⟩
theorem ok_refused {f : Addr} {fd : FuncData} (F : Fun K "_law_refused" "_law_refused" s_refused f fd) (T : Tx K mg C_BadMachine C_BadSaying C_Machine C_NoWalk C_TooMany C_WalkError) {a_marks_along_x : Addr} {fd_marks_along_x : FuncData} (c_marks_along_x : CalX P w K mg base (CX P w) "marks_along" 4 ["machine", "way", "ring"] (spX K C_NoWalk (R_marks_along_x C_Machine)) a_marks_along_x fd_marks_along_x) : FnOk P w K mg base CX0 5 f fd ["_law_machine_here", "_law_way", "_law_ring"] (spG K (R_refused C_Machine)) := by
  have nd := sc_refused.nd
  refine F.ok sc_refused (spG_len len_refused) (fun cdv A outer s H vs Q E hr h => ?_)
  classical
  refine ⟨_, pss_cons (ps_try_as (i := 3) (c := .ref C_WalkError) (tb := fun W => tDrop (tCallS (spX K C_NoWalk (R_marks_along_x C_Machine)) (fun σ cls dd H => W cls dd σ H) (tCons (tVar 0) (tCons (tVar 1) (tCons (tVar 2) tNil))))) (ts := fun a cls d => if cls = .ref C_NoWalk ∧ d = none then tSeq (tAsg (tCB (rIsET K C_NoWalk a) (tCons (tVar 3) (tCons (tTup (tCons (tC (.ref C_BadMachine)) (tCons (tC (.ref C_BadSaying)) (tCons (tC (.ref C_TooMany)) tNil)))) tNil))) (gName 4)) (tRet (tAndV (tCB (rIsE K C_NoWalk a) (tCons (tVar 3) (tCons (tC (.ref C_NoWalk)) tNil))) (tAndV (tCB (rIsE K C_NoWalk a) (tCons (tVar 3) (tCons (tC (.ty "ValueError")) tNil))) (tNotV (tVar 4))))) else tNever) rfl rfl nd rfl rfl ⟨rfl, by decide, .inl T.c_WalkError⟩ takes0
    (fun W pn xe tk _ => pss_one (ps_expr (pe_callS c_marks_along_x.ok (hr.mono (by omega)) (by rfl) c_marks_along_x.g c_marks_along_x.kp c_marks_along_x.b (fun σ => passAt tk σ) (pa_cons (pv 0) (pa_cons (pv 1) (pa_cons (pv 2) pa_nil))))))
    (fun a oe cls d pn hz hf => ?suite)) (pss_one (ps_ret pe_bl)), ?_⟩
  case suite =>
    by_cases hq : cls = .ref C_NoWalk ∧ d = none
    · obtain ⟨rfl, rfl⟩ := hq
      rw [if_pos ⟨rfl, rfl⟩]
      refine pss_cons (ps_set (i := 4) nd rfl (by first | exact Or.inl rfl | exact Or.inr rfl) (pe_callB (call_isET T.ec_NoWalk hz hf) (by rfl) T.b_isinstance (by decide +kernel) (pa_cons (pv 3) (pa_cons (pe_tup (pa_cons (pe_glob (v := .ref _) (by rfl) T.c_BadMachine rfl) (pa_cons (pe_glob (v := .ref _) (by rfl) T.c_BadSaying rfl) (pa_cons (pe_glob (v := .ref _) (by rfl) T.c_TooMany rfl) pa_nil)))) pa_nil)))) (pss_one (ps_ret (pe_and (pe_callB (call_isE T.ec_NoWalk hz hf) (by rfl) T.b_isinstance (by decide +kernel) (pa_cons (pv 3) (pa_cons (pe_glob (v := .ref _) (by rfl) T.c_NoWalk rfl) pa_nil))) (pe_and (pe_callB (call_isE T.ec_NoWalk hz hf) (by rfl) T.b_isinstance (by decide +kernel) (pa_cons (pv 3) (pa_cons (pe_bltn (v := .ty "ValueError") (by rfl) T.b_ValueError (by decide +kernel) rfl) pa_nil))) (pe_one (pe_not (pv 4)))))))
    · rw [if_neg hq]
      exact pss_never
  refine body_ok h len_refused fun as d as' hR => ?_
  obtain ⟨m, dw, dr, n, rfl, rfl, rfl, hm, ok, tw, tr⟩ := hR
  walk_at "body"
  show Ex K _ [.dat (machO C_Machine m), .dat dw, .dat dr, .no, .no] _
  refine ex_seqRt (ex_tryCall (ag := [.d (machO C_Machine m), .d dw, .d dr]) (ea_d (ev_var rfl) (ea_d (ev_var rfl) (ea_d (ev_var rfl) ea_nil))) rfl ⟨m, dw, dr, n, rfl, hm, ok, tw, tr⟩ T.em_NoWalk rfl fun a => ?_)
  rw [if_pos ⟨rfl, rfl⟩]
  show Ex K _ [.dat (machO C_Machine m), .dat dw, .dat dr, .dat (.cls a), .no] _
  refine ex_seq (ex_set (ev_isET (As := [C_BadMachine, C_BadSaying, C_TooMany]) rfl (ev_tupA (ea_d ev_cref (ea_d ev_cref (ea_d ev_cref ea_nil))) rfl (by show 3 ≤ 100000; decide)) T.ka_NoWalk) rfl) ?_
  walk_at "nrm"
  refine ex_retW (ev_and (a := true) (ev_isE rfl (fun u h => h) ?_) fun _ => ev_and (ev_isE rfl (fun u h => h) T.kv_NoWalk) fun _ => ev_not (ev_var rfl)) rfl (by walk_at "le")
  unfold PySem.W.kitOne
  rw [if_pos (by simp)]
def oddB (c : Int) (n : Nat) : Dat := ([.int (-1), .int n, .bl true, .non, .str "0", .lst [.int 0]] : List Dat).getD (c / 90 % 6).toNat .non
def atB (c : Int) (way ring : List Int) : Int := c / 9 % (way.length + ring.length : Int)
def bothB (way ring : List Int) : List Dat := way.map Dat.int ++ ring.map Dat.int
def headB (c : Int) (way ring : List Int) : List Dat := cutD (bothB way ring) none (some (atB c way ring))
def tailB (c : Int) (way ring : List Int) : List Dat := cutD (bothB way ring) (some (atB c way ring + 1)) none
def fromB (c : Int) (way ring : List Int) : List Dat := cutD (bothB way ring) (some (atB c way ring)) none
def placeB (c : Int) (n : Nat) : Dat := .int (c / 90 % ((n : Int) + 1))
def rowsB (c : Int) (way ring : List Int) (n : Nat) : List (List Dat) :=
  [bothB way ring, headB c way ring ++ [placeB c n] ++ tailB c way ring, headB c way ring ++ tailB c way ring, headB c way ring ++ [placeB c n] ++ fromB c way ring, headB c way ring ++ [oddB c n] ++ tailB c way ring]
def cutB (c : Int) (ring : List Int) : Int := c / 11 % ring.length
def pairsB (c : Int) (way ring : List Int) : List Dat :=
  [.tup [.lst (bothB way ring), .lst []], .tup [.tup (way.map Dat.int), intsD ring], .tup [intsD way, .non], .tup [.lst (cutD (way.map Dat.int) (some 1) none), intsD ring], .tup [intsD way, .lst (cutD (ring.map Dat.int) none (some (1 + cutB c ring)))],
    .tup [.lst (way.map Dat.int ++ cutD (ring.map Dat.int) none (some (cutB c ring))), .lst (cutD (ring.map Dat.int) (some (cutB c ring)) none)]]
def rowB (c : Int) (way ring : List Int) (n : Nat) : List Dat := (rowsB c way ring n).getD (c % 11).toNat []
def bentD (c : Int) (way ring : List Int) (n : Nat) : Dat :=
  if c % 11 < 5 then .tup [.lst (cutD (rowB c way ring n) none (some way.length)), .lst (cutD (rowB c way ring n) (some way.length) none)]
  else (pairsB c way ring).getD (c % 11 - 5).toNat .non
def R_bent : List Sl → Dat → List Sl → Prop := fun as d as' => ∃ (c : Int) (way ring : List Int) (n : Nat), as = [.dat (.int c), .dat (intsD way), .dat (intsD ring), .dat (.int n)] ∧ d = bentD c way ring n ∧ as' = [.no, .no, .no, .no] ∧ way.length ≤ 200 ∧ ring.length ≤ 200 ∧ 1 ≤ ring.length
theorem len_bent : ∀ as d as', R_bent as d as' → as.length = 4 := by
  rintro as d as' ⟨_, _, _, _, rfl, _⟩
  rfl
abbrev s_bent : Stmt := topS 25
theorem sc_bent : FnScope ["_law_cell", "_law_way", "_law_ring", "_law_many", "_law_at", "_law_place", "_law_odd", "_law_rows", "_law_kind", "_law_cut"] ["_law_cell", "_law_way", "_law_ring", "_law_many"] (defScope s_bent) := ⟨rfl, rfl, rfl, by decide +kernel, rfl, by decide +kernel, by decide +kernel⟩
theorem ok_bent {f : Addr} {fd : FuncData} (F : Fun K "_law_bent" "_law_bent" s_bent f fd) (T : Tx K mg C_BadMachine C_BadSaying C_Machine C_NoWalk C_TooMany C_WalkError)  : FnOk P w K mg base CX0 1 f fd ["_law_cell", "_law_way", "_law_ring", "_law_many"] (spG K R_bent) := by
  have nd := sc_bent.nd
  refine F.ok sc_bent (spG_len len_bent) (fun cdv A outer s H vs Q E hr h => ?_)
  have hu := hr.units
  have hu5 := unit5 hr
  refine ⟨_, (pss_cons (ps_set (i := 4) nd rfl (by first | exact Or.inl rfl | exact Or.inr rfl) (pe_op op_mod (pe_op op_fdiv (pv 0) pe_int) (pe_op op_add (pe_callB (kLen K) (by rfl) T.b_len PySem.boot_len (pa_cons (pv 1) pa_nil)) (pe_callB (kLen K) (by rfl) T.b_len PySem.boot_len (pa_cons (pv 2) pa_nil)))))
      (pss_cons (ps_set (i := 5) nd rfl (by first | exact Or.inl rfl | exact Or.inr rfl) (pe_op op_mod (pe_op op_fdiv (pv 0) pe_int) (pe_op op_add (pv 3) pe_int)))
      (pss_cons (ps_set (i := 6) nd rfl (by first | exact Or.inl rfl | exact Or.inr rfl) (pe_ix (kIxL K) (pe_lst (pa_cons (pe_un un_neg pe_int) (pa_cons (pv 3) (pa_cons pe_bl (pa_cons pe_non (pa_cons pe_str (pa_cons (pe_lst (pa_cons pe_int pa_nil)) pa_nil))))))) (pe_op op_mod (pe_op op_fdiv (pv 0) pe_int) pe_int) (fun _ _ => rfl)))
      (pss_cons (ps_set (i := 7) nd rfl (by first | exact Or.inl rfl | exact Or.inr rfl) (pe_lst (pa_cons (pe_op op_cat (pv 1) (pv 2)) (pa_cons (pe_op op_cat (pe_op op_cat (pe_slice (kSlL K) (pe_op op_cat (pv 1) (pv 2)) po_none (po_some (pv 4))) (pe_lst (pa_cons (pv 5) pa_nil))) (pe_slice (kSlL K) (pe_op op_cat (pv 1) (pv 2)) (po_some (pe_op op_add (pv 4) pe_int)) po_none)) (pa_cons (pe_op op_cat (pe_slice (kSlL K) (pe_op op_cat (pv 1) (pv 2)) po_none (po_some (pv 4))) (pe_slice (kSlL K) (pe_op op_cat (pv 1) (pv 2)) (po_some (pe_op op_add (pv 4) pe_int)) po_none)) pa_nil)))))
      (pss_cons (ps_set (i := 7) nd rfl (by first | exact Or.inl rfl | exact Or.inr rfl) (pe_op op_cat (pv 7) (pe_lst (pa_cons (pe_op op_cat (pe_op op_cat (pe_slice (kSlL K) (pe_op op_cat (pv 1) (pv 2)) po_none (po_some (pv 4))) (pe_lst (pa_cons (pv 5) pa_nil))) (pe_slice (kSlL K) (pe_op op_cat (pv 1) (pv 2)) (po_some (pv 4)) po_none)) (pa_cons (pe_op op_cat (pe_op op_cat (pe_slice (kSlL K) (pe_op op_cat (pv 1) (pv 2)) po_none (po_some (pv 4))) (pe_lst (pa_cons (pv 6) pa_nil))) (pe_slice (kSlL K) (pe_op op_cat (pv 1) (pv 2)) (po_some (pe_op op_add (pv 4) pe_int)) po_none)) pa_nil)))))
      (pss_cons (ps_set (i := 8) nd rfl (by first | exact Or.inl rfl | exact Or.inr rfl) (pe_op op_mod (pv 0) pe_int))
      (pss_cons (ps_if (pt_cmpR op_lt (pv 8) pe_int (nomark _)) (pss_one (ps_ret (pe_tup (pa_cons (pe_slice (kSlL K) (pe_ix (kIxL K) (pv 7) (pv 8) (fun _ _ => rfl)) po_none (po_some (pe_callB (kLen K) (by rfl) T.b_len PySem.boot_len (pa_cons (pv 1) pa_nil)))) (pa_cons (pe_slice (kSlL K) (pe_ix (kIxL K) (pv 7) (pv 8) (fun _ _ => rfl)) (po_some (pe_callB (kLen K) (by rfl) T.b_len PySem.boot_len (pa_cons (pv 1) pa_nil))) po_none) pa_nil))))) pss_nil)
      (pss_cons (ps_set (i := 9) nd rfl (by first | exact Or.inl rfl | exact Or.inr rfl) (pe_op op_mod (pe_op op_fdiv (pv 0) pe_int) (pe_callB (kLen K) (by rfl) T.b_len PySem.boot_len (pa_cons (pv 2) pa_nil))))
      (pss_cons (ps_set (i := 7) nd rfl (by first | exact Or.inl rfl | exact Or.inr rfl) (pe_lst (pa_cons (pe_tup (pa_cons (pe_op op_cat (pv 1) (pv 2)) (pa_cons (pe_lst pa_nil) pa_nil))) (pa_cons (pe_tup (pa_cons (pe_callTy (kTuple K) (by rfl) T.b_tuple (by decide +kernel) (pa_cons (pv 1) pa_nil)) (pa_cons (pv 2) pa_nil))) (pa_cons (pe_tup (pa_cons (pv 1) (pa_cons pe_non pa_nil))) (pa_cons (pe_tup (pa_cons (pe_slice (kSlL K) (pv 1) (po_some pe_int) po_none) (pa_cons (pv 2) pa_nil))) (pa_cons (pe_tup (pa_cons (pv 1) (pa_cons (pe_slice (kSlL K) (pv 2) po_none (po_some (pe_op op_add pe_int (pv 9)))) pa_nil))) pa_nil)))))))
      (pss_one (ps_ret (pe_ix (kIxL K) (pe_op op_cat (pv 7) (pe_lst (pa_cons (pe_tup (pa_cons (pe_op op_cat (pv 1) (pe_slice (kSlL K) (pv 2) po_none (po_some (pv 9)))) (pa_cons (pe_slice (kSlL K) (pv 2) (po_some (pv 9)) po_none) pa_nil))) pa_nil))) (pe_op op_sub (pv 8) pe_int) (fun _ _ => rfl))))))))))))), ?_⟩
  refine body_ok h len_bent fun as d as' hR => ?_
  obtain ⟨c, way, ring, n, rfl, rfl, rfl, lw, lr, r1⟩ := hR
  have lw2 : (way.map Dat.int).length = way.length := List.length_map ..
  have lr2 : (ring.map Dat.int).length = ring.length := List.length_map ..
  walk_at "body"
  show Ex K _ [.dat (.int c), .dat (.lst (way.map Dat.int)), .dat (.lst (ring.map Dat.int)), .dat (.int n), .no, .no, .no, .no, .no, .no] _
  walk_at "set"
  walk_at "nrm"
  rw [lw2, lr2]
  have hat : c / 9 % ((way.length : Int) + ring.length) = atB c way ring := rfl
  rw [hat]
  have h0 : 0 ≤ atB c way ring ∧ atB c way ring < (way.length : Int) + ring.length := ⟨Int.emod_nonneg _ (by omega), Int.emod_lt_of_pos _ (by omega)⟩
  walk_at "set"
  walk_at "nrm"
  have h6 : atI ([.int (-1), .int n, .bl true, .non, .str "0", .lst [.int 0]] : List Dat) (c / 90 % 6) = some (oddB c n) := at_mod (by decide) rfl
  refine' ex_seq (ex_set (ev_ixL (ds := ([.int (-1), .int n, .bl true, .non, .str "0", .lst [.int 0]] : List Dat)) (el_d (ev_lstA ?ha ?hb ?hc)) ?hd ?he h6) ?hf) ?hg
  case' ha => walk_at "ead"
  case' hb => exact rfl
  case' hc => exact (by decide : 6 ≤ 100000)
  case' hd => walk_at "ev"
  case' he => exact rfl
  case' hf => exact rfl
  walk_at "nrm"
  have c1 := cutD_len (way.map Dat.int ++ ring.map Dat.int) none (some (atB c way ring))
  have c2 := cutD_len (way.map Dat.int ++ ring.map Dat.int) (some (atB c way ring + 1)) none
  have c3 := cutD_len (way.map Dat.int ++ ring.map Dat.int) (some (atB c way ring)) none
  rw [List.length_append, lw2, lr2] at c1 c2 c3
  walk_at "set"
  all_goals first | (simp only [List.length_append, List.length_map, List.length_cons, List.length_nil]; omega) | skip
  walk_at "nrm"
  walk_at "set"
  all_goals first | (simp only [List.length_append, List.length_map, List.length_cons, List.length_nil]; omega) | skip
  walk_at "nrm"
  walk_at "set"
  walk_at "nrm"
  show Ex K _ [.dat (.int c), .dat (.lst (way.map Dat.int)), .dat (.lst (ring.map Dat.int)), .dat (.int n), .dat (.int (atB c way ring)), .dat (.int (c / 90 % ((n : Int) + 1))), .dat (oddB c n), .dat (.lst ((rowsB c way ring n).map Dat.lst)), .dat (.int (c % 11)), .no] _
  have k1 : 0 ≤ c % 11 := Int.emod_nonneg _ (by decide)
  have k2 : c % 11 < 11 := Int.emod_lt_of_pos _ (by decide)
  walk_at "ifl"
  · intro h
    rw [decide_eq_true_eq] at h
    have hr : atI ((rowsB c way ring n).map Dat.lst) (c % 11) = some (.lst (rowB c way ring n)) := by
      have k3 : (c % 11).toNat < (rowsB c way ring n).length := by show _ < 5; omega
      have hh := at_map (f := Dat.lst) (xs := rowsB c way ring n) (k := (c % 11).toNat) (x := rowB c way ring n) (by unfold rowB; rw [List.getD_eq_getElem?_getD, List.getElem?_eq_getElem k3]; rfl)
      rwa [Int.toNat_of_nonneg k1] at hh
    rw [show bentD c way ring n = _ from if_pos h]
    have hl : ∀ (ρ : List Sl), ρ[1]? = some (.dat (.lst (way.map Dat.int))) → Ev K (tCB (rLenQ K) (tCons (tVar 1) tNil)) ρ (.int way.length) ρ := fun ρ h1 => Ev.to (ev_lenL rfl (el_d (ev_var h1)) rfl) (by rw [lw2])
    exact ex_retW (ev_tupA (ea_d (ev_slL (el_d (ev_ixL (el_d (ev_var rfl)) (ev_var rfl) rfl hr)) eo_no (eo_some (hl _ rfl)) rfl) (ea_d (ev_slL (el_d (ev_ixL (el_d (ev_var rfl)) (ev_var rfl) rfl hr)) (eo_some (hl _ rfl)) eo_no rfl) ea_nil)) rfl (by show 2 ≤ 100000; decide)) rfl (by walk_at "le")
  · intro h
    rw [decide_eq_false_iff_not] at h
    rw [show bentD c way ring n = _ from if_neg h]
    walk_at "set"
    walk_at "nrm"
    rw [lr2]
    have e1 := cutD_len (way.map Dat.int) (some 1) none
    have e2 := cutD_len (ring.map Dat.int) none (some (1 + cutB c ring))
    have e3 := cutD_len (ring.map Dat.int) none (some (cutB c ring))
    have e4 := cutD_len (ring.map Dat.int) (some (cutB c ring)) none
    rw [lw2] at e1
    rw [lr2] at e2 e3 e4
    walk_at "set"
    all_goals first | (simp only [List.length_append, List.length_map, List.length_cons, List.length_nil]; omega) | skip
    walk_at "nrm"
    have hp : atI (pairsB c way ring) (c % 11 - 5) = some ((pairsB c way ring).getD (c % 11 - 5).toNat .non) := by
      have k3 : (c % 11 - 5).toNat < (pairsB c way ring).length := by show _ < 6; omega
      have hh := atI_nat (j := (c % 11 - 5).toNat) (xs := pairsB c way ring) (List.getElem?_eq_getElem k3)
      rw [Int.toNat_of_nonneg (by omega)] at hh
      rw [hh, List.getD_eq_getElem?_getD, List.getElem?_eq_getElem k3]
      rfl
    refine' ex_retW (ev_ixL (ds := pairsB c way ring) (el_d (ev_cat ?ma ?mb ?mc ?md ?me)) ?mf ?mg hp) rfl ?mh
    case' ma => walk_at "el"
    case' mb => walk_at "el"
    case' mc => exact rfl
    case' md => exact rfl
    case' mf => walk_at "ev"
    case' mg => exact rfl
    case' mh => walk_at "le"
    all_goals first | (simp only [List.length_append, List.length_map, List.length_cons, List.length_nil]; omega) | skip
    all_goals
      have e5 := cutD_len (ring.map Dat.int) none (some (c / 11 % (ring.length : Int)))
      rw [lr2] at e5
      rw [lw2]
      omega
theorem any_eqd_int (xs : List Int) (y : Int) : ((xs.map Dat.int).any fun e => eqd e (.int y)) = decide (y ∈ xs) := by
  induction xs with
  | nil => rfl
  | cons x xs ih =>
    rw [List.map_cons, List.any_cons, ih, eqd_int]
    by_cases h : x = y
    · subst h
      simp
    · have h2 : ¬ y = x := fun e => h e.symm
      simp [h, h2]
theorem nodup_bound : ∀ (n : Nat) (xs : List Int), xs.Nodup → (∀ x ∈ xs, 0 ≤ x ∧ x < n) → xs.length ≤ n
  | 0, [], _, _ => Nat.le_refl _
  | 0, x :: xs, _, h => by
    have := h x List.mem_cons_self
    omega
  | n + 1, xs, nd, h => by
    by_cases hm : (n : Int) ∈ xs
    · have k := nodup_bound n (xs.erase (n : Int)) (nd.erase _) fun x hx => by
        have h1 := h x (List.mem_of_mem_erase hx)
        have h2 : x ≠ n := fun e => by
          rw [e] at hx
          exact (List.Nodup.not_mem_erase nd) hx
        omega
      rw [List.length_erase_of_mem hm] at k
      omega
    · have k := nodup_bound n xs nd fun x hx => by
        have h1 := h x hx
        have h2 : x ≠ n := fun e => hm (e ▸ hx)
        omega
      omega
/-- the first of i, i + 1, .. for which p doesn't hold, within f -/
def firstNo (p : Nat → Bool) : Nat → Nat → Nat
  | 0, i => i
  | f + 1, i => if p i = true then firstNo p f (i + 1) else i
theorem firstNo_spec (p : Nat → Bool) : ∀ (f i : Nat), (∃ j, i ≤ j ∧ j < i + f ∧ p j = false) → p (firstNo p f i) = false ∧ i ≤ firstNo p f i ∧ firstNo p f i < i + f ∧ ∀ j, i ≤ j → j < firstNo p f i → p j = true
  | 0, i, ⟨j, h1, h2, _⟩ => by omega
  | f + 1, i, ⟨j, h1, h2, h3⟩ => by
    unfold firstNo
    by_cases h : p i = true
    · rw [if_pos h]
      have hj : i ≠ j := fun e => by rw [e, h3] at h; cases h
      obtain ⟨a, b, c, d⟩ := firstNo_spec p f (i + 1) ⟨j, by omega, by omega, h3⟩
      refine ⟨a, by omega, by omega, fun m m1 m2 => ?_⟩
      by_cases e : m = i
      · rw [e]; exact h
      · exact d m (by omega) m2
    · rw [if_neg h]
      refine ⟨by simpa using h, Nat.le_refl _, by omega, fun m m1 m2 => by omega⟩
def nextW (ns : List Int) (k : Nat) (m : Mach) (i : Nat) (x : Int) : Int := (rowI m x).getD (drawv ns (k + 2 + i) % ((rowI m x).length : Int)).toNat 0
def lastW (t : List Int) : Int := t.getD (t.length - 1) 0
def trailW (ns : List Int) (k : Nat) (m : Mach) : Nat → List Int
  | 0 => [m.begins.getD (drawv ns k % (m.begins.length : Int)).toNat 0]
  | i + 1 => trailW ns k m i ++ [nextW ns k m i (lastW (trailW ns k m i))]
def goesW (first : Int) (t : List Int) : Bool := decide ((t.length : Int) ≤ first) || !decide (lastW t ∈ t.dropLast)
def firstW (ns : List Int) (k most : Nat) : Int := drawv ns (k + 1) % (most : Int)
def turnsW (ns : List Int) (k : Nat) (m : Mach) (most : Nat) : Nat := firstNo (fun i => goesW (firstW ns k most) (trailW ns k m i)) 40 0
def atT (t : List Int) : Nat := if 2 < t.count (lastW t) then t.idxOf (lastW t) + 1 + (t.drop (t.idxOf (lastW t) + 1)).idxOf (lastW t) else t.idxOf (lastW t)
def wayT (t : List Int) : List Int := t.take (atT t)
def ringT (t : List Int) : List Int := t.dropLast.drop (atT t)
def endW (ns : List Int) (k : Nat) (m : Mach) (most : Nat) : List Int := trailW ns k m (turnsW ns k m most)
def walkD (t : List Int) : Dat := .tup [intsD (wayT t), intsD (ringT t)]
theorem choices_in {ns : List Int} {n : Int} (h : areChoices (intsD ns) n = true) : ns ≠ [] ∧ (∀ x ∈ ns, 0 ≤ x ∧ x < n) ∧ ns.Nodup := by
  have h : (!(ns.map Dat.int).isEmpty && (((ns.map Dat.int).all fun x => isPlace x n) && decide ((dInts (ns.map Dat.int)).Nodup))) = true := h
  rw [Bool.and_eq_true, Bool.and_eq_true, dInts_map, decide_eq_true_eq] at h
  refine ⟨fun e => by rw [e] at h; simp at h, fun x hx => ?_, h.2.2⟩
  have := List.all_eq_true.mp h.2.1 (.int x) (List.mem_map_of_mem hx)
  rw [isPlace_int, Bool.and_eq_true, decide_eq_true_eq, decide_eq_true_eq] at this
  exact this
theorem getD_mem {xs : List Int} {j : Nat} (h : j < xs.length) : xs.getD j 0 ∈ xs := by
  rw [List.getD_eq_getElem?_getD, List.getElem?_eq_getElem h]
  exact List.getElem_mem h
theorem mod_lt {x : Int} {n : Nat} (h : 0 < n) : (x % (n : Int)).toNat < n := by
  have h1 : 0 ≤ x % (n : Int) := Int.emod_nonneg _ (by omega)
  have h2 : x % (n : Int) < n := Int.emod_lt_of_pos _ (by omega)
  omega
theorem row_ok {m : Mach} (ok : m.Ok) {x : Int} (h0 : 0 ≤ x) (h1 : x < m.marks.length) : rowI m x ≠ [] ∧ (∀ y ∈ rowI m x, 0 ≤ y ∧ y < m.marks.length) ∧ (rowI m x).Nodup ∧ (rowI m x).length ≤ 12 := by
  have hl : x.toNat < m.ways.length := by rw [ok.nw]; omega
  have hm : rowI m x ∈ m.ways := by
    unfold rowI
    rw [List.getD_eq_getElem?_getD, List.getElem?_eq_getElem hl]
    exact List.getElem_mem hl
  obtain ⟨a, b, c⟩ := choices_in (ok.nc _ hm)
  exact ⟨a, b, c, (ok.nr _ hm).2⟩
theorem trail_len (ns : List Int) (k : Nat) (m : Mach) : ∀ i, (trailW ns k m i).length = i + 1
  | 0 => rfl
  | i + 1 => by
    show (trailW ns k m i ++ [_]).length = _
    rw [List.length_append, trail_len ns k m i]
    rfl
theorem last_mem {t : List Int} (h : 0 < t.length) : lastW t ∈ t := getD_mem (by omega)
theorem trail_in {ns : List Int} {k : Nat} {m : Mach} (ok : m.Ok) : ∀ i, ∀ z ∈ trailW ns k m i, 0 ≤ z ∧ z < m.marks.length
  | 0, z, hz => by
    obtain ⟨a, b, _⟩ := choices_in ok.nd
    have hz : z ∈ [_] := hz
    rw [List.mem_singleton] at hz
    subst hz
    exact b _ (getD_mem (mod_lt (List.length_pos_iff.mpr a)))
  | i + 1, z, hz => by
    rcases List.mem_append.mp hz with hz | hz
    · exact trail_in ok i z hz
    · rw [List.mem_singleton] at hz
      subst hz
      have hl := trail_in ok i _ (last_mem (t := trailW ns k m i) (by rw [trail_len ns k m i]; omega))
      obtain ⟨a, b, _⟩ := row_ok ok hl.1 hl.2
      exact b _ (getD_mem (mod_lt (List.length_pos_iff.mpr a)))
theorem last_snoc (t : List Int) (y : Int) : lastW (t ++ [y]) = y := by
  unfold lastW
  rw [List.length_append, List.getD_eq_getElem?_getD]
  simp
theorem turns_ex {ns : List Int} {k : Nat} {m : Mach} {most : Nat} (ok : m.Ok) (h1 : 1 ≤ most) (h2 : most ≤ 20) : ∃ j, 0 ≤ j ∧ j < 0 + 40 ∧ goesW (firstW ns k most) (trailW ns k m j) = false := by
  have f1 : 0 ≤ firstW ns k most := Int.emod_nonneg _ (by omega)
  have f2 : firstW ns k most < most := Int.emod_lt_of_pos _ (by omega)
  generalize firstW ns k most = f at *
  by_cases hno : ∃ j, 0 ≤ j ∧ j < 0 + 40 ∧ goesW f (trailW ns k m j) = false
  · exact hno
  · exfalso
    have all : ∀ j, j < 40 → goesW f (trailW ns k m j) = true := fun j hj => by
      cases q : goesW f (trailW ns k m j) with
      | true => rfl
      | false => exact absurd ⟨j, Nat.zero_le _, by omega, q⟩ hno
    have nd : ∀ d, f.toNat + d < 40 → ((trailW ns k m (f.toNat + d)).drop f.toNat).Nodup := by
      intro d
      induction d with
      | zero =>
        intro _
        have hl := trail_len ns k m (f.toNat + 0)
        have : ((trailW ns k m (f.toNat + 0)).drop f.toNat).length = 1 := by rw [List.length_drop, hl]; omega
        match (trailW ns k m (f.toNat + 0)).drop f.toNat, this with
        | [x], _ => simp
      | succ d ih =>
        intro hd
        have hg := all (f.toNat + d + 1) hd
        have hl := trail_len ns k m (f.toNat + d)
        have e : trailW ns k m (f.toNat + d + 1) = trailW ns k m (f.toNat + d) ++ [nextW ns k m (f.toNat + d) (lastW (trailW ns k m (f.toNat + d)))] := rfl
        show ((trailW ns k m (f.toNat + d + 1)).drop f.toNat).Nodup
        rw [e] at hg ⊢
        generalize nextW ns k m (f.toNat + d) (lastW (trailW ns k m (f.toNat + d))) = y at hg
        unfold goesW at hg
        rw [last_snoc, List.dropLast_concat, List.length_append, hl, decide_eq_false (by simp; omega)] at hg
        have hy : y ∉ trailW ns k m (f.toNat + d) := by simpa using hg
        rw [List.drop_append_of_le_length (by omega), List.nodup_append]
        refine ⟨ih (by omega), by simp, fun a ha b hb => ?_⟩
        rw [List.mem_singleton] at hb
        subst hb
        exact fun q => hy (q ▸ List.mem_of_mem_drop ha)
    have h := nodup_bound m.marks.length _ (nd (39 - f.toNat) (by omega)) fun x hx => trail_in ok _ x (List.mem_of_mem_drop hx)
    rw [List.length_drop, trail_len] at h
    have := ok.n2
    omega
theorem turns_ok {ns : List Int} {k : Nat} {m : Mach} {most : Nat} (ok : m.Ok) (h1 : 1 ≤ most) (h2 : most ≤ 20) :
    goesW (firstW ns k most) (endW ns k m most) = false ∧ turnsW ns k m most < 40 ∧ ∀ j, j < turnsW ns k m most → goesW (firstW ns k most) (trailW ns k m j) = true := by
  obtain ⟨a, b, c, d⟩ := firstNo_spec (fun i => goesW (firstW ns k most) (trailW ns k m i)) 40 0 (turns_ex ok h1 h2)
  exact ⟨a, (Nat.zero_add 40 ▸ c : _ < 40), fun j hj => d j (Nat.zero_le _) hj⟩
structure Ring (t : List Int) : Prop where
  lt : atT t + 1 < t.length
  eq : t[atT t]? = some (lastW t)
theorem lastW_get {t : List Int} (h : 0 < t.length) : t[t.length - 1]? = some (lastW t) := by
  unfold lastW
  rw [List.getD_eq_getElem?_getD, List.getElem?_eq_getElem (by omega)]
  rfl
theorem drop_split {t : List Int} {a : Nat} {x : Int} (h : t[a]? = some x) : t = t.take a ++ x :: t.drop (a + 1) := by
  obtain ⟨hl, e⟩ := List.getElem?_eq_some_iff.mp h
  rw [← e, List.getElem_cons_drop_succ_eq_drop]
  simp
theorem idx_get {t : List Int} {x : Int} (h : x ∈ t) : t.idxOf x < t.length ∧ t[t.idxOf x]? = some x ∧ ∀ m, m < t.idxOf x → t[m]? ≠ some x := by
  have hl := List.idxOf_lt_length_of_mem h
  refine ⟨hl, by rw [List.getElem?_eq_getElem hl, List.getElem_idxOf], fun m hm e => ?_⟩
  obtain ⟨hl2, e2⟩ := List.getElem?_eq_some_iff.mp e
  have := List.not_of_lt_findIdx (p := (· == x)) (xs := t) (by exact hm)
  simp [e2] at this
theorem ring_of {t : List Int} (h : lastW t ∈ t.dropLast) : Ring t ∧ t.idxOf (lastW t) + 1 < t.length := by
  have hpos : 0 < t.length := by
    cases t with
    | nil => cases h
    | cons _ _ => simp
  obtain ⟨i1, i2, i3⟩ := idx_get h
  rw [List.length_dropLast] at i1
  have hmem : lastW t ∈ t := List.dropLast_subset _ h
  obtain ⟨j1, j2, j3⟩ := idx_get hmem
  have hj : t.idxOf (lastW t) + 1 < t.length := by
    have : ¬ t.dropLast.idxOf (lastW t) < t.idxOf (lastW t) := fun q => by
      refine j3 _ q ?_
      rw [List.getElem?_dropLast, if_pos (by omega)] at i2
      exact i2
    omega
  refine ⟨?_, hj⟩
  generalize hy : lastW t = y at *
  by_cases hc : 2 < t.count y
  · have ha : atT t = t.idxOf y + 1 + (t.drop (t.idxOf y + 1)).idxOf y := by
      unfold atT
      rw [hy, if_pos hc]
    -- two more behind the first
    have sp := drop_split j2
    have c0 : (t.take (t.idxOf y)).count y = 0 := by
      rw [List.count_eq_zero]
      intro q
      obtain ⟨n, hn, e⟩ := List.getElem_of_mem q
      rw [List.length_take] at hn
      rw [List.getElem_take] at e
      exact j3 n (by omega) (by rw [List.getElem?_eq_getElem (by omega), e])
    have c1 : 2 ≤ (t.drop (t.idxOf y + 1)).count y := by
      have := congrArg (List.count y) sp
      rw [List.count_append, c0, List.count_cons_self] at this
      omega
    generalize hu : t.drop (t.idxOf y + 1) = u at *
    have hul : u.length = t.length - (t.idxOf y + 1) := by rw [← hu, List.length_drop]
    have um : y ∈ u := List.count_pos_iff.mp (by omega)
    obtain ⟨k1, k2, k3⟩ := idx_get um
    have k4 : u.idxOf y + 1 < u.length := by
      have sp2 := drop_split k2
      have d0 : (u.take (u.idxOf y)).count y = 0 := by
        rw [List.count_eq_zero]
        intro q
        obtain ⟨n, hn, e⟩ := List.getElem_of_mem q
        rw [List.length_take] at hn
        rw [List.getElem_take] at e
        exact k3 n (by omega) (by rw [List.getElem?_eq_getElem (by omega), e])
      have d1 : 1 ≤ (u.drop (u.idxOf y + 1)).count y := by
        have := congrArg (List.count y) sp2
        rw [List.count_append, d0, List.count_cons_self] at this
        omega
      have := List.count_le_length (a := y) (l := u.drop (u.idxOf y + 1))
      rw [List.length_drop] at this
      omega
    refine ⟨by rw [ha]; omega, ?_⟩
    rw [ha, hy, ← List.getElem?_drop, hu]
    exact k2
  · have ha : atT t = t.idxOf y := by
      unfold atT
      rw [hy, if_neg hc]
    exact ⟨by rw [ha]; exact hj, by rw [ha, hy]; exact j2⟩
theorem sIx_neg1 (n d : Nat) : HT.sIx n d (some (-1)) = n - 1 := by
  simp only [HT.sIx]
  rw [if_pos (by decide)]
  omega
theorem sIx_nat (n d : Nat) (a : Nat) : HT.sIx n d (some (a : Int)) = min a n := by
  simp only [HT.sIx]
  rw [if_neg (by omega)]
  omega
theorem cutD_last (xs : List Dat) : cutD xs none (some (-1)) = xs.dropLast := by
  unfold cutD
  rw [sIx_neg1, List.dropLast_eq_take]
  simp [HT.sIx]
theorem cutD_to (xs : List Dat) (a : Nat) : cutD xs none (some (a : Int)) = xs.take a := by
  unfold cutD
  rw [sIx_nat]
  show (List.drop 0 xs).take (min a xs.length - 0) = _
  rw [List.drop_zero, Nat.sub_zero, ← List.take_take, List.take_length]
theorem cutD_fromLast (xs : List Dat) (a : Nat) (h : a < xs.length) : cutD xs (some (a : Int)) (some (-1)) = xs.dropLast.drop a := by
  unfold cutD
  rw [sIx_neg1, sIx_nat, Nat.min_eq_left (by omega), List.dropLast_eq_take, List.drop_take]
theorem atI_last {t : List Int} (h : 0 < t.length) : atI (t.map Dat.int) (-1) = some (.int (lastW t)) := by
  have e : ixN t.length (-1) = some (t.length - 1) := by
    unfold ixN
    rw [if_neg (by decide), if_pos (by omega)]
    exact congrArg some (by omega)
  unfold L2.atI
  rw [List.length_map, e]
  show (t.map Dat.int)[t.length - 1]? = _
  rw [List.getElem?_map, lastW_get h]
  rfl
theorem atI_modI {xs : List Int} {x : Int} (h : 0 < xs.length) : atI (xs.map Dat.int) (x % (xs.length : Int)) = some (.int (xs.getD (x % (xs.length : Int)).toNat 0)) := by
  have h1 : 0 ≤ x % (xs.length : Int) := Int.emod_nonneg _ (by omega)
  have hh := at_map (f := Dat.int) (xs := xs) (k := (x % (xs.length : Int)).toNat) (x := xs.getD (x % (xs.length : Int)).toNat 0) (by rw [List.getD_eq_getElem?_getD, List.getElem?_eq_getElem (mod_lt h)]; rfl)
  rwa [Int.toNat_of_nonneg h1] at hh
def R_walk : List Sl → Dat → List Sl → Prop := fun as d as' => ∃ (ns : List Int) (k : Nat) (m : Mach) (most : Nat), as = [.dat (.scr ns), .par 0 [.int k], .dat m.enc, .dat (.int most)] ∧ d = walkD (endW ns k m most) ∧ as' = [.no, .par 0 [.int (k + 2 + turnsW ns k m most : Nat)], .no, .no] ∧ m.Ok ∧ 1 ≤ most ∧ most ≤ 20
theorem len_walk : ∀ as d as', R_walk as d as' → as.length = 4 := by
  rintro as d as' ⟨_, _, _, _, rfl, _⟩
  rfl
abbrev s_walk : Stmt := topS 24
theorem sc_walk : FnScope ["_law_script", "_law_spot", "_law_machine_here", "_law_most", "_law_marks", "_law_ways", "_law_begins", "_law_trail", "_law_first", "_law_row", "_law_at"] ["_law_script", "_law_spot", "_law_machine_here", "_law_most"] (defScope s_walk) := ⟨rfl, rfl, rfl, by decide +kernel, rfl, by decide +kernel, by decide +kernel⟩
theorem ok_walk {f : Addr} {fd : FuncData} (F : Fun K "_law_walk" "_law_walk" s_walk f fd) (T : Tx K mg C_BadMachine C_BadSaying C_Machine C_NoWalk C_TooMany C_WalkError) {a_draw : Addr} {fd_draw : FuncData} (c_draw : Cal P w K mg base "_law_draw" 1 ["_law_script", "_law_spot"] (spG K R_draw) a_draw fd_draw) : FnOk P w K mg base CX0 2 f fd ["_law_script", "_law_spot", "_law_machine_here", "_law_most"] (spG K R_walk) := by
  have nd := sc_walk.nd
  refine F.ok sc_walk (spG_len len_walk) (fun cdv A outer s H vs Q E hr h => ?_)
  have hu := hr.units
  have hu5 := unit5 hr
  refine ⟨_, (pss_cons (ps_asg (pv 2) (kgTup K (pg_tup (n := 3) (by rfl) (pgs_cons (pg_name (i := 4) nd rfl (by first | exact Or.inl rfl | exact Or.inr rfl)) (pgs_cons (pg_name (i := 5) nd rfl (by first | exact Or.inl rfl | exact Or.inr rfl)) (pgs_cons (pg_name (i := 6) nd rfl (by first | exact Or.inl rfl | exact Or.inr rfl)) pgs_nil))))))
      (pss_cons (ps_set (i := 7) nd rfl (by first | exact Or.inl rfl | exact Or.inr rfl) (pe_lst (pa_cons (pe_ix (kIxL K) (pv 6) (pe_op op_mod (pe_call c_draw.ok (hr.mono (by omega)) (by rfl) c_draw.g c_draw.kp c_draw.b .nil pass0 (pa_cons (pv 0) (pa_cons (pv 1) pa_nil))) (pe_callB (kLen K) (by rfl) T.b_len PySem.boot_len (pa_cons (pv 6) pa_nil))) (fun _ _ => rfl)) pa_nil)))
      (pss_cons (ps_set (i := 8) nd rfl (by first | exact Or.inl rfl | exact Or.inr rfl) (pe_op op_mod (pe_call c_draw.ok (hr.mono (by omega)) (by rfl) c_draw.g c_draw.kp c_draw.b .nil pass0 (pa_cons (pv 0) (pa_cons (pv 1) pa_nil))) (pv 3)))
      (pss_cons (ps_while PassesOwn.never (PW.pt (pw_or (pt_cmpR op_le (pe_callB (kLen K) (by rfl) T.b_len PySem.boot_len (pa_cons (pv 7) pa_nil)) (pv 8) (nomark _)) (pw_or1 (pt_cmpR (kNotInD K hu5) (pe_ix (kIxL K) (pv 7) (pe_un un_neg pe_int) (fun _ _ => rfl)) (pe_slice (kSlL K) (pv 7) po_none (po_some (pe_un un_neg pe_int))) (by with_unfolding_all rfl))))) (pss_cons (ps_set (i := 9) nd rfl (by first | exact Or.inl rfl | exact Or.inr rfl) (pe_ix (kIxL K) (pv 5) (pe_ix (kIxL K) (pv 7) (pe_un un_neg pe_int) (fun _ _ => rfl)) (fun _ _ => rfl)))
      (pss_one (ps_expr (kBM K (pe_bm PySem.F.plainAttrs_list PySem.F.slot_list_append PySem.F.type_list_append mt_append (pv 7) (pa_cons (pe_ix (kIxL K) (pv 9) (pe_op op_mod (pe_call c_draw.ok (hr.mono (by omega)) (by rfl) c_draw.g c_draw.kp c_draw.b .nil pass0 (pa_cons (pv 0) (pa_cons (pv 1) pa_nil))) (pe_callB (kLen K) (by rfl) T.b_len PySem.boot_len (pa_cons (pv 9) pa_nil))) (fun _ _ => rfl)) pa_nil)))))))
      (pss_cons (ps_set (i := 10) nd rfl (by first | exact Or.inl rfl | exact Or.inr rfl) (kBM K (pe_bm PySem.F.plainAttrs_list PySem.F.slot_list_index PySem.F.type_list_index (kIndex K) (pv 7) (pa_cons (pe_ix (kIxL K) (pv 7) (pe_un un_neg pe_int) (fun _ _ => rfl)) pa_nil))))
      (pss_cons (ps_if (pt_cmpR op_gt (kBM K (pe_bm PySem.F.plainAttrs_list PySem.F.slot_list_count PySem.F.type_list_count (kCount K) (pv 7) (pa_cons (pe_ix (kIxL K) (pv 7) (pe_un un_neg pe_int) (fun _ _ => rfl)) pa_nil))) pe_int (nomark _)) (pss_one (ps_set (i := 10) nd rfl (by first | exact Or.inl rfl | exact Or.inr rfl) (kBM K (pe_bm PySem.F.plainAttrs_list PySem.F.slot_list_index PySem.F.type_list_index (kIndexF K) (pv 7) (pa_cons (pe_ix (kIxL K) (pv 7) (pe_un un_neg pe_int) (fun _ _ => rfl)) (pa_cons (pe_op op_add (pv 10) pe_int) pa_nil)))))) pss_nil)
      (pss_one (ps_ret (pe_tup (pa_cons (pe_slice (kSlL K) (pv 7) po_none (po_some (pv 10))) (pa_cons (pe_slice (kSlL K) (pv 7) (po_some (pv 10)) (po_some (pe_un un_neg pe_int))) pa_nil))))))))))), ?_⟩
  refine body_ok h len_walk fun as d as' hR => ?_
  obtain ⟨ns, k, m, most, rfl, rfl, rfl, ok, h1, h2⟩ := hR
  obtain ⟨go, gt, gs⟩ := turns_ok (ns := ns) (k := k) ok h1 h2
  obtain ⟨bne, bin, _⟩ := choices_in ok.nd
  have b0 := List.length_pos_iff.mpr bne
  have n2 := ok.n2
  have hK : ∀ i, (trailW ns k m i).length = i + 1 := trail_len ns k m
  have hT : ∀ i, (trailW ns k m (i + 1)) = trailW ns k m i ++ [nextW ns k m i (lastW (trailW ns k m i))] := fun _ => rfl
  walk_at "body"
  refine ex_seq (ex_set3 (d1 := .lst (marksD m)) (d2 := .lst (waysD m)) (d3 := intsD m.begins) (ev_var rfl) rfl rfl rfl) ?_
  walk_at "nrm"
  refine' ex_seq (ex_setF (ds := (trailW ns k m 0).map Dat.int) (ef_lstA (ea_d (ev_ixL (el_d (ev_var rfl)) (ev_i (j := m.begins.length) ?a1 ?a2 ?a3) ?a9 ?a4) ea_nil) ?a5 ?a6) ?a7) ?a8
  case' a1 => walk_at "draw"
  case' a2 => exact Ev.to (ev_lenL (ds := m.begins.map Dat.int) rfl (el_d (d := intsD m.begins) (ev_var rfl)) rfl) (by rw [List.length_map])
  case a3 => show (0 : Int) < _; omega
  case' a9 => exact rfl
  case' a4 => exact atI_modI b0
  case a5 => rfl
  case a6 => exact (by decide : 1 ≤ 100000)
  case a7 => rfl
  walk_at "nrm"
  refine' ex_seq (ex_set (d := .int (firstW ns k most)) (ev_i (j := most) ?b1 ?b2 ?b3) ?b4) ?b8
  case' b1 => walk_at "draw"
  case' b2 => exact ev_var rfl
  case' b4 => exact rfl
  case b3 => show (0 : Int) < _; omega
  walk_at "nrm"
  have hgo : ∀ (f : Int) (i : Nat), (decide (((List.map Dat.int (trailW ns k m i)).length : Int) ≤ f) || !(cutD (List.map Dat.int (trailW ns k m i)) none (some (-1))).any fun e => eqd e (Dat.int (lastW (trailW ns k m i)))) = goesW f (trailW ns k m i) := fun f i => by
    rw [cutD_last, ← List.map_dropLast, any_eqd_int, List.length_map]
    rfl
  refine' ex_seq (ex_while (n := turnsW ns k m most) (fun i => [.dat (.scr ns), .par 0 [.int (k + 2 + i : Nat)], .dat m.enc, .dat (.int most), .dat (.lst (marksD m)), .dat (.lst (waysD m)), .dat (intsD m.begins),
      .own ((trailW ns k m i).map Dat.int), .dat (.int (firstW ns k most)), .no, .no]) rfl (fun i hi => ⟨_, ?c1, ?c2⟩) (.done ?c3)) ?c4
  case' c1 =>
    refine' EvT.to (et_or (et_test ?d1) fun _ => et_test (ev_notIn (ev_ixL ?d2 ?d3 ?d4 (atI_last (t := trailW ns k m i) (by rw [hK]; omega))) (el_d (ev_slL ?d5 eo_no (eo_some ?d6) ?d7)) rfl ?d8 ?d9)) ?d10
    case' d1 => walk_at "ev"
    case' d2 => walk_at "el"
    case' d3 => walk_at "ev"
    case' d4 => exact rfl
    case' d5 => walk_at "el"
    case' d6 => walk_at "ev"
    case' d7 => exact rfl
    case d10 => exact (hgo _ _).trans (gs i hi)
    case d8 => simp only [Shp]
    case d9 => rw [cutD_last, ← List.map_dropLast]; exact shp_ints _
  case' c3 =>
    refine' EvT.to (et_or (et_test ?g1) fun _ => et_test (ev_notIn (ev_ixL ?g2 ?g3 ?g4 (atI_last (t := trailW ns k m (turnsW ns k m most)) (by rw [hK]; omega))) (el_d (ev_slL ?g5 eo_no (eo_some ?g6) ?g7)) rfl ?g8 ?g9)) ?g10
    case' g1 => walk_at "ev"
    case' g2 => walk_at "el"
    case' g3 => walk_at "ev"
    case' g4 => exact rfl
    case' g5 => walk_at "el"
    case' g6 => walk_at "ev"
    case' g7 => exact rfl
    case g10 => exact (hgo _ _).trans go
    case g8 => simp only [Shp]
    case g9 => rw [cutD_last, ← List.map_dropLast]; exact shp_ints _
  case' c2 =>
    have hi2 := trail_in ok i _ (last_mem (t := trailW ns k m i) (by rw [hK i]; omega))
    obtain ⟨rne, rin, _, r12⟩ := row_ok ok hi2.1 hi2.2
    have r0 := List.length_pos_iff.mpr rne
    have hrow : atI (waysD m) (lastW (trailW ns k m i)) = some (intsD (rowI m (lastW (trailW ns k m i)))) := by
      have hh := at_map (f := intsD) (xs := m.ways) (k := (lastW (trailW ns k m i)).toNat) (x := rowI m (lastW (trailW ns k m i))) (by unfold rowI; rw [List.getD_eq_getElem?_getD, List.getElem?_eq_getElem (by rw [ok.nw]; omega)]; rfl)
      rwa [Int.toNat_of_nonneg hi2.1] at hh
    rw [hT i]
    have hx : nextW ns k m i (lastW (trailW ns k m i)) = (rowI m (lastW (trailW ns k m i))).getD (drawv ns (k + 2 + i) % ((rowI m (lastW (trailW ns k m i))).length : Int)).toNat 0 := rfl
    rw [hx]
    have hli := hK i
    generalize rowI m (lastW (trailW ns k m i)) = row at *
    refine' Ex.weak (ex_seq (ex_set (d := intsD row) (ev_ixL ?e1 (ev_ixL ?e2 ?e3 ?e4 (atI_last (t := trailW ns k m i) (by omega))) ?e5 hrow) ?e6) (ex_append (d := .int (row.getD (drawv ns (k + 2 + i) % (row.length : Int)).toNat 0)) (ds := (trailW ns k m i).map Dat.int) (ev_ixL ?f1 (ev_i (j := row.length) ?f2 ?f3 ?f4) ?f5 (atI_modI r0)) ?f6 ?f7 ?f8 ?f9)) ?f10
    case' e1 => walk_at "el"
    case' e2 => walk_at "el"
    case' e3 => walk_at "ev"
    case' e4 => exact rfl
    case' e5 => exact rfl
    case' e6 => exact rfl
    case' f1 => exact el_d (ev_var (d := intsD row) rfl)
    case' f2 => walk_at "draw"
    case' f3 => exact Ev.to (ev_lenL (ds := row.map Dat.int) rfl (el_d (d := intsD row) (ev_var rfl)) rfl) (by rw [List.length_map])
    case' f4 => show (0 : Int) < _; omega
    case' f5 => exact rfl
    case' f6 => exact ⟨_, rfl, rfl⟩
    case' f7 => exact rfl
    case' f8 => exact rfl
    case' f9 => rw [List.length_map]; omega
    case' f10 =>
      walk_at "nrm"
      rw [List.map_append]
      walk_at "le"
  case' c4 =>
    have hlen : (endW ns k m most).length = turnsW ns k m most + 1 := hK _
    have hl0 : 0 < (endW ns k m most).length := by omega
    have hmem : lastW (endW ns k m most) ∈ (endW ns k m most).dropLast := by
      have := go
      unfold goesW at this
      rw [Bool.or_eq_false_iff] at this
      simpa using this.2
    obtain ⟨rg, hidx⟩ := ring_of hmem
    have rlt := rg.lt
    obtain ⟨j1, j2, j3⟩ := idx_get (last_mem hl0)
    have hlast := atI_last hl0
    show Ex K _ [.dat (.scr ns), .par 0 [.int (k + 2 + turnsW ns k m most : Nat)], .dat m.enc, .dat (.int most), .dat (.lst (marksD m)), .dat (.lst (waysD m)), .dat (intsD m.begins),
      .own ((endW ns k m most).map Dat.int), .dat (.int (firstW ns k most)), .no, .no] (.rt (walkD (endW ns k m most)) _)
    generalize endW ns k m most = t at *
    refine' ex_seq (ex_set (ev_index (zs := t) ?h1 (ev_ixL ?h2 ?h3 ?h4 hlast) ?h5 ?h6 j2 j3) ?h7) ?h8
    case' h1 => walk_at "el"
    case' h2 => walk_at "el"
    case' h3 => walk_at "ev"
    case' h4 => exact rfl
    case' h5 => exact rfl
    case' h6 => exact rfl
    case' h7 => exact rfl
    walk_at "nrm"
    refine' ex_seq (ex_if (a := decide (2 < t.count (lastW t))) (o := .nx [.dat (.scr ns), .par 0 [.int (k + 2 + turnsW ns k m most : Nat)], .dat m.enc, .dat (.int most), .dat (.lst (marksD m)), .dat (.lst (waysD m)), .dat (intsD m.begins),
      .own (t.map Dat.int), .dat (.int (firstW ns k most)), .no, .dat (.int (atT t : Nat))]) (EvT.to (et_test (ev_b0 (ev_count (zs := t) ?i1 (ev_ixL ?i2 ?i3 ?i4 hlast) ?i5 ?i6) ?i7)) ?i8) (fun hq => ?i9) (fun hq => ?i10)) ?i11
    case' i1 => walk_at "el"
    case' i2 => walk_at "el"
    case' i3 => walk_at "ev"
    case' i4 => exact rfl
    case' i5 => exact rfl
    case' i6 => exact rfl
    case' i7 => walk_at "ev"
    case i8 => exact decide_eq_decide.mpr (by omega)
    case i9 =>
      rw [decide_eq_true_eq] at hq
      have ha : atT t = t.idxOf (lastW t) + 1 + (t.drop (t.idxOf (lastW t) + 1)).idxOf (lastW t) := by
        unfold atT
        rw [if_pos hq]
      have hmd : lastW t ∈ t.drop (t.idxOf (lastW t) + 1) := by
        have e := rg.eq
        rw [List.mem_iff_getElem?]
        refine ⟨(t.drop (t.idxOf (lastW t) + 1)).idxOf (lastW t), ?_⟩
        rw [List.getElem?_drop, ← ha]
        exact e
      obtain ⟨k1, k2, k3⟩ := idx_get hmd
      rw [List.getElem?_drop, ← ha] at k2
      have k4 : ∀ n, t.idxOf (lastW t) + 1 ≤ n → n < atT t → t[n]? ≠ some (lastW t) := fun n hn1 hn2 e => by
        refine k3 (n - (t.idxOf (lastW t) + 1)) (by omega) ?_
        rw [List.getElem?_drop, ← e]
        exact congrArg _ (by omega)
      refine' Ex.to (ex_set (ev_indexF (zs := t) (lo := t.idxOf (lastW t) + 1) ?l1 (ev_ixL ?l2 ?l3 ?l4 hlast) ?l9 ?l5 ?l6 (by omega) k2 k4) ?l7) ?l8
      case' l1 => walk_at "el"
      case' l2 => walk_at "el"
      case' l3 => walk_at "ev"
      case' l4 => exact rfl
      case' l9 => exact Ev.to (ev_i0 (i := (t.idxOf (lastW t) : Nat)) (j := 1) (ev_var rfl) ev_int) (by rw [Int.natCast_add]; rfl)
      case' l5 => exact rfl
      case' l6 => exact rfl
      case' l7 => exact rfl
      case' l8 => rfl
    case i10 =>
      rw [decide_eq_false_iff_not] at hq
      have ha : atT t = t.idxOf (lastW t) := by
        unfold atT
        rw [if_neg hq]
      rw [ha]
      exact ex_next
    case i11 =>
      refine' ex_retW (ev_tupA (ea_d (ev_slL ?m1 eo_no (eo_some ?m2) ?m3) (ea_d (ev_slL ?m4 (eo_some ?m5) (eo_some ?m6) ?m7) ea_nil)) rfl ?m8) ?m9 ?m10
      case' m1 => walk_at "el"
      case' m2 => walk_at "ev"
      case' m3 => exact rfl
      case' m4 => walk_at "el"
      case' m5 => walk_at "ev"
      case' m6 => walk_at "ev"
      case' m7 => exact rfl
      case m8 => exact (by decide : 2 ≤ 100000)
      case' m10 => walk_at "le"
      case m9 =>
        rw [cutD_to, cutD_fromLast _ _ (by rw [List.length_map]; omega), ← List.map_take, ← List.map_dropLast, ← List.map_drop]
        rfl
theorem row_at {m : Mach} (ok : m.Ok) {x : Int} (h0 : 0 ≤ x) (h1 : x < m.marks.length) : atI (waysD m) x = some (intsD (rowI m x)) := by
  have hh := at_map (f := intsD) (xs := m.ways) (k := x.toNat) (x := rowI m x) (by unfold rowI; rw [List.getD_eq_getElem?_getD, List.getElem?_eq_getElem (by rw [ok.nw]; omega)]; rfl)
  rwa [Int.toNat_of_nonneg h0] at hh
theorem okI_cons (m : Mach) (a b : Int) (l : List Int) : okI m (a :: b :: l) = (decide (b ∈ rowI m a) && okI m (b :: l)) := by
  show (((a :: b :: l).zip (b :: l)).all _) = _
  rw [List.zip_cons_cons, List.all_cons, any_eqd_int]
  rfl
theorem last_cons (a b : Int) (l : List Int) : lastW (a :: b :: l) = lastW (b :: l) := by
  unfold lastW
  simp
theorem okI_snoc (m : Mach) (y : Int) : ∀ t : List Int, t ≠ [] → okI m t = true → y ∈ rowI m (lastW t) → okI m (t ++ [y]) = true
  | [], h, _, _ => absurd rfl h
  | [a], _, _, hy => by
    rw [show [a] ++ [y] = a :: y :: [] from rfl, okI_cons, decide_eq_true (show y ∈ rowI m a from hy)]
    rfl
  | a :: b :: l, _, h, hy => by
    rw [okI_cons, Bool.and_eq_true, decide_eq_true_eq] at h
    rw [last_cons] at hy
    rw [show a :: b :: l ++ [y] = a :: b :: (l ++ [y]) from rfl, okI_cons, decide_eq_true h.1, Bool.true_and]
    exact okI_snoc m y (b :: l) (by simp) h.2 hy
theorem trail_ok {ns : List Int} {k : Nat} {m : Mach} (ok : m.Ok) : ∀ i, okI m (trailW ns k m i) = true ∧ (trailW ns k m i).getD 0 0 ∈ m.begins
  | 0 => ⟨rfl, by
    obtain ⟨a, b, _⟩ := choices_in ok.nd
    exact getD_mem (mod_lt (List.length_pos_iff.mpr a))⟩
  | i + 1 => by
    obtain ⟨h1, h2⟩ := trail_ok ok i
    have hl := trail_in ok i _ (last_mem (t := trailW ns k m i) (by rw [trail_len ns k m i]; omega))
    obtain ⟨a, b, _⟩ := row_ok ok hl.1 hl.2
    have hne : trailW ns k m i ≠ [] := fun e => by
      have := trail_len ns k m i
      rw [e] at this
      simp at this
    refine ⟨okI_snoc m _ _ hne h1 (getD_mem (mod_lt (List.length_pos_iff.mpr a))), ?_⟩
    show (trailW ns k m i ++ [_]).getD 0 0 ∈ _
    generalize trailW ns k m i = t at *
    cases t with
    | nil => exact absurd rfl hne
    | cons x t => exact h2
theorem end_ok {ns : List Int} {k : Nat} {m : Mach} {most : Nat} (ok : m.Ok) (h1 : 1 ≤ most) (h2 : most ≤ 20) :
    isWalk m (intsD (wayT (endW ns k m most))) (intsD (ringT (endW ns k m most))) = true ∧ (wayT (endW ns k m most)).length ≤ 40 ∧ (ringT (endW ns k m most)).length ≤ 40 ∧ 1 ≤ (ringT (endW ns k m most)).length := by
  obtain ⟨go, gt, gs⟩ := turns_ok (ns := ns) (k := k) ok h1 h2
  have hlen : (endW ns k m most).length = turnsW ns k m most + 1 := trail_len ns k m _
  have hin := trail_in (ns := ns) (k := k) ok (turnsW ns k m most)
  have hok := trail_ok (ns := ns) (k := k) ok (turnsW ns k m most)
  have hmem : lastW (endW ns k m most) ∈ (endW ns k m most).dropLast := by
    have := go
    unfold goesW at this
    rw [Bool.or_eq_false_iff] at this
    simpa using this.2
  obtain ⟨⟨rlt, req⟩, hidx⟩ := ring_of hmem
  have hin : ∀ z ∈ endW ns k m most, 0 ≤ z ∧ z < m.marks.length := hin
  have hok : okI m (endW ns k m most) = true ∧ (endW ns k m most).getD 0 0 ∈ m.begins := hok
  generalize endW ns k m most = t at *
  have hsplit : t = t.dropLast ++ [lastW t] := by
    have hne : t ≠ [] := fun e => by rw [e] at hlen; simp at hlen
    have e := List.dropLast_concat_getLast hne
    have : t.getLast hne = lastW t := by
      rw [List.getLast_eq_getElem]
      unfold lastW
      rw [List.getD_eq_getElem?_getD, List.getElem?_eq_getElem (by omega)]
      rfl
    rw [this] at e
    exact e.symm
  have hdl : t.dropLast.length = t.length - 1 := List.length_dropLast
  have hd : t.dropLast = wayT t ++ ringT t := by
    unfold wayT ringT
    have : t.take (atT t) = t.dropLast.take (atT t) := by
      rw [List.dropLast_eq_take, List.take_take, Nat.min_eq_left (by omega)]
    rw [this, List.take_append_drop]
  have hr1 : (ringT t).take 1 = [lastW t] := by
    unfold ringT
    have : (t.dropLast.drop (atT t))[0]? = some (lastW t) := by
      rw [List.getElem?_drop, List.getElem?_dropLast, if_pos (by omega)]
      exact req
    match t.dropLast.drop (atT t), this with
    | x :: r, h => 
      simp at h
      rw [h]
      rfl
  have hlw : (wayT t).length + (ringT t).length = t.length - 1 := by rw [← hdl, hd, List.length_append]
  have hlr : 1 ≤ (ringT t).length := by
    unfold ringT
    rw [List.length_drop, hdl]
    omega
  refine ⟨?_, by omega, by omega, hlr⟩
  have hW : (wayT t).map Dat.int ++ ((ringT t).map Dat.int ++ ((ringT t).map Dat.int).take 1) = t.map Dat.int := by
    rw [← List.map_take, hr1, ← List.map_append, ← List.map_append, ← List.append_assoc, ← hd, ← hsplit]
  show (!((ringT t).map Dat.int).isEmpty && (((wayT t).map Dat.int ++ ((ringT t).map Dat.int ++ ((ringT t).map Dat.int).take 1)).all (fun x => isPlace x m.marks.length) && (startOk m (dInts ((wayT t).map Dat.int ++ ((ringT t).map Dat.int ++ ((ringT t).map Dat.int).take 1))) && okI m (dInts ((wayT t).map Dat.int ++ ((ringT t).map Dat.int ++ ((ringT t).map Dat.int).take 1)))))) = true
  rw [hW, dInts_map, hok.1]
  have e1 : ((ringT t).map Dat.int).isEmpty = false := by
    match ringT t, hlr with
    | x :: r, _ => rfl
  have e2 : ((t.map Dat.int).all fun x => isPlace x m.marks.length) = true := by
    rw [List.all_eq_true]
    intro d hd
    obtain ⟨z, hz, rfl⟩ := List.mem_map.mp hd
    have := hin z hz
    rw [isPlace_int, decide_eq_true this.1, decide_eq_true this.2]
    rfl
  have e3 : startOk m t = true := by
    unfold startOk
    rw [any_eqd_int]
    exact decide_eq_true hok.2
  rw [e1, e2, e3]
  rfl
def rowGood (m : Mach) : Dat → Bool
  | .lst ds => ds.all fun x => isPlace x m.marks.length
  | _ => false
theorem rowGood_no {m : Mach} {d : Dat} (h : ∀ ds, d ≠ .lst ds) : rowGood m d = false := by
  cases d <;> first | rfl | exact absurd rfl (h _)
theorem eqvAll_nil (ds : List PyData) : PyData.eqvAll ds [] = ds.isEmpty := by
  cases ds <;> simp [PyData.eqvAll]
theorem eqd_nil (ds : List Dat) : eqd (.lst ds) (.lst []) = ds.isEmpty := by
  rw [eqd_lst]
  cases ds with
  | nil => rfl
  | cons a b => exact eqvAll_nil (a.py :: Dat.pys b)
theorem any_bl_false (bs : List Bool) : ((bs.map Dat.bl).any fun e => eqd e (.bl false)) = !bs.all id := by
  induction bs with
  | nil => rfl
  | cons b bs ih =>
    rw [List.map_cons, List.any_cons, ih, eqd_bl, List.all_cons]
    cases b <;> simp
theorem okI_range (m : Mach) (zs : List Int) : okI m zs = ((List.range (zs.length - 1)).map fun k => ((rowI m (zs.getD k 0)).map Dat.int).any fun e => eqd e (.int (zs.getD (k + 1) 0))).all id := by
  have e : (zs.zip (zs.drop 1)).map (fun p => ((rowI m p.1).map Dat.int).any fun e => eqd e (.int p.2)) = (List.range (zs.length - 1)).map fun k => ((rowI m (zs.getD k 0)).map Dat.int).any fun e => eqd e (.int (zs.getD (k + 1) 0)) := by
    refine List.ext_getElem ?_ fun i h1 h2 => ?_
    · rw [List.length_map, List.length_map, List.length_zip, List.length_drop, List.length_range]
      omega
    · rw [List.length_map, List.length_range] at h2
      rw [List.getElem_map, List.getElem_map, List.getElem_zip, List.getElem_range, List.getElem_drop]
      have a1 : zs.getD i 0 = zs[i] := by rw [List.getD_eq_getElem?_getD, List.getElem?_eq_getElem (by omega)]; rfl
      have a2 : zs.getD (i + 1) 0 = zs[1 + i] := by
        rw [List.getD_eq_getElem?_getD, List.getElem?_eq_getElem (by omega)]
        show zs[i + 1] = zs[1 + i]
        congr 1
        omega
      rw [a1, a2]
  rw [← e, List.all_map]
  rfl
def R_lis_walk : List Sl → Dat → List Sl → Prop := fun as d as' => ∃ (m : Mach) (dw dr : Dat) (n : Nat), as = [.dat m.enc, .dat dw, .dat dr] ∧ d = .bl (isWalk m dw dr) ∧ as' = [.no, .no, .no] ∧ m.Ok ∧ Tame n dw ∧ Tame n dr
theorem len_lis_walk : ∀ as d as', R_lis_walk as d as' → as.length = 3 := by
  rintro as d as' ⟨_, _, _, _, rfl, _⟩
  rfl
abbrev s_lis_walk : Stmt := topS 26
theorem sc_lis_walk : FnScope ["_law_machine_here", "_law_way", "_law_ring", "_law_marks", "_law_ways", "_law_begins", "_law_row", "_law_place", "_law_whole", "_law_k"] ["_law_machine_here", "_law_way", "_law_ring"] (defScope s_lis_walk) := ⟨rfl, rfl, rfl, by decide +kernel, rfl, by decide +kernel, by decide +kernel⟩
theorem ok_lis_walk {f : Addr} {fd : FuncData} (F : Fun K "_law_is_walk" "_law_is_walk" s_lis_walk f fd) (T : Tx K mg C_BadMachine C_BadSaying C_Machine C_NoWalk C_TooMany C_WalkError)  : FnOk P w K mg base CX0 1 f fd ["_law_machine_here", "_law_way", "_law_ring"] (spG K R_lis_walk) := by
  have nd := sc_lis_walk.nd
  refine F.ok sc_lis_walk (spG_len len_lis_walk) (fun cdv A outer s H vs Q E hr h => ?_)
  have hu := hr.units
  have hu5 := unit5 hr
  refine ⟨_, (pss_cons (ps_asg (pv 0) (kgTup K (pg_tup (n := 3) (by rfl) (pgs_cons (pg_name (i := 3) nd rfl (by first | exact Or.inl rfl | exact Or.inr rfl)) (pgs_cons (pg_name (i := 4) nd rfl (by first | exact Or.inl rfl | exact Or.inr rfl)) (pgs_cons (pg_name (i := 5) nd rfl (by first | exact Or.inl rfl | exact Or.inr rfl)) pgs_nil))))))
      (pss_cons (ps_for PassesOwn.never (by rfl) (kiTup K (pi_tup (pe_tup (pa_cons (pv 1) (pa_cons (pv 2) pa_nil))))) (pg_name (i := 6) nd rfl (by first | exact Or.inl rfl | exact Or.inr rfl)) (pss_cons (ps_if (pt_not (pt_val (pe_callB (kIsi K) (by rfl) T.b_isinstance (by decide +kernel) (pa_cons (pv 6) (pa_cons (pe_bltn (v := .ty "list") (by rfl) T.b_list (by decide +kernel) rfl) pa_nil))))) (pss_one (ps_ret pe_bl)) pss_nil)
      (pss_one (ps_for PassesOwn.never (by rfl) (kiList K (pi_list (pv 6))) (pg_name (i := 7) nd rfl (by first | exact Or.inl rfl | exact Or.inr rfl)) (pss_one (ps_if (PW.pt (pw_or (pt_not (pt_val (pe_callB (kIsi K) (by rfl) T.b_isinstance (by decide +kernel) (pa_cons (pv 7) (pa_cons (pe_bltn (v := .ty "int") (by rfl) T.b_int (by decide +kernel) rfl) pa_nil))))) (pw_or (pt_val (pe_callB (kIsi K) (by rfl) T.b_isinstance (by decide +kernel) (pa_cons (pv 7) (pa_cons (pe_bltn (v := .ty "bool") (by rfl) T.b_bool (by decide +kernel) rfl) pa_nil)))) (pw_or1 (pt_not (pt_chain op_le op_lt pe_int (pv 7) (pe_callB (kLen K) (by rfl) T.b_len PySem.boot_len (pa_cons (pv 3) pa_nil)))))))) (pss_one (ps_ret pe_bl)) pss_nil))))))
      (pss_cons (ps_if (PW.pt (pw_or (pt_cmpR (kEqD K hu) (pv 2) (pe_lst pa_nil) (nomark _)) (pw_or1 (pt_cmpR (kNotInD K hu5) (pe_ix (kIxL K) (pe_op op_cat (pv 1) (pv 2)) pe_int (fun _ _ => rfl)) (pv 5) (by with_unfolding_all rfl))))) (pss_one (ps_ret pe_bl)) pss_nil)
      (pss_cons (ps_set (i := 8) nd rfl (by first | exact Or.inl rfl | exact Or.inr rfl) (pe_op op_cat (pe_op op_cat (pv 1) (pv 2)) (pe_slice (kSlL K) (pv 2) po_none (po_some pe_int))))
      (pss_one (ps_ret (pe_cmpR (kNotInD K hu5) pe_bl (pe_lc (own := [("_law_k", 9)]) (g := gName 9) (tt := tYes) (by rfl) nd (pi_range1 (by rfl) T.b_range (pa_cons (pe_op op_sub (pe_callB (kLen K) (by rfl) T.b_len PySem.boot_len (pa_cons (pv 8) pa_nil)) pe_int) pa_nil)) (blkOk_by (own := [("_law_k", 9)]) (N := ["_law_machine_here", "_law_way", "_law_ring", "_law_marks", "_law_ways", "_law_begins", "_law_row", "_law_place", "_law_whole", "_law_k"]) (sc := defScope s_lis_walk) (by decide +kernel)) (fun _ _ _ _ _ => pg_name (i := 9) nd rfl (Or.inl rfl)) (fun _ _ _ _ _ => pts_nil) (fun _ _ _ _ _ => (pe_cmpR (kInD K hu5) (pe_ix (kIxL K) (pv 8) (pe_op op_add (pv 9) pe_int) (fun _ _ => rfl)) (pe_ix (kIxL K) (pv 4) (pe_ix (kIxL K) (pv 8) (pv 9) (fun _ _ => rfl)) (fun _ _ => rfl)) (by with_unfolding_all rfl)))) (by with_unfolding_all rfl)))))))), ?_⟩
  refine body_ok h len_lis_walk fun as d as' hR => ?_
  obtain ⟨m, dw, dr, n, rfl, rfl, rfl, ok, tw, tr⟩ := hR
  walk_at "body"
  refine ex_seq (ex_set3 (d1 := .lst (marksD m)) (d2 := .lst (waysD m)) (d3 := intsD m.begins) (ev_var rfl) rfl rfl rfl) ?_
  walk_at "nrm"
  have lm := marksD_len m
  have isp : ∀ (n : Nat) (x : Dat) (a b : Sl), Tame n x → EvT K (tOr (tNot (tB (tCB (rIsi K) (tCons (tVar 7) (tCons (tC (V.ty "int")) tNil)))))
          (tOr (tB (tCB (rIsi K) (tCons (tVar 7) (tCons (tC (V.ty "bool")) tNil))))
            (tNot (tTest (tChain (rI0 fun i j => V.bl (decide (i ≤ j))) (rI0 fun i j => V.bl (decide (i < j))) (tC (V.int 0)) (tVar 7) (tCB (rLenQ K) (tCons (tVar 3) tNil)))))))
        [a, .dat dw, .dat dr, .dat (.lst (marksD m)), .dat (.lst (waysD m)), .dat (intsD m.begins), b, .dat x, .no, .no] (!isPlace x m.marks.length) [a, .dat dw, .dat dr, .dat (.lst (marksD m)), .dat (.lst (waysD m)), .dat (intsD m.begins), b, .dat x, .no, .no] := by
    intro n x a b tx
    cases x with
    | int z =>
      refine EvT.to (et_or (et_not (et_B (ev_isi (T := "int") (b := true) (ev_var rfl) rfl rfl))) fun _ => et_or (et_B (ev_isi (T := "int") (b := false) (ev_var rfl) rfl rfl)) fun _ => et_not (et_test (ev_chain ev_int (ev_var rfl) (rv_I0 fun _ => .bl _) (fun _ => ev_lenL (ds := marksD m) rfl (el_d (d := .lst (marksD m)) (ev_var rfl)) rfl) fun _ => rv_I0 fun _ => .bl _))) ?_
      rw [isPlace_int, lm]
      rfl
    | bl z => exact EvT.to (et_or (et_not (et_B (ev_isi (T := "bool") (b := true) (ev_var rfl) rfl rfl))) fun _ => et_orT (et_B (ev_isi (T := "bool") (b := true) (ev_var rfl) rfl rfl))) rfl
    | non => exact EvT.to (et_orT (et_not (et_B (ev_isi (T := "NoneType") (b := false) (ev_var rfl) rfl rfl)))) rfl
    | str z => exact EvT.to (et_orT (et_not (et_B (ev_isi (T := "str") (b := false) (ev_var rfl) rfl rfl)))) rfl
    | lst z => exact EvT.to (et_orT (et_not (et_B (ev_isi (T := "list") (b := false) (ev_var rfl) rfl rfl)))) rfl
    | tup z => exact EvT.to (et_orT (et_not (et_B (ev_isi (T := "tuple") (b := false) (ev_var rfl) rfl rfl)))) rfl
    | emp => exact EvT.to (et_orT (et_not (et_B (ev_isi (T := "dict") (b := false) (ev_var rfl) rfl rfl)))) rfl
    | ty _ => cases n <;> simp only [Tame] at tx
    | cls _ => cases n <;> simp only [Tame] at tx
    | ins _ _ _ => cases n <;> simp only [Tame] at tx
    | scr _ => cases n <;> simp only [Tame] at tx
  refine ex_seqC (b := [dw, dr].all (rowGood m)) (r := .bl false) (ρ' := [.no, .no, .no, .no, .no, .no, .no, .no, .no, .no]) (ρ1 := [.no, .dat dw, .dat dr, .dat (.lst (marksD m)), .dat (.lst (waysD m)), .dat (intsD m.begins), .no, .no, .no, .no]) (ex_forC (rowGood m) (src_tup (ev_tupA (ea_d (ev_var rfl) (ea_d (ev_var rfl) ea_nil)) rfl (by decide : 2 ≤ 100000))) (by walk_at "le") (by show 6 < 10; decide) fun x hx => ?_) (fun hg => ?_) fun hg => ?_
  · have tx : Tame n x := by
      simp only [List.mem_cons, List.not_mem_nil, or_false] at hx
      rcases hx with rfl | rfl <;> assumption
    walk_at "nrm"
    cases x with
    | lst ds =>
      obtain ⟨ld, n1, hn1, hall⟩ := tame_len tx
      refine ex_no (et_not (et_B (ev_isi (T := "list") (b := true) (ev_var rfl) rfl rfl))) ?_
      refine ex_forC (fun x => isPlace x m.marks.length) (src_list (ev_var rfl) rfl) (by walk_at "le") (by show 7 < 10; decide) fun y hy => ?_
      exact ex_ifC (isp n1 y _ _ (tameAll_mem hall y hy)) (by walk_at "le") fun _ => ex_retW ev_bl rfl (by walk_at "le")
    | bl z => exact ex_yes (o := .rt (.bl false) _) (EvT.to (et_not (et_B (ev_isi (T := "bool") (b := false) (ev_var rfl) rfl rfl))) rfl) (ex_retW ev_bl rfl (by walk_at "le")) rfl
    | int z => exact ex_yes (o := .rt (.bl false) _) (EvT.to (et_not (et_B (ev_isi (T := "int") (b := false) (ev_var rfl) rfl rfl))) rfl) (ex_retW ev_bl rfl (by walk_at "le")) rfl
    | non => exact ex_yes (o := .rt (.bl false) _) (EvT.to (et_not (et_B (ev_isi (T := "NoneType") (b := false) (ev_var rfl) rfl rfl))) rfl) (ex_retW ev_bl rfl (by walk_at "le")) rfl
    | str z => exact ex_yes (o := .rt (.bl false) _) (EvT.to (et_not (et_B (ev_isi (T := "str") (b := false) (ev_var rfl) rfl rfl))) rfl) (ex_retW ev_bl rfl (by walk_at "le")) rfl
    | tup z => exact ex_yes (o := .rt (.bl false) _) (EvT.to (et_not (et_B (ev_isi (T := "tuple") (b := false) (ev_var rfl) rfl rfl))) rfl) (ex_retW ev_bl rfl (by walk_at "le")) rfl
    | emp => exact ex_yes (o := .rt (.bl false) _) (EvT.to (et_not (et_B (ev_isi (T := "dict") (b := false) (ev_var rfl) rfl rfl))) rfl) (ex_retW ev_bl rfl (by walk_at "le")) rfl
    | ty _ => cases n <;> simp only [Tame] at tx
    | cls _ => cases n <;> simp only [Tame] at tx
    | ins _ _ _ => cases n <;> simp only [Tame] at tx
    | scr _ => cases n <;> simp only [Tame] at tx
  · -- both are lists of places
    have hg : rowGood m dw = true ∧ rowGood m dr = true := by
      have : (rowGood m dw && (rowGood m dr && true)) = true := hg
      simpa using this
    obtain ⟨ws, rfl⟩ : ∃ ws, dw = .lst ws := by
      cases dw <;> first | exact ⟨_, rfl⟩ | exact absurd hg.1 (by simp [rowGood])
    obtain ⟨rs, rfl⟩ : ∃ ws, dr = .lst ws := by
      cases dr <;> first | exact ⟨_, rfl⟩ | exact absurd hg.2 (by simp [rowGood])
    have gw : (ws.all fun x => isPlace x m.marks.length) = true := hg.1
    have gr : (rs.all fun x => isPlace x m.marks.length) = true := hg.2
    obtain ⟨lw, -⟩ := tame_len tw
    obtain ⟨lr, -⟩ := tame_len tr
    have ew := dInts_eq gw
    have er := dInts_eq gr
    generalize hzw : dInts ws = zw at ew
    generalize hzr : dInts rs = zr at er
    subst ew
    subst er
    rw [List.length_map] at lw lr
    have hv : isWalk m (.lst (zw.map Dat.int)) (.lst (zr.map Dat.int)) = (!(zr.map Dat.int).isEmpty && (startOk m (zw ++ (zr ++ zr.take 1)) && okI m (zw ++ (zr ++ zr.take 1)))) := by
      show (!(zr.map Dat.int).isEmpty && ((zw.map Dat.int ++ (zr.map Dat.int ++ (zr.map Dat.int).take 1)).all (fun x => isPlace x m.marks.length) && _)) = _
      rw [← List.map_take, ← List.map_append, ← List.map_append, dInts_map, List.map_append, List.map_append, List.all_append, List.all_append, gw, gr]
      have : ((zr.take 1).map Dat.int).all (fun x => isPlace x m.marks.length) = true := by
        rw [List.map_take, List.all_eq_true]
        intro d hd
        exact List.all_eq_true.mp gr d (List.mem_of_mem_take hd)
      rw [this]
      rfl
    rw [hv]
    cases zr with
    | nil =>
      refine ex_yes (EvT.to (et_orT (EvT.to (et_test (ev_eq (ev_var rfl) (ev_lstA (ds := []) ea_nil rfl (by decide)) (by rw [shp_lst]; exact shp_ints _) (by rw [shp_lst]; simp only [ShpAll]))) (by rw [eqd_nil]; rfl))) rfl) (ex_retW ev_bl rfl (by walk_at "le")) rfl
    | cons z0 zt =>
      have e1 : ((z0 :: zt).map Dat.int).isEmpty = false := rfl
      rw [e1]
      have pin : ∀ z ∈ zw ++ (z0 :: zt) ++ [z0], 0 ≤ z ∧ z < m.marks.length := fun z hz => by
        have key : ∀ zs : List Int, (zs.map Dat.int).all (fun x => isPlace x m.marks.length) = true → ∀ z ∈ zs, 0 ≤ z ∧ z < m.marks.length := fun zs h z hz => by
          have := List.all_eq_true.mp h (.int z) (List.mem_map_of_mem hz)
          rw [isPlace_int, Bool.and_eq_true, decide_eq_true_eq, decide_eq_true_eq] at this
          exact this
        rcases List.mem_append.mp hz with hz | hz
        · rcases List.mem_append.mp hz with hz | hz
          · exact key _ gw z hz
          · exact key _ gr z hz
        · rw [List.mem_singleton] at hz
          rw [hz]
          exact key _ gr z0 List.mem_cons_self
      have hcat : zw ++ (z0 :: zt ++ (z0 :: zt).take 1) = zw ++ (z0 :: zt) ++ [z0] := by rw [List.append_assoc]; rfl
      rw [hcat]
      have hst : startOk m (zw ++ (z0 :: zt) ++ [z0]) = decide ((zw ++ (z0 :: zt)).getD 0 0 ∈ m.begins) := by
        unfold startOk
        rw [any_eqd_int]
        cases zw <;> rfl
      have hat : atI (zw.map Dat.int ++ (z0 :: zt).map Dat.int) 0 = some (.int ((zw ++ (z0 :: zt)).getD 0 0)) := by
        cases zw <;> exact atI_nat (j := 0) rfl
      have hlc : ((zw.map Dat.int).length + ((z0 :: zt).map Dat.int).length : Nat) ≤ 100000 := by rw [List.length_map, List.length_map]; omega
      have sint : ∀ z, Shp 60 (.int z) := fun z => by simp only [Shp]
      have htest : ∀ (a b : Sl), EvT K (tOr (tTest (tOp (rEqD K) (tVar 2) (tLst tNil))) (tTest (tOp (rNotInD K) (tOp (rIxL K) (tOp rCat (tVar 1) (tVar 2)) (tC (V.int 0))) (tVar 5))))
          [.no, .dat (.lst (zw.map Dat.int)), .dat (.lst ((z0 :: zt).map Dat.int)), .dat (.lst (marksD m)), .dat (.lst (waysD m)), .dat (intsD m.begins), .no, .no, .no, .no] (!startOk m (zw ++ (z0 :: zt) ++ [z0]))
          [.no, .dat (.lst (zw.map Dat.int)), .dat (.lst ((z0 :: zt).map Dat.int)), .dat (.lst (marksD m)), .dat (.lst (waysD m)), .dat (intsD m.begins), .no, .no, .no, .no] := fun a b =>
        EvT.to (et_or (et_test (ev_eq (ev_var rfl) (ev_lstA (ds := []) ea_nil rfl (by decide)) (by rw [shp_lst]; exact shp_ints _) (by rw [shp_lst]; simp only [ShpAll]))) fun _ => et_test (ev_notIn (ev_ixL (el_d (ev_cat (ds := zw.map Dat.int) (es := (z0 :: zt).map Dat.int) (el_d (ev_var rfl)) (el_d (ev_var rfl)) rfl rfl hlc)) ev_int rfl hat) (el_d (ev_var rfl)) rfl (sint _) (shp_ints _))) (by rw [hst, any_eqd_int, eqd_nil]; rfl)
      cases hso : startOk m (zw ++ (z0 :: zt) ++ [z0]) with
      | false =>
        have ht := htest .no .no
        rw [hso] at ht
        exact ex_yes ht (ex_retW ev_bl rfl (by walk_at "le")) rfl
      | true =>
        have ht := htest .no .no
        rw [hso] at ht
        refine ex_no ht ?_
        refine ex_seq (ex_set (d := .lst ((zw ++ (z0 :: zt) ++ [z0]).map Dat.int)) (Ev.to (ev_cat (ds := zw.map Dat.int ++ (z0 :: zt).map Dat.int) (el_d (ev_cat (ds := zw.map Dat.int) (es := (z0 :: zt).map Dat.int) (el_d (ev_var rfl)) (el_d (ev_var rfl)) rfl rfl hlc)) (el_d (ev_slL (el_d (ev_var rfl)) eo_no (eo_some ev_int) rfl)) rfl rfl ?_) ?_) rfl) ?_
        · rw [List.length_append, List.length_map, List.length_map]
          have := cutD_len ((z0 :: zt).map Dat.int) none (some 1)
          rw [List.length_map] at this
          omega
        · rw [show (1 : Int) = ((1 : Nat) : Int) from rfl, cutD_to, List.map_append, List.map_append]
          rfl
        walk_at "nrm"
        rw [okI_range]
        have hlz : (zw ++ (z0 :: zt) ++ [z0]).length ≤ 3000 := by
          rw [List.length_append, List.length_append, List.length_singleton]
          omega
        generalize zw ++ (z0 :: zt) ++ [z0] = zs at *
        refine ex_retW (ev_notIn (ds := ((List.range (zs.length - 1)).map fun k => ((rowI m (zs.getD k 0)).map Dat.int).any fun e => eqd e (.int (zs.getD (k + 1) 0))).map Dat.bl) (a := .d (.lst (((List.range (zs.length - 1)).map fun k => ((rowI m (zs.getD k 0)).map Dat.int).any fun e => eqd e (.int (zs.getD (k + 1) 0))).map Dat.bl))) ev_bl (el_d (Ev.to (ev_of_fresh (ef_lcMap (onI fun i => .bl (((rowI m (zs.getD i.toNat 0)).map Dat.int).any fun e => eqd e (.int (zs.getD (i.toNat + 1) 0)))) (src_rng1 (ev_i0 (ev_lenL (ds := zs.map Dat.int) rfl (el_d (ev_var rfl)) rfl) ev_int) ?_ ?_) rfl ?_ fun d hd => ?_)) ?_)) rfl (by simp only [Shp]) ?_) ?_ (by walk_at "le")
        · rw [List.length_map]; omega
        · rw [List.length_map]; omega
        · rw [rngD_len, List.length_map]; omega
        · obtain ⟨k, hk, rfl⟩ := rngD_mem hd
          rw [List.length_map] at hk
          have hk2 : k + 1 < zs.length := by omega
          have a1 : atI (zs.map Dat.int) ((0 : Int) + (k : Nat)) = some (.int (zs.getD k 0)) := by rw [Int.zero_add]; exact at_ints (by omega)
          have a2 : atI (zs.map Dat.int) ((0 : Int) + (k : Nat) + 1) = some (.int (zs.getD (k + 1) 0)) := by
            rw [Int.zero_add]
            exact at_ints (k := k + 1) hk2
          have hz := pin _ (getD_mem (xs := zs) (j := k) (by omega))
          have hrow := row_at ok hz.1 hz.2
          have ek : ((0 : Int) + (k : Nat)).toNat = k := by omega
          show Ev K _ _ (.bl (((rowI m (zs.getD ((0 : Int) + (k : Nat)).toNat 0)).map Dat.int).any fun e => eqd e (.int (zs.getD (((0 : Int) + (k : Nat)).toNat + 1) 0)))) _
          rw [ek]
          walk_at "nrm"
          exact ev_in (ev_ixL (el_d (ev_var rfl)) (ev_i0 (ev_var rfl) ev_int) rfl a2) (el_d (d := intsD (rowI m (zs.getD k 0))) (ev_ixL (el_d (ev_var rfl)) (ev_ixL (el_d (ev_var rfl)) (ev_var rfl) rfl a1) rfl hrow)) rfl (sint _) (shp_ints _)
        · rw [rngD_map, List.length_map, List.map_map]
          have e : ((zs.length : Int) - 1).toNat = zs.length - 1 := by omega
          rw [e]
          refine congrArg Dat.lst (List.map_congr_left fun k _ => ?_)
          have ek : ((0 : Int) + (k : Nat)).toNat = k := by omega
          show Dat.bl (((rowI m (zs.getD ((0 : Int) + (k : Nat)).toNat 0)).map Dat.int).any fun e => eqd e (.int (zs.getD (((0 : Int) + (k : Nat)).toNat + 1) 0))) = _
          rw [ek]
          rfl
        · refine shpAll_of fun d hd => ?_
          obtain ⟨b, _, rfl⟩ := List.mem_map.mp hd
          simp only [Shp]
        · rw [any_bl_false, Bool.not_not]
          rfl
  · -- one is none
    have hf : isWalk m dw dr = false := by
      cases dw with
      | lst ws =>
        cases dr with
        | lst rs =>
          have hg : ((ws.all fun x => isPlace x m.marks.length) && ((rs.all fun x => isPlace x m.marks.length) && true)) = false := hg
          show (!rs.isEmpty && ((ws ++ (rs ++ rs.take 1)).all (fun x => isPlace x m.marks.length) && _)) = false
          rw [Bool.and_true] at hg
          rw [List.all_append, List.all_append]
          rcases Bool.and_eq_false_iff.mp hg with h | h
          · rw [h]
            simp
          · rw [h]
            simp
        | _ => rfl
      | _ => rfl
    rw [hf]
structure Small (d : Dat) : Prop where
  t : Tame 3 d
  l : ∀ ds, d = .lst ds → ds.length ≤ 200
theorem cutD_mem {xs : List Dat} {lo hi : Option Int} {d : Dat} (h : d ∈ cutD xs lo hi) : d ∈ xs := List.mem_of_mem_drop (List.mem_of_mem_take h)
theorem small_lst {ds : List Dat} (h : ∀ d ∈ ds, Tame 2 d) (l : ds.length ≤ 200) : Small (.lst ds) := ⟨tame_mem h (by omega), fun es e => by cases e; exact l⟩
theorem tameI {n : Nat} {i : Int} : Tame n (.int i) := by cases n <;> simp only [Tame]
theorem tameIs {n : Nat} (zs : List Int) : ∀ d ∈ zs.map Dat.int, Tame n d := fun d hd => by
  obtain ⟨i, _, rfl⟩ := List.mem_map.mp hd
  exact tameI
theorem small_ints {zs : List Int} (l : zs.length ≤ 200) : Small (intsD zs) := small_lst (tameIs zs) (by rw [List.length_map]; exact l)
theorem bent_facts (c : Int) (way ring : List Int) (n : Nat) (lw : way.length ≤ 40) (lr : ring.length ≤ 40) (r1 : 1 ≤ ring.length) : ∃ dw dr, bentD c way ring n = .tup [dw, dr] ∧ Small dw ∧ Small dr := by
  have to : Tame 2 (oddB c n) := by
    have hm : oddB c n ∈ ([.int (-1), .int n, .bl true, .non, .str "0", .lst [.int 0]] : List Dat) := by
      unfold oddB
      have h1 : 0 ≤ c / 90 % 6 := Int.emod_nonneg _ (by decide)
      have h2 : c / 90 % 6 < 6 := Int.emod_lt_of_pos _ (by decide)
      have h3 : (c / 90 % 6).toNat < ([.int (-1), .int n, .bl true, .non, .str "0", .lst [.int 0]] : List Dat).length := by show _ < 6; omega
      rw [List.getD_eq_getElem?_getD, List.getElem?_eq_getElem h3]
      exact List.getElem_mem h3
    simp only [List.mem_cons, List.not_mem_nil, or_false] at hm
    rcases hm with h | h | h | h | h | h <;> rw [h]
    · exact tameI
    · exact tameI
    · simp only [Tame]
    · simp only [Tame]
    · rw [tame_str]; decide
    · exact tame_mem (fun d hd => by rw [List.mem_singleton] at hd; rw [hd]; exact tameI) (by decide)
  have tp : Tame 2 (placeB c n) := tameI
  have tb : ∀ d ∈ bothB way ring, Tame 2 d := fun d hd => by
    rcases List.mem_append.mp hd with h | h
    · exact tameIs _ _ h
    · exact tameIs _ _ h
  have lb : (bothB way ring).length ≤ 80 := by
    unfold bothB
    rw [List.length_append, List.length_map, List.length_map]
    omega
  have th : ∀ d ∈ headB c way ring, Tame 2 d := fun d hd => tb d (cutD_mem hd)
  have tt : ∀ d ∈ tailB c way ring, Tame 2 d := fun d hd => tb d (cutD_mem hd)
  have tf : ∀ d ∈ fromB c way ring, Tame 2 d := fun d hd => tb d (cutD_mem hd)
  have lh : (headB c way ring).length ≤ 80 := Nat.le_trans (cutD_len ..) lb
  have lt : (tailB c way ring).length ≤ 80 := Nat.le_trans (cutD_len ..) lb
  have lf : (fromB c way ring).length ≤ 80 := Nat.le_trans (cutD_len ..) lb
  have one : ∀ x : Dat, Tame 2 x → ∀ d ∈ [x], Tame 2 d := fun x hx d hd => by rw [List.mem_singleton] at hd; rw [hd]; exact hx
  have app : ∀ {xs ys : List Dat}, (∀ d ∈ xs, Tame 2 d) → (∀ d ∈ ys, Tame 2 d) → ∀ d ∈ xs ++ ys, Tame 2 d := fun h k d hd => (List.mem_append.mp hd).elim (h d) (k d)
  unfold bentD
  by_cases h5 : c % 11 < 5
  · rw [if_pos h5]
    have hr : (∀ d ∈ rowB c way ring n, Tame 2 d) ∧ (rowB c way ring n).length ≤ 200 := by
      have k1 : 0 ≤ c % 11 := Int.emod_nonneg _ (by decide)
      have k3 : (c % 11).toNat < (rowsB c way ring n).length := by show _ < 5; omega
      have hm : rowB c way ring n ∈ rowsB c way ring n := by
        unfold rowB
        rw [List.getD_eq_getElem?_getD, List.getElem?_eq_getElem k3]
        exact List.getElem_mem k3
      generalize rowB c way ring n = row at hm ⊢
      have hm : row ∈ [_, _, _, _, _] := hm
      simp only [List.mem_cons, List.not_mem_nil, or_false] at hm
      rcases hm with rfl | rfl | rfl | rfl | rfl
      · exact ⟨tb, by omega⟩
      · exact ⟨app (app th (one _ tp)) tt, by rw [List.length_append, List.length_append, List.length_singleton]; omega⟩
      · exact ⟨app th tt, by rw [List.length_append]; omega⟩
      · exact ⟨app (app th (one _ tp)) tf, by rw [List.length_append, List.length_append, List.length_singleton]; omega⟩
      · exact ⟨app (app th (one _ to)) tt, by rw [List.length_append, List.length_append, List.length_singleton]; omega⟩
    exact ⟨_, _, rfl, small_lst (fun d hd => hr.1 d (cutD_mem hd)) (Nat.le_trans (cutD_len ..) hr.2), small_lst (fun d hd => hr.1 d (cutD_mem hd)) (Nat.le_trans (cutD_len ..) hr.2)⟩
  · rw [if_neg h5]
    have k1 : 0 ≤ c % 11 := Int.emod_nonneg _ (by decide)
    have k2 : c % 11 < 11 := Int.emod_lt_of_pos _ (by decide)
    have k3 : (c % 11 - 5).toNat < (pairsB c way ring).length := by show _ < 6; omega
    have hm : (pairsB c way ring).getD (c % 11 - 5).toNat .non ∈ pairsB c way ring := by
      rw [List.getD_eq_getElem?_getD, List.getElem?_eq_getElem k3]
      exact List.getElem_mem k3
    generalize (pairsB c way ring).getD (c % 11 - 5).toNat .non = p at hm
    have hm : p ∈ [_, _, _, _, _, _] := hm
    simp only [List.mem_cons, List.not_mem_nil, or_false] at hm
    have sw : Small (intsD way) := small_ints (by omega)
    have sr : Small (intsD ring) := small_ints (by omega)
    have cw : ∀ lo hi, Small (.lst (cutD (way.map Dat.int) lo hi)) := fun lo hi => small_lst (fun d hd => tameIs _ _ (cutD_mem hd)) (by have := cutD_len (way.map Dat.int) lo hi; rw [List.length_map] at this; omega)
    have cr : ∀ lo hi, Small (.lst (cutD (ring.map Dat.int) lo hi)) := fun lo hi => small_lst (fun d hd => tameIs _ _ (cutD_mem hd)) (by have := cutD_len (ring.map Dat.int) lo hi; rw [List.length_map] at this; omega)
    rcases hm with rfl | rfl | rfl | rfl | rfl | rfl
    · exact ⟨_, _, rfl, small_lst tb (by omega), small_lst (fun d hd => by cases hd) (by decide)⟩
    · exact ⟨_, _, rfl, ⟨by rw [tame_tup]; exact ⟨by rw [List.length_map]; omega, tameAll_of (tameIs _)⟩, fun ds e => by cases e⟩, sr⟩
    · exact ⟨_, _, rfl, sw, ⟨by simp only [Tame], fun ds e => by cases e⟩⟩
    · exact ⟨_, _, rfl, cw _ _, sr⟩
    · exact ⟨_, _, rfl, sw, cr _ _⟩
    · refine ⟨_, _, rfl, small_lst (app (tameIs _) fun d hd => tameIs _ _ (cutD_mem hd)) ?_, cr _ _⟩
      have := cutD_len (ring.map Dat.int) none (some (cutB c ring))
      rw [List.length_map] at this
      rw [List.length_append, List.length_map]
      omega
theorem walk_ints {m : Mach} {dw dr : Dat} (h : isWalk m dw dr = true) (sw : Small dw) (sr : Small dr) : ∃ zw zr, dw = intsD zw ∧ dr = intsD zr ∧ zw.length ≤ 200 ∧ zr.length ≤ 200 := by
  cases dw with
  | lst ws =>
    cases dr with
    | lst rs =>
      have h : (!rs.isEmpty && ((ws ++ (rs ++ rs.take 1)).all (fun x => isPlace x m.marks.length) && _)) = true := h
      rw [Bool.and_eq_true, Bool.and_eq_true, List.all_append, List.all_append, Bool.and_eq_true, Bool.and_eq_true] at h
      have ew := dInts_eq h.2.1.1
      have er := dInts_eq h.2.1.2.1
      refine ⟨dInts ws, dInts rs, congrArg Dat.lst ew, congrArg Dat.lst er, ?_, ?_⟩
      · have := sw.l _ rfl
        rw [ew, List.length_map] at this
        exact this
      · have := sr.l _ rfl
        rw [er, List.length_map] at this
        exact this
    | _ => cases h
  | _ => cases h
def R_cell_at : List Sl → Dat → List Sl → Prop := fun as d as' => ∃ (ns : List Int) (k : Nat), as = [.dat (.scr ns), .dat (.int k)] ∧ d = .int (ns.getD k 0) ∧ as' = [.no, .no]
theorem len_cell_at : ∀ as d as', R_cell_at as d as' → as.length = 2 := by
  rintro as d as' ⟨_, _, rfl, _⟩
  rfl
abbrev s_cell_at : Stmt := topS 18
theorem sc_cell_at : FnScope ["_law_script", "_law_k"] ["_law_script", "_law_k"] (defScope s_cell_at) := ⟨rfl, rfl, rfl, by decide +kernel, rfl, by decide +kernel, by decide +kernel⟩
theorem ok_cell_at {f : Addr} {fd : FuncData} (F : Fun K "_law_cell_at" "_law_cell_at" s_cell_at f fd) (T : Tx K mg C_BadMachine C_BadSaying C_Machine C_NoWalk C_TooMany C_WalkError)  : FnOk P w K mg base CX0 1 f fd ["_law_script", "_law_k"] (spG K R_cell_at) := by
  have nd := sc_cell_at.nd
  refine F.ok sc_cell_at (spG_len len_cell_at) (fun cdv A outer s H vs Q E hr h => ?_)
  have hu := hr.units
  have hu5 := unit5 hr
  refine ⟨_, (pss_cons (ps_if (pt_cmpR op_lt (pv 1) (pe_callB (kLen K) (by rfl) T.b_len PySem.boot_len (pa_cons (pv 0) pa_nil)) (nomark _)) (pss_one (ps_ret (pe_ix (kIxL K) (pv 0) (pv 1) (fun _ _ => rfl)))) pss_nil)
      (pss_one (ps_ret pe_int))), ?_⟩
  refine body_ok h len_cell_at fun as d as' hR => ?_
  obtain ⟨ns, k, rfl, rfl, rfl⟩ := hR
  walk_at "body"
  walk_at "ifl"
  · intro h
    have h : k < ns.length := by simpa using h
    walk_at "ret"
    exact at_ints h
  · intro h
    have h : ¬ k < ns.length := by simpa using h
    walk_at "ret"
    rw [List.getD_eq_getElem?_getD, List.getElem?_eq_none (by omega)]
    rfl
def R_law : List Sl → Dat → List Sl → Prop := fun as d as' => ∃ (ns : List Int), as = [.dat (.scr ns)] ∧ d = .bl true ∧ as' = [.no]
theorem len_law : ∀ as d as', R_law as d as' → as.length = 1 := by
  rintro as d as' ⟨_, rfl, _⟩
  rfl
abbrev s_law : Stmt := topS 29
theorem sc_law : FnScope ["_law_script", "_law_spot", "_law_drawn", "_law_machine_here", "_law_way", "_law_ring", "_law_bent_here", "_law_cell"] ["_law_script"] (defScope s_law) := ⟨rfl, rfl, rfl, by decide +kernel, rfl, by decide +kernel, by decide +kernel⟩
theorem ok_law {f : Addr} {fd : FuncData} (F : Fun K "law" "law" s_law f fd) (T : Tx K mg C_BadMachine C_BadSaying C_Machine C_NoWalk C_TooMany C_WalkError) {a_machine : Addr} {fd_machine : FuncData} (c_machine : Cal P w K mg base "_law_machine" 2 ["_law_script", "_law_spot", "_law_names_here", "_law_most"] (spG K R_machine) a_machine fd_machine) {a_names : Addr} {fd_names : FuncData} (c_names : Cal P w K mg base "_law_names" 1 ["_law_cell"] (spG K R_names) a_names fd_names) {a_cell_at : Addr} {fd_cell_at : FuncData} (c_cell_at : Cal P w K mg base "_law_cell_at" 1 ["_law_script", "_law_k"] (spG K R_cell_at) a_cell_at fd_cell_at) {a_Machine : Addr} {fd_Machine : FuncData} (m_Machine : CalI P w K mg base C_Machine 4 ["self", "marks", "ways", "begins"] (spInit K C_Machine R_Machine___init__) a_Machine fd_Machine) {a_walk : Addr} {fd_walk : FuncData} (c_walk : Cal P w K mg base "_law_walk" 2 ["_law_script", "_law_spot", "_law_machine_here", "_law_most"] (spG K R_walk) a_walk fd_walk) {a_draw : Addr} {fd_draw : FuncData} (c_draw : Cal P w K mg base "_law_draw" 1 ["_law_script", "_law_spot"] (spG K R_draw) a_draw fd_draw) {a_bent : Addr} {fd_bent : FuncData} (c_bent : Cal P w K mg base "_law_bent" 1 ["_law_cell", "_law_way", "_law_ring", "_law_many"] (spG K R_bent) a_bent fd_bent) {a_lis_walk : Addr} {fd_lis_walk : FuncData} (c_lis_walk : Cal P w K mg base "_law_is_walk" 1 ["_law_machine_here", "_law_way", "_law_ring"] (spG K R_lis_walk) a_lis_walk fd_lis_walk) {a_right : Addr} {fd_right : FuncData} (c_right : Cal P w K mg base "_law_right" 5 ["_law_machine_here", "_law_marks", "_law_way", "_law_ring"] (spG K (R_right C_Machine)) a_right fd_right) {a_refused : Addr} {fd_refused : FuncData} (c_refused : Cal P w K mg base "_law_refused" 5 ["_law_machine_here", "_law_way", "_law_ring"] (spG K (R_refused C_Machine)) a_refused fd_refused) : FnOk P w K mg base CX0 6 f fd ["_law_script"] (spG K R_law) := by
  have nd := sc_law.nd
  refine F.ok sc_law (spG_len len_law) (fun cdv A outer s H vs Q E hr h => ?_)
  have hu := hr.units
  have hu5 := unit5 hr
  refine ⟨_, (pss_cons (ps_set (i := 1) nd rfl (by first | exact Or.inl rfl | exact Or.inr rfl) (pe_lst (pa_cons pe_int pa_nil)))
      (pss_cons (ps_set (i := 2) nd rfl (by first | exact Or.inl rfl | exact Or.inr rfl) (pe_call c_machine.ok (hr.mono (by omega)) (by rfl) c_machine.g c_machine.kp c_machine.b .nil pass0 (pa_cons (pv 0) (pa_cons (pv 1) (pa_cons (pe_call c_names.ok (hr.mono (by omega)) (by rfl) c_names.g c_names.kp c_names.b .nil pass0 (pa_cons (pe_call c_cell_at.ok (hr.mono (by omega)) (by rfl) c_cell_at.g c_cell_at.kp c_cell_at.b .nil pass0 (pa_cons (pv 0) (pa_cons pe_int pa_nil))) pa_nil)) (pa_cons pe_int pa_nil))))))
      (pss_cons (ps_set (i := 3) nd rfl (by first | exact Or.inl rfl | exact Or.inr rfl) (pe_make m_Machine.mkc m_Machine.ok (hr.mono (by omega)) (by rfl) T.c_Machine m_Machine.b .nil pass0 (pa_cons (pe_ix (kIxT K) (pv 2) pe_int (fun _ _ => rfl)) (pa_cons (pe_ix (kIxT K) (pv 2) pe_int (fun _ _ => rfl)) (pa_cons (pe_ix (kIxT K) (pv 2) pe_int (fun _ _ => rfl)) pa_nil)))))
      (pss_cons (ps_asg (pe_call c_walk.ok (hr.mono (by omega)) (by rfl) c_walk.g c_walk.kp c_walk.b .nil pass0 (pa_cons (pv 0) (pa_cons (pv 1) (pa_cons (pv 2) (pa_cons pe_int pa_nil))))) (kgTup K (pg_tup (n := 2) (by rfl) (pgs_cons (pg_name (i := 4) nd rfl (by first | exact Or.inl rfl | exact Or.inr rfl)) (pgs_cons (pg_name (i := 5) nd rfl (by first | exact Or.inl rfl | exact Or.inr rfl)) pgs_nil)))))
      (pss_cons (ps_set (i := 6) nd rfl (by first | exact Or.inl rfl | exact Or.inr rfl) (pe_tup (pa_cons (pv 4) (pa_cons (pv 5) pa_nil))))
      (pss_cons (ps_set (i := 7) nd rfl (by first | exact Or.inl rfl | exact Or.inr rfl) (pe_call c_draw.ok (hr.mono (by omega)) (by rfl) c_draw.g c_draw.kp c_draw.b .nil pass0 (pa_cons (pv 0) (pa_cons (pv 1) pa_nil))))
      (pss_cons (ps_if (pt_cmpR (kEqD K hu) (pe_op op_mod (pv 7) pe_int) pe_int (nomark _)) (pss_one (ps_set (i := 6) nd rfl (by first | exact Or.inl rfl | exact Or.inr rfl) (pe_call c_bent.ok (hr.mono (by omega)) (by rfl) c_bent.g c_bent.kp c_bent.b .nil pass0 (pa_cons (pe_op op_fdiv (pv 7) pe_int) (pa_cons (pv 4) (pa_cons (pv 5) (pa_cons (pe_callB (kLen K) (by rfl) T.b_len PySem.boot_len (pa_cons (pe_ix (kIxT K) (pv 2) pe_int (fun _ _ => rfl)) pa_nil)) pa_nil))))))) pss_nil)
      (pss_cons (ps_if (pt_val (pe_call c_lis_walk.ok (hr.mono (by omega)) (by rfl) c_lis_walk.g c_lis_walk.kp c_lis_walk.b .nil pass0 (pa_cons (pv 2) (pa_cons (pe_ix (kIxT K) (pv 6) pe_int (fun _ _ => rfl)) (pa_cons (pe_ix (kIxT K) (pv 6) pe_int (fun _ _ => rfl)) pa_nil))))) (pss_one (ps_ret (pe_call c_right.ok (hr.mono (by omega)) (by rfl) c_right.g c_right.kp c_right.b .nil pass0 (pa_cons (pv 3) (pa_cons (pe_ix (kIxT K) (pv 2) pe_int (fun _ _ => rfl)) (pa_cons (pe_ix (kIxT K) (pv 6) pe_int (fun _ _ => rfl)) (pa_cons (pe_ix (kIxT K) (pv 6) pe_int (fun _ _ => rfl)) pa_nil))))))) pss_nil)
      (pss_cons (ps_if (PW.pt (pw_or (pt_not (pt_val (pe_call c_refused.ok (hr.mono (by omega)) (by rfl) c_refused.g c_refused.kp c_refused.b .nil pass0 (pa_cons (pv 3) (pa_cons (pe_ix (kIxT K) (pv 6) pe_int (fun _ _ => rfl)) (pa_cons (pe_ix (kIxT K) (pv 6) pe_int (fun _ _ => rfl)) pa_nil)))))) (pw_or1 (pt_not (pt_val (pe_call c_refused.ok (hr.mono (by omega)) (by rfl) c_refused.g c_refused.kp c_refused.b .nil pass0 (pa_cons (pv 3) (pa_cons (pe_ix (kIxT K) (pv 6) pe_int (fun _ _ => rfl)) (pa_cons (pe_ix (kIxT K) (pv 6) pe_int (fun _ _ => rfl)) pa_nil))))))))) (pss_one (ps_ret pe_bl)) pss_nil)
      (pss_one (ps_ret (pe_call c_right.ok (hr.mono (by omega)) (by rfl) c_right.g c_right.kp c_right.b .nil pass0 (pa_cons (pv 3) (pa_cons (pe_ix (kIxT K) (pv 2) pe_int (fun _ _ => rfl)) (pa_cons (pv 4) (pa_cons (pv 5) pa_nil)))))))))))))))), ?_⟩
  refine body_ok h len_law fun as d as' hR => ?_
  obtain ⟨ns, rfl, rfl, rfl⟩ := hR
  walk_at "body"
  walk_at "setF"
  walk_at "nrm"
  generalize hm : machM ns 1 (namesS (ns.getD 0 0)) 6 = m
  have ok : m.Ok := hm ▸ mach_okG ns 1 _ (by decide) (by decide)
  refine' ex_seq (ex_set (d := m.enc) (Ev.to (ev_call1 (i := 1) (k := 1) (s := .own [.int 1]) (ea_d (ev_var rfl) (ea_s ⟨_, rfl, rfl⟩ (ea_d (ev_callA (ea_d (ev_callA (ea_d (ev_var rfl) (ea_d ev_int ea_nil)) rfl ⟨_, 0, rfl, rfl, rfl⟩) ea_nil) rfl ⟨_, rfl, rfl, rfl⟩) (ea_d ev_int ea_nil)))) ?cb rfl ⟨ns, 1, namesS (ns.getD 0 0), 6, rfl, rfl, rfl, names_len _, by decide, by decide⟩ rfl rfl rfl) (by rw [hm])) rfl) ?_
  case' cb => exact ⟨rfl, rfl⟩
  walk_at "nrm"
  generalize 1 + 2 + manyM ns 1 6 = k
  have gm := good_m ok
  obtain ⟨tm1, tm2, tm3⟩ := good_tame ok
  have e0 : atI [.lst (m.marks.map Dat.str), .lst (m.ways.map intsD), intsD m.begins] 0 = some (.lst (marksD m)) := rfl
  have e1 : atI [.lst (m.marks.map Dat.str), .lst (m.ways.map intsD), intsD m.begins] 1 = some (.lst (waysD m)) := rfl
  have e2 : atI [.lst (m.marks.map Dat.str), .lst (m.ways.map intsD), intsD m.begins] 2 = some (intsD m.begins) := rfl
  refine' ex_seq (ex_set (d := machO C_Machine m) (ev_make (ea_d (ev_ixT (ev_var rfl) ev_int e0) (ea_d (ev_ixT (ev_var rfl) ev_int e1) (ea_d (ev_ixT (ev_var rfl) ev_int e2) ea_nil))) rfl ⟨_, _, _, 5, rfl, rfl, rfl, gm, tm1, tm2, tm3⟩) rfl) ?_
  walk_at "nrm"
  obtain ⟨hw, lw, lr, lr1⟩ := end_ok (ns := ns) (k := k) (most := 6) ok (by decide) (by decide)
  refine' ex_seq (ex_set2 (d1 := intsD (wayT (endW ns k m 6))) (d2 := intsD (ringT (endW ns k m 6))) (ev_call1 (i := 1) (k := 1) (s := .own [.int k]) (ea_d (ev_var rfl) (ea_s ⟨_, rfl, rfl⟩ (ea_d (ev_var rfl) (ea_d ev_int ea_nil)))) ?da rfl ⟨ns, k, m, 6, rfl, rfl, rfl, ok, by decide, by decide⟩ rfl rfl rfl) rfl rfl) ?_
  case' da => exact ⟨rfl, rfl⟩
  walk_at "nrm"
  generalize wayT (endW ns k m 6) = way at *
  generalize ringT (endW ns k m 6) = ring at *
  generalize k + 2 + turnsW ns k m 6 = k2
  walk_at "set"
  walk_at "nrm"
  refine' ex_seq (ex_set ?za ?zb) ?_
  case' za => walk_at "draw"
  case' zb => exact rfl
  walk_at "nrm"
  generalize drawv ns k2 = c
  obtain ⟨dw, dr, eb, sw, sr⟩ : ∃ dw dr, (if c % 2 = 1 then bentD (c / 2) way ring m.marks.length else .tup [intsD way, intsD ring]) = .tup [dw, dr] ∧ Small dw ∧ Small dr := by
    by_cases h : c % 2 = 1
    · rw [if_pos h]
      exact bent_facts _ _ _ _ lw lr lr1
    · rw [if_neg h]
      exact ⟨_, _, rfl, small_ints (by omega), small_ints (by omega)⟩
  refine' ex_seq (ex_if (a := decide (c % 2 = 1)) (o := .nx [.dat (.scr ns), .own [.int (k2 + 1 : Nat)], .dat m.enc, .dat (machO C_Machine m), .dat (intsD way), .dat (intsD ring), .dat (.tup [dw, dr]), .dat (.int c)]) (EvT.to (et_test (ev_eq ?fa ev_int ?fb ?fc)) ?fd) (fun h => ?fe) (fun h => ?ff)) ?_
  case' fa => walk_at "ev"
  case fb => simp only [Shp]
  case fc => simp only [Shp]
  case fd => rw [eqd_int]; rfl
  case fe =>
    rw [decide_eq_true_eq] at h
    rw [if_pos h] at eb
    refine' Ex.to (ex_set (ev_callA (ea_d ?ga ?gz) ?gb ?gc) ?gd) ?ge
    case' ga => walk_at "ev"
    case' gz => exact ea_d (ev_var rfl) (ea_d (ev_var rfl) (ea_d (ev_lenL (ds := marksD m) rfl (el_d (ev_ixT (ev_var rfl) ev_int e0)) rfl) ea_nil))
    case' gb => rfl
    case' gc => exact ⟨c / 2, way, ring, m.marks.length, by rw [marksD_len]; rfl, rfl, rfl, by omega, by omega, lr1⟩
    case' gd => rfl
    case' ge => rw [eb]; rfl
  case ff =>
    rw [decide_eq_false_iff_not] at h
    rw [if_neg h] at eb
    rw [eb]
    exact ex_next
  have b0 : atI [dw, dr] 0 = some dw := rfl
  have b1 : atI [dw, dr] 1 = some dr := rfl
  have hR : ∀ (zw zr : List Int), isWalk m (intsD zw) (intsD zr) = true → zw.length ≤ 200 → zr.length ≤ 200 → R_right C_Machine [.dat (machO C_Machine m), .dat (.lst (marksD m)), .dat (intsD zw), .dat (intsD zr)] (.bl true) [.no, .no, .no, .no] := fun zw zr h1 h2 h3 => ⟨m, zw, zr, rfl, rfl, rfl, ok, h1, h2, h3⟩
  refine ex_ifL (a := isWalk m dw dr) (et_B (ev_callA (ea_d (ev_var rfl) (ea_d (ev_ixT (ev_var rfl) ev_int b0) (ea_d (ev_ixT (ev_var rfl) ev_int b1) ea_nil))) rfl ⟨m, dw, dr, 3, rfl, rfl, rfl, ok, sw.t, sr.t⟩)) (fun h => ?_) (fun h => ?_) rfl
  · obtain ⟨zw, zr, rfl, rfl, l1, l2⟩ := walk_ints h sw sr
    exact ex_retW (ev_callA (ea_d (ev_var rfl) (ea_d (ev_ixT (ev_var rfl) ev_int e0) (ea_d (ev_ixT (ev_var rfl) ev_int b0) (ea_d (ev_ixT (ev_var rfl) ev_int b1) ea_nil)))) rfl (hR zw zr h l1 l2)) rfl (by walk_at "le")
  · have hX : ∀ (ρ : List Sl), ρ[3]? = some (.dat (machO C_Machine m)) → ρ[6]? = some (.dat (.tup [dw, dr])) → Ev K (tCall (spG K (R_refused C_Machine)) [] E0 (tCons (tVar 3) (tCons (tOp (rIxT K) (tVar 6) (tC (V.int 0))) (tCons (tOp (rIxT K) (tVar 6) (tC (V.int 1))) tNil)))) ρ (.bl true) ρ := fun ρ h3 h6 =>
      ev_callA (ea_d (ev_var h3) (ea_d (ev_ixT (ev_var h6) ev_int b0) (ea_d (ev_ixT (ev_var h6) ev_int b1) ea_nil))) rfl ⟨m, dw, dr, 3, rfl, rfl, rfl, h, ok, sw.t, sr.t⟩
    refine ex_no (EvT.to (et_or (et_not (et_B (hX _ rfl rfl))) fun _ => et_not (et_B (hX _ rfl rfl))) rfl) ?_
    exact ex_retW (ev_callA (ea_d (ev_var rfl) (ea_d (ev_ixT (ev_var rfl) ev_int e0) (ea_d (ev_var rfl) (ea_d (ev_var rfl) ea_nil)))) rfl (hR way ring hw (by omega) (by omega))) rfl (by walk_at "le")
end
theorem all_mk {l : PySem.W.OpenLaw} {w : World} {K : PySem.W.Frag} {h : Heap} {mg : Str → Option Value} {fa C_BadMachine C_BadSaying C_Machine C_NoWalk C_TooMany C_WalkError : Addr} {f_draw : Addr} {od_draw an_draw : Option Addr} {sl_draw : Array (Option Value)} {oc_draw kV_draw dc_draw pm_draw cd_draw ct_draw : Value} {f_some : Addr} {od_some an_some : Option Addr} {sl_some : Array (Option Value)} {oc_some kV_some dc_some pm_some cd_some ct_some : Value} {f_machine : Addr} {od_machine an_machine : Option Addr} {sl_machine : Array (Option Value)} {oc_machine kV_machine dc_machine pm_machine cd_machine ct_machine : Value} {f_names : Addr} {od_names an_names : Option Addr} {sl_names : Array (Option Value)} {oc_names kV_names dc_names pm_names cd_names ct_names : Value} {f_cell_at : Addr} {od_cell_at an_cell_at : Option Addr} {sl_cell_at : Array (Option Value)} {oc_cell_at kV_cell_at dc_cell_at pm_cell_at cd_cell_at ct_cell_at : Value} {f_is_place : Addr} {od_is_place an_is_place : Option Addr} {sl_is_place : Array (Option Value)} {oc_is_place kV_is_place dc_is_place pm_is_place cd_is_place ct_is_place : Value} {f_are_choices : Addr} {od_are_choices an_are_choices : Option Addr} {sl_are_choices : Array (Option Value)} {oc_are_choices kV_are_choices dc_are_choices pm_are_choices cd_are_choices ct_are_choices : Value} {f_is_mark : Addr} {od_is_mark an_is_mark : Option Addr} {sl_is_mark : Array (Option Value)} {oc_is_mark kV_is_mark dc_is_mark pm_is_mark cd_is_mark ct_is_mark : Value} {f_is_machine : Addr} {od_is_machine an_is_machine : Option Addr} {sl_is_machine : Array (Option Value)} {oc_is_machine kV_is_machine dc_is_machine pm_is_machine cd_is_machine ct_is_machine : Value} {f_Machine___init__ : Addr} {od_Machine___init__ an_Machine___init__ : Option Addr} {sl_Machine___init__ : Array (Option Value)} {oc_Machine___init__ kV_Machine___init__ dc_Machine___init__ pm_Machine___init__ cd_Machine___init__ ct_Machine___init__ : Value} {f_walk : Addr} {od_walk an_walk : Option Addr} {sl_walk : Array (Option Value)} {oc_walk kV_walk dc_walk pm_walk cd_walk ct_walk : Value} {f_bent : Addr} {od_bent an_bent : Option Addr} {sl_bent : Array (Option Value)} {oc_bent kV_bent dc_bent pm_bent cd_bent ct_bent : Value} {f_lis_walk : Addr} {od_lis_walk an_lis_walk : Option Addr} {sl_lis_walk : Array (Option Value)} {oc_lis_walk kV_lis_walk dc_lis_walk pm_lis_walk cd_lis_walk ct_lis_walk : Value} {f_Machine_starts : Addr} {od_Machine_starts an_Machine_starts : Option Addr} {sl_Machine_starts : Array (Option Value)} {oc_Machine_starts kV_Machine_starts dc_Machine_starts pm_Machine_starts cd_Machine_starts ct_Machine_starts : Value} {f_Machine_has_place : Addr} {od_Machine_has_place an_Machine_has_place : Option Addr} {sl_Machine_has_place : Array (Option Value)} {oc_Machine_has_place kV_Machine_has_place dc_Machine_has_place pm_Machine_has_place cd_Machine_has_place ct_Machine_has_place : Value} {f_Machine_leads : Addr} {od_Machine_leads an_Machine_leads : Option Addr} {sl_Machine_leads : Array (Option Value)} {oc_Machine_leads kV_Machine_leads dc_Machine_leads pm_Machine_leads cd_Machine_leads ct_Machine_leads : Value} {f_is_walk : Addr} {od_is_walk an_is_walk : Option Addr} {sl_is_walk : Array (Option Value)} {oc_is_walk kV_is_walk dc_is_walk pm_is_walk cd_is_walk ct_is_walk : Value} {f_Machine_mark : Addr} {od_Machine_mark an_Machine_mark : Option Addr} {sl_Machine_mark : Array (Option Value)} {oc_Machine_mark kV_Machine_mark dc_Machine_mark pm_Machine_mark cd_Machine_mark ct_Machine_mark : Value} {f_marks_along : Addr} {od_marks_along an_marks_along : Option Addr} {sl_marks_along : Array (Option Value)} {oc_marks_along kV_marks_along dc_marks_along pm_marks_along cd_marks_along ct_marks_along : Value} {f_right : Addr} {od_right an_right : Option Addr} {sl_right : Array (Option Value)} {oc_right kV_right dc_right pm_right cd_right ct_right : Value} {f_refused : Addr} {od_refused an_refused : Option Addr} {sl_refused : Array (Option Value)} {oc_refused kV_refused dc_refused pm_refused cd_refused ct_refused : Value} {f_law : Addr} {od_law an_law : Option Addr} {sl_law : Array (Option Value)} {oc_law kV_law dc_law pm_law cd_law ct_law : Value} {t_LONGEST : Nat} {t_MOST_PLACES : Nat} (X : K.In h) (G : h.Ns mainGlobals mg) (hfa : mg "law" = some (.ref fa))
    (ac_BadMachine : PySem.W.nsIn K mainGlobals "BadMachine" = some (some (.ref C_BadMachine)))
    (ac_BadSaying : PySem.W.nsIn K mainGlobals "BadSaying" = some (some (.ref C_BadSaying)))
    (ac_Machine : PySem.W.nsIn K mainGlobals "Machine" = some (some (.ref C_Machine)))
    (ac_NoWalk : PySem.W.nsIn K mainGlobals "NoWalk" = some (some (.ref C_NoWalk)))
    (ac_TooMany : PySem.W.nsIn K mainGlobals "TooMany" = some (some (.ref C_TooMany)))
    (ac_WalkError : PySem.W.nsIn K mainGlobals "WalkError" = some (some (.ref C_WalkError)))
    (a_draw : PySem.W.nsIn K mainGlobals "_law_draw" = some (some (.ref f_draw)))
    (l_draw : K.lookup f_draw = some ⟨oc_draw, od_draw, .func (PySem.W.fnOf "_law_draw" "_law_draw" (defArgs s_draw) (defBody s_draw) (defScope s_draw) .none kV_draw dc_draw pm_draw an_draw cd_draw ct_draw), sl_draw⟩)
    (cc_draw : PySem.W.codeIn K cd_draw "_law_draw" = true)
    (k_draw : PySem.W.keepIn K (.ref f_draw) = true)
    (a_some : PySem.W.nsIn K mainGlobals "_law_some" = some (some (.ref f_some)))
    (l_some : K.lookup f_some = some ⟨oc_some, od_some, .func (PySem.W.fnOf "_law_some" "_law_some" (defArgs s_some) (defBody s_some) (defScope s_some) .none kV_some dc_some pm_some an_some cd_some ct_some), sl_some⟩)
    (cc_some : PySem.W.codeIn K cd_some "_law_some" = true)
    (k_some : PySem.W.keepIn K (.ref f_some) = true)
    (a_machine : PySem.W.nsIn K mainGlobals "_law_machine" = some (some (.ref f_machine)))
    (l_machine : K.lookup f_machine = some ⟨oc_machine, od_machine, .func (PySem.W.fnOf "_law_machine" "_law_machine" (defArgs s_machine) (defBody s_machine) (defScope s_machine) .none kV_machine dc_machine pm_machine an_machine cd_machine ct_machine), sl_machine⟩)
    (cc_machine : PySem.W.codeIn K cd_machine "_law_machine" = true)
    (k_machine : PySem.W.keepIn K (.ref f_machine) = true)
    (a_names : PySem.W.nsIn K mainGlobals "_law_names" = some (some (.ref f_names)))
    (l_names : K.lookup f_names = some ⟨oc_names, od_names, .func (PySem.W.fnOf "_law_names" "_law_names" (defArgs s_names) (defBody s_names) (defScope s_names) .none kV_names dc_names pm_names an_names cd_names ct_names), sl_names⟩)
    (cc_names : PySem.W.codeIn K cd_names "_law_names" = true)
    (k_names : PySem.W.keepIn K (.ref f_names) = true)
    (a_cell_at : PySem.W.nsIn K mainGlobals "_law_cell_at" = some (some (.ref f_cell_at)))
    (l_cell_at : K.lookup f_cell_at = some ⟨oc_cell_at, od_cell_at, .func (PySem.W.fnOf "_law_cell_at" "_law_cell_at" (defArgs s_cell_at) (defBody s_cell_at) (defScope s_cell_at) .none kV_cell_at dc_cell_at pm_cell_at an_cell_at cd_cell_at ct_cell_at), sl_cell_at⟩)
    (cc_cell_at : PySem.W.codeIn K cd_cell_at "_law_cell_at" = true)
    (k_cell_at : PySem.W.keepIn K (.ref f_cell_at) = true)
    (a_is_place : PySem.W.nsIn K mainGlobals "_is_place" = some (some (.ref f_is_place)))
    (l_is_place : K.lookup f_is_place = some ⟨oc_is_place, od_is_place, .func (PySem.W.fnOf "_is_place" "_is_place" (defArgs s_is_place) (defBody s_is_place) (defScope s_is_place) .none kV_is_place dc_is_place pm_is_place an_is_place cd_is_place ct_is_place), sl_is_place⟩)
    (cc_is_place : PySem.W.codeIn K cd_is_place "_is_place" = true)
    (k_is_place : PySem.W.keepIn K (.ref f_is_place) = true)
    (a_are_choices : PySem.W.nsIn K mainGlobals "_are_choices" = some (some (.ref f_are_choices)))
    (l_are_choices : K.lookup f_are_choices = some ⟨oc_are_choices, od_are_choices, .func (PySem.W.fnOf "_are_choices" "_are_choices" (defArgs s_are_choices) (defBody s_are_choices) (defScope s_are_choices) .none kV_are_choices dc_are_choices pm_are_choices an_are_choices cd_are_choices ct_are_choices), sl_are_choices⟩)
    (cc_are_choices : PySem.W.codeIn K cd_are_choices "_are_choices" = true)
    (k_are_choices : PySem.W.keepIn K (.ref f_are_choices) = true)
    (a_is_mark : PySem.W.nsIn K mainGlobals "is_mark" = some (some (.ref f_is_mark)))
    (l_is_mark : K.lookup f_is_mark = some ⟨oc_is_mark, od_is_mark, .func (PySem.W.fnOf "is_mark" "is_mark" (defArgs s_is_mark) (defBody s_is_mark) (defScope s_is_mark) .none kV_is_mark dc_is_mark pm_is_mark an_is_mark cd_is_mark ct_is_mark), sl_is_mark⟩)
    (cc_is_mark : PySem.W.codeIn K cd_is_mark "is_mark" = true)
    (k_is_mark : PySem.W.keepIn K (.ref f_is_mark) = true)
    (a_is_machine : PySem.W.nsIn K mainGlobals "_is_machine" = some (some (.ref f_is_machine)))
    (l_is_machine : K.lookup f_is_machine = some ⟨oc_is_machine, od_is_machine, .func (PySem.W.fnOf "_is_machine" "_is_machine" (defArgs s_is_machine) (defBody s_is_machine) (defScope s_is_machine) .none kV_is_machine dc_is_machine pm_is_machine an_is_machine cd_is_machine ct_is_machine), sl_is_machine⟩)
    (cc_is_machine : PySem.W.codeIn K cd_is_machine "_is_machine" = true)
    (k_is_machine : PySem.W.keepIn K (.ref f_is_machine) = true)
    (a_Machine___init__ : PySem.W.findIn K (.ref C_Machine) "__init__" = some (some (.ref f_Machine___init__)))
    (i_Machine___init__ : PySem.W.isFn K (.ref f_Machine___init__) = true)
    (l_Machine___init__ : K.lookup f_Machine___init__ = some ⟨oc_Machine___init__, od_Machine___init__, .func (PySem.W.fnOf "__init__" "Machine.__init__" (defArgs s_Machine___init__) (defBody s_Machine___init__) (defScope s_Machine___init__) .none kV_Machine___init__ dc_Machine___init__ pm_Machine___init__ an_Machine___init__ cd_Machine___init__ ct_Machine___init__), sl_Machine___init__⟩)
    (cc_Machine___init__ : PySem.W.codeIn K cd_Machine___init__ "Machine.__init__" = true)
    (k_Machine___init__ : PySem.W.keepIn K (.ref f_Machine___init__) = true)
    (a_walk : PySem.W.nsIn K mainGlobals "_law_walk" = some (some (.ref f_walk)))
    (l_walk : K.lookup f_walk = some ⟨oc_walk, od_walk, .func (PySem.W.fnOf "_law_walk" "_law_walk" (defArgs s_walk) (defBody s_walk) (defScope s_walk) .none kV_walk dc_walk pm_walk an_walk cd_walk ct_walk), sl_walk⟩)
    (cc_walk : PySem.W.codeIn K cd_walk "_law_walk" = true)
    (k_walk : PySem.W.keepIn K (.ref f_walk) = true)
    (a_bent : PySem.W.nsIn K mainGlobals "_law_bent" = some (some (.ref f_bent)))
    (l_bent : K.lookup f_bent = some ⟨oc_bent, od_bent, .func (PySem.W.fnOf "_law_bent" "_law_bent" (defArgs s_bent) (defBody s_bent) (defScope s_bent) .none kV_bent dc_bent pm_bent an_bent cd_bent ct_bent), sl_bent⟩)
    (cc_bent : PySem.W.codeIn K cd_bent "_law_bent" = true)
    (k_bent : PySem.W.keepIn K (.ref f_bent) = true)
    (a_lis_walk : PySem.W.nsIn K mainGlobals "_law_is_walk" = some (some (.ref f_lis_walk)))
    (l_lis_walk : K.lookup f_lis_walk = some ⟨oc_lis_walk, od_lis_walk, .func (PySem.W.fnOf "_law_is_walk" "_law_is_walk" (defArgs s_lis_walk) (defBody s_lis_walk) (defScope s_lis_walk) .none kV_lis_walk dc_lis_walk pm_lis_walk an_lis_walk cd_lis_walk ct_lis_walk), sl_lis_walk⟩)
    (cc_lis_walk : PySem.W.codeIn K cd_lis_walk "_law_is_walk" = true)
    (k_lis_walk : PySem.W.keepIn K (.ref f_lis_walk) = true)
    (a_Machine_starts : PySem.W.findIn K (.ref C_Machine) "starts" = some (some (.ref f_Machine_starts)))
    (i_Machine_starts : PySem.W.isFn K (.ref f_Machine_starts) = true)
    (l_Machine_starts : K.lookup f_Machine_starts = some ⟨oc_Machine_starts, od_Machine_starts, .func (PySem.W.fnOf "starts" "Machine.starts" (defArgs s_Machine_starts) (defBody s_Machine_starts) (defScope s_Machine_starts) .none kV_Machine_starts dc_Machine_starts pm_Machine_starts an_Machine_starts cd_Machine_starts ct_Machine_starts), sl_Machine_starts⟩)
    (cc_Machine_starts : PySem.W.codeIn K cd_Machine_starts "Machine.starts" = true)
    (k_Machine_starts : PySem.W.keepIn K (.ref f_Machine_starts) = true)
    (a_Machine_has_place : PySem.W.findIn K (.ref C_Machine) "has_place" = some (some (.ref f_Machine_has_place)))
    (i_Machine_has_place : PySem.W.isFn K (.ref f_Machine_has_place) = true)
    (l_Machine_has_place : K.lookup f_Machine_has_place = some ⟨oc_Machine_has_place, od_Machine_has_place, .func (PySem.W.fnOf "has_place" "Machine.has_place" (defArgs s_Machine_has_place) (defBody s_Machine_has_place) (defScope s_Machine_has_place) .none kV_Machine_has_place dc_Machine_has_place pm_Machine_has_place an_Machine_has_place cd_Machine_has_place ct_Machine_has_place), sl_Machine_has_place⟩)
    (cc_Machine_has_place : PySem.W.codeIn K cd_Machine_has_place "Machine.has_place" = true)
    (k_Machine_has_place : PySem.W.keepIn K (.ref f_Machine_has_place) = true)
    (a_Machine_leads : PySem.W.findIn K (.ref C_Machine) "leads" = some (some (.ref f_Machine_leads)))
    (i_Machine_leads : PySem.W.isFn K (.ref f_Machine_leads) = true)
    (l_Machine_leads : K.lookup f_Machine_leads = some ⟨oc_Machine_leads, od_Machine_leads, .func (PySem.W.fnOf "leads" "Machine.leads" (defArgs s_Machine_leads) (defBody s_Machine_leads) (defScope s_Machine_leads) .none kV_Machine_leads dc_Machine_leads pm_Machine_leads an_Machine_leads cd_Machine_leads ct_Machine_leads), sl_Machine_leads⟩)
    (cc_Machine_leads : PySem.W.codeIn K cd_Machine_leads "Machine.leads" = true)
    (k_Machine_leads : PySem.W.keepIn K (.ref f_Machine_leads) = true)
    (a_is_walk : PySem.W.nsIn K mainGlobals "_is_walk" = some (some (.ref f_is_walk)))
    (l_is_walk : K.lookup f_is_walk = some ⟨oc_is_walk, od_is_walk, .func (PySem.W.fnOf "_is_walk" "_is_walk" (defArgs s_is_walk) (defBody s_is_walk) (defScope s_is_walk) .none kV_is_walk dc_is_walk pm_is_walk an_is_walk cd_is_walk ct_is_walk), sl_is_walk⟩)
    (cc_is_walk : PySem.W.codeIn K cd_is_walk "_is_walk" = true)
    (k_is_walk : PySem.W.keepIn K (.ref f_is_walk) = true)
    (a_Machine_mark : PySem.W.findIn K (.ref C_Machine) "mark" = some (some (.ref f_Machine_mark)))
    (i_Machine_mark : PySem.W.isFn K (.ref f_Machine_mark) = true)
    (l_Machine_mark : K.lookup f_Machine_mark = some ⟨oc_Machine_mark, od_Machine_mark, .func (PySem.W.fnOf "mark" "Machine.mark" (defArgs s_Machine_mark) (defBody s_Machine_mark) (defScope s_Machine_mark) .none kV_Machine_mark dc_Machine_mark pm_Machine_mark an_Machine_mark cd_Machine_mark ct_Machine_mark), sl_Machine_mark⟩)
    (cc_Machine_mark : PySem.W.codeIn K cd_Machine_mark "Machine.mark" = true)
    (k_Machine_mark : PySem.W.keepIn K (.ref f_Machine_mark) = true)
    (a_marks_along : PySem.W.nsIn K mainGlobals "marks_along" = some (some (.ref f_marks_along)))
    (l_marks_along : K.lookup f_marks_along = some ⟨oc_marks_along, od_marks_along, .func (PySem.W.fnOf "marks_along" "marks_along" (defArgs s_marks_along_x) (defBody s_marks_along_x) (defScope s_marks_along_x) .none kV_marks_along dc_marks_along pm_marks_along an_marks_along cd_marks_along ct_marks_along), sl_marks_along⟩)
    (cc_marks_along : PySem.W.codeIn K cd_marks_along "marks_along" = true)
    (k_marks_along : PySem.W.keepIn K (.ref f_marks_along) = true)
    (a_right : PySem.W.nsIn K mainGlobals "_law_right" = some (some (.ref f_right)))
    (l_right : K.lookup f_right = some ⟨oc_right, od_right, .func (PySem.W.fnOf "_law_right" "_law_right" (defArgs s_right) (defBody s_right) (defScope s_right) .none kV_right dc_right pm_right an_right cd_right ct_right), sl_right⟩)
    (cc_right : PySem.W.codeIn K cd_right "_law_right" = true)
    (k_right : PySem.W.keepIn K (.ref f_right) = true)
    (a_refused : PySem.W.nsIn K mainGlobals "_law_refused" = some (some (.ref f_refused)))
    (l_refused : K.lookup f_refused = some ⟨oc_refused, od_refused, .func (PySem.W.fnOf "_law_refused" "_law_refused" (defArgs s_refused) (defBody s_refused) (defScope s_refused) .none kV_refused dc_refused pm_refused an_refused cd_refused ct_refused), sl_refused⟩)
    (cc_refused : PySem.W.codeIn K cd_refused "_law_refused" = true)
    (k_refused : PySem.W.keepIn K (.ref f_refused) = true)
    (a_law : PySem.W.nsIn K mainGlobals "law" = some (some (.ref f_law)))
    (l_law : K.lookup f_law = some ⟨oc_law, od_law, .func (PySem.W.fnOf "law" "law" (defArgs s_law) (defBody s_law) (defScope s_law) .none kV_law dc_law pm_law an_law cd_law ct_law), sl_law⟩)
    (cc_law : PySem.W.codeIn K cd_law "law" = true)
    (k_law : PySem.W.keepIn K (.ref f_law) = true)
    (pg_Machine : PySem.W.plainGet K C_Machine Str.empty = true)
    (hd_Machine : PySem.W.hasDictIn K C_Machine = true)
    (po_Machine : PySem.W.plainOver K C_Machine = true)
    (sa_Machine : PySem.W.findIn K (.ref C_Machine) "__setattr__" = some (some (.builtin "object.__setattr__")))
    (mk_Machine : PySem.W.makesIn K C_Machine = true)
    (kc_Machine : PySem.W.keepIn K (.ref C_Machine) = true)
    (h_x_NoWalk : PySem.W.excIn K C_NoWalk [.type "ValueError", .type "Exception", .type "BaseException", .type "object"] "ValueError.__new__" = true)
    (h_kp_NoWalk : PySem.W.keepIn K (.ref C_NoWalk) = true)
    (h_sb_NoWalk : PySem.W.subIn K (.ref C_NoWalk) (.type "BaseException") = some true)
    (h_ty_NoWalk : PySem.W.typeIn K (.ref C_NoWalk) = some (.type "type"))
    (h_i1_Machine : PySem.W.findIn K (.ref C_Machine) "__class__" = some (some (.builtin "object.__class__")))
    (h_i2_Machine : PySem.W.specialIn K (.builtin "object.__class__") "__get__" = some (some (.builtin "getset_descriptor.__get__")))
    (h_i3_Machine : PySem.W.takesIn K (.builtin "object.__class__") = some true)
    (h_i4_Machine : PySem.W.mroIn K C_Machine (.type "object") = some true)
    (eb_C_WalkError : PySem.W.subIn K (.ref C_WalkError) (.type "BaseException") = some true)
    (ei_C_WalkError : PySem.W.isClsIn K C_WalkError = true)
    (et_C_WalkError : PySem.W.typeIn K (.ref C_WalkError) = some (.type "type"))
    (es_C_NoWalk_C_WalkError : PySem.W.subIn K (.ref C_NoWalk) (.ref C_WalkError) = some true)
    (ec_NoWalk_hg : PySem.W.findIn K (.ref C_NoWalk) "__getattribute__" = some (some (.builtin "BaseException.__getattribute__")))
    (ec_NoWalk_hk : PySem.W.findIn K (.ref C_NoWalk) "__getattr__" = some none)
    (ec_NoWalk_hs : PySem.W.subIn K (.ref C_NoWalk) (.type "BaseException") = some true)
    (ec_NoWalk_hd : PySem.W.hasDictIn K C_NoWalk = true)
    (ec_NoWalk_ha : PySem.W.findIn K (.ref C_NoWalk) "__class__" = some (some (.builtin "object.__class__")))
    (ec_NoWalk_hn : PySem.W.specialIn K (.builtin "object.__class__") "__get__" = some (some (.builtin "getset_descriptor.__get__")))
    (ec_NoWalk_ht : PySem.W.takesIn K (.builtin "object.__class__") = some true)
    (ec_NoWalk_hm : PySem.W.mroIn K C_NoWalk (.type "object") = some true)
    (ne_C_NoWalk_C_TooMany : C_NoWalk ≠ C_TooMany)
    (ki_C_NoWalk_C_TooMany : PySem.W.isClsIn K C_TooMany = true)
    (kt_C_NoWalk_C_TooMany : PySem.W.typeIn K (.ref C_TooMany) = some (.type "type"))
    (ks_C_NoWalk_C_TooMany : PySem.W.subIn K (.ref C_NoWalk) (.ref C_TooMany) = some false)
    (ne_C_NoWalk_C_BadSaying : C_NoWalk ≠ C_BadSaying)
    (ki_C_NoWalk_C_BadSaying : PySem.W.isClsIn K C_BadSaying = true)
    (kt_C_NoWalk_C_BadSaying : PySem.W.typeIn K (.ref C_BadSaying) = some (.type "type"))
    (ks_C_NoWalk_C_BadSaying : PySem.W.subIn K (.ref C_NoWalk) (.ref C_BadSaying) = some false)
    (ne_C_NoWalk_C_BadMachine : C_NoWalk ≠ C_BadMachine)
    (ki_C_NoWalk_C_BadMachine : PySem.W.isClsIn K C_BadMachine = true)
    (kt_C_NoWalk_C_BadMachine : PySem.W.typeIn K (.ref C_BadMachine) = some (.type "type"))
    (ks_C_NoWalk_C_BadMachine : PySem.W.subIn K (.ref C_NoWalk) (.ref C_BadMachine) = some false)
    (ks_C_NoWalk_ValueError : PySem.W.subIn K (.ref C_NoWalk) (.type "ValueError") = some true)
    (n_Machine__begins : PySem.W.findIn K (.ref C_Machine) "_begins" = some none)
    (n_Machine__marks : PySem.W.findIn K (.ref C_Machine) "_marks" = some none)
    (n_Machine__ways : PySem.W.findIn K (.ref C_Machine) "_ways" = some none)
    (b_ValueError : PySem.W.nsIn K mainGlobals "ValueError" = some none)
    (b_all : PySem.W.nsIn K mainGlobals "all" = some none)
    (b_bool : PySem.W.nsIn K mainGlobals "bool" = some none)
    (b_int : PySem.W.nsIn K mainGlobals "int" = some none)
    (b_isinstance : PySem.W.nsIn K mainGlobals "isinstance" = some none)
    (b_len : PySem.W.nsIn K mainGlobals "len" = some none)
    (b_list : PySem.W.nsIn K mainGlobals "list" = some none)
    (b_range : PySem.W.nsIn K mainGlobals "range" = some none)
    (b_set : PySem.W.nsIn K mainGlobals "set" = some none)
    (b_str : PySem.W.nsIn K mainGlobals "str" = some none)
    (b_tuple : PySem.W.nsIn K mainGlobals "tuple" = some none)
    (b_type : PySem.W.nsIn K mainGlobals "type" = some none)
    (b_zip : PySem.W.nsIn K mainGlobals "zip" = some none)
    (g_LONGEST : PySem.W.nsIn K mainGlobals "LONGEST" = some (some (.int 6 t_LONGEST)))
    (g_MOST_PLACES : PySem.W.nsIn K mainGlobals "MOST_PLACES" = some (some (.int 12 t_MOST_PLACES)))
    : ∃ fd : FuncData, (∀ (s : Shared) (v : Value), BindsTo s fd ⟨[v], []⟩ [("_law_script", v)]) ∧ ∀ base : Heap, K.In base → base.Ns mainGlobals mg → FnOk l.prog w K mg base CX0 6 fa fd ["_law_script"] (spG K R_law) := by
  have e := hfa.symm.trans (PySem.W.mg_of X G a_law)
  cases e
  have T : Tx K mg C_BadMachine C_BadSaying C_Machine C_NoWalk C_TooMany C_WalkError := { c_BadMachine := PySem.W.mg_of X G ac_BadMachine, c_BadSaying := PySem.W.mg_of X G ac_BadSaying, c_Machine := PySem.W.mg_of X G ac_Machine, c_NoWalk := PySem.W.mg_of X G ac_NoWalk, c_TooMany := PySem.W.mg_of X G ac_TooMany, c_WalkError := PySem.W.mg_of X G ac_WalkError, k_Machine := ⟨pg_Machine, hd_Machine, po_Machine, sa_Machine⟩, x_NoWalk := h_x_NoWalk, kp_NoWalk := h_kp_NoWalk, sb_NoWalk := h_sb_NoWalk, ty_NoWalk := h_ty_NoWalk, i1_Machine := h_i1_Machine, i2_Machine := h_i2_Machine, i3_Machine := h_i3_Machine, i4_Machine := h_i4_Machine, em_NoWalk := kexm eb_C_WalkError ei_C_WalkError et_C_WalkError es_C_NoWalk_C_WalkError, ec_NoWalk := ⟨ec_NoWalk_hg, ec_NoWalk_hk, ec_NoWalk_hs, ec_NoWalk_hd, ec_NoWalk_ha, ec_NoWalk_hn, ec_NoWalk_ht, ec_NoWalk_hm⟩, ka_NoWalk := kany_cons (kone_ref ne_C_NoWalk_C_BadMachine ki_C_NoWalk_C_BadMachine kt_C_NoWalk_C_BadMachine ks_C_NoWalk_C_BadMachine) (kany_cons (kone_ref ne_C_NoWalk_C_BadSaying ki_C_NoWalk_C_BadSaying kt_C_NoWalk_C_BadSaying ks_C_NoWalk_C_BadSaying) (kany_cons (kone_ref ne_C_NoWalk_C_TooMany ki_C_NoWalk_C_TooMany kt_C_NoWalk_C_TooMany ks_C_NoWalk_C_TooMany) (kany_nil))), kv_NoWalk := kone_ty (by decide +kernel) ks_C_NoWalk_ValueError, n_Machine__begins := n_Machine__begins, n_Machine__marks := n_Machine__marks, n_Machine__ways := n_Machine__ways, b_ValueError := PySem.W.mg_none_of X G b_ValueError, b_all := PySem.W.mg_none_of X G b_all, b_bool := PySem.W.mg_none_of X G b_bool, b_int := PySem.W.mg_none_of X G b_int, b_isinstance := PySem.W.mg_none_of X G b_isinstance, b_len := PySem.W.mg_none_of X G b_len, b_list := PySem.W.mg_none_of X G b_list, b_range := PySem.W.mg_none_of X G b_range, b_set := PySem.W.mg_none_of X G b_set, b_str := PySem.W.mg_none_of X G b_str, b_tuple := PySem.W.mg_none_of X G b_tuple, b_type := PySem.W.mg_none_of X G b_type, b_zip := PySem.W.mg_none_of X G b_zip, g_LONGEST := ⟨t_LONGEST, PySem.W.mg_of X G g_LONGEST⟩, g_MOST_PLACES := ⟨t_MOST_PLACES, PySem.W.mg_of X G g_MOST_PLACES⟩ }
  have F_draw := fun_mk (st := s_draw) l_draw cc_draw k_draw
  have B_draw := F_draw.binds (ps := ["_law_script", "_law_spot"]) fun _ _ _ _ _ _ us hl => match us, hl with | [_, _], _ => rfl
  have F_some := fun_mk (st := s_some) l_some cc_some k_some
  have B_some := F_some.binds (ps := ["_law_cell", "_law_many", "_law_first"]) fun _ _ _ _ _ _ us hl => match us, hl with | [_, _, _], _ => rfl
  have F_machine := fun_mk (st := s_machine) l_machine cc_machine k_machine
  have B_machine := F_machine.binds (ps := ["_law_script", "_law_spot", "_law_names_here", "_law_most"]) fun _ _ _ _ _ _ us hl => match us, hl with | [_, _, _, _], _ => rfl
  have F_names := fun_mk (st := s_names) l_names cc_names k_names
  have B_names := F_names.binds (ps := ["_law_cell"]) fun _ _ _ _ _ _ us hl => match us, hl with | [_], _ => rfl
  have F_cell_at := fun_mk (st := s_cell_at) l_cell_at cc_cell_at k_cell_at
  have B_cell_at := F_cell_at.binds (ps := ["_law_script", "_law_k"]) fun _ _ _ _ _ _ us hl => match us, hl with | [_, _], _ => rfl
  have F_is_place := fun_mk (st := s_is_place) l_is_place cc_is_place k_is_place
  have B_is_place := F_is_place.binds (ps := ["thing", "many"]) fun _ _ _ _ _ _ us hl => match us, hl with | [_, _], _ => rfl
  have F_are_choices := fun_mk (st := s_are_choices) l_are_choices cc_are_choices k_are_choices
  have B_are_choices := F_are_choices.binds (ps := ["things", "many"]) fun _ _ _ _ _ _ us hl => match us, hl with | [_, _], _ => rfl
  have F_is_mark := fun_mk (st := s_is_mark) l_is_mark cc_is_mark k_is_mark
  have B_is_mark := F_is_mark.binds (ps := ["thing"]) fun _ _ _ _ _ _ us hl => match us, hl with | [_], _ => rfl
  have F_is_machine := fun_mk (st := s_is_machine) l_is_machine cc_is_machine k_is_machine
  have B_is_machine := F_is_machine.binds (ps := ["marks", "ways", "begins"]) fun _ _ _ _ _ _ us hl => match us, hl with | [_, _, _], _ => rfl
  have F_Machine___init__ := fun_mk (st := s_Machine___init__) l_Machine___init__ cc_Machine___init__ k_Machine___init__
  have B_Machine___init__ := F_Machine___init__.binds (ps := ["self", "marks", "ways", "begins"]) fun _ _ _ _ _ _ us hl => match us, hl with | [_, _, _, _], _ => rfl
  have F_walk := fun_mk (st := s_walk) l_walk cc_walk k_walk
  have B_walk := F_walk.binds (ps := ["_law_script", "_law_spot", "_law_machine_here", "_law_most"]) fun _ _ _ _ _ _ us hl => match us, hl with | [_, _, _, _], _ => rfl
  have F_bent := fun_mk (st := s_bent) l_bent cc_bent k_bent
  have B_bent := F_bent.binds (ps := ["_law_cell", "_law_way", "_law_ring", "_law_many"]) fun _ _ _ _ _ _ us hl => match us, hl with | [_, _, _, _], _ => rfl
  have F_lis_walk := fun_mk (st := s_lis_walk) l_lis_walk cc_lis_walk k_lis_walk
  have B_lis_walk := F_lis_walk.binds (ps := ["_law_machine_here", "_law_way", "_law_ring"]) fun _ _ _ _ _ _ us hl => match us, hl with | [_, _, _], _ => rfl
  have F_Machine_starts := fun_mk (st := s_Machine_starts) l_Machine_starts cc_Machine_starts k_Machine_starts
  have B_Machine_starts := F_Machine_starts.binds (ps := ["self"]) fun _ _ _ _ _ _ us hl => match us, hl with | [_], _ => rfl
  have F_Machine_has_place := fun_mk (st := s_Machine_has_place) l_Machine_has_place cc_Machine_has_place k_Machine_has_place
  have B_Machine_has_place := F_Machine_has_place.binds (ps := ["self", "thing"]) fun _ _ _ _ _ _ us hl => match us, hl with | [_, _], _ => rfl
  have F_Machine_leads := fun_mk (st := s_Machine_leads) l_Machine_leads cc_Machine_leads k_Machine_leads
  have B_Machine_leads := F_Machine_leads.binds (ps := ["self", "place"]) fun _ _ _ _ _ _ us hl => match us, hl with | [_, _], _ => rfl
  have F_is_walk := fun_mk (st := s_is_walk) l_is_walk cc_is_walk k_is_walk
  have B_is_walk := F_is_walk.binds (ps := ["machine", "way", "ring"]) fun _ _ _ _ _ _ us hl => match us, hl with | [_, _, _], _ => rfl
  have F_Machine_mark := fun_mk (st := s_Machine_mark) l_Machine_mark cc_Machine_mark k_Machine_mark
  have B_Machine_mark := F_Machine_mark.binds (ps := ["self", "place"]) fun _ _ _ _ _ _ us hl => match us, hl with | [_, _], _ => rfl
  have F_marks_along := fun_mk (st := s_marks_along_x) l_marks_along cc_marks_along k_marks_along
  have B_marks_along := F_marks_along.binds (ps := ["machine", "way", "ring"]) fun _ _ _ _ _ _ us hl => match us, hl with | [_, _, _], _ => rfl
  have F_right := fun_mk (st := s_right) l_right cc_right k_right
  have B_right := F_right.binds (ps := ["_law_machine_here", "_law_marks", "_law_way", "_law_ring"]) fun _ _ _ _ _ _ us hl => match us, hl with | [_, _, _, _], _ => rfl
  have F_refused := fun_mk (st := s_refused) l_refused cc_refused k_refused
  have B_refused := F_refused.binds (ps := ["_law_machine_here", "_law_way", "_law_ring"]) fun _ _ _ _ _ _ us hl => match us, hl with | [_, _, _], _ => rfl
  have F_law := fun_mk (st := s_law) l_law cc_law k_law
  have B_law := F_law.binds (ps := ["_law_script"]) fun _ _ _ _ _ _ us hl => match us, hl with | [_], _ => rfl
  refine ⟨PySem.W.fnOf "law" "law" (defArgs s_law) (defBody s_law) (defScope s_law) .none kV_law dc_law pm_law an_law cd_law ct_law, fun s v => .of_eq rfl, fun base _ _ => ?_⟩
  have M_draw : Cal l.prog w K mg base "_law_draw" 1 ["_law_script", "_law_spot"] (spG K R_draw) f_draw _ := ⟨PySem.W.mg_of X G a_draw, k_draw, B_draw, ok_draw F_draw T ⟩
  have M_some : Cal l.prog w K mg base "_law_some" 1 ["_law_cell", "_law_many", "_law_first"] (spG K R_some) f_some _ := ⟨PySem.W.mg_of X G a_some, k_some, B_some, ok_some F_some T ⟩
  have M_machine : Cal l.prog w K mg base "_law_machine" 2 ["_law_script", "_law_spot", "_law_names_here", "_law_most"] (spG K R_machine) f_machine _ := ⟨PySem.W.mg_of X G a_machine, k_machine, B_machine, ok_machine F_machine T M_draw M_some⟩
  have M_names : Cal l.prog w K mg base "_law_names" 1 ["_law_cell"] (spG K R_names) f_names _ := ⟨PySem.W.mg_of X G a_names, k_names, B_names, ok_names F_names T ⟩
  have M_cell_at : Cal l.prog w K mg base "_law_cell_at" 1 ["_law_script", "_law_k"] (spG K R_cell_at) f_cell_at _ := ⟨PySem.W.mg_of X G a_cell_at, k_cell_at, B_cell_at, ok_cell_at F_cell_at T ⟩
  have M_is_place : Cal l.prog w K mg base "_is_place" 1 ["thing", "many"] (spG K R_is_place) f_is_place _ := ⟨PySem.W.mg_of X G a_is_place, k_is_place, B_is_place, ok_is_place F_is_place T ⟩
  have M_are_choices : Cal l.prog w K mg base "_are_choices" 2 ["things", "many"] (spG K R_are_choices) f_are_choices _ := ⟨PySem.W.mg_of X G a_are_choices, k_are_choices, B_are_choices, ok_are_choices F_are_choices T M_is_place⟩
  have M_is_mark : Cal l.prog w K mg base "is_mark" 1 ["thing"] (spG K R_is_mark) f_is_mark _ := ⟨PySem.W.mg_of X G a_is_mark, k_is_mark, B_is_mark, ok_is_mark F_is_mark T ⟩
  have M_is_machine : Cal l.prog w K mg base "_is_machine" 3 ["marks", "ways", "begins"] (spG K R_is_machine) f_is_machine _ := ⟨PySem.W.mg_of X G a_is_machine, k_is_machine, B_is_machine, ok_is_machine F_is_machine T M_are_choices M_is_mark⟩
  have M_Machine___init__ : CalI l.prog w K mg base C_Machine 4 ["self", "marks", "ways", "begins"] (spInit K C_Machine R_Machine___init__) f_Machine___init__ _ := ⟨⟨mk_Machine, a_Machine___init__, i_Machine___init__, kc_Machine⟩, B_Machine___init__, ok_Machine___init__ F_Machine___init__ T M_is_machine⟩
  have M_walk : Cal l.prog w K mg base "_law_walk" 2 ["_law_script", "_law_spot", "_law_machine_here", "_law_most"] (spG K R_walk) f_walk _ := ⟨PySem.W.mg_of X G a_walk, k_walk, B_walk, ok_walk F_walk T M_draw⟩
  have M_bent : Cal l.prog w K mg base "_law_bent" 1 ["_law_cell", "_law_way", "_law_ring", "_law_many"] (spG K R_bent) f_bent _ := ⟨PySem.W.mg_of X G a_bent, k_bent, B_bent, ok_bent F_bent T ⟩
  have M_lis_walk : Cal l.prog w K mg base "_law_is_walk" 1 ["_law_machine_here", "_law_way", "_law_ring"] (spG K R_lis_walk) f_lis_walk _ := ⟨PySem.W.mg_of X G a_lis_walk, k_lis_walk, B_lis_walk, ok_lis_walk F_lis_walk T ⟩
  have M_Machine_starts : CalM l.prog w K mg base C_Machine "starts" 1 ["self"] (spG K (R_Machine_starts C_Machine)) f_Machine_starts _ := ⟨⟨a_Machine_starts, i_Machine_starts, k_Machine_starts⟩, B_Machine_starts, ok_Machine_starts F_Machine_starts T ⟩
  have M_Machine_has_place : CalM l.prog w K mg base C_Machine "has_place" 2 ["self", "thing"] (spG K (R_Machine_has_place C_Machine)) f_Machine_has_place _ := ⟨⟨a_Machine_has_place, i_Machine_has_place, k_Machine_has_place⟩, B_Machine_has_place, ok_Machine_has_place F_Machine_has_place T M_is_place⟩
  have M_Machine_leads : CalM l.prog w K mg base C_Machine "leads" 1 ["self", "place"] (spG K (R_Machine_leads C_Machine)) f_Machine_leads _ := ⟨⟨a_Machine_leads, i_Machine_leads, k_Machine_leads⟩, B_Machine_leads, ok_Machine_leads F_Machine_leads T ⟩
  have M_is_walk : Cal l.prog w K mg base "_is_walk" 3 ["machine", "way", "ring"] (spG K (R_is_walk C_Machine)) f_is_walk _ := ⟨PySem.W.mg_of X G a_is_walk, k_is_walk, B_is_walk, ok_is_walk F_is_walk T M_Machine_starts M_Machine_has_place M_Machine_leads⟩
  have M_Machine_mark : CalM l.prog w K mg base C_Machine "mark" 1 ["self", "place"] (spG K (R_Machine_mark C_Machine)) f_Machine_mark _ := ⟨⟨a_Machine_mark, i_Machine_mark, k_Machine_mark⟩, B_Machine_mark, ok_Machine_mark F_Machine_mark T ⟩
  have M_marks_along_n : Cal l.prog w K mg base "marks_along" 4 ["machine", "way", "ring"] (spN K (R_marks_along_n C_Machine)) f_marks_along _ := ⟨PySem.W.mg_of X G a_marks_along, k_marks_along, B_marks_along, ok_marks_along_n F_marks_along T M_is_walk M_Machine_mark⟩
  have M_right : Cal l.prog w K mg base "_law_right" 5 ["_law_machine_here", "_law_marks", "_law_way", "_law_ring"] (spG K (R_right C_Machine)) f_right _ := ⟨PySem.W.mg_of X G a_right, k_right, B_right, ok_right F_right T M_marks_along_n⟩
  have M_marks_along_x : CalX l.prog w K mg base (CX l.prog w) "marks_along" 4 ["machine", "way", "ring"] (spX K C_NoWalk (R_marks_along_x C_Machine)) f_marks_along _ := ⟨PySem.W.mg_of X G a_marks_along, k_marks_along, B_marks_along, ok_marks_along_x F_marks_along T M_is_walk⟩
  have M_refused : Cal l.prog w K mg base "_law_refused" 5 ["_law_machine_here", "_law_way", "_law_ring"] (spG K (R_refused C_Machine)) f_refused _ := ⟨PySem.W.mg_of X G a_refused, k_refused, B_refused, ok_refused F_refused T M_marks_along_x⟩
  exact ok_law F_law T M_machine M_names M_cell_at M_Machine___init__ M_walk M_draw M_bent M_lis_walk M_right M_refused
theorem walk {l : PySem.W.OpenLaw} {q : Program} {loose : List Str} {XP : (Str → Option Value) → Heap → Prop} {YP : World → Heap → Prop} {d : DefRec} {K : Params → PySem.W.Frag} (hn : l.most = some 63) (hdf : d.params.defaults = [])
    (hY : ∀ (w : World) (h : Heap), YP w h → (K w.params).In h)
    (F : ∀ (w : World) (mg : Str → Option Value) (fa : Addr) (h : Heap), (K w.params).In h → h.Ns mainGlobals mg → mg d.name = some (.ref fa) →
      ∃ fd : FuncData, (∀ (s : Shared) (u : Value), BindsTo s fd ⟨[u], []⟩ [("_law_script", u)]) ∧ ∀ base : Heap, (K w.params).In base → base.Ns mainGlobals mg → FnOk l.prog w (K w.params) mg base CX0 6 fa fd ["_law_script"] (spG (K w.params) R_law)) :
    PySem.W.WalkO q loose XP YP l.row.toRowW d [] (fun f vs => PySem.call f vs) :=
  L2.walk_of (n := 63) (k := 6) (x := "_law_script") (CX := fun _ => CX0) (sp := fun w => spG (K w.params) R_law) hn (by decide) hdf ⟨rfl, by decide, by decide⟩ hY F
    (fun _ H a ns hl _ hS => ⟨H, [], [.dat (.scr ns)], .bl true, [.no], ⟨ns, rfl, rfl, rfl⟩, start_all (Same.refl H) (.cons (.scr hS) .nil), fun v G' H' _ r => by cases r; rfl⟩) fun _ _ _ _ _ z => z
end My
open PySem PySem.W PyProof.Rows
set_option maxRecDepth 100000 in
set_option maxHeartbeats 0 in
theorem PySem.Challenge.cw_everafter_k03_endless_walks_holds : PySem.Challenge.rw_everafter_k03_endless_walks.Holds := by
  w_on; o_law; k_head; (case hw => w_witness2)
  k_fill
  refine My.walk (l := PySem.Challenge.rw_everafter_k03_endless_walks) rfl rfl (fun w h Y => PySem.W.kIn_of Y) ?F
  case F =>
    intro w mg fa h KX G hmg
    refine' My.all_mk KX G hmg ?ac_BadMachine ?ac_BadSaying ?ac_Machine ?ac_NoWalk ?ac_TooMany ?ac_WalkError ?a_draw ?l_draw ?cc_draw ?k_draw ?a_some ?l_some ?cc_some ?k_some ?a_machine ?l_machine ?cc_machine ?k_machine ?a_names ?l_names ?cc_names ?k_names ?a_cell_at ?l_cell_at ?cc_cell_at ?k_cell_at ?a_is_place ?l_is_place ?cc_is_place ?k_is_place ?a_are_choices ?l_are_choices ?cc_are_choices ?k_are_choices ?a_is_mark ?l_is_mark ?cc_is_mark ?k_is_mark ?a_is_machine ?l_is_machine ?cc_is_machine ?k_is_machine ?a_Machine___init__ ?i_Machine___init__ ?l_Machine___init__ ?cc_Machine___init__ ?k_Machine___init__ ?a_walk ?l_walk ?cc_walk ?k_walk ?a_bent ?l_bent ?cc_bent ?k_bent ?a_lis_walk ?l_lis_walk ?cc_lis_walk ?k_lis_walk ?a_Machine_starts ?i_Machine_starts ?l_Machine_starts ?cc_Machine_starts ?k_Machine_starts ?a_Machine_has_place ?i_Machine_has_place ?l_Machine_has_place ?cc_Machine_has_place ?k_Machine_has_place ?a_Machine_leads ?i_Machine_leads ?l_Machine_leads ?cc_Machine_leads ?k_Machine_leads ?a_is_walk ?l_is_walk ?cc_is_walk ?k_is_walk ?a_Machine_mark ?i_Machine_mark ?l_Machine_mark ?cc_Machine_mark ?k_Machine_mark ?a_marks_along ?l_marks_along ?cc_marks_along ?k_marks_along ?a_right ?l_right ?cc_right ?k_right ?a_refused ?l_refused ?cc_refused ?k_refused ?a_law ?l_law ?cc_law ?k_law ?pg_Machine ?hd_Machine ?po_Machine ?sa_Machine ?mk_Machine ?kc_Machine ?h_x_NoWalk ?h_kp_NoWalk ?h_sb_NoWalk ?h_ty_NoWalk ?h_i1_Machine ?h_i2_Machine ?h_i3_Machine ?h_i4_Machine ?eb_C_WalkError ?ei_C_WalkError ?et_C_WalkError ?es_C_NoWalk_C_WalkError ?ec_NoWalk_hg ?ec_NoWalk_hk ?ec_NoWalk_hs ?ec_NoWalk_hd ?ec_NoWalk_ha ?ec_NoWalk_hn ?ec_NoWalk_ht ?ec_NoWalk_hm ?ne_C_NoWalk_C_TooMany ?ki_C_NoWalk_C_TooMany ?kt_C_NoWalk_C_TooMany ?ks_C_NoWalk_C_TooMany ?ne_C_NoWalk_C_BadSaying ?ki_C_NoWalk_C_BadSaying ?kt_C_NoWalk_C_BadSaying ?ks_C_NoWalk_C_BadSaying ?ne_C_NoWalk_C_BadMachine ?ki_C_NoWalk_C_BadMachine ?kt_C_NoWalk_C_BadMachine ?ks_C_NoWalk_C_BadMachine ?ks_C_NoWalk_ValueError ?n_Machine__begins ?n_Machine__marks ?n_Machine__ways ?b_ValueError ?b_all ?b_bool ?b_int ?b_isinstance ?b_len ?b_list ?b_range ?b_set ?b_str ?b_tuple ?b_type ?b_zip ?g_LONGEST ?g_MOST_PLACES
    (case ac_BadMachine => k_is)
    (case ac_BadSaying => k_is)
    (case ac_Machine => k_is)
    (case ac_NoWalk => k_is)
    (case ac_TooMany => k_is)
    (case ac_WalkError => k_is)
    (case a_draw => k_is)
    (case l_draw => k_is)
    (case cc_draw => k_is)
    (case k_draw => k_is)
    (case a_some => k_is)
    (case l_some => k_is)
    (case cc_some => k_is)
    (case k_some => k_is)
    (case a_machine => k_is)
    (case l_machine => k_is)
    (case cc_machine => k_is)
    (case k_machine => k_is)
    (case a_names => k_is)
    (case l_names => k_is)
    (case cc_names => k_is)
    (case k_names => k_is)
    (case a_cell_at => k_is)
    (case l_cell_at => k_is)
    (case cc_cell_at => k_is)
    (case k_cell_at => k_is)
    (case a_is_place => k_is)
    (case l_is_place => k_is)
    (case cc_is_place => k_is)
    (case k_is_place => k_is)
    (case a_are_choices => k_is)
    (case l_are_choices => k_is)
    (case cc_are_choices => k_is)
    (case k_are_choices => k_is)
    (case a_is_mark => k_is)
    (case l_is_mark => k_is)
    (case cc_is_mark => k_is)
    (case k_is_mark => k_is)
    (case a_is_machine => k_is)
    (case l_is_machine => k_is)
    (case cc_is_machine => k_is)
    (case k_is_machine => k_is)
    (case a_Machine___init__ => k_is)
    (case i_Machine___init__ => k_is)
    (case l_Machine___init__ => k_is)
    (case cc_Machine___init__ => k_is)
    (case k_Machine___init__ => k_is)
    (case a_walk => k_is)
    (case l_walk => k_is)
    (case cc_walk => k_is)
    (case k_walk => k_is)
    (case a_bent => k_is)
    (case l_bent => k_is)
    (case cc_bent => k_is)
    (case k_bent => k_is)
    (case a_lis_walk => k_is)
    (case l_lis_walk => k_is)
    (case cc_lis_walk => k_is)
    (case k_lis_walk => k_is)
    (case a_Machine_starts => k_is)
    (case i_Machine_starts => k_is)
    (case l_Machine_starts => k_is)
    (case cc_Machine_starts => k_is)
    (case k_Machine_starts => k_is)
    (case a_Machine_has_place => k_is)
    (case i_Machine_has_place => k_is)
    (case l_Machine_has_place => k_is)
    (case cc_Machine_has_place => k_is)
    (case k_Machine_has_place => k_is)
    (case a_Machine_leads => k_is)
    (case i_Machine_leads => k_is)
    (case l_Machine_leads => k_is)
    (case cc_Machine_leads => k_is)
    (case k_Machine_leads => k_is)
    (case a_is_walk => k_is)
    (case l_is_walk => k_is)
    (case cc_is_walk => k_is)
    (case k_is_walk => k_is)
    (case a_Machine_mark => k_is)
    (case i_Machine_mark => k_is)
    (case l_Machine_mark => k_is)
    (case cc_Machine_mark => k_is)
    (case k_Machine_mark => k_is)
    (case a_marks_along => k_is)
    (case l_marks_along => k_is)
    (case cc_marks_along => k_is)
    (case k_marks_along => k_is)
    (case a_right => k_is)
    (case l_right => k_is)
    (case cc_right => k_is)
    (case k_right => k_is)
    (case a_refused => k_is)
    (case l_refused => k_is)
    (case cc_refused => k_is)
    (case k_refused => k_is)
    (case a_law => k_is)
    (case l_law => k_is)
    (case cc_law => k_is)
    (case k_law => k_is)
    (case pg_Machine => k_is)
    (case hd_Machine => k_is)
    (case po_Machine => k_is)
    (case sa_Machine => k_is)
    (case mk_Machine => k_is)
    (case kc_Machine => k_is)
    (case h_x_NoWalk => k_exc)
    (case h_kp_NoWalk => k_is)
    (case h_sb_NoWalk => k_is)
    (case h_ty_NoWalk => k_is)
    (case h_i1_Machine => k_is)
    (case h_i2_Machine => k_is)
    (case h_i3_Machine => k_is)
    (case h_i4_Machine => k_is)
    (case eb_C_WalkError => k_is)
    (case ei_C_WalkError => k_is)
    (case et_C_WalkError => k_is)
    (case es_C_NoWalk_C_WalkError => k_is)
    (case ec_NoWalk_hg => k_is)
    (case ec_NoWalk_hk => k_is)
    (case ec_NoWalk_hs => k_is)
    (case ec_NoWalk_hd => k_is)
    (case ec_NoWalk_ha => k_is)
    (case ec_NoWalk_hn => k_is)
    (case ec_NoWalk_ht => k_is)
    (case ec_NoWalk_hm => k_is)
    (case ne_C_NoWalk_C_TooMany => decide)
    (case ki_C_NoWalk_C_TooMany => k_is)
    (case kt_C_NoWalk_C_TooMany => k_is)
    (case ks_C_NoWalk_C_TooMany => k_is)
    (case ne_C_NoWalk_C_BadSaying => decide)
    (case ki_C_NoWalk_C_BadSaying => k_is)
    (case kt_C_NoWalk_C_BadSaying => k_is)
    (case ks_C_NoWalk_C_BadSaying => k_is)
    (case ne_C_NoWalk_C_BadMachine => decide)
    (case ki_C_NoWalk_C_BadMachine => k_is)
    (case kt_C_NoWalk_C_BadMachine => k_is)
    (case ks_C_NoWalk_C_BadMachine => k_is)
    (case ks_C_NoWalk_ValueError => k_is)
    (case n_Machine__begins => k_is)
    (case n_Machine__marks => k_is)
    (case n_Machine__ways => k_is)
    (case b_ValueError => k_is)
    (case b_all => k_is)
    (case b_bool => k_is)
    (case b_int => k_is)
    (case b_isinstance => k_is)
    (case b_len => k_is)
    (case b_list => k_is)
    (case b_range => k_is)
    (case b_set => k_is)
    (case b_str => k_is)
    (case b_tuple => k_is)
    (case b_type => k_is)
    (case b_zip => k_is)
    (case g_LONGEST => k_is)
    (case g_MOST_PLACES => k_is)

