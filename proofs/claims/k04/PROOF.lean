import PyProof.Rows.All
import Wide.All
import OpenK.AllK
import Wide.FinOn
import HandS.ForMost
import HandS.More
import HandS.IsInst
import HandS.Zip
import HandS.Deep
import HandS.SetFor
import HandS.TupAny
import HandS.ForExc
import HandS.ExcIs
import KE.KExcIs
import KE.KIsAll
import HandS.Star
import PyProof.SeqIndex
import PySem.Challenge.RW_everafter_k04_what_it_means
set_option Elab.async false
set_option linter.all false
set_option maxRecDepth 100000
set_option maxHeartbeats 4000000
namespace Bg
open PySem L2

/-! ### data, and the values that stand for it -/
inductive Dat where
  | non | bl (b : Bool) | int (i : Int) | str (x : Str) | ty (n : String) | cls (a : Addr)
  | lst (ds : List Dat) | tup (ds : List Dat) | ins (C : Addr) (ns : List Str) (ds : List Dat) | emp | scr (ns : List Int)
mutual
inductive Rp (K : PySem.W.Frag) (G : Hp) : V → Dat → Prop
  | non : Rp K G .non .non
  | bl (b : Bool) : Rp K G (.bl b) (.bl b)
  | int (i : Int) : Rp K G (.int i) (.int i)
  | str (x : Str) : Rp K G (.str x) (.str x)
  | ty (n : String) : Rp K G (.ty n) (.ty n)
  | cls (a : Addr) : Rp K G (.ref a) (.cls a)
  | lst {a : Addr} {xs : List V} {ds : List Dat} : G a = some (.lst xs) → RpAll K G xs ds → Rp K G (.ref a) (.lst ds)
  | tup {a : Addr} {xs : List V} {ds : List Dat} : G a = some (.tup xs) → RpAll K G xs ds → Rp K G (.ref a) (.tup ds)
  | ins {a C dx : Addr} {fs : List (Str × V)} {ns : List Str} {ds : List Dat} : G a = some (.ins C dx fs) → fs.map (·.1) = ns → RpAll K G (fs.map (·.2)) ds → Rp K G (.ref a) (.ins C ns ds)
  | emp {a : Addr} : G a = some (.dK []) → Rp K G (.ref a) .emp
  | scr {a : Addr} {ns : List Int} : SqL K G a (ns.map V.int) → Rp K G (.ref a) (.scr ns)
inductive RpAll (K : PySem.W.Frag) (G : Hp) : List V → List Dat → Prop
  | nil : RpAll K G [] []
  | cons {v : V} {vs : List V} {d : Dat} {ds : List Dat} : Rp K G v d → RpAll K G vs ds → RpAll K G (v :: vs) (d :: ds)
end
section
variable {K : PySem.W.Frag} {G G' : Hp}
mutual
theorem Rp.mono (s : Same G G') : ∀ (d : Dat) (v : V), Rp K G v d → Rp K G' v d
  | .non, _, h => by cases h; exact .non
  | .bl b, _, h => by cases h; exact .bl b
  | .int b, _, h => by cases h; exact .int b
  | .str b, _, h => by cases h; exact .str b
  | .ty b, _, h => by cases h; exact .ty b
  | .cls b, _, h => by cases h; exact .cls b
  | .lst ds, _, h => by cases h with | lst e a => exact .lst (s _ _ e) (RpAll.mono s ds _ a)
  | .tup ds, _, h => by cases h with | tup e a => exact .tup (s _ _ e) (RpAll.mono s ds _ a)
  | .ins C ns ds, _, h => by cases h with | ins e n a => exact .ins (s _ _ e) n (RpAll.mono s ds _ a)
  | .emp, _, h => by cases h with | emp e => exact .emp (s _ _ e)
  | .scr ns, _, h => by cases h with | scr e => exact .scr (s.seq e)
theorem RpAll.mono (s : Same G G') : ∀ (ds : List Dat) (vs : List V), RpAll K G vs ds → RpAll K G' vs ds
  | [], _, h => by cases h; exact .nil
  | d :: ds, _, h => by cases h with | cons a b => exact .cons (Rp.mono s d _ a) (RpAll.mono s ds _ b)
end
theorem Rp.to (s : Same G G') {d : Dat} {v : V} (h : Rp K G v d) : Rp K G' v d := Rp.mono s d v h
theorem RpAll.to (s : Same G G') {d : List Dat} {v : List V} (h : RpAll K G v d) : RpAll K G' v d := RpAll.mono s d v h
theorem RpAll.length : ∀ {vs : List V} {ds : List Dat}, RpAll K G vs ds → vs.length = ds.length
  | [], _, h => by cases h; rfl
  | _ :: _, _, h => by cases h with | cons a b => simp [RpAll.length b]
theorem RpAll.get : ∀ {vs : List V} {ds : List Dat} {i : Nat} {d : Dat}, RpAll K G vs ds → ds[i]? = some d → ∃ v, vs[i]? = some v ∧ Rp K G v d
  | [], _, _, _, h, e => by cases h; simp at e
  | v :: vs, _, 0, _, h, e => by
    cases h with | cons a b => simp at e; subst e; exact ⟨v, rfl, a⟩
  | v :: vs, _, i + 1, d, h, e => by
    cases h with | cons a b =>
      obtain ⟨u, h1, h2⟩ := RpAll.get (i := i) (d := d) b (by simpa using e)
      exact ⟨u, by simpa using h1, h2⟩
theorem RpAll.getV : ∀ {vs : List V} {ds : List Dat} {i : Nat} {v : V}, RpAll K G vs ds → vs[i]? = some v → ∃ d, ds[i]? = some d ∧ Rp K G v d
  | [], _, _, _, h, e => by simp at e
  | w :: vs, _, 0, v, h, e => by
    cases h with | cons a b => simp at e; subst e; exact ⟨_, rfl, a⟩
  | w :: vs, _, i + 1, v, h, e => by
    cases h with | cons a b =>
      obtain ⟨u, h1, h2⟩ := RpAll.getV (i := i) (v := v) b (by simpa using e)
      exact ⟨u, by simpa using h1, h2⟩
theorem RpAll.app : ∀ {vs ws : List V} {ds es : List Dat}, RpAll K G vs ds → RpAll K G ws es → RpAll K G (vs ++ ws) (ds ++ es)
  | [], _, _, _, h, k => by cases h; exact k
  | _ :: _, _, _, _, h, k => by cases h with | cons a b => exact .cons a (RpAll.app b k)
theorem RpAll.takeR : ∀ {vs : List V} {ds : List Dat} (n : Nat), RpAll K G vs ds → RpAll K G (vs.take n) (ds.take n)
  | _, _, 0, _ => .nil
  | [], _, n + 1, h => by cases h; exact .nil
  | _ :: _, _, n + 1, h => by cases h with | cons a b => exact .cons a (RpAll.takeR n b)
theorem RpAll.dropR : ∀ {vs : List V} {ds : List Dat} (n : Nat), RpAll K G vs ds → RpAll K G (vs.drop n) (ds.drop n)
  | _, _, 0, h => h
  | [], _, n + 1, h => by cases h; exact .nil
  | _ :: _, _, n + 1, h => by cases h with | cons a b => exact RpAll.dropR n b
theorem RpAll.ints : ∀ (ns : List Int), RpAll K G (ns.map V.int) (ns.map Dat.int)
  | [] => .nil
  | n :: ns => .cons (.int n) (RpAll.ints ns)
theorem RpAll.intsEq : ∀ {ns : List Int} {vs : List V}, RpAll K G vs (ns.map Dat.int) → vs = ns.map V.int
  | [], _, h => by cases h; rfl
  | n :: ns, _, h => by
    cases h with | cons a b => cases a; rw [RpAll.intsEq (ns := ns) b]; rfl
theorem RpAll.strsEq : ∀ {ns : List Str} {vs : List V}, RpAll K G vs (ns.map Dat.str) → vs = ns.map V.str
  | [], _, h => by cases h; rfl
  | n :: ns, _, h => by
    cases h with | cons a b => cases a; rw [RpAll.strsEq (ns := ns) b]; rfl
theorem RpAll.blsEq : ∀ {ns : List Bool} {vs : List V}, RpAll K G vs (ns.map Dat.bl) → vs = ns.map V.bl
  | [], _, h => by cases h; rfl
  | n :: ns, _, h => by
    cases h with | cons a b => cases a; rw [RpAll.blsEq (ns := ns) b]; rfl
theorem RpAll.of_get : ∀ {vs : List V} {ds : List Dat}, vs.length = ds.length → (∀ (i : Nat) (v : V) (d : Dat), vs[i]? = some v → ds[i]? = some d → Rp K G v d) → RpAll K G vs ds
  | [], [], _, _ => .nil
  | [], _ :: _, h, _ => by cases h
  | _ :: _, [], h, _ => by cases h
  | v :: vs, d :: ds, h, k => .cons (k 0 v d rfl rfl) (RpAll.of_get (Nat.succ.inj h) fun i v d a b => k (i + 1) v d (by simpa using a) (by simpa using b))
end
theorem same_new {H : Hp} {p : Addr} {o : HO} (h : H p = none) : Same H (upd H p o) := fun b u e => by
  rw [upd_ne (ne_of_none e h)]
  exact e

/-! ### the slots -/
inductive Sl where
  /-- nothing is known -/
  | no
  /-- a value that stands for data -/
  | dat (d : Dat)
  /-- a list of this call's own that nothing else holds -/
  | own (ds : List Dat)
  /-- the j-th list that was handed in to be changed -/
  | par (j : Nat) (ds : List Dat)
structure Zs where
  G0 : Hp
  H0 : Hp
  O0 : List Addr
  /-- further objects that stand aside and stay -/
  Kp : Hp
def SlOk (K : PySem.W.Frag) (Z : Zs) (G H : Hp) (v : V) : Sl → Prop
  | .no => True
  | .dat d => Rp K G v d
  | .own ds => ∃ p xs, v = .ref p ∧ Z.H0 p = none ∧ G p = none ∧ H p = some (.lst xs) ∧ RpAll K G xs ds
  | .par j ds => ∃ p xs, v = .ref p ∧ Z.O0[j]? = some p ∧ G p = none ∧ H p = some (.lst xs) ∧ RpAll K G xs ds
def Sl.isOwn : Sl → Bool
  | .own _ => true
  | .par _ _ => true
  | _ => false
def Sl.isNo : Sl → Bool
  | .no => true
  | _ => false
/-- slot i holds a list of its own at p -/
def Hd (σ : L2.St) (ρ : List Sl) (i : Nat) (p : Addr) : Prop := σ[i]? = some (some (.ref p)) ∧ ∃ s, ρ[i]? = some s ∧ s.isOwn = true
structure Ct (K : PySem.W.Frag) (Z : Zs) (G H : Hp) (σ : L2.St) (ρ : List Sl) : Prop where
  len : σ.length = ρ.length
  gg : Same Z.G0 G
  gh : Same G H
  hh : ∀ (b : Addr) (o : HO), Z.H0 b = some o → b ∉ Z.O0 → H b = some o
  ge : ∀ b : Addr, Z.H0 b ≠ none → H b ≠ none
  fr : ∀ b : Addr, Z.H0 b ≠ none → Z.G0 b = none → G b = none
  sl : ∀ (i : Nat) (s : Sl), ρ[i]? = some s → s.isNo = false → ∃ v, σ[i]? = some (some v) ∧ SlOk K Z G H v s
  ds : ∀ (i j : Nat) (p : Addr), Hd σ ρ i p → Hd σ ρ j p → i = j
  kp : ∀ (b : Addr) (o : HO), Z.Kp b = some o → H b = some o
  kg : ∀ b : Addr, Z.Kp b ≠ none → G b = none
  kn : ∀ (i : Nat) (p : Addr), Hd σ ρ i p → Z.Kp p = none
section
variable {K : PySem.W.Frag} {Z : Zs} {G G' H H' : Hp} {σ : L2.St} {ρ : List Sl}
theorem Ct.dat (c : Ct K Z G H σ ρ) {i : Nat} {d : Dat} (h : ρ[i]? = some (.dat d)) : ∃ v, σ[i]? = some (some v) ∧ Rp K G v d := c.sl i _ h rfl
theorem Ct.freshG (c : Ct K Z G H σ ρ) {p : Addr} (h : H p = none) : G p = none := by
  cases e : G p with
  | none => rfl
  | some o => rw [c.gh _ _ e] at h; cases h
theorem Ct.fresh0 (c : Ct K Z G H σ ρ) {p : Addr} (h : H p = none) : Z.H0 p = none := by
  cases e : Z.H0 p with
  | none => rfl
  | some o => exact absurd h (c.ge p (by rw [e]; intro q; cases q))
theorem Ct.freshK (c : Ct K Z G H σ ρ) {p : Addr} (h : H p = none) : Z.Kp p = none := by
  cases e : Z.Kp p with
  | none => rfl
  | some o => rw [c.kp _ _ e] at h; cases h
/-- what an owned slot is -/
theorem Ct.ow (c : Ct K Z G H σ ρ) {i : Nat} {s : Sl} (h : ρ[i]? = some s) (ho : s.isOwn = true) :
    ∃ p xs ds, σ[i]? = some (some (.ref p)) ∧ G p = none ∧ H p = some (.lst xs) ∧ RpAll K G xs ds ∧ (Z.H0 p = none ∨ p ∈ Z.O0) ∧ Hd σ ρ i p ∧ ((s = .own ds ∧ Z.H0 p = none) ∨ ∃ j, s = .par j ds ∧ Z.O0[j]? = some p) := by
  cases s with
  | no => cases ho
  | dat d => cases ho
  | own ds =>
    obtain ⟨v, e, p, xs, rfl, z, g, hp, r⟩ := c.sl i _ h rfl
    exact ⟨p, xs, ds, e, g, hp, r, .inl z, ⟨e, _, h, rfl⟩, .inl ⟨rfl, z⟩⟩
  | par j ds =>
    obtain ⟨v, e, p, xs, rfl, z, g, hp, r⟩ := c.sl i _ h rfl
    exact ⟨p, xs, ds, e, g, hp, r, .inr (List.mem_of_getElem? z), ⟨e, _, h, rfl⟩, .inr ⟨j, rfl, z⟩⟩
theorem SlOk.mono {v : V} {s : Sl} (h : SlOk K Z G H v s) (g : Same G G') (no : ∀ p xs, v = .ref p → s.isOwn = true → G p = none → H p = some (.lst xs) → G' p = none ∧ H' p = some (.lst xs)) : SlOk K Z G' H' v s := by
  cases s with
  | no => trivial
  | dat d => exact Rp.to g h
  | own ds =>
    obtain ⟨p, xs, e, z, g0, hp, r⟩ := h
    obtain ⟨a, b⟩ := no p xs e rfl g0 hp
    exact ⟨p, xs, e, z, a, b, r.to g⟩
  | par j ds =>
    obtain ⟨p, xs, e, z, g0, hp, r⟩ := h
    obtain ⟨a, b⟩ := no p xs e rfl g0 hp
    exact ⟨p, xs, e, z, a, b, r.to g⟩
/-- the heap grows: a new object at p, data or not -/
theorem Ct.grow (c : Ct K Z G H σ ρ) {p : Addr} {o : HO} (hp : H p = none) : Ct K Z G (upd H p o) σ ρ where
  len := c.len
  gg := c.gg
  gh := fun b u e => same_new hp b u (c.gh b u e)
  hh := fun b u e n => same_new hp b u (c.hh b u e n)
  ge := fun b n => by
    have := c.ge b n
    cases e : H b with
    | none => exact absurd e this
    | some u => rw [same_new (o := o) hp b u e]; intro q; cases q
  fr := c.fr
  sl := fun i s h n => by
    obtain ⟨v, e, k⟩ := c.sl i s h n
    exact ⟨v, e, k.mono (Same.refl G) fun q xs _ _ g hq => ⟨g, same_new hp q _ hq⟩⟩
  ds := c.ds
  kp := fun b u e => same_new hp b u (c.kp b u e)
  kg := c.kg
  kn := c.kn
/-- an object that stands in H by itself becomes data -/
theorem Ct.adopt (c : Ct K Z G H σ ρ) {p : Addr} {o : HO} (h : H p = some o) (z : Z.H0 p = none) (kk : Z.Kp p = none) (no : ∀ i, ¬ Hd σ ρ i p) (g : G p = none) : Ct K Z (upd G p o) H σ ρ ∧ Same G (upd G p o) := by
  refine ⟨⟨c.len, fun b u e => same_new g b u (c.gg b u e), fun b u e => ?_, c.hh, c.ge, fun b n e => ?_, fun i s hi hn => ?_, c.ds, c.kp, fun b n => by
    rw [upd_ne (show b ≠ p from fun q => n (by rw [q]; exact kk))]; exact c.kg b n, c.kn⟩, same_new g⟩
  · by_cases q : b = p
    · subst q; rw [upd_same] at e; cases e; exact h
    · rw [upd_ne q] at e; exact c.gh b u e
  · have q : b ≠ p := fun q => n (by rw [q]; exact z)
    rw [upd_ne q]; exact c.fr b n e
  · obtain ⟨v, e, k⟩ := c.sl i s hi hn
    refine ⟨v, e, k.mono (same_new g) fun q xs ev ho gq hq => ⟨?_, hq⟩⟩
    have : q ≠ p := fun w => no i ⟨by rw [e, ev, w], s, hi, ho⟩
    rw [upd_ne this]; exact gq
theorem Ct.grown (c : Ct K Z G H σ ρ) {p : Addr} {o : HO} (hp : H p = none) : Ct K Z (upd G p o) (upd H p o) σ ρ ∧ Same G (upd G p o) := by
  refine (c.grow (o := o) hp).adopt upd_same (c.fresh0 hp) (c.freshK hp) (fun i hi => ?_) (c.freshG hp)
  obtain ⟨e, s, h, ho⟩ := hi
  obtain ⟨q, xs, ds, e2, g, hq, _⟩ := c.ow h ho
  rw [e] at e2
  cases e2
  rw [hp] at hq
  cases hq
theorem hd_set {i j : Nat} {v : V} {s : Sl} {p : Addr} (hj : j ≠ i) (h : Hd (σ.set i (some v)) (ρ.set i s) j p) : Hd σ ρ j p := by
  obtain ⟨e, t, h, o⟩ := h
  rw [List.getElem?_set_ne (Ne.symm hj)] at e h
  exact ⟨e, t, h, o⟩
/-- slot i is given a value -/
theorem Ct.setS (c : Ct K Z G H σ ρ) {i : Nat} {v : V} {s : Sl} (hi : ρ[i]?.isSome = true) (h : SlOk K Z G H v s) (no : ∀ p j, s.isOwn = true → v = .ref p → ¬ Hd σ ρ j p) (kk : ∀ p, s.isOwn = true → v = .ref p → Z.Kp p = none) : Ct K Z G H (σ.set i (some v)) (ρ.set i s) := by
  have hr : i < ρ.length := by
    rw [Option.isSome_iff_exists] at hi
    obtain ⟨a, e⟩ := hi
    exact (List.getElem?_eq_some_iff.mp e).1
  have hs : i < σ.length := by rw [c.len]; exact hr
  refine ⟨by simp [c.len], c.gg, c.gh, c.hh, c.ge, c.fr, fun j t e n => ?_, fun j k p a b => ?_, c.kp, c.kg, fun j p a => ?_⟩
  · by_cases q : i = j
    · subst q
      rw [List.getElem?_set_self hr] at e
      cases e
      exact ⟨v, List.getElem?_set_self hs, h⟩
    · rw [List.getElem?_set_ne q] at e ⊢
      exact c.sl j t e n
  · by_cases qj : j = i
    · by_cases qk : k = i
      · rw [qj, qk]
      · exfalso
        subst qj
        obtain ⟨e, t, e2, o⟩ := a
        rw [List.getElem?_set_self hr] at e2
        rw [List.getElem?_set_self hs] at e
        cases e2
        cases e
        exact no p k o rfl (hd_set qk b)
    · by_cases qk : k = i
      · exfalso
        subst qk
        obtain ⟨e, t, e2, o⟩ := b
        rw [List.getElem?_set_self hr] at e2
        rw [List.getElem?_set_self hs] at e
        cases e2
        cases e
        exact no p j o rfl (hd_set qj a)
      · exact c.ds j k p (hd_set qj a) (hd_set qk b)
  · by_cases qj : j = i
    · subst qj
      obtain ⟨e, t, e2, o⟩ := a
      rw [List.getElem?_set_self hr] at e2
      rw [List.getElem?_set_self hs] at e
      cases e2
      cases e
      exact kk p o rfl
    · exact c.kn j p (hd_set qj a)
theorem Ct.setD (c : Ct K Z G H σ ρ) {i : Nat} {v : V} {d : Dat} (hi : ρ[i]?.isSome = true) (h : Rp K G v d) : Ct K Z G H (σ.set i (some v)) (ρ.set i (.dat d)) :=
  c.setS hi h (fun _ _ o _ => by cases o) fun _ o _ => by cases o
theorem hd_sub {ρ' : List Sl} (hs : ∀ (i : Nat) (s : Sl), ρ'[i]? = some s → s.isOwn = true → ∃ t, ρ[i]? = some t ∧ t.isOwn = true) {i : Nat} {p : Addr} (h : Hd σ ρ' i p) : Hd σ ρ i p := by
  obtain ⟨e, s, a, o⟩ := h
  obtain ⟨t, b, ot⟩ := hs i s a o
  exact ⟨e, t, b, ot⟩
/-- an owned slot is given up: its list is data from then on -/
theorem Ct.freeze (c : Ct K Z G H σ ρ) {i : Nat} {ds : List Dat} (h : ρ[i]? = some (.own ds)) :
    ∃ p xs, σ[i]? = some (some (.ref p)) ∧ Same G (upd G p (.lst xs)) ∧ Ct K Z (upd G p (.lst xs)) H σ (ρ.set i (.dat (.lst ds))) ∧ Rp K (upd G p (.lst xs)) (.ref p) (.lst ds) := by
  obtain ⟨v, e, p, xs, rfl, z, g, hp, r⟩ := c.sl i _ h rfl
  have sm : Same G (upd G p (.lst xs)) := same_new g
  have hr : i < ρ.length := (List.getElem?_eq_some_iff.mp h).1
  have rp : Rp K (upd G p (.lst xs)) (.ref p) (.lst ds) := .lst upd_same (r.to sm)
  refine ⟨p, xs, e, sm, ⟨by simp [c.len], fun b u q => sm b u (c.gg b u q), fun b u q => ?_, c.hh, c.ge, fun b n q => ?_, fun j s hj hn => ?_, fun j k q a b => ?_, c.kp, fun b n => ?_, fun j q a => ?_⟩, rp⟩
  · by_cases w : b = p
    · subst w; rw [upd_same] at q; cases q; exact hp
    · rw [upd_ne w] at q; exact c.gh b u q
  · have w : b ≠ p := fun w => n (by rw [w]; exact z)
    rw [upd_ne w]; exact c.fr b n q
  · by_cases w : i = j
    · subst w
      rw [List.getElem?_set_self hr] at hj
      cases hj
      exact ⟨_, e, rp⟩
    · rw [List.getElem?_set_ne w] at hj
      obtain ⟨u, e1, k⟩ := c.sl j s hj hn
      refine ⟨u, e1, k.mono sm fun q ys ev ho gq hq => ⟨?_, hq⟩⟩
      have : q ≠ p := fun t => w (c.ds i j p ⟨e, _, h, rfl⟩ ⟨by rw [e1, ev, t], s, hj, ho⟩)
      rw [upd_ne this]; exact gq
  · have sub : ∀ (i' : Nat) (s : Sl), (ρ.set i (.dat (.lst ds)))[i']? = some s → s.isOwn = true → ∃ t, ρ[i']? = some t ∧ t.isOwn = true := fun i' s q o => by
      by_cases w : i = i'
      · subst w; rw [List.getElem?_set_self hr] at q; cases q; cases o
      · rw [List.getElem?_set_ne w] at q; exact ⟨s, q, o⟩
    exact c.ds j k q (hd_sub sub a) (hd_sub sub b)
  · have w : b ≠ p := fun w => n (by rw [w]; exact c.kn i p ⟨e, _, h, rfl⟩)
    rw [upd_ne w]; exact c.kg b n
  · have sub : ∀ (i' : Nat) (s : Sl), (ρ.set i (.dat (.lst ds)))[i']? = some s → s.isOwn = true → ∃ t, ρ[i']? = some t ∧ t.isOwn = true := fun i' s q o => by
      by_cases w : i = i'
      · subst w; rw [List.getElem?_set_self hr] at q; cases q; cases o
      · rw [List.getElem?_set_ne w] at q; exact ⟨s, q, o⟩
    exact c.kn j q (hd_sub sub a)
def Sl.put : Sl → List Dat → Sl
  | .own _, ds => .own ds
  | .par j _, ds => .par j ds
  | s, _ => s
/-- an owned slot's list is changed -/
theorem Ct.write (c : Ct K Z G H σ ρ) {i : Nat} {s : Sl} {p : Addr} {ys : List V} {es : List Dat} (h : ρ[i]? = some s) (ho : s.isOwn = true) (e : σ[i]? = some (some (.ref p))) (r : RpAll K G ys es) :
    Ct K Z G (upd H p (.lst ys)) σ (ρ.set i (s.put es)) := by
  obtain ⟨p', xs, ds, e', g, hp, r0, z, hd, w⟩ := c.ow h ho
  rw [e] at e'
  cases e'
  have hr : i < ρ.length := (List.getElem?_eq_some_iff.mp h).1
  refine ⟨by simp [c.len], c.gg, fun b u q => ?_, fun b u q n => ?_, fun b n => ?_, c.fr, fun j t hj hn => ?_, fun j k q a b => ?_, fun b u q => ?_, c.kg, fun j q a => ?_⟩
  · have : b ≠ p := fun t => by rw [t, g] at q; cases q
    rw [upd_ne this]; exact c.gh b u q
  · have : b ≠ p := fun t => by
      rcases z with z | z
      · rw [t, z] at q; cases q
      · exact n (by rw [t]; exact z)
    rw [upd_ne this]; exact c.hh b u q n
  · by_cases t : b = p
    · subst t; rw [upd_same]; intro q; cases q
    · rw [upd_ne t]; exact c.ge b n
  · by_cases q : i = j
    · subst q
      rw [List.getElem?_set_self hr] at hj
      cases hj
      refine ⟨_, e, ?_⟩
      rcases w with ⟨rfl, z0⟩ | ⟨j0, rfl, z0⟩
      · exact ⟨p, ys, rfl, z0, g, upd_same, r⟩
      · exact ⟨p, ys, rfl, z0, g, upd_same, r⟩
    · rw [List.getElem?_set_ne q] at hj
      obtain ⟨u, e1, k⟩ := c.sl j t hj hn
      refine ⟨u, e1, k.mono (Same.refl G) fun q' zs ev ho' gq hq => ⟨gq, ?_⟩⟩
      have : q' ≠ p := fun t' => q (c.ds i j p hd ⟨by rw [e1, ev, t'], t, hj, ho'⟩)
      rw [upd_ne this]; exact hq
  · have sub : ∀ (i' : Nat) (t : Sl), (ρ.set i (s.put es))[i']? = some t → t.isOwn = true → ∃ t', ρ[i']? = some t' ∧ t'.isOwn = true := fun i' t q o => by
      by_cases w : i = i'
      · subst w; exact ⟨s, h, ho⟩
      · rw [List.getElem?_set_ne w] at q; exact ⟨t, q, o⟩
    exact c.ds j k q (hd_sub sub a) (hd_sub sub b)
  · have : b ≠ p := fun t => by rw [t, c.kn i p hd] at q; cases q
    rw [upd_ne this]; exact c.kp b u q
  · have sub : ∀ (i' : Nat) (t : Sl), (ρ.set i (s.put es))[i']? = some t → t.isOwn = true → ∃ t', ρ[i']? = some t' ∧ t'.isOwn = true := fun i' t q o => by
      by_cases w : i = i'
      · subst w; exact ⟨s, h, ho⟩
      · rw [List.getElem?_set_ne w] at q; exact ⟨t, q, o⟩
    exact c.kn j q (hd_sub sub a)
/-- less is known -/
inductive Le : List Sl → List Sl → Prop
  | nil : Le [] []
  | no {s : Sl} {a b : List Sl} : Le a b → Le (.no :: a) (s :: b)
  | eq {s : Sl} {a b : List Sl} : Le a b → Le (s :: a) (s :: b)
theorem Le.len {a b : List Sl} (h : Le a b) : a.length = b.length := by
  induction h with
  | nil => rfl
  | no _ ih => simp [ih]
  | eq _ ih => simp [ih]
theorem Le.get {a b : List Sl} (h : Le a b) : ∀ {i : Nat} {s : Sl}, a[i]? = some s → s.isNo = false → b[i]? = some s := by
  induction h with
  | nil => intro i s e _; simp at e
  | no _ ih =>
    intro i s e n
    cases i with
    | zero => simp at e; subst e; cases n
    | succ i => simpa using ih (by simpa using e) n
  | eq _ ih =>
    intro i s e n
    cases i with
    | zero => simpa using e
    | succ i => simpa using ih (by simpa using e) n
theorem Le.refl : ∀ a : List Sl, Le a a
  | [] => .nil
  | _ :: a => .eq (Le.refl a)
theorem Sl.own_not_no {s : Sl} (h : s.isOwn = true) : s.isNo = false := by cases s <;> first | rfl | cases h
theorem Ct.weak {ρ' : List Sl} (c : Ct K Z G H σ ρ) (l : Le ρ' ρ) : Ct K Z G H σ ρ' :=
  ⟨by rw [c.len, l.len], c.gg, c.gh, c.hh, c.ge, c.fr, fun i s e n => c.sl i s (l.get e n) n, fun i j p a b => c.ds i j p
    (hd_sub (fun i s e o => ⟨s, l.get e (Sl.own_not_no o), o⟩) a) (hd_sub (fun i s e o => ⟨s, l.get e (Sl.own_not_no o), o⟩) b), c.kp, c.kg, fun i p a => c.kn i p (hd_sub (fun i s e o => ⟨s, l.get e (Sl.own_not_no o), o⟩) a)⟩
end

/-! ### expressions -/
section
variable (K : PySem.W.Frag)
/-- an expression makes data d of the slots ρ, which are ρ' then -/
def Ev (te : TE) (ρ : List Sl) (d : Dat) (ρ' : List Sl) : Prop := ∀ (Z : Zs) (G H : Hp) (σ : L2.St), Ct K Z G H σ ρ → ∀ Q : VK, (∀ (v : V) (G' H' : Hp), Same G G' → Ct K Z G' H' σ ρ' → Rp K G' v d → Q v H') → te σ H Q
/-- a new list that nothing holds yet -/
def EvF (te : TE) (ρ : List Sl) (ds : List Dat) (ρ' : List Sl) : Prop := ∀ (Z : Zs) (G H : Hp) (σ : L2.St), Ct K Z G H σ ρ → ∀ Q : VK,
  (∀ (p : Addr) (xs : List V) (G' H' : Hp), Same G G' → Ct K Z G' H' σ ρ' → G' p = none → H' p = some (.lst xs) → RpAll K G' xs ds → Z.H0 p = none ∧ Z.Kp p = none → (∀ i, ¬ Hd σ ρ' i p) → Q (.ref p) H') → te σ H Q
def EvT (tt : TT) (ρ : List Sl) (b : Bool) (ρ' : List Sl) : Prop := ∀ (Z : Zs) (G H : Hp) (σ : L2.St), Ct K Z G H σ ρ → ∀ Q : Bool → Hp → Prop, (∀ (G' H' : Hp), Same G G' → Ct K Z G' H' σ ρ' → Q b H') → tt σ H Q
/-- arguments: data, or a slot's own list -/
inductive Ag where
  | d (d : Dat) | s (i : Nat)
def AgAt (G : Hp) (σ : L2.St) (v : V) : Ag → Prop
  | .d d => Rp K G v d
  | .s i => σ[i]? = some (some v)
def EvA (ta : TA) (ρ : List Sl) (as : List Ag) (ρ' : List Sl) : Prop := ∀ (Z : Zs) (G H : Hp) (σ : L2.St), Ct K Z G H σ ρ → ∀ Q : List V → Hp → Prop, (∀ (vs : List V) (G' H' : Hp), Same G G' → Ct K Z G' H' σ ρ' → Paired (AgAt K G' σ) vs as → Q vs H') → ta σ H Q
def EvO (to : TO) (ρ : List Sl) (o : Option Int) (ρ' : List Sl) : Prop := ∀ (Z : Zs) (G H : Hp) (σ : L2.St), Ct K Z G H σ ρ → ∀ Q : Option Int → Hp → Prop, (∀ (G' H' : Hp), Same G G' → Ct K Z G' H' σ ρ' → Q o H') → to σ H Q
/-- a list to be read: data, or a slot's own list as it stands when it is read -/
def EvL (te : TE) (ρ : List Sl) (a : Ag) (ρ' : List Sl) : Prop := ∀ (Z : Zs) (G H : Hp) (σ : L2.St), Ct K Z G H σ ρ → ∀ Q : VK, (∀ (v : V) (G' H' : Hp), Same G G' → Ct K Z G' H' σ ρ' → AgAt K G' σ v a → Q v H') → te σ H Q
def Dat.items : Dat → Option (List Dat)
  | .lst ds => some ds
  | .scr ns => some (ns.map Dat.int)
  | _ => none
def slItems : Option Sl → Option (List Dat)
  | some (.own ds) => some ds
  | some (.par _ ds) => some ds
  | _ => none
def look (ρ : List Sl) : Ag → Option (List Dat)
  | .d d => d.items
  | .s i => slItems ρ[i]?
/-- the same, where it must be a list of the program's own making -/
def lookS (ρ : List Sl) : Ag → Option (List Dat)
  | .d (.lst ds) => some ds
  | .s i => look ρ (.s i)
  | _ => none
end
section
variable {K : PySem.W.Frag} {Z : Zs} {G G' H H' : Hp} {σ : L2.St} {ρ ρ' ρ1 ρ2 ρ3 : List Sl} {te ta tb tc : TE} {tt tu : TT} {d d1 d2 d3 : Dat} {ds es : List Dat} {b : Bool} {i : Nat}
theorem AgAt.to {a : Ag} {v : V} (s : Same G G') (h : AgAt K G σ v a) : AgAt K G' σ v a := by
  cases a with
  | d d => exact Rp.to s h
  | s i => exact h
theorem agAll_to {as : List Ag} {vs : List V} (s : Same G G') (h : Paired (AgAt K G σ) vs as) : Paired (AgAt K G' σ) vs as := by
  induction h with
  | nil => exact .nil
  | cons a _ ih => exact .cons (a.to s) ih
theorem Ct.slot (c : Ct K Z G H σ ρ) {v : V} (e : σ[i]? = some (some v)) (l : slItems ρ[i]? = some ds) : ∃ p xs, v = .ref p ∧ H p = some (.lst xs) ∧ RpAll K G xs ds := by
  cases q : ρ[i]? with
  | none => rw [q] at l; cases l
  | some t =>
    rw [q] at l
    cases t with
    | no => cases l
    | dat d => cases l
    | own es =>
      have l : some es = some ds := l
      cases l
      obtain ⟨u, e1, p, xs, rfl, z, g, hp, r⟩ := c.sl i _ q rfl
      rw [e] at e1
      cases e1
      exact ⟨p, xs, rfl, hp, r⟩
    | par j es =>
      have l : some es = some ds := l
      cases l
      obtain ⟨u, e1, p, xs, rfl, z, g, hp, r⟩ := c.sl i _ q rfl
      rw [e] at e1
      cases e1
      exact ⟨p, xs, rfl, hp, r⟩
/-- a list that is read -/
theorem Ct.read (c : Ct K Z G H σ ρ) {a : Ag} {v : V} (h : AgAt K G σ v a) (l : look ρ a = some ds) : ∃ p xs, v = .ref p ∧ SqL K H p xs ∧ RpAll K G xs ds := by
  cases a with
  | d d =>
    have l : d.items = some ds := l
    cases d with
    | lst es =>
      have l : some es = some ds := l
      cases l
      have h : Rp K G v (.lst ds) := h
      cases h with
      | lst e r => exact ⟨_, _, rfl, .inl (.inl (c.gh _ _ e)), r⟩
    | scr ns =>
      have l : some (ns.map Dat.int) = some ds := l
      cases l
      have h : Rp K G v (.scr ns) := h
      cases h with
      | scr e => exact ⟨_, _, rfl, c.gh.seq e, RpAll.ints ns⟩
    | _ => cases l
  | s i =>
    obtain ⟨p, xs, e, hp, r⟩ := c.slot (i := i) h l
    exact ⟨p, xs, e, .inl (.inl hp), r⟩
theorem Ct.readS (c : Ct K Z G H σ ρ) {a : Ag} {v : V} (h : AgAt K G σ v a) (l : lookS ρ a = some ds) : ∃ p xs, v = .ref p ∧ H p = some (.lst xs) ∧ RpAll K G xs ds := by
  cases a with
  | d d =>
    cases d with
    | lst es =>
      have l : some es = some ds := l
      cases l
      have h : Rp K G v (.lst ds) := h
      cases h with
      | lst e r => exact ⟨_, _, rfl, c.gh _ _ e, r⟩
    | _ => cases l
  | s i => exact c.slot (i := i) h l
/-! names and constants -/
theorem ev_var (h : ρ[i]? = some (.dat d) := by rfl) : Ev K (tVar i) ρ d ρ := fun _ G H _ c Q q => by
  obtain ⟨v, e, r⟩ := c.dat h
  exact ⟨v, e, q v G H (Same.refl G) c r⟩
/-- an owned list is handed on: it is data from then on -/
theorem ev_give (h : ρ[i]? = some (.own ds) := by rfl) : Ev K (tVar i) ρ (.lst ds) (ρ.set i (.dat (.lst ds))) := fun _ _ _ _ c Q q => by
  obtain ⟨p, xs, e, s, c', r⟩ := c.freeze h
  exact ⟨.ref p, e, q _ _ _ s c' r⟩
theorem ev_c {v : V} (h : ∀ G, Rp K G v d) : Ev K (tC v) ρ d ρ := fun _ G _ _ c Q q => q v G _ (Same.refl G) c (h G)
theorem ev_int {n : Int} : Ev K (tC (.int n)) ρ (.int n) ρ := ev_c fun _ => .int n
theorem ev_str {n : Str} : Ev K (tC (.str n)) ρ (.str n) ρ := ev_c fun _ => .str n
theorem ev_bl {n : Bool} : Ev K (tC (.bl n)) ρ (.bl n) ρ := ev_c fun _ => .bl n
theorem ev_non : Ev K (tC .non) ρ .non ρ := ev_c fun _ => .non
theorem ev_ty {n : String} : Ev K (tC (.ty n)) ρ (.ty n) ρ := ev_c fun _ => .ty n
theorem el_d (h : Ev K te ρ d ρ') : EvL K te ρ (.d d) ρ' := h
theorem el_s (h : ∃ s, ρ[i]? = some s ∧ s.isOwn = true := by exact ⟨_, rfl, rfl⟩) : EvL K (tVar i) ρ (.s i) ρ := fun _ G H _ c Q q => by
  obtain ⟨s, hs, ho⟩ := h
  obtain ⟨p, xs, es, e, _⟩ := c.ow hs ho
  exact ⟨_, e, q _ G H (Same.refl G) c e⟩
/-! operators by values -/
def RV (K : PySem.W.Frag) (r : R2) (ρ : List Sl) (d1 d2 d : Dat) : Prop := ∀ (Z : Zs) (G H : Hp) (σ : L2.St), Ct K Z G H σ ρ → ∀ (x y : V), Rp K G x d1 → Rp K G y d2 → ∀ Q : VK, (∀ (v : V) (G' H' : Hp), Same G G' → Ct K Z G' H' σ ρ → Rp K G' v d → Q v H') → r x y H Q
theorem ev_op {r : R2} (ha : Ev K ta ρ d1 ρ1) (hb : Ev K tb ρ1 d2 ρ2) (hr : RV K r ρ2 d1 d2 d) : Ev K (tOp r ta tb) ρ d ρ2 := fun Z G H σ c Q q => by
  refine ha Z G H σ c _ fun x G1 H1 s1 c1 r1 => ?_
  refine hb Z G1 H1 σ c1 _ fun y G2 H2 s2 c2 r2 => ?_
  exact hr Z G2 H2 σ c2 x y (r1.to s2) r2 Q fun v G3 H3 s3 => q v G3 H3 ((s1.trans s2).trans s3)
theorem rv_pure {r : R2} {d1 d2 d : Dat} (h : ∀ (G H : Hp) (x y : V), Same G H → Rp K G x d1 → Rp K G y d2 → ∃ v, Rp K G v d ∧ ∀ Q : VK, Q v H → r x y H Q) : RV K r ρ d1 d2 d := fun Z G H σ c x y rx ry Q q => by
  obtain ⟨v, rv, k⟩ := h G H x y c.gh rx ry
  exact k Q (q v G H (Same.refl G) c rv)
theorem rv_I0 {g : Int → Int → V} {i j : Int} (h : ∀ G, Rp K G (g i j) d) : RV K (rI0 g) ρ (.int i) (.int j) d := rv_pure fun G H x y _ rx ry => by
  cases rx; cases ry
  exact ⟨_, h G, fun Q q => ⟨i, j, rfl, rfl, q⟩⟩
theorem rv_I {C : Int → Int → Prop} {g : Int → Int → V} {i j : Int} (h : ∀ G, Rp K G (g i j) d) (hc : C i j) : RV K (rI C g) ρ (.int i) (.int j) d := rv_pure fun G H x y _ rx ry => by
  cases rx; cases ry
  exact ⟨_, h G, fun Q q => ⟨i, j, rfl, rfl, hc, q⟩⟩
/-- ints: a + b, a - b, a * b, a // b, a % b, a < b .. -/
theorem ev_i0 {g : Int → Int → Int} {i j : Int} (ha : Ev K ta ρ (.int i) ρ1) (hb : Ev K tb ρ1 (.int j) ρ2) : Ev K (tOp (rI0 fun i j => .int (g i j)) ta tb) ρ (.int (g i j)) ρ2 := ev_op ha hb (rv_I0 fun _ => .int _)
theorem ev_b0 {g : Int → Int → Bool} {i j : Int} (ha : Ev K ta ρ (.int i) ρ1) (hb : Ev K tb ρ1 (.int j) ρ2) : Ev K (tOp (rI0 fun i j => .bl (g i j)) ta tb) ρ (.bl (g i j)) ρ2 := ev_op ha hb (rv_I0 fun _ => .bl _)
theorem ev_i {C : Int → Int → Prop} {g : Int → Int → Int} {i j : Int} (ha : Ev K ta ρ (.int i) ρ1) (hb : Ev K tb ρ1 (.int j) ρ2) (hc : C i j) : Ev K (tOp (rI C fun i j => .int (g i j)) ta tb) ρ (.int (g i j)) ρ2 := ev_op ha hb (rv_I (fun _ => .int _) hc)
theorem ev_neg {i : Int} (ha : Ev K ta ρ (.int i) ρ1) : Ev K (tUn (rU fun i => .int (-i)) ta) ρ (.int (-i)) ρ1 := fun Z G H σ c Q q => by
  refine ha Z G H σ c _ fun x G1 H1 s1 c1 r1 => ?_
  cases r1
  exact ⟨i, rfl, q _ _ _ s1 c1 (.int _)⟩

/-! equality of data -/
mutual
def Dat.py : Dat → PyData
  | .non => .none
  | .bl b => .bool b
  | .int i => .int i
  | .str x => .str x
  | .ty _ => .none
  | .cls _ => .none
  | .lst ds => .list (Dat.pys ds)
  | .tup ds => .tuple (Dat.pys ds)
  | .ins _ _ _ => .none
  | .emp => .none
  | .scr ns => .list (ns.map PyData.int)
def Dat.pys : List Dat → List PyData
  | [] => []
  | d :: ds => d.py :: Dat.pys ds
end
mutual
/-- plain data, no deeper than n -/
def Shp : Nat → Dat → Prop
  | _, .non => True
  | _, .bl _ => True
  | _, .int _ => True
  | _, .str x => PyData.strOk x = true
  | n + 1, .lst ds => ShpAll n ds
  | n + 1, .tup ds => ShpAll n ds
  | _, _ => False
def ShpAll : Nat → List Dat → Prop
  | _, [] => True
  | n, d :: ds => Shp n d ∧ ShpAll n ds
end
theorem shpAll_of {n : Nat} : ∀ {ds : List Dat}, (∀ d ∈ ds, Shp n d) → ShpAll n ds
  | [], _ => by simp only [ShpAll]
  | d :: ds, h => by
    simp only [ShpAll]
    exact ⟨h d List.mem_cons_self, shpAll_of fun e he => h e (List.mem_cons_of_mem _ he)⟩
theorem shpAll_mem {n : Nat} : ∀ {ds : List Dat}, ShpAll n ds → ∀ d ∈ ds, Shp n d
  | [], _, d, h => by cases h
  | e :: ds, h, d, hm => by
    simp only [ShpAll] at h
    rcases List.mem_cons.mp hm with rfl | hm
    · exact h.1
    · exact shpAll_mem h.2 d hm
theorem shp_lst {n : Nat} {ds : List Dat} : Shp (n + 1) (.lst ds) = ShpAll n ds := by simp only [Shp]
theorem shp_tup {n : Nat} {ds : List Dat} : Shp (n + 1) (.tup ds) = ShpAll n ds := by simp only [Shp]
mutual
theorem shp_up {n : Nat} : ∀ {d : Dat}, Shp n d → Shp (n + 1) d
  | .non, _ => by simp only [Shp]
  | .bl _, _ => by simp only [Shp]
  | .int _, _ => by simp only [Shp]
  | .str _, h => by simp only [Shp] at h ⊢; exact h
  | .lst ds, h => by
    cases n with
    | zero => simp only [Shp] at h
    | succ n => rw [shp_lst] at h ⊢; exact shpAll_up h
  | .tup ds, h => by
    cases n with
    | zero => simp only [Shp] at h
    | succ n => rw [shp_tup] at h ⊢; exact shpAll_up h
  | .ty _, h => by simp only [Shp] at h
  | .cls _, h => by simp only [Shp] at h
  | .ins _ _ _, h => by simp only [Shp] at h
  | .emp, h => by simp only [Shp] at h
  | .scr _, h => by simp only [Shp] at h
theorem shpAll_up {n : Nat} : ∀ {ds : List Dat}, ShpAll n ds → ShpAll (n + 1) ds
  | [], _ => by simp only [ShpAll]
  | d :: ds, h => by
    simp only [ShpAll] at h ⊢
    exact ⟨shp_up h.1, shpAll_up h.2⟩
end
theorem shp_le {n m : Nat} {d : Dat} (h : Shp n d) (l : n ≤ m) : Shp m d := by
  induction l with
  | refl => exact h
  | step _ ih => exact shp_up ih
mutual
theorem shp_lay {n : Nat} : ∀ {d : Dat}, Shp n d → d.py.canLay0 = true ∧ d.py.depth ≤ n
  | .non, _ => by simp [Dat.py, PyData.canLay0, PyData.depth]
  | .bl _, _ => by simp [Dat.py, PyData.canLay0, PyData.depth]
  | .int _, _ => by simp [Dat.py, PyData.canLay0, PyData.depth]
  | .str _, h => by simp only [Shp] at h; simp [Dat.py, PyData.canLay0, PyData.depth, h]
  | .lst ds, h => by
    cases n with
    | zero => simp only [Shp] at h
    | succ n =>
      rw [shp_lst] at h
      obtain ⟨a, b⟩ := shpAll_lay h
      simp only [Dat.py, PyData.canLay0, PyData.depth]
      exact ⟨a, by omega⟩
  | .tup ds, h => by
    cases n with
    | zero => simp only [Shp] at h
    | succ n =>
      rw [shp_tup] at h
      obtain ⟨a, b⟩ := shpAll_lay h
      simp only [Dat.py, PyData.canLay0, PyData.depth]
      exact ⟨a, by omega⟩
  | .ty _, h => by simp only [Shp] at h
  | .cls _, h => by simp only [Shp] at h
  | .ins _ _ _, h => by simp only [Shp] at h
  | .emp, h => by simp only [Shp] at h
  | .scr _, h => by simp only [Shp] at h
theorem shpAll_lay {n : Nat} : ∀ {ds : List Dat}, ShpAll n ds → PyData.canLayAll0 (Dat.pys ds) = true ∧ PyData.depthAll (Dat.pys ds) ≤ n
  | [], _ => by simp [Dat.pys, PyData.canLayAll0, PyData.depthAll]
  | d :: ds, h => by
    simp only [ShpAll] at h
    obtain ⟨a, b⟩ := shp_lay h.1
    obtain ⟨a', b'⟩ := shpAll_lay h.2
    simp only [Dat.pys, PyData.canLayAll0, PyData.depthAll, a, a']
    exact ⟨rfl, by omega⟩
end
theorem shaped_of {d : Dat} (h : Shp 60 d) : SeqAt.shaped d.py = true := by
  obtain ⟨a, b⟩ := shp_lay h
  unfold SeqAt.shaped
  rw [a, Bool.true_and]
  exact decide_eq_true (by omega)
theorem dpInts (H : Hp) : ∀ ns : List Int, DpAll K H (ns.map V.int) (ns.map PyData.int)
  | [] => .nil
  | n :: ns => .cons (.int n) (dpInts H ns)
mutual
theorem Rp.dp (s : Same G H) : ∀ {d : Dat} {v : V} {n : Nat}, Rp K G v d → Shp n d → Dp K H v d.py
  | .non, _, _, h, _ => by cases h; simp only [Dat.py]; exact .non
  | .bl b, _, _, h, _ => by cases h; simp only [Dat.py]; exact .bl b
  | .int b, _, _, h, _ => by cases h; simp only [Dat.py]; exact .int b
  | .str b, _, _, h, _ => by cases h; simp only [Dat.py]; exact .str b
  | .lst ds, _, n, h, z => by
    cases h with
    | lst e a =>
      cases n with
      | zero => simp only [Shp] at z
      | succ n =>
        rw [shp_lst] at z
        simp only [Dat.py]
        exact .lst (.inl (.inl (s _ _ e))) (RpAll.dp s a z)
  | .tup ds, _, n, h, z => by
    cases h with
    | tup e a =>
      cases n with
      | zero => simp only [Shp] at z
      | succ n =>
        rw [shp_tup] at z
        simp only [Dat.py]
        exact .tup (.inl (.inl (s _ _ e))) (RpAll.dp s a z)
  | .ty _, _, _, _, h => by simp only [Shp] at h
  | .cls _, _, _, _, h => by simp only [Shp] at h
  | .ins _ _ _, _, _, _, h => by simp only [Shp] at h
  | .emp, _, _, _, h => by simp only [Shp] at h
  | .scr _, _, _, _, h => by simp only [Shp] at h
theorem RpAll.dp (s : Same G H) : ∀ {ds : List Dat} {vs : List V} {n : Nat}, RpAll K G vs ds → ShpAll n ds → DpAll K H vs (Dat.pys ds)
  | [], _, _, h, _ => by cases h; simp only [Dat.pys]; exact .nil
  | d :: ds, _, _, h, z => by
    simp only [ShpAll] at z
    cases h with
    | cons a b => simp only [Dat.pys]; exact .cons (Rp.dp s a z.1) (RpAll.dp s b z.2)
end
/-- == of data -/
def eqd (a b : Dat) : Bool := PyData.eqv a.py b.py
theorem ev_eq (ha : Ev K ta ρ d1 ρ1) (hb : Ev K tb ρ1 d2 ρ2) (s1 : Shp 60 d1) (s2 : Shp 60 d2) : Ev K (tOp (rEqD K) ta tb) ρ (.bl (eqd d1 d2)) ρ2 := ev_op ha hb (rv_pure fun G H x y s rx ry =>
  ⟨_, .bl _, fun Q q => ⟨_, _, rx.dp s s1, ry.dp s s2, shaped_of s1, shaped_of s2, q⟩⟩)
theorem ev_ne (ha : Ev K ta ρ d1 ρ1) (hb : Ev K tb ρ1 d2 ρ2) (s1 : Shp 60 d1) (s2 : Shp 60 d2) : Ev K (tOp (rNeD K) ta tb) ρ (.bl (!eqd d1 d2)) ρ2 := ev_op ha hb (rv_pure fun G H x y s rx ry =>
  ⟨_, .bl _, fun Q q => ⟨_, _, rx.dp s s1, ry.dp s s2, shaped_of s1, shaped_of s2, q⟩⟩)
theorem eqd_int (i j : Int) : eqd (.int i) (.int j) = (i == j) := by simp [eqd, Dat.py, PyData.eqv]
theorem eqd_str (i j : Str) : eqd (.str i) (.str j) = (i == j) := by simp [eqd, Dat.py, PyData.eqv]
theorem eqd_bl (i j : Bool) : eqd (.bl i) (.bl j) = (i == j) := by simp [eqd, Dat.py, PyData.eqv]
theorem eqd_lst (as bs : List Dat) : eqd (.lst as) (.lst bs) = PyData.eqvAll (Dat.pys as) (Dat.pys bs) := by simp [eqd, Dat.py, PyData.eqv]
theorem eqd_tup (as bs : List Dat) : eqd (.tup as) (.tup bs) = PyData.eqvAll (Dat.pys as) (Dat.pys bs) := by simp [eqd, Dat.py, PyData.eqv]
mutual
theorem pyeqv_refl : ∀ {n : Nat} {d : Dat}, Shp n d → PyData.eqv d.py d.py = true
  | _, .non, _ => by simp [Dat.py, PyData.eqv]
  | _, .bl _, _ => by simp [Dat.py, PyData.eqv]
  | _, .int _, _ => by simp [Dat.py, PyData.eqv]
  | _, .str _, _ => by simp [Dat.py, PyData.eqv]
  | n, .lst ds, h => by
    cases n with
    | zero => simp only [Shp] at h
    | succ n => rw [shp_lst] at h; simp only [Dat.py, PyData.eqv]; exact pyeqvAll_refl h
  | n, .tup ds, h => by
    cases n with
    | zero => simp only [Shp] at h
    | succ n => rw [shp_tup] at h; simp only [Dat.py, PyData.eqv]; exact pyeqvAll_refl h
  | _, .ty _, h => by simp only [Shp] at h
  | _, .cls _, h => by simp only [Shp] at h
  | _, .ins _ _ _, h => by simp only [Shp] at h
  | _, .emp, h => by simp only [Shp] at h
  | _, .scr _, h => by simp only [Shp] at h
theorem pyeqvAll_refl : ∀ {n : Nat} {ds : List Dat}, ShpAll n ds → PyData.eqvAll (Dat.pys ds) (Dat.pys ds) = true
  | _, [], _ => by simp only [Dat.pys, PyData.eqvAll]
  | n, d :: ds, h => by
    simp only [ShpAll] at h
    simp only [Dat.pys, PyData.eqvAll, pyeqv_refl h.1, pyeqvAll_refl h.2, Bool.and_self]
end
theorem eqd_refl {n : Nat} {d : Dat} (h : Shp n d) : eqd d d = true := pyeqv_refl h
/-- x in [..], of data of any depth -/
theorem rp_look (c : Ct K Z G H σ ρ) {a : Ag} {v : V} (h : AgAt K G σ v a) (l : look ρ a = some ds) {n : Nat} (z : ShpAll n ds) : Dp K H v (.list (Dat.pys ds)) := by
  obtain ⟨p, xs, rfl, hs, r⟩ := c.read h l
  exact .lst hs (RpAll.dp c.gh r z)
theorem pys_any (p : PyData → Bool) : ∀ ds : List Dat, (Dat.pys ds).any p = ds.any fun d => p d.py
  | [] => by simp only [Dat.pys, List.any_nil]
  | d :: ds => by simp only [Dat.pys, List.any_cons, pys_any p ds]
theorem ev_in {a : Ag} (ha : Ev K ta ρ d ρ1) (hb : EvL K tb ρ1 a ρ2) (l : look ρ2 a = some ds) (s1 : Shp 60 d) (s2 : ShpAll 59 ds) : Ev K (tOp (rInD K) ta tb) ρ (.bl (ds.any fun e => eqd e d)) ρ2 := fun Z G H σ c Q q => by
  refine ha Z G H σ c _ fun x G1 H1 t1 c1 r1 => ?_
  refine hb Z G1 H1 σ c1 _ fun y G2 H2 t2 c2 r2 => ?_
  have e := pys_any (fun z => PyData.eqv z d.py) ds
  refine ⟨d.py, Dat.pys ds, (r1.to t2).dp c2.gh s1, rp_look c2 r2 l s2, shaped_of s1, ?_, ?_⟩
  · have := shaped_of (d := .lst ds) (by rw [shp_lst]; exact s2)
    simpa only [Dat.py] using this
  · rw [e]
    exact q _ _ _ (t1.trans t2) c2 (.bl _)
theorem ev_notIn {a : Ag} (ha : Ev K ta ρ d ρ1) (hb : EvL K tb ρ1 a ρ2) (l : look ρ2 a = some ds) (s1 : Shp 60 d) (s2 : ShpAll 59 ds) : Ev K (tOp (rNotInD K) ta tb) ρ (.bl (!ds.any fun e => eqd e d)) ρ2 := fun Z G H σ c Q q => by
  refine ha Z G H σ c _ fun x G1 H1 t1 c1 r1 => ?_
  refine hb Z G1 H1 σ c1 _ fun y G2 H2 t2 c2 r2 => ?_
  have e := pys_any (fun z => PyData.eqv z d.py) ds
  refine ⟨d.py, Dat.pys ds, (r1.to t2).dp c2.gh s1, rp_look c2 r2 l s2, shaped_of s1, ?_, ?_⟩
  · have := shaped_of (d := .lst ds) (by rw [shp_lst]; exact s2)
    simpa only [Dat.py] using this
  · rw [e]
    exact q _ _ _ (t1.trans t2) c2 (.bl _)
/-! arguments, displays -/
theorem ea_nil : EvA K tNil ρ [] ρ := fun _ G H _ c Q q => q [] G H (Same.refl G) c .nil
theorem ea_d {t : TA} {as : List Ag} (ha : Ev K te ρ d ρ1) (hb : EvA K t ρ1 as ρ2) : EvA K (tCons te t) ρ (.d d :: as) ρ2 := fun Z G H σ c Q q => by
  refine ha Z G H σ c _ fun x G1 H1 s1 c1 r1 => ?_
  exact hb Z G1 H1 σ c1 _ fun vs G2 H2 s2 c2 r2 => q _ _ _ (s1.trans s2) c2 (.cons (r1.to s2) r2)
theorem ea_s {t : TA} {as : List Ag} (h : ∃ s, ρ[i]? = some s ∧ s.isOwn = true := by exact ⟨_, rfl, rfl⟩) (hb : EvA K t ρ as ρ2) : EvA K (tCons (tVar i) t) ρ (.s i :: as) ρ2 := fun Z G H σ c Q q => by
  refine el_s h Z G H σ c _ fun x G1 H1 s1 c1 r1 => ?_
  exact hb Z G1 H1 σ c1 _ fun vs G2 H2 s2 c2 r2 => q _ _ _ (s1.trans s2) c2 (.cons r1 r2)
theorem rp_args : ∀ {ds : List Dat} {vs : List V}, Paired (AgAt K G σ) vs (ds.map Ag.d) → RpAll K G vs ds
  | [], _, h => by cases h; exact .nil
  | d :: ds, _, h => by cases h with | cons a b => exact .cons a (rp_args b)
/-- fresh lists are data -/
theorem ev_of_fresh (h : EvF K te ρ ds ρ') : Ev K te ρ (.lst ds) ρ' := fun Z G H σ c Q q => by
  refine h Z G H σ c _ fun p xs G1 H1 s1 c1 g1 h1 r1 z no => ?_
  obtain ⟨c2, s2⟩ := c1.adopt h1 z.1 z.2 no g1
  exact q _ _ _ (s1.trans s2) c2 (.lst upd_same (r1.to s2))
/-- a rule that lays a new list -/
theorem fresh_of (c : Ct K Z G H σ ρ) {p : Addr} {xs : List V} (hp : H p = none) : Ct K Z G (upd H p (.lst xs)) σ ρ ∧ G p = none ∧ (Z.H0 p = none ∧ Z.Kp p = none) ∧ (∀ i, ¬ Hd σ ρ i p) :=
  ⟨c.grow hp, c.freshG hp, ⟨c.fresh0 hp, c.freshK hp⟩, fun i hi => by
    obtain ⟨e, s, h, ho⟩ := hi
    obtain ⟨q, xs, ds, e2, g, hq, _⟩ := c.ow h ho
    rw [e] at e2
    cases e2
    rw [hp] at hq
    cases hq⟩
theorem sz_ok {n : Nat} (h : n ≤ 100000) : n ≤ sizeLine := Nat.le_trans h (by decide)
theorem ef_lst {t : TA} (h : EvA K t ρ (ds.map Ag.d) ρ1) (hl : ds.length ≤ 100000) : EvF K (tLst t) ρ ds ρ1 := fun Z G H σ c Q q => by
  refine h Z G H σ c _ fun vs G1 H1 s1 c1 r1 => ?_
  have r := rp_args r1
  refine ⟨by rw [r.length]; exact sz_ok hl, fun p hp => ?_⟩
  obtain ⟨a, b, z, no⟩ := fresh_of c1 (xs := vs) hp
  exact q p vs G1 _ s1 a b upd_same r z no
theorem ev_lst {t : TA} (h : EvA K t ρ (ds.map Ag.d) ρ1) (hl : ds.length ≤ 100000) : Ev K (tLst t) ρ (.lst ds) ρ1 := ev_of_fresh (ef_lst h hl)
theorem ev_tup {t : TA} (h : EvA K t ρ (ds.map Ag.d) ρ1) (hl : ds.length ≤ 100000) : Ev K (tTup t) ρ (.tup ds) ρ1 := fun Z G H σ c Q q => by
  refine h Z G H σ c _ fun vs G1 H1 s1 c1 r1 => ?_
  have r := rp_args r1
  refine ⟨by rw [r.length]; exact sz_ok hl, fun p hp => ?_⟩
  obtain ⟨c2, s2⟩ := c1.grown (o := .tup vs) hp
  exact q _ _ _ (s1.trans s2) c2 (.tup upd_same (r.to s2))
/-! lists: +, *, items, slices, len, list(..) -/
theorem ef_cat {a b : Ag} (ha : EvL K ta ρ a ρ1) (hb : EvL K tb ρ1 b ρ2) (la : lookS ρ2 a = some ds) (lb : lookS ρ2 b = some es) (hl : ds.length + es.length ≤ 100000) : EvF K (tOp rCat ta tb) ρ (ds ++ es) ρ2 := fun Z G H σ c Q q => by
  refine ha Z G H σ c _ fun x G1 H1 s1 c1 r1 => ?_
  refine hb Z G1 H1 σ c1 _ fun y G2 H2 s2 c2 r2 => ?_
  obtain ⟨p, xs, rfl, hp, rx⟩ := c2.readS (r1.to s2) la
  obtain ⟨p', ys, rfl, hp', ry⟩ := c2.readS r2 lb
  refine ⟨p, p', xs, ys, rfl, rfl, hp, hp', by rw [rx.length, ry.length]; exact sz_ok hl, fun n hn => ?_⟩
  obtain ⟨a, b, z, no⟩ := fresh_of c2 (xs := xs ++ ys) hn
  exact q n _ G2 _ (s1.trans s2) a b upd_same (rx.app ry) z no
theorem ev_cat {a b : Ag} (ha : EvL K ta ρ a ρ1) (hb : EvL K tb ρ1 b ρ2) (la : lookS ρ2 a = some ds) (lb : lookS ρ2 b = some es) (hl : ds.length + es.length ≤ 100000) : Ev K (tOp rCat ta tb) ρ (.lst (ds ++ es)) ρ2 := ev_of_fresh (ef_cat ha hb la lb hl)
theorem ev_ixL {a : Ag} {j : Int} (ha : EvL K ta ρ a ρ1) (hb : Ev K tb ρ1 (.int j) ρ2) (l : look ρ2 a = some ds) (hj : atI ds j = some d) : Ev K (tOp (rIxL K) ta tb) ρ d ρ2 := fun Z G H σ c Q q => by
  refine ha Z G H σ c _ fun x G1 H1 s1 c1 r1 => ?_
  refine hb Z G1 H1 σ c1 _ fun y G2 H2 s2 c2 r2 => ?_
  obtain ⟨p, xs, rfl, hp, rx⟩ := c2.read (r1.to s2) l
  cases r2
  have e : ixN xs.length j = ixN ds.length j := by rw [rx.length]
  unfold atI at hj
  rw [← e] at hj
  obtain ⟨k, hk, hd⟩ := Option.bind_eq_some_iff.mp hj
  obtain ⟨v, hv, rv⟩ := rx.get hd
  exact ⟨p, xs, j, v, rfl, rfl, hp, by unfold atI; rw [hk]; exact hv, q v _ _ (s1.trans s2) c2 rv⟩
theorem ev_ixT {j : Int} (ha : Ev K ta ρ (.tup ds) ρ1) (hb : Ev K tb ρ1 (.int j) ρ2) (hj : atI ds j = some d) : Ev K (tOp (rIxT K) ta tb) ρ d ρ2 := fun Z G H σ c Q q => by
  refine ha Z G H σ c _ fun x G1 H1 s1 c1 r1 => ?_
  refine hb Z G1 H1 σ c1 _ fun y G2 H2 s2 c2 r2 => ?_
  cases r1.to s2 with
  | @tup p xs _ hp rx =>
    cases r2
    have e : ixN xs.length j = ixN ds.length j := by rw [rx.length]
    unfold atI at hj
    rw [← e] at hj
    obtain ⟨k, hk, hd⟩ := Option.bind_eq_some_iff.mp hj
    obtain ⟨v, hv, rv⟩ := rx.get hd
    exact ⟨p, xs, j, v, rfl, rfl, .inl (.inl (c2.gh _ _ hp)), by unfold atI; rw [hk]; exact hv, q v _ _ (s1.trans s2) c2 rv⟩
theorem ev_ixS {j : Int} {z : Str} {k : Nat} (ha : Ev K ta ρ (.str z) ρ1) (hb : Ev K tb ρ1 (.int j) ρ2) (hz : z.length ≤ 100000) (hj : atI z.cps.toList j = some k) : Ev K (tOp rIxS ta tb) ρ (.str ⟨#[k]⟩) ρ2 := fun Z G H σ c Q q => by
  refine ha Z G H σ c _ fun x G1 H1 s1 c1 r1 => ?_
  refine hb Z G1 H1 σ c1 _ fun y G2 H2 s2 c2 r2 => ?_
  cases r1; cases r2
  exact ⟨z, j, k, rfl, rfl, sz_ok hz, hj, q _ _ _ (s1.trans s2) c2 (.str _)⟩
theorem eo_no : EvO K tNoPart ρ none ρ := fun _ G H _ c Q q => q G H (Same.refl G) c
theorem eo_some {j : Int} (h : Ev K te ρ (.int j) ρ1) : EvO K (tPart te) ρ (some j) ρ1 := fun Z G H σ c Q q => by
  refine h Z G H σ c _ fun x G1 H1 s1 c1 r1 => ?_
  cases r1
  exact ⟨j, rfl, q _ _ s1 c1⟩
def cutD (xs : List Dat) (lo hi : Option Int) : List Dat := (xs.drop (HT.sIx xs.length 0 lo)).take (HT.sIx xs.length xs.length hi - HT.sIx xs.length 0 lo)
theorem rp_cut {xs : List V} (r : RpAll K G xs ds) (lo hi : Option Int) : RpAll K G (cutV xs lo hi) (cutD ds lo hi) := by
  unfold cutV cutD
  rw [r.length]
  exact RpAll.takeR _ (RpAll.dropR _ r)
theorem ef_slL {a : Ag} {tl th : TO} {lo hi : Option Int} (ha : EvL K ta ρ a ρ1) (hl : EvO K tl ρ1 lo ρ2) (hh : EvO K th ρ2 hi ρ3) (l : look ρ3 a = some ds) : EvF K (tSl (rSlL K) ta tl th) ρ (cutD ds lo hi) ρ3 := fun Z G H σ c Q q => by
  refine ha Z G H σ c _ fun x G1 H1 s1 c1 r1 => ?_
  refine hl Z G1 H1 σ c1 _ fun G2 H2 s2 c2 => ?_
  refine hh Z G2 H2 σ c2 _ fun G3 H3 s3 c3 => ?_
  obtain ⟨p, xs, rfl, hp, rx⟩ := c3.read (r1.to (s2.trans s3)) l
  refine ⟨p, xs, rfl, hp, fun n hn => ?_⟩
  obtain ⟨a, b, z, no⟩ := fresh_of c3 (xs := cutV xs lo hi) hn
  exact q n _ G3 _ ((s1.trans s2).trans s3) a b upd_same (rp_cut rx lo hi) z no
theorem ev_slL {a : Ag} {tl th : TO} {lo hi : Option Int} (ha : EvL K ta ρ a ρ1) (hl : EvO K tl ρ1 lo ρ2) (hh : EvO K th ρ2 hi ρ3) (l : look ρ3 a = some ds) : Ev K (tSl (rSlL K) ta tl th) ρ (.lst (cutD ds lo hi)) ρ3 := ev_of_fresh (ef_slL ha hl hh l)
theorem ev_slS {tl th : TO} {lo hi : Option Int} {z : Str} (ha : Ev K ta ρ (.str z) ρ1) (hl : EvO K tl ρ1 lo ρ2) (hh : EvO K th ρ2 hi ρ3) (hz : z.length ≤ 100000) : Ev K (tSl rSlS ta tl th) ρ (.str (cutS z lo hi)) ρ3 := fun Z G H σ c Q q => by
  refine ha Z G H σ c _ fun x G1 H1 s1 c1 r1 => ?_
  refine hl Z G1 H1 σ c1 _ fun G2 H2 s2 c2 => ?_
  refine hh Z G2 H2 σ c2 _ fun G3 H3 s3 c3 => ?_
  cases r1
  exact ⟨z, rfl, sz_ok hz, q _ _ _ ((s1.trans s2).trans s3) c3 (.str _)⟩

theorem el_get {a : Ag} (h : EvL K te ρ a ρ') (c : Ct K Z G H σ ρ) {Q : VK} (q : ∀ (v : V) (G' H' : Hp), Same G G' → Ct K Z G' H' σ ρ' → AgAt K G' σ v a → Q v H') : te σ H Q := h Z G H σ c Q q
/-- one argument that is a list to be read -/
theorem one_L {a : Ag} (h : EvL K te ρ a ρ') (c : Ct K Z G H σ ρ) {Q : List V → Hp → Prop} (q : ∀ (v : V) (G' H' : Hp), Same G G' → Ct K Z G' H' σ ρ' → AgAt K G' σ v a → Q [v] H') : tCons te tNil σ H Q :=
  h Z G H σ c _ fun v G' H' s c' r => q v G' H' s c' r
theorem ev_lenL {a : Ag} {r : List V → Hp → VK → Prop} (hr : r = fun xs H Q => ∃ p ys, xs = [.ref p] ∧ (SqL K H p ys ∨ SqT K H p ys) ∧ Q (.int ys.length) H) (ha : EvL K ta ρ a ρ1) (l : look ρ1 a = some ds) : Ev K (tCB r (tCons ta tNil)) ρ (.int ds.length) ρ1 := fun Z G H σ c Q q => by
  subst hr
  refine one_L ha c fun v G1 H1 s1 c1 r1 => ?_
  obtain ⟨p, xs, rfl, hp, rx⟩ := c1.read r1 l
  exact ⟨p, xs, rfl, .inl hp, by rw [rx.length]; exact q _ _ _ s1 c1 (.int _)⟩
theorem ev_lenT {r : List V → Hp → VK → Prop} (hr : r = fun xs H Q => ∃ p ys, xs = [.ref p] ∧ (SqL K H p ys ∨ SqT K H p ys) ∧ Q (.int ys.length) H) (ha : Ev K ta ρ (.tup ds) ρ1) : Ev K (tCB r (tCons ta tNil)) ρ (.int ds.length) ρ1 := fun Z G H σ c Q q => by
  subst hr
  refine ha Z G H σ c _ fun v G1 H1 s1 c1 r1 => ?_
  cases r1 with
  | @tup p xs _ e rx => exact ⟨p, xs, rfl, .inr (.inl (.inl (c1.gh _ _ e))), by rw [rx.length]; exact q _ _ _ s1 c1 (.int _)⟩
/-- list(xs) -/
theorem ef_list {a : Ag} {r : List V → Hp → VK → Prop} (hr : r = fun xs H Q => ∃ p ys, xs = [.ref p] ∧ (SqL K H p ys ∨ SqT K H p ys) ∧ ∀ l, H l = none → Q (.ref l) (upd H l (.lst ys))) (ha : EvL K ta ρ a ρ1) (l : look ρ1 a = some ds) : EvF K (tCB r (tCons ta tNil)) ρ ds ρ1 := fun Z G H σ c Q q => by
  subst hr
  refine one_L ha c fun v G1 H1 s1 c1 r1 => ?_
  obtain ⟨p, xs, rfl, hp, rx⟩ := c1.read r1 l
  refine ⟨p, xs, rfl, .inl hp, fun n hn => ?_⟩
  obtain ⟨a, b, z, no⟩ := fresh_of c1 (xs := xs) hn
  exact q n _ G1 _ s1 a b upd_same rx z no
theorem ev_list {a : Ag} {r : List V → Hp → VK → Prop} (hr : r = fun xs H Q => ∃ p ys, xs = [.ref p] ∧ (SqL K H p ys ∨ SqT K H p ys) ∧ ∀ l, H l = none → Q (.ref l) (upd H l (.lst ys))) (ha : EvL K ta ρ a ρ1) (l : look ρ1 a = some ds) : Ev K (tCB r (tCons ta tNil)) ρ (.lst ds) ρ1 := ev_of_fresh (ef_list hr ha l)
/-- tuple(xs), xs a list -/
theorem ev_tupleL {a : Ag} {r : List V → Hp → VK → Prop} (hr : r = fun xs H Q => ∃ p ys, xs = [.ref p] ∧ ((SqL K H p ys ∧ ∀ l, H l = none → Q (.ref l) (upd H l (.tup ys))) ∨ (SqT K H p ys ∧ Q (.ref p) H))) (ha : EvL K ta ρ a ρ1) (l : look ρ1 a = some ds) : Ev K (tCB r (tCons ta tNil)) ρ (.tup ds) ρ1 := fun Z G H σ c Q q => by
  subst hr
  refine one_L ha c fun v G1 H1 s1 c1 r1 => ?_
  obtain ⟨p, xs, rfl, hp, rx⟩ := c1.read r1 l
  refine ⟨p, xs, rfl, .inl ⟨hp, fun n hn => ?_⟩⟩
  obtain ⟨c2, s2⟩ := c1.grown (o := .tup xs) hn
  exact q _ _ _ (s1.trans s2) c2 (.tup upd_same (rx.to s2))
/-- xs * n -/
def rep (ds : List Dat) (n : Nat) : List Dat := (List.replicate n ds).flatten
theorem rp_rep {xs : List V} (r : RpAll K G xs ds) : ∀ n : Nat, RpAll K G (List.replicate n xs).flatten (rep ds n)
  | 0 => .nil
  | n + 1 => by
    unfold rep
    rw [List.replicate_succ, List.replicate_succ, List.flatten_cons, List.flatten_cons]
    exact r.app (rp_rep r n)
/-- what a value's class is called -/
def Dat.tyn : Dat → Option String
  | .non => some "NoneType"
  | .bl _ => some "bool"
  | .int _ => some "int"
  | .str _ => some "str"
  | .lst _ => some "list"
  | .tup _ => some "tuple"
  | .emp => some "dict"
  | _ => none
theorem tyOf_of {v : V} {T : String} (s : Same G H) (r : Rp K G v d) (h : d.tyn = some T) : TyOf K H v (.type T) := by
  cases r with
  | non => cases h; exact .non
  | bl b => cases h; exact .bl b
  | int b => cases h; exact .int b
  | str b => cases h; exact .str b
  | lst e _ => cases h; exact .lst (s _ _ e)
  | tup e _ => cases h; exact .tup (s _ _ e)
  | emp e => cases h; exact .dK (s _ _ e)
  | _ => cases h
/-- isinstance(x, T), T a built-in type -/
theorem ev_isi {T : String} {n : String} {b : Bool} (ha : Ev K ta ρ d ρ1) (h : d.tyn = some T) (hk : kitB T n = some b) : Ev K (tCB (rIsi K) (tCons ta (tCons (tC (.ty n)) tNil))) ρ (.bl b) ρ1 := fun Z G H σ c Q q => by
  refine ha Z G H σ c _ fun v G1 H1 s1 c1 r1 => ?_
  exact ⟨v, .ty n, _, _, b, rfl, .ty n, .base (tyOf_of c1.gh r1 h), kit_ty hk, q _ _ _ s1 c1 (.bl b)⟩
/-- int(True), int(False) -/
theorem ev_intB {r : List V → Hp → VK → Prop} (hr : r = fun xs H Q => (∃ i, xs = [.int i] ∧ Q (.int i) H) ∨ ∃ k, xs = [.bl k] ∧ Q (.int (if k then 1 else 0)) H) (ha : Ev K ta ρ (.bl b) ρ1) : Ev K (tCB r (tCons ta tNil)) ρ (.int (if b then 1 else 0)) ρ1 := fun Z G H σ c Q q => by
  subst hr
  refine ha Z G H σ c _ fun v G1 H1 s1 c1 r1 => ?_
  cases r1
  exact .inr ⟨b, rfl, q _ _ _ s1 c1 (.int _)⟩
/-- all([..]) of truths -/
theorem ev_all {bs : List Bool} {a : Ag} (ha : EvL K ta ρ a ρ1) (l : look ρ1 a = some (bs.map Dat.bl)) : Ev K (tCB (rAll K) (tCons ta tNil)) ρ (.bl (bs.all id)) ρ1 := fun Z G H σ c Q q => by
  refine one_L ha c fun v G1 H1 s1 c1 r1 => ?_
  obtain ⟨p, xs, rfl, hp, rx⟩ := c1.read r1 l
  have e := rx.blsEq
  subst e
  exact ⟨p, bs, rfl, hp, q _ _ _ s1 c1 (.bl _)⟩
theorem ev_any {bs : List Bool} {a : Ag} (ha : EvL K ta ρ a ρ1) (l : look ρ1 a = some (bs.map Dat.bl)) : Ev K (tCB (rAny K) (tCons ta tNil)) ρ (.bl (bs.any id)) ρ1 := fun Z G H σ c Q q => by
  refine one_L ha c fun v G1 H1 s1 c1 r1 => ?_
  obtain ⟨p, xs, rfl, hp, rx⟩ := c1.read r1 l
  have e := rx.blsEq
  subst e
  exact ⟨p, bs, rfl, hp, q _ _ _ s1 c1 (.bl _)⟩
/-- x + y of texts -/
theorem ev_cats {r : R2} {x y : Str} (hr : r = fun x y H Q => ∃ i j, x = .str i ∧ y = .str j ∧ i.length + j.length ≤ sizeLine ∧ Q (.str (i ++ j)) H) (ha : Ev K ta ρ (.str x) ρ1) (hb : Ev K tb ρ1 (.str y) ρ2) (hl : x.length + y.length ≤ 100000) : Ev K (tOp r ta tb) ρ (.str (x ++ y)) ρ2 := by
  subst hr
  exact ev_op ha hb (rv_pure fun G H u v s ru rv => by
    cases ru; cases rv
    exact ⟨_, .str _, fun Q q => ⟨x, y, rfl, rfl, sz_ok hl, q⟩⟩)
/-- x <= y of texts -/
theorem rv_leS {x y : Str} {r : R2} (hr : r = fun x y H Q => ∃ i j, x = .str i ∧ y = .str j ∧ Q (.bl (!decide (j.cps.toList < i.cps.toList))) H) : RV K r ρ (.str x) (.str y) (.bl (!decide (y.cps.toList < x.cps.toList))) := by
  subst hr
  exact rv_pure fun G H u v s ru rv => by
    cases ru; cases rv
    exact ⟨_, .bl _, fun Q q => ⟨x, y, rfl, rfl, q⟩⟩
/-- a op1 b op2 c -/
theorem ev_chain {r r' : R2} {k k' : Bool} (ha : Ev K ta ρ d1 ρ) (hb : Ev K tb ρ d2 ρ) (hr : RV K r ρ d1 d2 (.bl k)) (hc : k = true → Ev K tc ρ d3 ρ) (hr' : k = true → RV K r' ρ d2 d3 (.bl k')) : Ev K (tChain r r' ta tb tc) ρ (.bl (k && k')) ρ := fun Z G H σ c Q q => by
  refine ha Z G H σ c _ fun x G1 H1 s1 c1 r1 => ?_
  refine hb Z G1 H1 σ c1 _ fun y G2 H2 s2 c2 r2 => ?_
  refine hr Z G2 H2 σ c2 x y (r1.to s2) r2 _ fun z G3 H3 s3 c3 r3 => ?_
  cases r3
  refine ⟨k, rfl, ?_⟩
  cases k with
  | false => exact iteF (q _ _ _ ((s1.trans s2).trans s3) c3 (.bl _))
  | true =>
    refine iteT ?_
    refine hc rfl Z G3 H3 σ c3 _ fun w G4 H4 s4 c4 r4 => ?_
    exact hr' rfl Z G4 H4 σ c4 y w (r2.to (s3.trans s4)) r4 Q fun v G5 H5 s5 => q v G5 H5 ((((s1.trans s2).trans s3).trans s4).trans s5)
/-! tests -/
theorem et_test (h : Ev K te ρ (.bl b) ρ') : EvT K (tTest te) ρ b ρ' := fun Z G H σ c Q q => by
  refine h Z G H σ c _ fun v G1 H1 s1 c1 r1 => ?_
  cases r1
  exact ⟨b, rfl, q _ _ s1 c1⟩
theorem et_B (h : Ev K te ρ (.bl b) ρ') : EvT K (tB te) ρ b ρ' := fun Z G H σ c Q q => by
  refine h Z G H σ c _ fun v G1 H1 s1 c1 r1 => ?_
  cases r1
  exact ⟨b, rfl, q _ _ s1 c1⟩
theorem et_not (h : EvT K tt ρ b ρ') : EvT K (tNot tt) ρ (!b) ρ' := fun Z G H σ c Q q => h Z G H σ c _ fun G1 H1 s1 c1 => q _ _ s1 c1
theorem et_and {a : Bool} (h : EvT K tt ρ a ρ) (k : a = true → EvT K tu ρ b ρ) : EvT K (tAnd tt tu) ρ (a && b) ρ := fun Z G H σ c Q q => by
  refine h Z G H σ c _ fun G1 H1 s1 c1 => ?_
  cases a with
  | false => exact iteF (q _ _ s1 c1)
  | true => exact iteT (k rfl Z G1 H1 σ c1 Q fun G2 H2 s2 c2 => q _ _ (s1.trans s2) c2)
theorem et_or {a : Bool} (h : EvT K tt ρ a ρ) (k : a = false → EvT K tu ρ b ρ) : EvT K (tOr tt tu) ρ (a || b) ρ := fun Z G H σ c Q q => by
  refine h Z G H σ c _ fun G1 H1 s1 c1 => ?_
  cases a with
  | true => exact iteT (q _ _ s1 c1)
  | false => exact iteF (k rfl Z G1 H1 σ c1 Q fun G2 H2 s2 c2 => q _ _ (s1.trans s2) c2)
theorem ev_and {a : Bool} (h : Ev K ta ρ (.bl a) ρ) (k : a = true → Ev K tb ρ (.bl b) ρ) : Ev K (tAndV ta tb) ρ (.bl (a && b)) ρ := fun Z G H σ c Q q => by
  refine h Z G H σ c _ fun v G1 H1 s1 c1 r1 => ?_
  cases r1
  refine ⟨a, rfl, ?_⟩
  cases a with
  | false => exact iteF (q _ _ _ s1 c1 (.bl _))
  | true => exact iteT (k rfl Z G1 H1 σ c1 Q fun v G2 H2 s2 c2 => q _ _ _ (s1.trans s2) c2)
theorem ev_or {a : Bool} (h : Ev K ta ρ (.bl a) ρ) (k : a = false → Ev K tb ρ (.bl b) ρ) : Ev K (tOrV ta tb) ρ (.bl (a || b)) ρ := fun Z G H σ c Q q => by
  refine h Z G H σ c _ fun v G1 H1 s1 c1 r1 => ?_
  cases r1
  refine ⟨a, rfl, ?_⟩
  cases a with
  | true => exact iteT (q _ _ _ s1 c1 (.bl _))
  | false => exact iteF (k rfl Z G1 H1 σ c1 Q fun v G2 H2 s2 c2 => q _ _ _ (s1.trans s2) c2)
theorem ev_not (h : Ev K ta ρ (.bl b) ρ') : Ev K (tNotV ta) ρ (.bl (!b)) ρ' := fun Z G H σ c Q q => by
  refine h Z G H σ c _ fun v G1 H1 s1 c1 r1 => ?_
  cases r1
  exact ⟨b, rfl, q _ _ _ s1 c1 (.bl _)⟩
theorem ev_if {a : Bool} (h : EvT K tt ρ a ρ1) (k1 : a = true → Ev K ta ρ1 d ρ2) (k2 : a = false → Ev K tb ρ1 d ρ2) : Ev K (tIf tt ta tb) ρ d ρ2 := fun Z G H σ c Q q => by
  refine h Z G H σ c _ fun G1 H1 s1 c1 => ?_
  cases a with
  | true => exact iteT (k1 rfl Z G1 H1 σ c1 Q fun v G2 H2 s2 => q v G2 H2 (s1.trans s2))
  | false => exact iteF (k2 rfl Z G1 H1 σ c1 Q fun v G2 H2 s2 => q v G2 H2 (s1.trans s2))
theorem Ev.to {d' : Dat} (h : Ev K te ρ d ρ') (e : d = d') : Ev K te ρ d' ρ' := e ▸ h
theorem EvT.to {b' : Bool} (h : EvT K tt ρ b ρ') (e : b = b') : EvT K tt ρ b' ρ' := e ▸ h
end

/-! ### promises -/
section
variable {K : PySem.W.Frag}
/-- a def's promise: of arguments as it hands back d and leaves the changed lists as' -/
def spG (K : PySem.W.Frag) (R : List Sl → Dat → List Sl → Prop) : Sp := fun vs H Q _ => ∃ (G : Hp) (O : List Addr) (as : List Sl) (d : Dat) (as' : List Sl), R as d as' ∧ Ct K ⟨G, H, O, fun _ => none⟩ G H (vs.map some) as ∧
  ∀ (v : V) (G' H' : Hp), Ct K ⟨G, H, O, fun _ => none⟩ G' H' (vs.map some) as' → Rp K G' v d → Q v H'
theorem spG_len {R : List Sl → Dat → List Sl → Prop} {n : Nat} (h : ∀ as d as', R as d as' → as.length = n) : ∀ vs H Q E, spG K R vs H Q E → vs.length = n := by
  rintro vs H Q E ⟨G, O, as, d, as', r, c, _⟩
  have := c.len
  rw [List.length_map] at this
  rw [this, h _ _ _ r]
variable {Z : Zs} {G G' H H' : Hp} {σ : L2.St} {ρ ρ' ρ1 ρ2 ρ3 : List Sl}
theorem noHd {ds : List Dat} {vs : List V} {i : Nat} {p : Addr} (h : Hd (vs.map some) (ds.map Sl.dat) i p) : False := by
  obtain ⟨_, s, e, o⟩ := h
  rw [List.getElem?_map] at e
  cases q : ds[i]? with
  | none => rw [q] at e; cases e
  | some d => rw [q] at e; cases e; cases o
/-- the state in which a callee starts, its arguments data alone -/
theorem start_all (gh : Same G H) {vs : List V} {ds : List Dat} (r : RpAll K G vs ds) : Ct K ⟨G, H, [], fun _ => none⟩ G H (vs.map some) (ds.map Sl.dat) where
  len := by rw [List.length_map, List.length_map, r.length]
  gg := Same.refl G
  gh := gh
  hh := fun _ _ e _ => e
  ge := fun _ n => n
  fr := fun _ _ n => n
  sl := fun i s e _ => by
    rw [List.getElem?_map] at e
    cases q : ds[i]? with
    | none => rw [q] at e; cases e
    | some d =>
      rw [q] at e
      have e : Sl.dat d = s := Option.some.inj e
      subst e
      obtain ⟨v, h1, h2⟩ := r.get q
      exact ⟨v, by rw [List.getElem?_map, h1]; rfl, h2⟩
  ds := fun i j p a _ => (noHd a).elim
  kp := fun _ _ e => by cases e
  kg := fun _ n => absurd rfl n
  kn := fun _ _ _ => rfl
/-- behind a call whose arguments were data alone -/
theorem Ct.after0 {vs : List V} {as' : List Sl} (c : Ct K Z G H σ ρ) (k : Ct K ⟨G, H, [], fun _ => none⟩ G' H' (vs.map some) as') : Same G G' ∧ Ct K Z G' H' σ ρ := by
  refine ⟨k.gg, c.len, fun b o e => k.gg b o (c.gg b o e), k.gh, fun b o e n => k.hh b o (c.hh b o e n) (by simp), fun b n => k.ge b (c.ge b n), fun b n z => k.fr b (c.ge b n) (c.fr b n z), fun i s e n => ?_, c.ds, fun b o e => k.hh b o (c.kp b o e) (by simp), fun b n => k.fr b (by
    cases q : Z.Kp b with
    | none => exact absurd q n
    | some o => show H b ≠ none; rw [c.kp b o q]; intro w; cases w) (c.kg b n), c.kn⟩
  obtain ⟨v, e1, w⟩ := c.sl i s e n
  refine ⟨v, e1, w.mono k.gg fun p xs _ _ g h => ⟨k.fr p (by show H p ≠ none; rw [h]; intro q; cases q) g, k.hh p _ h (by simp)⟩⟩
variable {ta : TA} {te : TE} {d : Dat} {ds : List Dat}
/-- f(..), all arguments data -/
theorem ev_call {R : List Sl → Dat → List Sl → Prop} {E : XK} {as' : List Sl} (ha : EvA K ta ρ (ds.map Ag.d) ρ1) (hR : R (ds.map Sl.dat) d as') : Ev K (tCall (spG K R) [] E ta) ρ d ρ1 := fun Z G H σ c Q q => by
  refine ha Z G H σ c _ fun vs G1 H1 s1 c1 r1 => ?_
  rw [List.append_nil]
  have r := rp_args r1
  refine ⟨G1, [], _, d, as', hR, start_all c1.gh r, fun v G2 H2 c2 r2 => ?_⟩
  obtain ⟨s2, c3⟩ := c1.after0 c2
  exact q v G2 H2 (s1.trans s2) c3 r2
/-- arguments with one list that is to be changed -/
def toSl (es : List Dat) : Ag → Sl
  | .d d => .dat d
  | .s _ => .par 0 es
def oneS (i : Nat) : List Ag → Prop
  | [] => False
  | .d _ :: r => oneS i r
  | .s j :: r => j = i ∧ r.all (fun a => match a with | .d _ => true | .s _ => false) = true
theorem one_has {i : Nat} : ∀ {as : List Ag} {es : List Dat} {vs : List V}, oneS i as → Paired (AgAt K G σ) vs as → ∃ k p, vs[k]? = some p ∧ σ[i]? = some (some p) ∧ (as.map (toSl es))[k]? = some (.par 0 es) ∧ ∀ (j : Nat) (s : Sl), (as.map (toSl es))[j]? = some s → s.isOwn = true → j = k
  | [], _, _, h, _ => h.elim
  | .d d :: r, es, vs, h, pr => by
    cases pr with
    | @cons v _ vs' _ a b =>
      obtain ⟨k, p, h1, h2, h3, h4⟩ := one_has (es := es) (show oneS i r from h) b
      refine ⟨k + 1, p, by simpa using h1, h2, by simpa using h3, fun j s e o => ?_⟩
      cases j with
      | zero =>
        have e : Sl.dat d = s := by simpa [toSl] using e
        subst e; cases o
      | succ j => rw [h4 j s (by simpa using e) o]
  | .s j :: r, es, vs, h, pr => by
    obtain ⟨rfl, al⟩ := h
    cases pr with
    | @cons v _ vs' _ a b =>
      refine ⟨0, v, rfl, a, rfl, fun k s e o => ?_⟩
      cases k with
      | zero => rfl
      | succ k =>
        exfalso
        rw [List.getElem?_map, List.getElem?_cons_succ] at e
        cases q : r[k]? with
        | none => rw [q] at e; cases e
        | some x =>
          rw [q] at e
          have hx := List.all_eq_true.mp al x (List.mem_of_getElem? q)
          cases x with
          | d d =>
            have e : Sl.dat d = s := by simpa [toSl] using e
            subst e; cases o
          | s _ => cases hx
theorem start_one (c : Ct K Z G H σ ρ) {i : Nat} {as : List Ag} {es : List Dat} {vs : List V} (o : oneS i as) (r : Paired (AgAt K G σ) vs as) (l : slItems ρ[i]? = some es) :
    ∃ p, σ[i]? = some (some (.ref p)) ∧ Ct K ⟨G, H, [p], fun _ => none⟩ G H (vs.map some) (as.map (toSl es)) ∧ ∃ k : Nat, vs[k]? = some (V.ref p) ∧ (as.map (toSl es))[k]? = some (.par 0 es) := by
  obtain ⟨k, u, h1, h2, h3, h4⟩ := one_has (es := es) o r
  obtain ⟨p, xs, rfl, hp, rx⟩ := c.slot h2 l
  have gp : G p = none := by
    cases q : ρ[i]? with
    | none => rw [q] at l; cases l
    | some t =>
      have ot : t.isOwn = true := by
        rw [q] at l
        cases t <;> first | rfl | cases l
      obtain ⟨p', xs', ds', e, g, _⟩ := c.ow q ot
      rw [h2] at e
      cases e
      exact g
  have len : vs.length = as.length := Paired.length r
  refine ⟨p, h2, ⟨by simp [len], Same.refl G, c.gh, fun _ _ e _ => e, fun _ n => n, fun _ _ n => n, fun j s e n => ?_, fun j j' q a b => ?_, fun _ _ e => (by cases e), fun _ n => absurd rfl n, fun _ _ _ => rfl⟩, k, h1, h3⟩
  · have hj : j < as.length := by
      have := (List.getElem?_eq_some_iff.mp e).1
      simpa using this
    have hv : j < vs.length := by rw [len]; exact hj
    refine ⟨vs[j], by rw [List.getElem?_map, List.getElem?_eq_getElem hv]; rfl, ?_⟩
    have pj : AgAt K G σ vs[j] as[j] := by
      clear h1 h2 h3 h4 o e
      induction r generalizing j with
      | nil => cases hj
      | cons a b ih =>
        cases j with
        | zero => exact a
        | succ j => exact ih (by simpa using len) j (by simpa using hj) (by simpa using hv)
    rw [List.getElem?_map, List.getElem?_eq_getElem hj] at e
    have e : toSl es as[j] = s := by simpa using e
    cases q : as[j] with
    | d d => rw [q] at e pj; rw [← e]; exact pj
    | s i' =>
      rw [q] at e
      have jk : j = k := h4 j s (by rw [List.getElem?_map, List.getElem?_eq_getElem hj]; simpa using (show toSl es as[j] = s by rw [q]; exact e)) (by rw [← e]; rfl)
      have ev : vs[j] = V.ref p := by
        subst jk
        rw [List.getElem?_eq_getElem hv] at h1
        exact Option.some.inj h1
      rw [← e]
      exact ⟨p, xs, ev, rfl, gp, hp, rx⟩
  · obtain ⟨_, s, e, os⟩ := a
    obtain ⟨_, s', e', os'⟩ := b
    rw [h4 _ _ e os, h4 _ _ e' os']
/-- f(.., xs, ..), the list of slot i to be changed -/
theorem ev_call1 {R : List Sl → Dat → List Sl → Prop} {E : XK} {as' : List Sl} {as : List Ag} {i k : Nat} {es es' : List Dat} {s : Sl} (ha : EvA K ta ρ as ρ1) (o : oneS i as) (l : slItems ρ1[i]? = some es) (hR : R (as.map (toSl es)) d as')
    (hk : (as.map (toSl es))[k]? = some (.par 0 es)) (hk' : as'[k]? = some (.par 0 es')) (hs : ρ1[i]? = some s) : Ev K (tCall (spG K R) [] E ta) ρ d (ρ1.set i (s.put es')) := fun Z G H σ c Q q => by
  refine ha Z G H σ c _ fun vs G1 H1 s1 c1 r1 => ?_
  rw [List.append_nil]
  obtain ⟨p, sp, c0, k', hk1, hk2⟩ := start_one c1 o r1 l
  have os : s.isOwn = true := by
    rw [hs] at l
    cases s <;> first | rfl | cases l
  refine ⟨G1, [p], _, d, as', hR, c0, fun v G2 H2 c2 r2 => ?_⟩
  obtain ⟨u, e1, p', xs, eu, z', g', h', rx⟩ := c2.sl k _ hk' rfl
  have ep : p' = p := by
    have z' : some p = some p' := z'
    cases z'
    rfl
  subst ep
  -- the caller's state behind it
  obtain ⟨p2, xs2, ds2, e2, g2, h2, rx2, zz, hd2, w⟩ := c1.ow hs os
  rw [sp] at e2
  cases e2
  have hr : i < ρ1.length := (List.getElem?_eq_some_iff.mp hs).1
  have gg : Same G1 G2 := c2.gg
  refine q v G2 H2 (s1.trans gg) ?_ r2
  refine ⟨by simp [c1.len], fun b u q => gg b u (c1.gg b u q), c2.gh, fun b u q n => ?_, fun b n => c2.ge b (c1.ge b n), fun b n z => c2.fr b (c1.ge b n) (c1.fr b n z), fun j t hj hn => ?_, fun j j' q a b => ?_, fun b u q => c2.hh b u (c1.kp b u q) (by
    have : b ≠ p' := fun t => by rw [t, c1.kn i p' hd2] at q; cases q
    simpa using this), fun b n => c2.fr b (by
    cases q : Z.Kp b with
    | none => exact absurd q n
    | some o => show H1 b ≠ none; rw [c1.kp b o q]; intro w; cases w) (c1.kg b n), fun j q a => ?_⟩
  · refine c2.hh b u (c1.hh b u q n) fun m => ?_
    have m : b = p' := by simpa using m
    rcases zz with z | z
    · rw [m, z] at q; cases q
    · exact n (by rw [m]; exact z)
  · by_cases q : i = j
    · subst q
      rw [List.getElem?_set_self hr] at hj
      cases hj
      refine ⟨_, sp, ?_⟩
      rcases w with ⟨rfl, z0⟩ | ⟨j0, rfl, z0⟩
      · exact ⟨p', xs, rfl, z0, g', h', rx⟩
      · exact ⟨p', xs, rfl, z0, g', h', rx⟩
    · rw [List.getElem?_set_ne q] at hj
      obtain ⟨u, e1, k⟩ := c1.sl j t hj hn
      refine ⟨u, e1, k.mono gg fun q' zs ev ho' gq hq => ?_⟩
      have nq : q' ≠ p' := fun t' => q (c1.ds i j p' hd2 ⟨by rw [e1, ev, t'], t, hj, ho'⟩)
      exact ⟨c2.fr q' (by show H1 q' ≠ none; rw [hq]; intro q; cases q) gq, c2.hh q' _ hq (by simpa using nq)⟩
  · have sub : ∀ (i' : Nat) (t : Sl), (ρ1.set i (s.put es'))[i']? = some t → t.isOwn = true → ∃ t', ρ1[i']? = some t' ∧ t'.isOwn = true := fun i' t q o => by
      by_cases w : i = i'
      · subst w; exact ⟨s, hs, os⟩
      · rw [List.getElem?_set_ne w] at q; exact ⟨t, q, o⟩
    exact c1.ds j j' q (hd_sub sub a) (hd_sub sub b)
  · have sub : ∀ (i' : Nat) (t : Sl), (ρ1.set i (s.put es'))[i']? = some t → t.isOwn = true → ∃ t', ρ1[i']? = some t' ∧ t'.isOwn = true := fun i' t q o => by
      by_cases w : i = i'
      · subst w; exact ⟨s, hs, os⟩
      · rw [List.getElem?_set_ne w] at q; exact ⟨t, q, o⟩
    exact c1.kn j q (hd_sub sub a)
end

/-! ### statements -/
inductive Out where
  | nx (ρ : List Sl) | rt (d : Dat) (ρ : List Sl) | bk (ρ : List Sl) | ct (ρ : List Sl)
  /-- a new list is handed back that nothing holds -/
  | rf (ds : List Dat) (ρ : List Sl)
section
variable (K : PySem.W.Frag)
def OutOk (Z : Zs) (G : Hp) (D : Ends) : Out → Prop
  | .nx ρ => ∀ (σ' : L2.St) (G' H' : Hp), Same G G' → Ct K Z G' H' σ' ρ → D.nx σ' H'
  | .rt d ρ => ∀ (σ' : L2.St) (v : V) (G' H' : Hp), Same G G' → Ct K Z G' H' σ' ρ → Rp K G' v d → D.rt v H'
  | .bk ρ => ∀ (σ' : L2.St) (G' H' : Hp), Same G G' → Ct K Z G' H' σ' ρ → D.bk σ' H'
  | .ct ρ => ∀ (σ' : L2.St) (G' H' : Hp), Same G G' → Ct K Z G' H' σ' ρ → D.ct σ' H'
  | .rf ds ρ => ∀ (σ' : L2.St) (p : Addr) (xs : List V) (G' H' : Hp), Same G G' → Ct K Z G' H' σ' ρ → G' p = none → Z.H0 p = none → H' p = some (.lst xs) → RpAll K G' xs ds → D.rt (.ref p) H'
def Ex (t : TS) (ρ : List Sl) (o : Out) : Prop := ∀ (Z : Zs) (G H : Hp) (σ : L2.St), Ct K Z G H σ ρ → ∀ D : Ends, OutOk K Z G D o → t D σ H
end
section
variable {K : PySem.W.Frag} {Z : Zs} {G G' H H' : Hp} {σ : L2.St} {ρ ρ' ρ1 ρ2 ρ3 : List Sl} {te ta tb tc : TE} {tt tu : TT} {t u tbd : TS} {d d1 d2 d3 : Dat} {ds es : List Dat} {b : Bool} {i : Nat} {o : Out}
theorem OutOk.to {D : Ends} (s : Same G G') (h : OutOk K Z G D o) : OutOk K Z G' D o := by
  cases o with
  | nx ρ => exact fun σ' G2 H2 s2 => h σ' G2 H2 (s.trans s2)
  | rt d ρ => exact fun σ' v G2 H2 s2 => h σ' v G2 H2 (s.trans s2)
  | bk ρ => exact fun σ' G2 H2 s2 => h σ' G2 H2 (s.trans s2)
  | ct ρ => exact fun σ' G2 H2 s2 => h σ' G2 H2 (s.trans s2)
  | rf ds ρ => exact fun σ' p xs G2 H2 s2 => h σ' p xs G2 H2 (s.trans s2)
def Out.isNx : Out → Bool
  | .nx _ => true
  | _ => false
theorem ex_next : Ex K tNext ρ (.nx ρ) := fun _ G H σ c _ k => k σ G H (Same.refl G) c
theorem ex_brk : Ex K tBreak ρ (.bk ρ) := fun _ G H σ c _ k => k σ G H (Same.refl G) c
theorem ex_cont : Ex K tCont ρ (.ct ρ) := fun _ G H σ c _ k => k σ G H (Same.refl G) c
theorem ex_seq (h : Ex K t ρ (.nx ρ1)) (k : Ex K u ρ1 o) : Ex K (tSeq t u) ρ o := fun Z G H σ c D q => by
  refine h Z G H σ c { D with nx := u D } fun σ' G' H' s c' => ?_
  exact k Z G' H' σ' c' D (q.to s)
/-- what leaves the first statement leaves the block -/
theorem ex_out (h : Ex K t ρ o) (no : o.isNx = false) : Ex K (tSeq t u) ρ o := fun Z G H σ c D q => by
  refine h Z G H σ c { D with nx := u D } ?_
  cases o with
  | nx _ => cases no
  | rt d ρ => exact q
  | bk ρ => exact q
  | ct ρ => exact q
  | rf ds ρ => exact q
theorem ex_ret (h : Ev K te ρ d ρ1) : Ex K (tRet te) ρ (.rt d ρ1) := fun Z G H σ c D q => h Z G H σ c _ fun v G' H' s c' r => q σ v G' H' s c' r
theorem ex_retN : Ex K tRetN ρ (.rt .non ρ) := fun Z G H σ c D q => q σ .non G H (Same.refl G) c .non
theorem ex_set (h : Ev K te ρ d ρ1) (hi : ρ1[i]?.isSome = true := by rfl) : Ex K (tAsg te (gName i)) ρ (.nx (ρ1.set i (.dat d))) := fun Z G H σ c D q => by
  refine h Z G H σ c _ fun v G' H' s c' r => ?_
  exact q _ G' H' s (c'.setD hi r)
/-- a new list that the slot alone holds -/
theorem ex_setF (h : EvF K te ρ ds ρ1) (hi : ρ1[i]?.isSome = true := by rfl) : Ex K (tAsg te (gName i)) ρ (.nx (ρ1.set i (.own ds))) := fun Z G H σ c D q => by
  refine h Z G H σ c _ fun p xs G' H' s c' g hp r z no => ?_
  exact q _ G' H' s (c'.setS hi ⟨p, xs, rfl, z.1, g, hp, r⟩ (fun p' j _ e hd => by cases e; exact no j hd) fun p' _ e => by cases e; exact z.2)
theorem ex_if {a : Bool} (h : EvT K tt ρ a ρ1) (k1 : a = true → Ex K t ρ1 o) (k2 : a = false → Ex K u ρ1 o) : Ex K (tIfS tt t u) ρ o := fun Z G H σ c D q => by
  refine h Z G H σ c _ fun G' H' s c' => ?_
  cases a with
  | true => exact iteT (k1 rfl Z G' H' σ c' D (q.to s))
  | false => exact iteF (k2 rfl Z G' H' σ c' D (q.to s))
/-- less is kept -/
theorem Ex.weak (h : Ex K t ρ (.nx ρ1)) (l : Le ρ2 ρ1) : Ex K t ρ (.nx ρ2) := fun Z G H σ c D q => h Z G H σ c D fun σ' G' H' s c' => q σ' G' H' s (c'.weak l)
theorem Ex.weakR (h : Ex K t ρ (.rt d ρ1)) (l : Le ρ2 ρ1) : Ex K t ρ (.rt d ρ2) := fun Z G H σ c D q => h Z G H σ c D fun σ' v G' H' s c' => q σ' v G' H' s (c'.weak l)
theorem Ex.pre (h : Ex K t ρ1 o) (l : Le ρ1 ρ) : Ex K t ρ o := fun Z G H σ c D q => h Z G H σ (c.weak l) D q
theorem Ex.to {o' : Out} (h : Ex K t ρ o) (e : o = o') : Ex K t ρ o' := e ▸ h
theorem Ex.from (h : Ex K t ρ1 o) (e : ρ = ρ1) : Ex K t ρ o := e ▸ h
theorem ex_drop (h : Ev K te ρ d ρ1) : Ex K (tDrop te) ρ (.nx ρ1) := fun Z G H σ c D q => h Z G H σ c _ fun v G' H' s c' _ => q σ G' H' s c'
/-- xs.append(e), xs a list of the slot's own -/
theorem ex_append {s : Sl} (ha : Ev K te ρ d ρ1) (h0 : ∃ s, ρ[i]? = some s ∧ s.isOwn = true := by exact ⟨_, rfl, rfl⟩) (hs : ρ1[i]? = some s := by rfl) (l : slItems (some s) = some ds := by rfl) (hl : ds.length < 100000) :
    Ex K (tDrop (tBM K "list" rAppend (tVar i) (tCons te tNil))) ρ (.nx (ρ1.set i (s.put (ds ++ [d])))) := fun Z G H σ c D q => by
  obtain ⟨s0, e0, o0⟩ := h0
  obtain ⟨p, xs0, ds0, ep, _, hp, _⟩ := c.ow e0 o0
  refine ⟨.ref p, ep, .inl ⟨rfl, xs0, .inl (.inl hp)⟩, ?_⟩
  refine ha Z G H σ c _ fun v G1 H1 s1 c1 r1 => ?_
  obtain ⟨p', xs, e', h1, rx⟩ := c1.slot ep (by rw [hs]; exact l)
  cases e'
  have os : s.isOwn = true := by cases s <;> first | rfl | cases l
  refine ⟨p, xs, v, rfl, rfl, h1, by rw [rx.length]; exact Nat.lt_of_lt_of_le hl (by decide), ?_⟩
  exact q σ G1 _ s1 (c1.write hs os ep (rx.app (.cons r1 .nil)))
/-- xs.extend(ys) -/
theorem ex_extend {s : Sl} {a : Ag} (ha : EvL K te ρ a ρ1) (h0 : ∃ s, ρ[i]? = some s ∧ s.isOwn = true := by exact ⟨_, rfl, rfl⟩) (hs : ρ1[i]? = some s := by rfl) (l : slItems (some s) = some ds := by rfl) (la : lookS ρ1 a = some es) (hl : ds.length + es.length < 100000) :
    Ex K (tDrop (tBM K "list" rExtend (tVar i) (tCons te tNil))) ρ (.nx (ρ1.set i (s.put (ds ++ es)))) := fun Z G H σ c D q => by
  obtain ⟨s0, e0, o0⟩ := h0
  obtain ⟨p, xs0, ds0, ep, _, hp, _⟩ := c.ow e0 o0
  refine ⟨.ref p, ep, .inl ⟨rfl, xs0, .inl (.inl hp)⟩, ?_⟩
  refine ha Z G H σ c _ fun v G1 H1 s1 c1 r1 => ?_
  obtain ⟨p', xs, e', h1, rx⟩ := c1.slot ep (by rw [hs]; exact l)
  cases e'
  obtain ⟨p2, ys, rfl, h2, ry⟩ := c1.readS r1 la
  have os : s.isOwn = true := by cases s <;> first | rfl | cases l
  refine ⟨p, p2, xs, ys, rfl, rfl, h1, h2, by rw [rx.length, ry.length]; exact sz_ok (by omega), ?_⟩
  exact q σ G1 _ s1 (c1.write hs os ep (rx.app ry))
/-- xs[k] = e, xs a list of the slot's own -/
theorem ex_setIx {s : Sl} {j : Int} {k : Nat} (ha : Ev K te ρ d ρ1) (hi : Ev K ta ρ1 (.int j) ρ1) (hs : ρ1[i]? = some s := by rfl) (l : slItems (some s) = some ds := by rfl) (hk : ixN ds.length j = some k) :
    Ex K (tAsg te (gSub (tVar i) ta rSetL)) ρ (.nx (ρ1.set i (s.put (ds.set k d)))) := fun Z G H σ c D q => by
  have os : s.isOwn = true := by cases s <;> first | rfl | cases l
  refine ha Z G H σ c _ fun v G1 H1 s1 c1 r1 => ?_
  obtain ⟨p, xs0, ds0, ep, _⟩ := c1.ow hs os
  refine ⟨.ref p, ep, ?_⟩
  refine hi Z G1 H1 σ c1 _ fun w G2 H2 s2 c2 r2 => ?_
  cases r2
  obtain ⟨p', xs, e', h1, rx⟩ := c2.slot ep (by rw [hs]; exact l)
  cases e'
  refine ⟨p, xs, j, k, rfl, rfl, h1, by rw [rx.length]; exact hk, ?_⟩
  refine q σ G2 _ (s1.trans s2) (c2.write hs os ep ?_)
  exact rp_setR rx (r1.to s2) k
where
  rp_setR {xs : List V} {ds : List Dat} {v : V} {d : Dat} {G : Hp} (r : RpAll K G xs ds) (rv : Rp K G v d) : ∀ k, RpAll K G (xs.set k v) (ds.set k d) := by
    intro k
    induction xs generalizing ds k with
    | nil => cases r; exact .nil
    | cons x xs ih =>
      cases r with
      | cons a b =>
        cases k with
        | zero => exact .cons rv b
        | succ k => exact .cons a (ih b k)
/-- x += e -/
theorem ex_augI {g : Int → Int → Int} {n m : Int} {r : TIp} (hr : r = fun x y H Q => ∃ i j, x = .int i ∧ y = .int j ∧ Q (.int (g i j)) H) (h0 : ρ[i]? = some (.dat (.int n)) := by rfl) (ha : Ev K te ρ (.int m) ρ) : Ex K (tAug i te r) ρ (.nx (ρ.set i (.dat (.int (g n m))))) := fun Z G H σ c D q => by
  subst hr
  obtain ⟨v, e, r0⟩ := c.dat h0
  cases r0
  refine ⟨_, e, ?_⟩
  refine ha Z G H σ c _ fun w G1 H1 s1 c1 r1 => ?_
  cases r1
  exact ⟨n, m, rfl, rfl, q _ G1 H1 s1 (c1.setD (by rw [h0]; rfl) (.int _))⟩
/-! a, b, .. = a tuple -/
theorem rp_tup {v : V} (s : Same G H) (r : Rp K G v (.tup ds)) : ∃ a xs, v = .ref a ∧ SqT K H a xs ∧ xs.length = ds.length ∧ RpAll K G xs ds := by
  cases r with
  | @tup a xs _ e r => exact ⟨a, xs, rfl, .inl (.inl (s _ _ e)), r.length, r⟩
theorem rp_lstV {v : V} (s : Same G H) (r : Rp K G v (.lst ds)) : ∃ a xs, v = .ref a ∧ SqL K H a xs ∧ xs.length = ds.length ∧ RpAll K G xs ds := by
  cases r with
  | @lst a xs _ e r => exact ⟨a, xs, rfl, .inl (.inl (s _ _ e)), r.length, r⟩
theorem ex_set2 {j : Nat} (h : Ev K te ρ (.tup [d1, d2]) ρ1) (hi : ρ1[i]?.isSome = true := by rfl) (hj : ρ1[j]?.isSome = true := by rfl) : Ex K (tAsg te (gTup K 2 (gCons (gName i) (gCons (gName j) gNil)))) ρ (.nx ((ρ1.set i (.dat d1)).set j (.dat d2))) := fun Z G H σ c D q => by
  refine h Z G H σ c _ fun v G1 H1 s1 c1 r1 => ?_
  obtain ⟨a, xs, rfl, hs, hl, r⟩ := rp_tup c1.gh r1
  cases r with
  | cons ra r => cases r with
    | cons rb r => cases r with
      | nil =>
        refine ⟨a, _, rfl, hs, hl, _, _, rfl, _, _, rfl, rfl, ?_⟩
        have hj' : (ρ1.set i (.dat d1))[j]?.isSome = true := by
          rw [Option.isSome_iff_exists] at hj ⊢
          obtain ⟨x, ex⟩ := hj
          exact ⟨_, List.getElem?_eq_getElem (by simpa using (List.getElem?_eq_some_iff.mp ex).1)⟩
        exact q _ G1 H1 s1 ((c1.setD hi ra).setD hj' rb)
theorem isSome_set {ρ : List Sl} {i j : Nat} {s : Sl} (h : ρ[j]?.isSome = true) : (ρ.set i s)[j]?.isSome = true := by
  rw [Option.isSome_iff_exists] at h ⊢
  obtain ⟨x, ex⟩ := h
  exact ⟨_, List.getElem?_eq_getElem (by simpa using (List.getElem?_eq_some_iff.mp ex).1)⟩
theorem ex_set3 {j k : Nat} (h : Ev K te ρ (.tup [d1, d2, d3]) ρ1) (hi : ρ1[i]?.isSome = true := by rfl) (hj : ρ1[j]?.isSome = true := by rfl) (hk : ρ1[k]?.isSome = true := by rfl) :
    Ex K (tAsg te (gTup K 3 (gCons (gName i) (gCons (gName j) (gCons (gName k) gNil))))) ρ (.nx (((ρ1.set i (.dat d1)).set j (.dat d2)).set k (.dat d3))) := fun Z G H σ c D q => by
  refine h Z G H σ c _ fun v G1 H1 s1 c1 r1 => ?_
  obtain ⟨a, xs, rfl, hs, hl, r⟩ := rp_tup c1.gh r1
  cases r with
  | cons ra r => cases r with
    | cons rb r => cases r with
      | cons rc r => cases r with
        | nil =>
          refine ⟨a, _, rfl, hs, hl, _, _, rfl, _, _, rfl, _, _, rfl, rfl, ?_⟩
          exact q _ G1 H1 s1 (((c1.setD hi ra).setD (isSome_set hj) rb).setD (isSome_set (isSome_set hk)) rc)

/-! what is walked -/
/-- turn i of the walk J gives something that stands for the i-th of ds, whatever the state is then -/
def Walks (K : PySem.W.Frag) (Z : Zs) (G1 : Hp) (J : It) (ds : List Dat) : Prop := ∀ (i : Nat) (Gx Hx : Hp) (σx : L2.St) (ρx : List Sl) (Zx : Zs), Same G1 Gx → Ct K Zx Gx Hx σx ρx →
  (i = ds.length → J.stop i Hx) ∧ ∀ d, ds[i]? = some d → J.go i Hx ∧ ∀ (y : V) (Hy : Hp), J.yld i Hx y Hy → ∃ Gy, Same Gx Gy ∧ Ct K Zx Gy Hy σx ρx ∧ Rp K Gy y d
def Src (K : PySem.W.Frag) (wi : TI) (ρ : List Sl) (ds : List Dat) (ρ0 : List Sl) : Prop := ∀ (Z : Zs) (G H : Hp) (σ : L2.St), Ct K Z G H σ ρ → ∀ R : It → Hp → Prop,
  (∀ (J : It) (G1 H1 : Hp), Same G G1 → Ct K Z G1 H1 σ ρ0 → Walks K Z G1 J ds → R J H1) → wi σ H R
theorem src_list (h : Ev K te ρ d ρ1) (la : d.items = some ds) : Src K (iList K te) ρ ds ρ1 := fun Z G H σ c R q => by
  refine h Z G H σ c _ fun v G1 H1 s1 c1 r1 => ?_
  obtain ⟨p, xs, rfl, hs, rx⟩ := c1.read (a := .d d) r1 la
  refine ⟨p, rfl, ⟨xs, hs⟩, q _ G1 H1 s1 c1 fun i Gx Hx σx ρx Zx s c2 => ?_⟩
  obtain ⟨p', xs', e', hs', rx'⟩ := c2.read (a := .d d) (r1.to s) la
  cases e'
  refine ⟨fun e => ⟨xs', hs', by rw [rx'.length, e]; exact Nat.le_refl _⟩, fun d' hd => ?_⟩
  obtain ⟨x, hx, rd⟩ := rx'.get hd
  refine ⟨⟨xs', x, hs', hx⟩, fun y Hy hy => ?_⟩
  obtain ⟨e, hy⟩ := hy
  subst e
  have : y = x := Option.some.inj ((hy xs' hs').symm.trans hx)
  subst this
  exact ⟨Gx, Same.refl _, c2, rd⟩
theorem src_tup (h : Ev K te ρ (.tup ds) ρ1) : Src K (iTup K te) ρ ds ρ1 := fun Z G H σ c R q => by
  refine h Z G H σ c _ fun v G1 H1 s1 c1 r1 => ?_
  obtain ⟨p, xs, rfl, hs, hl, rx⟩ := rp_tup c1.gh r1
  refine ⟨p, rfl, ⟨xs, hs⟩, q _ G1 H1 s1 c1 fun i Gx Hx σx ρx Zx s c2 => ?_⟩
  obtain ⟨p', xs', e', hs', hl', rx'⟩ := rp_tup c2.gh (r1.to s)
  cases e'
  refine ⟨fun e => ⟨xs', hs', by rw [rx'.length, e]; exact Nat.le_refl _⟩, fun d' hd => ?_⟩
  obtain ⟨x, hx, rd⟩ := rx'.get hd
  refine ⟨⟨xs', x, hs', hx⟩, fun y Hy hy => ?_⟩
  obtain ⟨e, hy⟩ := hy
  subst e
  have : y = x := Option.some.inj ((hy xs' hs').symm.trans hx)
  subst this
  exact ⟨Gx, Same.refl _, c2, rd⟩
/-- lo, lo + 1, .. n of them -/
def rngD (lo : Int) (n : Nat) : List Dat := (List.range n).map fun i => .int (lo + (i : Nat))
theorem rngD_len (lo : Int) (n : Nat) : (rngD lo n).length = n := by simp [rngD]
theorem rngD_get {lo : Int} {n i : Nat} {d : Dat} (h : (rngD lo n)[i]? = some d) : i < n ∧ d = .int (lo + (i : Nat)) := by
  have hi : i < n := by
    have := (List.getElem?_eq_some_iff.mp h).1
    rwa [rngD_len] at this
  unfold rngD at h
  rw [List.getElem?_map, List.getElem?_range hi] at h
  exact ⟨hi, (Option.some.inj h).symm⟩
theorem rngD_at {lo : Int} {n i : Nat} (h : i < n) : (rngD lo n)[i]? = some (.int (lo + (i : Nat))) := by
  unfold rngD
  rw [List.getElem?_map, List.getElem?_range h]
  rfl
theorem walks_range {lo : Int} {n : Nat} : Walks K Z G (Itr lo n) (rngD lo n) := fun i Gx Hx σx ρx Zx s c => by
  refine ⟨fun e => ?_, fun d hd => ?_⟩
  · rw [rngD_len] at e
    show n ≤ i
    omega
  · obtain ⟨hi, rfl⟩ := rngD_get hd
    refine ⟨hi, fun y Hy hy => ?_⟩
    obtain ⟨e1, e2⟩ := hy
    subst e1 e2
    exact ⟨Gx, Same.refl _, c, .int _⟩
theorem src_rng1 {n : Int} (h : Ev K te ρ (.int n) ρ1) (h1 : -1000000 ≤ n) (h2 : n ≤ 1000000) : Src K (iRng1 (tCons te tNil)) ρ (rngD 0 n.toNat) ρ1 := fun Z G H σ c R q => by
  refine h Z G H σ c _ fun v G1 H1 s1 c1 r1 => ?_
  cases r1
  exact ⟨n, rfl, by omega, by omega, q _ G1 H1 s1 c1 walks_range⟩
theorem src_rng2 {lo hi : Int} (ha : Ev K ta ρ (.int lo) ρ1) (hb : Ev K tb ρ1 (.int hi) ρ2) (h1 : -1000000 ≤ lo) (h2 : lo ≤ 1000000) (h3 : -1000000 ≤ hi) (h4 : hi ≤ 1000000) : Src K (iRng2 (tCons ta (tCons tb tNil))) ρ (rngD lo (hi - lo).toNat) ρ2 := fun Z G H σ c R q => by
  refine ha Z G H σ c _ fun v G1 H1 s1 c1 r1 => ?_
  refine hb Z G1 H1 σ c1 _ fun w G2 H2 s2 c2 r2 => ?_
  cases r1; cases r2
  exact ⟨lo, hi, rfl, ⟨by omega, by omega, by omega, by omega⟩, q _ G2 H2 (s1.trans s2) c2 walks_range⟩
/-! loops -/
/-- how a loop ends: n turns that go on, then the end, a return, or a break -/
inductive LEnd (K : PySem.W.Frag) (tb : TS) (x : Nat) (ds : List Dat) (ρs : Nat → List Sl) (n : Nat) : Out → Prop
  | done : n = ds.length → LEnd K tb x ds ρs n (.nx (ρs n))
  | ret {d r : Dat} {ρ' : List Sl} : ds[n]? = some d → Ex K tb ((ρs n).set x (.dat d)) (.rt r ρ') → LEnd K tb x ds ρs n (.rt r ρ')
  | brk {d : Dat} {ρ' : List Sl} : ds[n]? = some d → Ex K tb ((ρs n).set x (.dat d)) (.bk ρ') → LEnd K tb x ds ρs n (.nx ρ')
theorem ex_for {wi : TI} {x n : Nat} (ρs : Nat → List Sl) (h : Src K wi ρ ds (ρs 0)) (hx : ∀ i, (ρs i)[x]?.isSome = true) (hn : n ≤ ds.length)
    (body : ∀ i d, i < n → ds[i]? = some d → Ex K tbd ((ρs i).set x (.dat d)) (.nx (ρs (i + 1))) ∨ Ex K tbd ((ρs i).set x (.dat d)) (.ct (ρs (i + 1)))) (e : LEnd K tbd x ds ρs n o) : Ex K (tFor wi (gName x) tbd) ρ o := fun Z G H σ c D q => by
  refine h Z G H σ c _ fun J G1 H1 s1 c1 wk => ?_
  refine ⟨fun i m σ' H' => m = n - i ∧ i ≤ n ∧ ∃ G', Same G1 G' ∧ Ct K Z G' H' σ' (ρs i), ⟨n, by simp, Nat.zero_le _, G1, Same.refl G1, c1⟩, ?_⟩
  rintro i m σ' H' ⟨rfl, hi, G', s', c'⟩
  obtain ⟨w1, w2⟩ := wk i G' H' σ' (ρs i) Z s' c'
  by_cases hlt : i < n
  · have hid : i < ds.length := Nat.lt_of_lt_of_le hlt hn
    obtain ⟨go, yl⟩ := w2 ds[i] (List.getElem?_eq_getElem hid)
    refine .inr ⟨go, fun σ'' H'' => ∃ G'', Same G1 G'' ∧ Ct K Z G'' H'' σ'' (ρs (i + 1)), fun σ'' H'' k => ⟨n - (i + 1), by omega, rfl, hlt, k⟩, fun y H'' hy => ?_⟩
    obtain ⟨Gy, sy, cy, ry⟩ := yl y H'' hy
    have cb := cy.setD (i := x) (hx i) ry
    rcases body i _ hlt (List.getElem?_eq_getElem hid) with hb | hb
    · exact hb Z Gy _ _ cb _ fun σ2 G2 H2 s2 c2 => ⟨G2, s'.trans (sy.trans s2), c2⟩
    · exact hb Z Gy _ _ cb _ fun σ2 G2 H2 s2 c2 => ⟨G2, s'.trans (sy.trans s2), c2⟩
  · have en : i = n := by omega
    subst en
    cases e with
    | done e => exact .inl ⟨w1 e, q σ' G' H' (s1.trans s') c'⟩
    | ret hd hb =>
      obtain ⟨go, yl⟩ := w2 _ hd
      refine .inr ⟨go, fun _ _ => False, fun _ _ k => k.elim, fun y H'' hy => ?_⟩
      obtain ⟨Gy, sy, cy, ry⟩ := yl y H'' hy
      exact hb Z Gy _ _ (cy.setD (i := x) (hx i) ry) _ fun σ2 v G2 H2 s2 c2 => q σ2 v G2 H2 ((s1.trans s').trans (sy.trans s2)) c2
    | brk hd hb =>
      obtain ⟨go, yl⟩ := w2 _ hd
      refine .inr ⟨go, fun _ _ => False, fun _ _ k => k.elim, fun y H'' hy => ?_⟩
      obtain ⟨Gy, sy, cy, ry⟩ := yl y H'' hy
      exact hb Z Gy _ _ (cy.setD (i := x) (hx i) ry) _ fun σ2 G2 H2 s2 c2 => q σ2 G2 H2 ((s1.trans s').trans (sy.trans s2)) c2
/-- while: n turns, then the test fails, or the n-th body leaves -/
inductive WEnd (K : PySem.W.Frag) (tc : TT) (tb : TS) (ρs : Nat → List Sl) (n : Nat) : Out → Prop
  | done {ρ' : List Sl} : EvT K tc (ρs n) false ρ' → WEnd K tc tb ρs n (.nx ρ')
  | ret {r : Dat} {ρ' ρ'' : List Sl} : EvT K tc (ρs n) true ρ'' → Ex K tb ρ'' (.rt r ρ') → WEnd K tc tb ρs n (.rt r ρ')
  | brk {ρ' ρ'' : List Sl} : EvT K tc (ρs n) true ρ'' → Ex K tb ρ'' (.bk ρ') → WEnd K tc tb ρs n (.nx ρ')
theorem ex_while {n : Nat} (ρs : Nat → List Sl) (h0 : ρs 0 = ρ) (body : ∀ i, i < n → ∃ ρ', EvT K tt (ρs i) true ρ' ∧ Ex K tbd ρ' (.nx (ρs (i + 1)))) (e : WEnd K tt tbd ρs n o) : Ex K (tWhile tt tbd) ρ o := fun Z G H σ c D q => by
  subst h0
  refine ⟨fun m σ' H' => ∃ i G', m = n - i ∧ i ≤ n ∧ Same G G' ∧ Ct K Z G' H' σ' (ρs i), ⟨n, 0, G, by simp, Nat.zero_le _, Same.refl G, c⟩, ?_⟩
  rintro m σ' H' ⟨i, G', rfl, hi, s', c'⟩
  by_cases hlt : i < n
  · obtain ⟨ρ', ht, hb⟩ := body i hlt
    refine ht Z G' H' σ' c' _ fun G2 H2 s2 c2 => ?_
    refine iteT ⟨fun σ3 H3 => ∃ G3, Same G G3 ∧ Ct K Z G3 H3 σ3 (ρs (i + 1)), fun σ3 H3 ⟨G3, s3, c3⟩ => ⟨n - (i + 1), by omega, i + 1, G3, rfl, hlt, s3, c3⟩, ?_⟩
    exact hb Z G2 H2 σ' c2 _ fun σ3 G3 H3 s3 c3 => ⟨G3, s'.trans (s2.trans s3), c3⟩
  · have en : i = n := by omega
    subst en
    cases e with
    | done ht => exact ht Z G' H' σ' c' _ fun G2 H2 s2 c2 => iteF (q σ' G2 H2 (s'.trans s2) c2)
    | ret ht hb =>
      refine ht Z G' H' σ' c' _ fun G2 H2 s2 c2 => ?_
      refine iteT ⟨fun _ _ => False, fun _ _ k => k.elim, ?_⟩
      exact hb Z G2 H2 σ' c2 _ fun σ3 v G3 H3 s3 c3 => q σ3 v G3 H3 (s'.trans (s2.trans s3)) c3
    | brk ht hb =>
      refine ht Z G' H' σ' c' _ fun G2 H2 s2 c2 => ?_
      refine iteT ⟨fun _ _ => False, fun _ _ k => k.elim, ?_⟩
      exact hb Z G2 H2 σ' c2 _ fun σ3 G3 H3 s3 c3 => q σ3 G3 H3 (s'.trans (s2.trans s3)) c3
/-! comprehensions -/
theorem Ct.aside (c : Ct K Z G H σ ρ) {D : Addr} {o : HO} (hD : H D = some o) (g : G D = none) (no : ∀ i, ¬ Hd σ ρ i D) : Ct K ⟨Z.G0, Z.H0, Z.O0, upd Z.Kp D o⟩ G H σ ρ :=
  ⟨c.len, c.gg, c.gh, c.hh, c.ge, c.fr, fun i s e n => by
    obtain ⟨v, e1, k⟩ := c.sl i s e n
    refine ⟨v, e1, ?_⟩
    cases s with
    | no => trivial
    | dat d => exact k
    | own ds => exact k
    | par j ds => exact k, c.ds, fun b u e => by
    by_cases q : b = D
    · subst q; have e : upd Z.Kp b o b = some u := e; rw [upd_same] at e; cases e; exact hD
    · exact c.kp b u (by have e : upd Z.Kp D o b = some u := e; rwa [upd_ne q] at e), fun b n => by
    by_cases q : b = D
    · subst q; exact g
    · exact c.kg b (by have n : upd Z.Kp D o b ≠ none := n; rwa [upd_ne q] at n), fun i p a => by
    show upd Z.Kp D o p = none
    rw [upd_ne (show p ≠ D from fun q => no i (by rw [← q]; exact a))]
    exact c.kn i p a⟩
theorem Ct.unaside {D : Addr} {o : HO} (c : Ct K ⟨Z.G0, Z.H0, Z.O0, upd Z.Kp D o⟩ G H σ ρ) (z : Z.Kp D = none) : Ct K Z G H σ ρ ∧ H D = some o ∧ G D = none ∧ ∀ i, ¬ Hd σ ρ i D := by
  refine ⟨⟨c.len, c.gg, c.gh, c.hh, c.ge, c.fr, fun i s e n => ?_, c.ds, fun b u e => ?_, fun b n => ?_, fun i p a => ?_⟩, c.kp D o upd_same, c.kg D (by show upd Z.Kp D o D ≠ none; rw [upd_same]; intro q; cases q), fun i a => ?_⟩
  · obtain ⟨v, e1, k⟩ := c.sl i s e n
    refine ⟨v, e1, ?_⟩
    cases s with
    | no => trivial
    | dat d => exact k
    | own ds => exact k
    | par j ds => exact k
  · exact c.kp b u (by
      show upd Z.Kp D o b = some u
      rw [upd_ne (show b ≠ D from fun q => by rw [q, z] at e; cases e)]; exact e)
  · exact c.kg b (by
      show upd Z.Kp D o b ≠ none
      rw [upd_ne (show b ≠ D from fun q => n (by rw [q]; exact z))]; exact n)
  · have k : upd Z.Kp D o p = none := c.kn i p a
    by_cases q : p = D
    · rw [q, upd_same] at k; cases k
    · rwa [upd_ne q] at k
  · have k : upd Z.Kp D o D = none := c.kn i D a
    rw [upd_same] at k; cases k
/-- an object that stands aside is changed -/
theorem Ct.asideSet {D : Addr} {o o' : HO} (c : Ct K Z G H σ ρ) (hD : H D = some o) (g : G D = none) (no : ∀ i, ¬ Hd σ ρ i D) (z : Z.H0 D = none) (zk : Z.Kp D = none) : Ct K Z G (upd H D o') σ ρ := by
  refine ⟨c.len, c.gg, fun b u e => ?_, fun b u e n => ?_, fun b n => ?_, c.fr, fun i s e n => ?_, c.ds, fun b u e => ?_, c.kg, c.kn⟩
  · rw [upd_ne (show b ≠ D from fun q => by rw [q, g] at e; cases e)]; exact c.gh b u e
  · rw [upd_ne (show b ≠ D from fun q => by rw [q, z] at e; cases e)]; exact c.hh b u e n
  · by_cases q : b = D
    · subst q; rw [upd_same]; intro w; cases w
    · rw [upd_ne q]; exact c.ge b n
  · obtain ⟨v, e1, k⟩ := c.sl i s e n
    refine ⟨v, e1, k.mono (Same.refl G) fun p xs ev ho gp hp => ⟨gp, ?_⟩⟩
    rw [upd_ne (show p ≠ D from fun q => no i ⟨by rw [e1, ev, q], s, e, ho⟩)]; exact hp
  · rw [upd_ne (show b ≠ D from fun q => by rw [q, zk] at e; cases e)]; exact c.kp b u e
/-- the slots of a comprehension's own names -/
def wipeS (ρ : List Sl) : List Nat → List Sl
  | [] => ρ
  | v :: vs => (wipeS ρ vs).set v .no
theorem wipe_len (σ : L2.St) : ∀ vs, (wipe σ vs).length = σ.length := wipe_length σ
theorem wipeS_len (ρ : List Sl) : ∀ vs, (wipeS ρ vs).length = ρ.length
  | [] => rfl
  | v :: vs => by unfold wipeS; rw [List.length_set, wipeS_len ρ vs]
theorem wipe_get (σ : L2.St) (ρ : List Sl) : ∀ (vs : List Nat) (i : Nat) (s : Sl), (wipeS ρ vs)[i]? = some s → s.isNo = false → ρ[i]? = some s ∧ (wipe σ vs)[i]? = σ[i]?
  | [], i, s, e, _ => ⟨e, rfl⟩
  | v :: vs, i, s, e, n => by
    unfold wipeS at e
    by_cases q : v = i
    · subst q
      by_cases l : v < (wipeS ρ vs).length
      · rw [List.getElem?_set_self l] at e; cases e; cases n
      · rw [List.getElem?_eq_none (by simpa using l)] at e; cases e
    · rw [List.getElem?_set_ne q] at e
      obtain ⟨a, b⟩ := wipe_get σ ρ vs i s e n
      refine ⟨a, ?_⟩
      unfold wipe
      rw [List.getElem?_set_ne q]
      exact b
theorem hd_wipe {vs : List Nat} {i : Nat} {p : Addr} (h : Hd (wipe σ vs) (wipeS ρ vs) i p) : Hd σ ρ i p := by
  obtain ⟨e, s, a, o⟩ := h
  obtain ⟨b, k⟩ := wipe_get σ ρ vs i s a (Sl.own_not_no o)
  exact ⟨by rw [← k]; exact e, s, b, o⟩
theorem Ct.wipe (c : Ct K Z G H σ ρ) (vs : List Nat) : Ct K Z G H (L2.wipe σ vs) (wipeS ρ vs) :=
  ⟨by rw [wipe_len, wipeS_len, c.len], c.gg, c.gh, c.hh, c.ge, c.fr, fun i s e n => by
    obtain ⟨a, b⟩ := wipe_get σ ρ vs i s e n
    obtain ⟨v, e1, k⟩ := c.sl i s a n
    exact ⟨v, by rw [b]; exact e1, k⟩, fun i j p a b => c.ds i j p (hd_wipe a) (hd_wipe b), c.kp, c.kg, fun i p a => c.kn i p (hd_wipe a)⟩

theorem hd_unwipe {vs : List Nat} {i : Nat} {p : Addr} (h : Hd σ (wipeS ρ vs) i p) : Hd (L2.wipe σ vs) (wipeS ρ vs) i p := by
  obtain ⟨e, s, a, o⟩ := h
  obtain ⟨b, k⟩ := wipe_get σ ρ vs i s a (Sl.own_not_no o)
  exact ⟨by rw [k]; exact e, s, a, o⟩
theorem Ct.unwipe {vs : List Nat} (c : Ct K Z G H (L2.wipe σ vs) (wipeS ρ vs)) : Ct K Z G H σ (wipeS ρ vs) :=
  ⟨by rw [← c.len, wipe_len], c.gg, c.gh, c.hh, c.ge, c.fr, fun i s e n => by
    obtain ⟨a, b⟩ := wipe_get σ ρ vs i s e n
    obtain ⟨v, e1, k⟩ := c.sl i s e n
    exact ⟨v, by rw [← b]; exact e1, k⟩, fun i j p a b => c.ds i j p (hd_unwipe a) (hd_unwipe b), c.kp, c.kg, fun i p a => c.kn i p (hd_unwipe a)⟩
theorem wipe_back {x : Nat} {y : V} : L2.wipe ((L2.wipe σ [x]).set x (some y)) [x] = L2.wipe σ [x] := by
  show ((σ.set x none).set x (some y)).set x none = σ.set x none
  rw [List.set_set, List.set_set]
/-- what a comprehension has made behind i turns -/
def lcOut (keep : Nat → Bool) (f : Nat → Dat) (n : Nat) : List Dat := ((List.range n).filter keep).map f
theorem lcOut_succ (keep : Nat → Bool) (f : Nat → Dat) (n : Nat) : lcOut keep f (n + 1) = lcOut keep f n ++ (if keep n then [f n] else []) := by
  unfold lcOut
  rw [List.range_succ, List.filter_append, List.map_append]
  congr 1
  cases h : keep n <;> simp [h]
theorem lcOut_len (keep : Nat → Bool) (f : Nat → Dat) (n : Nat) : (lcOut keep f n).length ≤ n := by
  unfold lcOut
  rw [List.length_map]
  exact Nat.le_trans (List.length_filter_le _ _) (by simp)
theorem ef_lc {wi : TI} {x : Nat} (ρs : Nat → List Sl) (keep : Nat → Bool) (f : Nat → Dat) (h : Src K wi ρ ds (ρs 0)) (hx : ∀ i, (ρs i)[x]?.isSome = true) (hl : ds.length < 100000)
    (body : ∀ i d, ds[i]? = some d → ∃ ρa, EvT K tt ((wipeS (ρs i) [x]).set x (.dat d)) (keep i) ρa ∧ (keep i = true → ∃ ρb, Ev K te ρa (f i) ρb ∧ wipeS ρb [x] = wipeS (ρs (i + 1)) [x]) ∧ (keep i = false → wipeS ρa [x] = wipeS (ρs (i + 1)) [x])) :
    EvF K (tLc wi (gName x) tt te [x]) ρ (lcOut keep f ds.length) (wipeS (ρs ds.length) [x]) := fun Z G H σ c Q q => by
  refine h Z G H σ c _ fun J G1 H1 s1 c1 wk D hD => ?_
  obtain ⟨c2, gD, ⟨z0, zk⟩, noD⟩ := fresh_of c1 (xs := []) hD
  refine ⟨fun i m H' => m = ds.length - i ∧ i ≤ ds.length ∧ ∃ G' acc, Same G1 G' ∧ Ct K Z G' H' (wipe σ [x]) (wipeS (ρs i) [x]) ∧ H' D = some (.lst acc) ∧ G' D = none ∧ RpAll K G' acc (lcOut keep f i) ∧ ∀ j, ¬ Hd (wipe σ [x]) (wipeS (ρs i) [x]) j D,
    ⟨ds.length, by simp, Nat.zero_le _, G1, [], Same.refl G1, c2.wipe [x], upd_same, gD, .nil, fun j a => noD j (hd_wipe a)⟩, ?_⟩
  rintro i m H' ⟨rfl, hi, G', acc, s', c', hacc, gD', rx, no'⟩
  by_cases hlt : i < ds.length
  · have ca := c'.aside hacc gD' no'
    obtain ⟨w1, w2⟩ := wk i G' H' _ _ _ s' ca
    obtain ⟨go, yl⟩ := w2 ds[i] (List.getElem?_eq_getElem hlt)
    refine .inr ⟨go, fun H'' => ∃ G'' acc', Same G1 G'' ∧ Ct K Z G'' H'' (wipe σ [x]) (wipeS (ρs (i + 1)) [x]) ∧ H'' D = some (.lst acc') ∧ G'' D = none ∧ RpAll K G'' acc' (lcOut keep f (i + 1)) ∧ ∀ j, ¬ Hd (wipe σ [x]) (wipeS (ρs (i + 1)) [x]) j D,
      fun H'' k => ⟨ds.length - (i + 1), by omega, rfl, hlt, k⟩, fun y H'' hy => ?_⟩
    obtain ⟨Gy, sy, cy, ry⟩ := yl y H'' hy
    have hx' : (wipeS (ρs i) [x])[x]?.isSome = true := isSome_set (hx i)
    have cb := cy.setD (i := x) hx' ry
    refine ⟨wipe_back, ?_⟩
    obtain ⟨ρa, ht, hy1, hy0⟩ := body i _ (List.getElem?_eq_getElem hlt)
    refine ht _ Gy _ _ cb _ fun G3 H3 s3 c3 => ?_
    cases hk : keep i with
    | false =>
      refine iteF ?_
      obtain ⟨c4, h4, g4, n4⟩ := c3.unaside zk
      have c5 := c4.wipe [x]
      rw [wipe_back, hy0 hk] at c5
      refine ⟨G3, acc, s'.trans (sy.trans s3), c5, h4, g4, ?_, fun j a => n4 j ?_⟩
      · rw [lcOut_succ, hk]
        rw [if_neg Bool.false_ne_true, List.append_nil]
        exact rx.to (sy.trans s3)
      · rw [← wipe_back (σ := σ) (x := x) (y := y), ← hy0 hk] at a
        exact hd_wipe a
    | true =>
      refine iteT ?_
      obtain ⟨ρb, he, ew⟩ := hy1 hk
      refine he _ G3 H3 _ c3 _ fun w G4 H4 s4 c4 r4 => ?_
      obtain ⟨c5, h5, g5, n5⟩ := c4.unaside zk
      refine ⟨acc, h5, by
        rw [rx.length]
        exact Nat.lt_of_le_of_lt (lcOut_len keep f i) (Nat.lt_of_lt_of_le (Nat.lt_trans hlt hl) (by decide)), ?_⟩
      have c6 := (c5.asideSet (o' := .lst (acc ++ [w])) h5 g5 n5 z0 zk).wipe [x]
      rw [wipe_back, ew] at c6
      refine ⟨G4, acc ++ [w], s'.trans (sy.trans (s3.trans s4)), c6, upd_same, g5, ?_, fun j a => n5 j ?_⟩
      · rw [lcOut_succ, hk, if_pos rfl]
        exact (rx.to (sy.trans (s3.trans s4))).app (.cons r4 .nil)
      · rw [← wipe_back (σ := σ) (x := x) (y := y), ← ew] at a
        exact hd_wipe a
  · have e : i = ds.length := by omega
    subst e
    have ca := c'.aside hacc gD' no'
    obtain ⟨w1, _⟩ := wk _ G' H' _ _ _ s' ca
    exact .inl ⟨w1 rfl, q D acc G' H' (s1.trans s') c'.unwipe gD' hacc rx ⟨z0, zk⟩ fun j a => no' j (hd_unwipe a)⟩
theorem et_yes : EvT K tYes ρ true ρ := fun _ G H _ c Q q => q G H (Same.refl G) c
theorem lcOut_all (f : Nat → Dat) (g : Dat → Dat) (h : ∀ (i : Nat) (d : Dat), ds[i]? = some d → f i = g d) : lcOut (fun _ => true) f ds.length = ds.map g := by
  unfold lcOut
  rw [List.filter_eq_self.mpr (fun _ _ => rfl)]
  apply List.ext_getElem?
  intro i
  by_cases hi : i < ds.length
  · rw [List.getElem?_map, List.getElem?_map, List.getElem?_range hi, List.getElem?_eq_getElem hi]
    show some (f i) = some (g ds[i])
    rw [h i _ (List.getElem?_eq_getElem hi)]
  · rw [List.getElem?_eq_none (by simp; omega), List.getElem?_eq_none (by simp; omega)]
/-- [e for x in ..], nothing changed on the way -/
theorem ef_lcMap {wi : TI} {x : Nat} (g : Dat → Dat) (h : Src K wi ρ ds ρ1) (hx : ρ1[x]?.isSome = true) (hl : ds.length < 100000)
    (body : ∀ d, d ∈ ds → Ev K te ((wipeS ρ1 [x]).set x (.dat d)) (g d) ((wipeS ρ1 [x]).set x (.dat d))) : EvF K (tLc wi (gName x) tYes te [x]) ρ (ds.map g) (wipeS ρ1 [x]) := by
  have e := ef_lc (tt := tYes) (te := te) (x := x) (fun _ => ρ1) (fun _ => true) (fun i => g (ds.getD i .non)) h (fun _ => hx) hl (fun i d hd => ⟨_, et_yes, fun _ => ⟨_, (body d (List.mem_of_getElem? hd)).to (by rw [List.getD_eq_getElem?_getD, hd]; rfl), by
    show (((ρ1.set x .no).set x (.dat d)).set x .no) = ρ1.set x .no
    rw [List.set_set, List.set_set]⟩, fun q => by cases q⟩)
  rwa [lcOut_all _ g (fun i d hd => by rw [List.getD_eq_getElem?_getD, hd]; rfl)] at e
theorem lcOut_some (k : Nat → Bool) (f : Nat → Dat) (p : Dat → Bool) (g : Dat → Dat) : ∀ (es : List Dat), (∀ (i : Nat) (d : Dat), es[i]? = some d → k i = p d ∧ f i = g d) → lcOut k f es.length = (es.filter p).map g := by
  intro es h
  have key : ∀ n, n ≤ es.length → lcOut k f n = ((es.take n).filter p).map g := by
    intro n
    induction n with
    | zero => intro _; rfl
    | succ n ih =>
      intro hn
      have hlt : n < es.length := hn
      obtain ⟨h1, h2⟩ := h n _ (List.getElem?_eq_getElem hlt)
      rw [lcOut_succ, ih (Nat.le_of_lt hlt), List.take_add_one, List.getElem?_eq_getElem hlt, List.filter_append, List.map_append, h1, h2]
      congr 1
      show (if p es[n] = true then [g es[n]] else []) = List.map g (List.filter p [es[n]])
      cases hp : p es[n] <;> simp [hp]
  rw [key _ (Nat.le_refl _), List.take_length]
/-- [e for x in .. if t] -/
theorem ef_lcIf {wi : TI} {x : Nat} (p : Dat → Bool) (g : Dat → Dat) (h : Src K wi ρ ds ρ1) (hx : ρ1[x]?.isSome = true) (hl : ds.length < 100000)
    (test : ∀ d, d ∈ ds → EvT K tt ((wipeS ρ1 [x]).set x (.dat d)) (p d) ((wipeS ρ1 [x]).set x (.dat d)))
    (body : ∀ d, d ∈ ds → p d = true → Ev K te ((wipeS ρ1 [x]).set x (.dat d)) (g d) ((wipeS ρ1 [x]).set x (.dat d))) : EvF K (tLc wi (gName x) tt te [x]) ρ ((ds.filter p).map g) (wipeS ρ1 [x]) := by
  have back : ∀ d, wipeS ((wipeS ρ1 [x]).set x (.dat d)) [x] = wipeS ρ1 [x] := fun d => by
    show (((ρ1.set x .no).set x (.dat d)).set x .no) = ρ1.set x .no
    rw [List.set_set, List.set_set]
  have gd : ∀ (i : Nat) (d : Dat), ds[i]? = some d → ds.getD i .non = d := fun i d hd => by rw [List.getD_eq_getElem?_getD, hd]; rfl
  have e := ef_lc (tt := tt) (te := te) (x := x) (fun _ => ρ1) (fun i => p (ds.getD i .non)) (fun i => g (ds.getD i .non)) h (fun _ => hx) hl (fun i d hd => by
    rw [gd i d hd]
    refine ⟨_, test d (List.mem_of_getElem? hd), fun k => ⟨_, body d (List.mem_of_getElem? hd) k, back d⟩, fun _ => back d⟩)
  rwa [lcOut_some _ _ p g ds (fun i d hd => by rw [gd i d hd]; exact ⟨rfl, rfl⟩)] at e
/-! a def's body -/
/-- the promise's lists as they are in the end -/
inductive Fin : List Sl → List Sl → List Sl → Prop
  | nil {ρ : List Sl} : Fin [] [] ρ
  | no {a s : Sl} {as bs ρ : List Sl} : Fin as bs ρ → Fin (a :: as) (.no :: bs) (s :: ρ)
  | par {j : Nat} {ds es : List Dat} {as bs ρ : List Sl} : Fin as bs ρ → Fin (.par j ds :: as) (.par j es :: bs) (.par j es :: ρ)
theorem Fin.len {as bs ρ : List Sl} (h : Fin as bs ρ) : bs.length = as.length := by
  induction h with
  | nil => rfl
  | no _ ih => simp [ih]
  | par _ ih => simp [ih]
theorem Fin.get {as bs ρ : List Sl} (h : Fin as bs ρ) : ∀ {i : Nat} {s : Sl}, bs[i]? = some s → s.isNo = false → ∃ j ds es, s = .par j es ∧ as[i]? = some (.par j ds) ∧ ρ[i]? = some (.par j es) := by
  induction h with
  | nil => intro i s e; simp at e
  | no _ ih =>
    intro i s e n
    cases i with
    | zero => simp at e; subst e; cases n
    | succ i => simpa using ih (by simpa using e) n
  | par _ ih =>
    intro i s e n
    cases i with
    | zero => simp at e; subst e; exact ⟨_, _, _, rfl, rfl, rfl⟩
    | succ i => simpa using ih (by simpa using e) n
theorem fin_ct {as bs : List Sl} {vs : List V} {σ' : L2.St} (c0 : Ct K Z G H (vs.map some) as) (c1 : Ct K Z G' H' σ' ρ) (f : Fin as bs ρ) : Ct K Z G' H' (vs.map some) bs := by
  have key : ∀ {i : Nat} {s : Sl}, bs[i]? = some s → s.isNo = false → ∃ v, (vs.map some)[i]? = some (some v) ∧ SlOk K Z G' H' v s ∧ ∀ p, v = .ref p → Hd σ' ρ i p := fun {i s} e n => by
    obtain ⟨j, ds, es, rfl, ea, er⟩ := f.get e n
    obtain ⟨v, ev, p, xs, rfl, z, _⟩ := c0.sl i _ ea rfl
    obtain ⟨v', ev', p', xs', rfl, z', g', h', r'⟩ := c1.sl i _ er rfl
    have : p = p' := by rw [z] at z'; exact Option.some.inj z'
    subst this
    exact ⟨_, ev, ⟨p, xs', rfl, z', g', h', r'⟩, fun q hq => by cases hq; exact ⟨ev', _, er, rfl⟩⟩
  have hd : ∀ {i : Nat} {p : Addr}, Hd (vs.map some) bs i p → Hd σ' ρ i p := fun {i p} h => by
    obtain ⟨e, s, a, o⟩ := h
    obtain ⟨v, ev, _, k⟩ := key a (Sl.own_not_no o)
    rw [e] at ev
    cases ev
    exact k p rfl
  exact ⟨by rw [c0.len, f.len], c1.gg, c1.gh, c1.hh, c1.ge, c1.fr, fun i s e n => by
    obtain ⟨v, ev, k, _⟩ := key e n
    exact ⟨v, ev, k⟩, fun i j p a b => c1.ds i j p (hd a) (hd b), c1.kp, c1.kg, fun i p a => c1.kn i p (hd a)⟩
/-- nothing is known of the other slots at the start -/
theorem start_ct {N : List Str} {vs : List V} {as : List Sl} {m : Nat} (c : Ct K Z G H (vs.map some) as) (e : start N vs = vs.map some ++ List.replicate m none) : Ct K Z G H (start N vs) (as ++ List.replicate m .no) := by
  rw [e]
  have hl := c.len
  have low : ∀ {i : Nat} {s : Sl}, (as ++ List.replicate m Sl.no)[i]? = some s → s.isNo = false → as[i]? = some s ∧ (vs.map some ++ List.replicate m none)[i]? = (vs.map some)[i]? := fun {i s} e n => by
    by_cases hi : i < as.length
    · rw [List.getElem?_append_left hi] at e
      exact ⟨e, List.getElem?_append_left (by rw [hl]; exact hi)⟩
    · rw [List.getElem?_append_right (by omega)] at e
      have := List.mem_of_getElem? e
      rw [List.mem_replicate] at this
      rw [this.2] at n
      cases n
  have hd : ∀ {i : Nat} {p : Addr}, Hd (vs.map some ++ List.replicate m none) (as ++ List.replicate m .no) i p → Hd (vs.map some) as i p := fun {i p} h => by
    obtain ⟨e, s, a, o⟩ := h
    obtain ⟨b, k⟩ := low a (Sl.own_not_no o)
    exact ⟨by rw [← k]; exact e, s, b, o⟩
  exact ⟨by simp [← hl], c.gg, c.gh, c.hh, c.ge, c.fr, fun i s e n => by
    obtain ⟨b, k⟩ := low e n
    obtain ⟨v, ev, w⟩ := c.sl i s b n
    exact ⟨v, by rw [k]; exact ev, w⟩, fun i j p a b => c.ds i j p (hd a) (hd b), c.kp, c.kg, fun i p a => c.kn i p (hd a)⟩
/-- how the promise's lists end: none is told of, or it is the changed one -/
inductive FinOk : List Sl → List Sl → Prop
  | nil : FinOk [] []
  | no {a : Sl} {as bs : List Sl} : FinOk as bs → FinOk (a :: as) (.no :: bs)
  | par {j : Nat} {ds es : List Dat} {as bs : List Sl} : FinOk as bs → FinOk (.par j ds :: as) (.par j es :: bs)
theorem FinOk.fin {as bs m : List Sl} (h : FinOk as bs) : Fin as bs (bs ++ m) := by
  induction h with
  | nil => exact .nil
  | no _ ih => exact .no ih
  | par _ ih => exact .par ih
/-- what is left of a def's body once its steps are known -/
theorem body_ok {R : List Sl → Dat → List Sl → Prop} {N : List Str} {vs : List V} {Q : VK} {E : XK} {n : Nat} (h : spG K R vs H Q E) (hn : ∀ as d as', R as d as' → as.length = n)
    (k : ∀ as d as', R as d as' → FinOk as as' ∧ Ex K t (as ++ List.replicate (N.length - n) .no) (.rt d (as' ++ List.replicate (N.length - n) .no))) : t { nx := fun _ H' => Q .non H', rt := Q } (start N vs) H := by
  obtain ⟨G, O, as, d, as', r, c, q⟩ := h
  obtain ⟨f, ex⟩ := k as d as' r
  have e : start N vs = vs.map some ++ List.replicate (N.length - n) none := by
    have l := c.len
    rw [List.length_map, hn _ _ _ r] at l
    show vs.map some ++ List.replicate (N.length - vs.length) none = _
    rw [l]
  exact ex _ G H _ (start_ct c e) _ fun σ' v G' H' s c' rv => q v G' H' (fin_ct c c' f.fin) rv
/-- if t: .. that leaves -/
theorem ex_ifL {a : Bool} (h : EvT K tt ρ a ρ1) (k1 : a = true → Ex K t ρ1 o) (k2 : a = false → Ex K u ρ1 o) (no : o.isNx = false) : Ex K (tSeq (tIfS tt t tNext) u) ρ o := by
  cases a with
  | true => exact ex_out (ex_if h (fun _ => k1 rfl) fun q => by cases q) no
  | false => exact ex_seq (ex_if h (fun q => by cases q) fun _ => ex_next) (k2 rfl)
theorem ex_retW {d' : Dat} (h : Ev K te ρ d ρ1) (e : d = d') (l : Le ρ2 ρ1) : Ex K (tRet te) ρ (.rt d' ρ2) := by
  subst e
  exact (ex_ret h).weakR l
/-- arguments that are data alone -/
def agD : List Ag → Option (List Dat)
  | [] => some []
  | .d d :: r => match agD r with
    | some ds => some (d :: ds)
    | none => none
  | .s _ :: _ => none
theorem agD_map : ∀ {as : List Ag} {ds : List Dat}, agD as = some ds → as = ds.map Ag.d
  | [], ds, h => by
    have h : some [] = some ds := h
    cases h
    rfl
  | .d d :: r, ds, h => by
    unfold agD at h
    cases q : agD r with
    | none => rw [q] at h; cases h
    | some es =>
      rw [q] at h
      have h : some (d :: es) = some ds := h
      cases h
      rw [agD_map q]
      rfl
  | .s _ :: _, ds, h => by cases h
variable {ag : List Ag} {tg : TA}
theorem ef_lstA (h : EvA K tg ρ ag ρ1) (hd : agD ag = some ds) (hl : ds.length ≤ 100000) : EvF K (tLst tg) ρ ds ρ1 := ef_lst (agD_map hd ▸ h) hl
theorem ev_lstA (h : EvA K tg ρ ag ρ1) (hd : agD ag = some ds) (hl : ds.length ≤ 100000) : Ev K (tLst tg) ρ (.lst ds) ρ1 := ev_lst (agD_map hd ▸ h) hl
theorem ev_tupA (h : EvA K tg ρ ag ρ1) (hd : agD ag = some ds) (hl : ds.length ≤ 100000) : Ev K (tTup tg) ρ (.tup ds) ρ1 := ev_tup (agD_map hd ▸ h) hl
theorem ev_callA {R : List Sl → Dat → List Sl → Prop} {E : XK} {as' : List Sl} (ha : EvA K tg ρ ag ρ1) (hd : agD ag = some ds) (hR : R (ds.map Sl.dat) d as') : Ev K (tCall (spG K R) [] E tg) ρ d ρ1 := ev_call (agD_map hd ▸ ha) hR
/-- sep.join(xs) -/
theorem ev_join {r : V → List V → Hp → VK → Prop} {a : Ag} {x : Str} {ys : List Str} (hr : r = fun x xs H Q => ∃ a p, ∃ ys : List Str, x = .str a ∧ xs = [.ref p] ∧ (SqL K H p (ys.map V.str) ∨ SqT K H p (ys.map V.str)) ∧
      (ys.map (·.length)).sum + ys.length * a.length ≤ 16777216 ∧ Q (.str (Txt.join a ys)) H) (ha : Ev K ta ρ (.str x) ρ1) (hb : EvL K tb ρ1 a ρ2) (l : look ρ2 a = some (ys.map Dat.str)) (hl : (ys.map (·.length)).sum + ys.length * x.length ≤ 16777216) :
    Ev K (tM1 r ta tb) ρ (.str (Txt.join x ys)) ρ2 := fun Z G H σ c Q q => by
  subst hr
  refine ha Z G H σ c _ fun v G1 H1 s1 c1 r1 => ?_
  cases r1
  refine ⟨⟨x, rfl⟩, ?_⟩
  refine hb Z G1 H1 σ c1 _ fun w G2 H2 s2 c2 r2 => ?_
  obtain ⟨p, xs, rfl, hp, rx⟩ := c2.read r2 l
  have e := rx.strsEq
  subst e
  exact ⟨x, p, ys, rfl, rfl, .inl hp, hl, q _ _ _ (s1.trans s2) c2 (.str _)⟩
def onI (f : Int → Dat) : Dat → Dat
  | .int i => f i
  | _ => .non
theorem rngD_mem {lo : Int} {n : Nat} {d : Dat} (h : d ∈ rngD lo n) : ∃ i, i < n ∧ d = .int (lo + (i : Nat)) := by
  obtain ⟨i, hi⟩ := List.mem_iff_getElem?.mp h
  obtain ⟨a, b⟩ := rngD_get hi
  exact ⟨i, a, b⟩
theorem rngD_map {lo : Int} {n : Nat} {f : Int → Dat} : (rngD lo n).map (onI f) = (List.range n).map fun i => f (lo + (i : Nat)) := by
  unfold rngD
  rw [List.map_map]
  rfl
theorem isSome_of_lt {ρ : List Sl} {i : Nat} (h : i < ρ.length) : ρ[i]?.isSome = true := by rw [List.getElem?_eq_getElem h]; rfl
/-- type(x) -/
theorem ev_ty1 {T : String} (ha : Ev K ta ρ d ρ1) (h : d.tyn = some T) : Ev K (tCB (rTyp K) (tCons ta tNil)) ρ (.ty T) ρ1 := fun Z G H σ c Q q => by
  refine ha Z G H σ c _ fun v G1 H1 s1 c1 r1 => ?_
  have e : TyB K H1 v T := by
    cases r1 with
    | non => cases h; exact .non
    | bl b => cases h; exact .bl b
    | int b => cases h; exact .int b
    | str b => cases h; exact .str b
    | lst e _ => cases h; exact .lst (.inl (.inl (c1.gh _ _ e)))
    | tup e _ => cases h; exact .tup (.inl (.inl (c1.gh _ _ e)))
    | emp e => cases h; exact .dK (c1.gh _ _ e)
    | _ => cases h
  exact ⟨v, T, rfl, e, q _ _ _ s1 c1 (.ty T)⟩
theorem rv_isnt {a b : String} : RV K rNT ρ (.ty a) (.ty b) (.bl (!decide (a = b))) := rv_pure fun G H x y s rx ry => by
  cases rx; cases ry
  exact ⟨_, .bl _, fun Q q => ⟨a, b, rfl, rfl, q⟩⟩
theorem rv_isTy {a b : String} {r : R2} (hr : r = fun x y H Q => ∃ a b, x = .ty a ∧ y = .ty b ∧ Q (.bl (decide (a = b))) H) : RV K r ρ (.ty a) (.ty b) (.bl (decide (a = b))) := by
  subst hr
  exact rv_pure fun G H x y s rx ry => by
    cases rx; cases ry
    exact ⟨_, .bl _, fun Q q => ⟨a, b, rfl, rfl, q⟩⟩
/-- len of a text -/
theorem ev_lenS {r : List V → Hp → VK → Prop} {z : Str} (hr : r = fun xs H Q => ∃ z, xs = [.str z] ∧ z.length ≤ sizeLine ∧ Q (.int z.length) H) (ha : Ev K ta ρ (.str z) ρ1) (hz : z.length ≤ 100000) : Ev K (tCB r (tCons ta tNil)) ρ (.int z.length) ρ1 := fun Z G H σ c Q q => by
  subst hr
  refine ha Z G H σ c _ fun v G1 H1 s1 c1 r1 => ?_
  cases r1
  exact ⟨z, rfl, sz_ok hz, q _ _ _ s1 c1 (.int _)⟩
/-- the signs of a text -/
def signs (x : Str) : List Dat := x.cps.toList.map fun c => .str ⟨#[c]⟩
theorem src_str {z : Str} (h : Ev K te ρ (.str z) ρ1) : Src K (iStr te) ρ (signs z) ρ1 := fun Z G H σ c R q => by
  refine h Z G H σ c _ fun v G1 H1 s1 c1 r1 => ?_
  cases r1
  refine ⟨z, rfl, q _ G1 H1 s1 c1 fun i Gx Hx σx ρx Zx s c2 => ⟨fun e => ?_, fun d hd => ?_⟩⟩
  · show z.cps.size ≤ i
    rw [e]
    simp [signs]
  · unfold signs at hd
    rw [List.getElem?_map] at hd
    have hi : i < z.cps.size := by
      cases e : z.cps.toList[i]? with
      | none => rw [e] at hd; cases hd
      | some x =>
        have := (List.getElem?_eq_some_iff.mp e).1
        simpa using this
    refine ⟨hi, fun y Hy hy => ?_⟩
    obtain ⟨e1, x, hx, e2⟩ := hy
    subst e1 e2
    have : z.cps.toList[i]? = some x := by simpa using hx
    rw [this] at hd
    have hd : Dat.str ⟨#[x]⟩ = d := Option.some.inj hd
    subst hd
    exact ⟨Gx, Same.refl _, c2, .str _⟩
end
/-! ### len(set(ints)) -/
def distinct (ns : List Int) : List Int := PyProof.Rows.firstMet (fun i => ns.getD i 0) ns.length
def tLenSetG (K : PySem.W.Frag) (ta : TE) : TE := fun σ H Q => ta σ H fun x H1 => ∃ (l : Addr) (ns : List Int), x = .ref l ∧ SqL K H1 l (ns.map V.int) ∧ ns.length ≤ 4000 ∧ Q (.int ((distinct ns).length : Nat)) H1
theorem pe_lenSetG {X : Cx} {a : Expr} {ta : TE} {p p2 q pos : Pos} (hg : Gl X "len") (hm : X.mg "len" = none) (hg2 : Gl X "set") (hm2 : X.mg "set" = none) (ha : PE X a ta) (hc : X.calm = true := by rfl)
    (na : starEach [a] X.env = (false, eval a X.env) :: starEach [] X.env := by rfl) : PE X (.Call (.Name "len" p) [.Call (.Name "set" p2) [a] [] q] [] pos) (tLenSetG X.K ta) := by
  refine ⟨fun pins s σ H Q I h => ?_⟩
  refine PyProof.Rows.Call_ (ld_blt I hg hm PySem.boot_len ?_)
  refine PyProof.Rows.callWith_builtin1 (PyProof.Rows.args_cons ?_ rfl) rfl rfl
  refine PyProof.Rows.Call_ (ld_blt I hg2 hm2 PyProof.Rows.boot_set ?_)
  refine PyProof.Rows.callWith_type1 (PyProof.Rows.args_cons (thn (ha.run pins s σ H _ I h) fun v s1 ⟨x, H1, I1, r1, q1⟩ => PyProof.Rows.args_nil ?_) na) na rfl
  obtain ⟨l, ns, rfl, hq, hl, q1⟩ := q1
  cases r1
  obtain ⟨its, r, pl, hz⟩ := I1.list hq
  have hlen : its.toArray.size = ns.length := by rw [List.size_toArray, ← r.length, List.length_map]
  refine PySem.call_set_list (I1.ok.hd hc) pl.isList (by simpa using L2.intsAre_of r) (by rw [hlen]; unfold scanBound; omega) fun h' tk hS hk => ?_
  refine PyProof.Rows.args_nil ?_
  rw [hlen] at hS
  have hle := PyProof.Rows.firstMet_length_le (fun i => ns.getD i 0) ns.length
  obtain ⟨o, es, ep, t, ho, hex, hd, _, _, _, hf, hn⟩ := hS
  have I2 : Inv X pins σ H1 { s1 with heap := h', toks := tk } := I1.kept fun b o e => hk b o (Heap.lt_size e) e
  exact call_len_set ho hex hd hf (by rw [hn] <;> omega) ⟨.int (distinct ns).length, H1, I2.tok _, ⟨_, by rw [hn]; rfl⟩, q1⟩
section
variable {K : PySem.W.Frag} {ρ ρ1 : List Sl} {ta : TE}
theorem ev_lenSet {ns : List Int} {a : Ag} (ha : EvL K ta ρ a ρ1) (l : look ρ1 a = some (ns.map Dat.int)) (hl : ns.length ≤ 4000) : Ev K (tLenSetG K ta) ρ (.int ((distinct ns).length : Nat)) ρ1 := fun Z G H σ c Q q => by
  refine ha Z G H σ c _ fun v G1 H1 s1 c1 r1 => ?_
  obtain ⟨p, xs, rfl, hp, rx⟩ := c1.read r1 l
  have e := rx.intsEq
  subst e
  exact ⟨p, ns, rfl, hp, hl, q _ _ _ s1 c1 (.int _)⟩
theorem distinct_le (ns : List Int) : (distinct ns).length ≤ ns.length := PyProof.Rows.firstMet_length_le _ _
theorem distinct_step (ns : List Int) : ∀ i, i ≤ ns.length → (PyProof.Rows.firstMet (fun i => ns.getD i 0) i).length = i → (ns.take i).Nodup := by
  intro i
  induction i with
  | zero => intro _ _; simp
  | succ i ih =>
    intro hi he
    have hlt : i < ns.length := hi
    have hle := PyProof.Rows.firstMet_length_le (fun i => ns.getD i 0) i
    have eg : ns.getD i 0 = ns[i] := by rw [List.getD_eq_getElem?_getD, List.getElem?_eq_getElem hlt]; rfl
    have an := PyProof.Rows.firstMet_any (fun i => ns.getD i 0) i (ns.getD i 0)
    rw [PyProof.Rows.firstMet_succ] at he
    have st : PyProof.Rows.step_dedup (PyProof.Rows.firstMet (fun i => ns.getD i 0) i) (ns.getD i 0) = if (PyProof.Rows.firstMet (fun i => ns.getD i 0) i).any (· == ns.getD i 0) then PyProof.Rows.firstMet (fun i => ns.getD i 0) i else PyProof.Rows.firstMet (fun i => ns.getD i 0) i ++ [ns.getD i 0] := rfl
    rw [st] at he
    cases hb : (PyProof.Rows.firstMet (fun i => ns.getD i 0) i).any (· == ns.getD i 0) with
    | true =>
      rw [hb] at he
      have he : (PyProof.Rows.firstMet (fun i => ns.getD i 0) i).length = i + 1 := he
      omega
    | false =>
      rw [hb] at he
      have he' : (PyProof.Rows.firstMet (fun i => ns.getD i 0) i).length = i := by simpa using he
      have nd := ih (Nat.le_of_lt hlt) he'
      rw [List.take_add_one, List.getElem?_eq_getElem hlt]
      show (ns.take i ++ [ns[i]]).Nodup
      refine List.nodup_append.mpr ⟨nd, by simp, fun a ha b hb' => ?_⟩
      have : b = ns[i] := by simpa using hb'
      subst this
      intro e
      rw [an] at hb
      have : ((List.range i).map fun i => ns.getD i 0).any (· == ns.getD i 0) = true := by
        obtain ⟨j, hj⟩ := List.mem_iff_getElem?.mp ha
        rw [List.getElem?_take] at hj
        by_cases hji : j < i
        · rw [if_pos hji] at hj
          refine List.any_eq_true.mpr ⟨ns.getD j 0, List.mem_map.mpr ⟨j, List.mem_range.mpr hji, rfl⟩, ?_⟩
          rw [List.getD_eq_getElem?_getD, hj, eg]
          simpa using e
        · rw [if_neg hji] at hj; cases hj
      rw [this] at hb
      cases hb
theorem distinct_nodup {ns : List Int} : (distinct ns).length = ns.length ↔ ns.Nodup := by
  constructor
  · intro h
    have := distinct_step ns ns.length (Nat.le_refl _) h
    rwa [List.take_length] at this
  · intro h
    unfold distinct
    rw [RZ.firstMet_nodup h ns.length (Nat.le_refl _), List.take_length]
variable {ρ' : List Sl} {tt tu : TT} {tb : TE} {d : Dat}
theorem et_orT (h : EvT K tt ρ true ρ') : EvT K (tOr tt tu) ρ true ρ' := fun Z G H σ c Q q => h Z G H σ c _ fun G1 H1 s1 c1 => iteT (q _ _ s1 c1)
theorem et_andF (h : EvT K tt ρ false ρ') : EvT K (tAnd tt tu) ρ false ρ' := fun Z G H σ c Q q => h Z G H σ c _ fun G1 H1 s1 c1 => iteF (q _ _ s1 c1)
theorem ev_andF (h : Ev K ta ρ (.bl false) ρ') : Ev K (tAndV ta tb) ρ (.bl false) ρ' := fun Z G H σ c Q q => h Z G H σ c _ fun v G1 H1 s1 c1 r1 => by
  cases r1
  exact ⟨false, rfl, iteF (q _ _ _ s1 c1 (.bl _))⟩
theorem ev_orT (h : Ev K ta ρ (.bl true) ρ') : Ev K (tOrV ta tb) ρ (.bl true) ρ' := fun Z G H σ c Q q => h Z G H σ c _ fun v G1 H1 s1 c1 r1 => by
  cases r1
  exact ⟨true, rfl, iteT (q _ _ _ s1 c1 (.bl _))⟩
/-! what may be handed in: any plain thing of a moderate size -/
mutual
def Tame : Nat → Dat → Prop
  | _, .non => True
  | _, .bl _ => True
  | _, .int _ => True
  | _, .emp => True
  | _, .str x => x.length ≤ 1000
  | n + 1, .lst ds => ds.length ≤ 1000 ∧ TameAll n ds
  | n + 1, .tup ds => ds.length ≤ 1000 ∧ TameAll n ds
  | _, _ => False
def TameAll : Nat → List Dat → Prop
  | _, [] => True
  | n, d :: ds => Tame n d ∧ TameAll n ds
end
theorem tameAll_mem {n : Nat} : ∀ {ds : List Dat}, TameAll n ds → ∀ d ∈ ds, Tame n d
  | [], _, d, h => by cases h
  | e :: ds, h, d, hm => by
    simp only [TameAll] at h
    rcases List.mem_cons.mp hm with rfl | hm
    · exact h.1
    · exact tameAll_mem h.2 d hm
theorem tameAll_of {n : Nat} : ∀ {ds : List Dat}, (∀ d ∈ ds, Tame n d) → TameAll n ds
  | [], _ => by simp only [TameAll]
  | d :: ds, h => by
    simp only [TameAll]
    exact ⟨h d List.mem_cons_self, tameAll_of fun e he => h e (List.mem_cons_of_mem _ he)⟩
theorem tame_lst {n : Nat} {ds : List Dat} : Tame (n + 1) (.lst ds) = (ds.length ≤ 1000 ∧ TameAll n ds) := by simp only [Tame]
theorem tame_tup {n : Nat} {ds : List Dat} : Tame (n + 1) (.tup ds) = (ds.length ≤ 1000 ∧ TameAll n ds) := by simp only [Tame]
theorem tame_str {n : Nat} {x : Str} : Tame n (.str x) = (x.length ≤ 1000) := by simp only [Tame]
theorem tame_tyn {n : Nat} {d : Dat} (h : Tame n d) : ∃ T, d.tyn = some T := by
  cases d <;> first | exact ⟨_, rfl⟩ | (simp only [Tame] at h)
theorem tame_len {n : Nat} {ds : List Dat} (h : Tame n (.lst ds)) : ds.length ≤ 1000 ∧ ∃ m, n = m + 1 ∧ TameAll m ds := by
  cases n with
  | zero => simp only [Tame] at h
  | succ n => rw [tame_lst] at h; exact ⟨h.1, n, rfl, h.2⟩
end

/-! ### instances: made by __init__, their fields and methods -/
section
variable (K : PySem.W.Frag)
/-- a part of an __init__: the instance stands aside, in slot 0; its fields ns hold ds, and ns', ds' behind it -/
def ExI (C : Addr) (t : TS) (ρ : List Sl) (ns : List Str) (ds : List Dat) (ρ' : List Sl) (ns' : List Str) (ds' : List Dat) : Prop :=
  ∀ (Z : Zs) (G H : Hp) (σ : L2.St) (x dx : Addr) (fs : List (Str × V)), Ct K Z G H σ ρ → σ[0]? = some (some (.ref x)) → H x = some (.ins C dx fs) → G x = none → Z.H0 x = none → Z.Kp x = none → (∀ i, ¬ Hd σ ρ i x) → fs.map (·.1) = ns → RpAll K G (fs.map (·.2)) ds →
    ∀ D : Ends, (∀ (σ' : L2.St) (G' H' : Hp) (fs' : List (Str × V)), Same G G' → Ct K Z G' H' σ' ρ' → σ'[0]? = some (some (.ref x)) → H' x = some (.ins C dx fs') → G' x = none → (∀ i, ¬ Hd σ' ρ' i x) → fs'.map (·.1) = ns' → RpAll K G' (fs'.map (·.2)) ds' → D.nx σ' H') → t D σ H
/-- an __init__'s promise: of the data es it makes an instance with fields ns that hold ds -/
def spInit (C : Addr) (R : List Dat → List Str → List Dat → Prop) : Sp := fun vs H Q _ => ∃ (G H0 : Hp) (x dx : Addr) (vs' : List V) (es : List Dat) (ns : List Str) (ds : List Dat), R es ns ds ∧ vs = .ref x :: vs' ∧ Same G H0 ∧ H0 x = none ∧ H0 dx = none ∧ dx ≠ x ∧
  H = upd (upd H0 dx (.own x)) x (.ins C dx []) ∧ RpAll K G vs' es ∧ ∀ (v : V) (G' H' : Hp), v = .non → Ct K ⟨G, H0, [], fun _ => none⟩ G' H' [] [] → Rp K G' (.ref x) (.ins C ns ds) → Q v H'
end
section
variable {K : PySem.W.Frag} {C : Addr} {Z : Zs} {G G' H H' : Hp} {σ : L2.St} {ρ ρ' ρ1 ρ2 : List Sl} {te ta tv : TE} {tt : TT} {t u : TS} {tg : TA} {d : Dat} {ds ds1 ds2 es : List Dat} {ns ns1 ns2 : List Str} {f m : Str} {ag : List Ag}
theorem exi_seq (h : ExI K C t ρ ns ds ρ1 ns1 ds1) (k : ExI K C u ρ1 ns1 ds1 ρ2 ns2 ds2) : ExI K C (tSeq t u) ρ ns ds ρ2 ns2 ds2 := fun Z G H σ x dx fs c e0 hx gx z zk no hn hr D q => by
  refine h Z G H σ x dx fs c e0 hx gx z zk no hn hr { D with nx := u D } fun σ1 G1 H1 fs1 s1 c1 e1 hx1 gx1 no1 hn1 hr1 => ?_
  exact k Z G1 H1 σ1 x dx fs1 c1 e1 hx1 gx1 z zk no1 hn1 hr1 D fun σ2 G2 H2 fs2 s2 => q σ2 G2 H2 fs2 (s1.trans s2)
theorem putF_new : ∀ {fs : List (Str × V)} {v : V}, f ∉ fs.map (·.1) → putF f v fs = fs ++ [(f, v)]
  | [], _, _ => rfl
  | (g, x) :: r, v, h => by
    have h1 : ¬ g = f := fun e => h (by rw [e]; exact List.mem_cons_self)
    have h2 : f ∉ r.map (·.1) := fun e => h (List.mem_cons_of_mem _ e)
    show (if g = f then _ else _) = _
    rw [if_neg h1, putF_new h2]
    rfl
theorem exi_fld (hv : Ev K tv ρ d ρ1) (hc : Cls K C) (hn : NoAttr K C f) (hf : f ∉ ns) (hl : ns.length < 1000) : ExI K C (sFld K (tVar 0) tv f) ρ ns ds ρ1 (ns ++ [f]) (ds ++ [d]) := fun Z G H σ x dx fs c e0 hx gx z zk no hn' hr D q => by
  have ca := c.aside hx gx no
  refine hv _ G H σ ca _ fun y G1 H1 s1 c1 r1 => ?_
  obtain ⟨c2, h2, g2, no2⟩ := c1.unaside zk
  refine ⟨.ref x, e0, x, C, dx, fs, rfl, h2, hc, hn, by rw [← hn'] at hl; simpa using hl, ?_⟩
  refine q σ G1 _ (fs ++ [(f, y)]) s1 (c2.asideSet h2 g2 no2 z zk) e0 ?_ g2 no2 ?_ ?_
  · rw [upd_same, putF_new (by rw [hn']; exact hf)]
  · rw [List.map_append, hn']
    rfl
  · rw [List.map_append]
    exact (hr.to s1).app (.cons r1 .nil)
/-- a test whose branch isn't taken -/
theorem exi_no {t1 : TS} (h : EvT K tt ρ false ρ1) (k : ExI K C u ρ1 ns ds ρ2 ns2 ds2) : ExI K C (tSeq (tIfS tt t1 tNext) u) ρ ns ds ρ2 ns2 ds2 := fun Z G H σ x dx fs c e0 hx gx z zk no hn hr D q => by
  have ca := c.aside hx gx no
  refine h _ G H σ ca _ fun G1 H1 s1 c1 => ?_
  obtain ⟨c2, h2, g2, no2⟩ := c1.unaside zk
  refine iteF ?_
  exact k Z G1 H1 σ x dx fs c2 e0 h2 g2 z zk no2 hn (hr.to s1) D fun σ2 G2 H2 fs2 s2 => q σ2 G2 H2 fs2 (s1.trans s2)
theorem ct_nil (gh : Same G H) : Ct K ⟨G, H, [], fun _ => none⟩ G H [] [] :=
  ⟨rfl, Same.refl G, gh, fun _ _ e _ => e, fun _ n => n, fun _ _ n => n, fun i s e => by simp at e, fun i j p a => by obtain ⟨e, _⟩ := a; simp at e, fun _ _ e => (by cases e), fun _ n => absurd rfl n, fun _ _ _ => rfl⟩
theorem Ct.nil (c : Ct K Z G H σ ρ) : Ct K Z G H [] [] :=
  ⟨rfl, c.gg, c.gh, c.hh, c.ge, c.fr, fun i s e => by simp at e, fun i j p a => by obtain ⟨e, _⟩ := a; simp at e, c.kp, c.kg, fun i p a => by obtain ⟨e, _⟩ := a; simp at e⟩
/-- an __init__'s body keeps its promise -/
theorem init_ok {R : List Dat → List Str → List Dat → Prop} {N : List Str} {vs : List V} {Q : VK} {E : XK} {n : Nat} (h : spInit K C R vs H Q E) (hn : ∀ es ns ds, R es ns ds → es.length = n)
    (k : ∀ es ns ds, R es ns ds → ∃ ρ', ExI K C t ([.no] ++ es.map Sl.dat ++ List.replicate (N.length - (n + 1)) .no) [] [] ρ' ns ds) : t { nx := fun _ H' => Q .non H', rt := Q } (start N vs) H := by
  obtain ⟨G, H0, x, dx, vs', es, ns, ds, r, rfl, gh, hx, hdx, ne, rfl, ra, q⟩ := h
  obtain ⟨ρ', ex⟩ := k es ns ds r
  have l : vs'.length = n := by rw [ra.length, hn _ _ _ r]
  have c0 : Ct K ⟨G, H0, [], fun _ => none⟩ G H0 (vs'.map some) (es.map Sl.dat) := start_all gh ra
  have c1 : Ct K ⟨G, H0, [], fun _ => none⟩ G (upd (upd H0 dx (.own x)) x (.ins C dx [])) (vs'.map some) (es.map Sl.dat) := (c0.grow (o := .own x) hdx).grow (by rw [upd_ne ne.symm]; exact hx)
  have gx : G x = none := c0.freshG hx
  have sl : ∀ {i : Nat} {s : Sl}, ([.no] ++ es.map Sl.dat ++ List.replicate (N.length - (n + 1)) Sl.no : List Sl)[i]? = some s → s.isNo = false → ∃ j d, i = j + 1 ∧ es[j]? = some d ∧ s = .dat d := fun {i s} e hs => by
    cases i with
    | zero =>
      have e : some Sl.no = some s := e
      cases e
      cases hs
    | succ j =>
      have e : (es.map Sl.dat ++ List.replicate (N.length - (n + 1)) Sl.no)[j]? = some s := e
      by_cases hj : j < es.length
      · rw [List.getElem?_append_left (by simpa using hj), List.getElem?_map, List.getElem?_eq_getElem hj] at e
        exact ⟨j, _, rfl, List.getElem?_eq_getElem hj, (Option.some.inj e).symm⟩
      · rw [List.getElem?_append_right (by simpa using hj)] at e
        have := List.mem_of_getElem? e
        rw [List.mem_replicate] at this
        rw [this.2] at hs
        cases hs
  have est : L2.start N (.ref x :: vs') = [some (.ref x)] ++ vs'.map some ++ List.replicate (N.length - (n + 1)) none := by
    show (V.ref x :: vs').map some ++ List.replicate (N.length - (V.ref x :: vs').length) none = _
    rw [List.length_cons, l]
    rfl
  have nohd : ∀ {i : Nat} {p : Addr}, ¬ Hd (L2.start N (.ref x :: vs')) ([.no] ++ es.map Sl.dat ++ List.replicate (N.length - (n + 1)) .no) i p := fun {i p} a => by
    obtain ⟨_, s, e, o⟩ := a
    obtain ⟨j, d, _, _, rfl⟩ := sl e (Sl.own_not_no o)
    cases o
  have c2 : Ct K ⟨G, H0, [], fun _ => none⟩ G (upd (upd H0 dx (.own x)) x (.ins C dx [])) (L2.start N (.ref x :: vs')) ([.no] ++ es.map Sl.dat ++ List.replicate (N.length - (n + 1)) .no) :=
    ⟨by rw [est]; simp [l, hn _ _ _ r], c1.gg, c1.gh, c1.hh, c1.ge, c1.fr, fun i s e hs => by
      obtain ⟨j, d, rfl, hd, rfl⟩ := sl e hs
      obtain ⟨v, hv, rv⟩ := ra.get hd
      refine ⟨v, ?_, rv⟩
      rw [est]
      show (vs'.map some ++ List.replicate (N.length - (n + 1)) none)[j]? = _
      have hj : j < vs'.length := (List.getElem?_eq_some_iff.mp hv).1
      rw [List.getElem?_append_left (by simpa using hj), List.getElem?_map, hv]
      rfl, fun i j p a => (nohd a).elim, c1.kp, c1.kg, fun i p a => (nohd a).elim⟩
  refine ex _ G _ _ x dx [] c2 (by rw [est]; rfl) upd_same gx hx rfl (fun i a => nohd a) rfl .nil _ fun σ' G' H' fs' s' c' e' hx' gx' no' hn' hr' => ?_
  obtain ⟨c3, s3⟩ := c'.adopt hx' hx rfl no' gx'
  exact q .non _ H' rfl c3.nil (.ins upd_same hn' (hr'.to s3))
/-- C(..) -/
theorem ev_make {R : List Dat → List Str → List Dat → Prop} {E : XK} (ha : EvA K tg ρ ag ρ1) (hd : agD ag = some es) (hR : R es ns ds) : Ev K (tMake C (spInit K C R) [] E tg) ρ (.ins C ns ds) ρ1 := fun Z G H σ c Q q => by
  have ha := agD_map hd ▸ ha
  refine ha Z G H σ c _ fun vs G1 H1 s1 c1 r1 => ?_
  have r := rp_args r1
  intro x dx hx hdx ne
  rw [List.append_nil]
  refine ⟨G1, H1, x, dx, vs, es, ns, ds, hR, rfl, c1.gh, hx, hdx, ne, rfl, r, fun v G2 H2 ev c2 r2 => ⟨ev, ?_⟩⟩
  obtain ⟨s2, c3⟩ := c1.after0 (vs := []) c2
  exact q _ G2 H2 (s1.trans s2) c3 r2
theorem look_zip : ∀ {fs : List (Str × V)} {ns : List Str} {ds : List Dat}, fs.map (·.1) = ns → RpAll K G (fs.map (·.2)) ds → ∀ {d : Dat}, (ns.zip ds).lookup f = some d → ∃ v, fs.lookup f = some v ∧ Rp K G v d
  | [], _, _, rfl, h, d, e => by cases h; cases e
  | (g, y) :: r, _, _, rfl, h, d, e => by
    cases h with
    | @cons _ _ d0 ds0 a b =>
      have e : List.lookup f ((g, d0) :: (r.map (·.1)).zip ds0) = some d := e
      rw [List.lookup_cons] at e
      rw [List.lookup_cons]
      cases q : f == g with
      | true => rw [q] at e; cases e; exact ⟨y, rfl, a⟩
      | false => rw [q] at e; exact look_zip rfl b e
/-- o.f -/
theorem ev_fld (ha : Ev K ta ρ (.ins C ns ds) ρ1) (hc : Cls K C) (hn : NoAttr K C f) (hl : (ns.zip ds).lookup f = some d) : Ev K (tFld K ta f) ρ d ρ1 := fun Z G H σ c Q q => by
  refine ha Z G H σ c _ fun v G1 H1 s1 c1 r1 => ?_
  cases r1 with
  | @ins a _ dx fs _ _ e n r =>
    obtain ⟨w, hw, rw⟩ := look_zip n r hl
    exact ⟨a, C, dx, fs, w, rfl, c1.gh _ _ e, hc, hn, hw, q _ _ _ s1 c1 rw⟩
theorem look_none : ∀ {fs : List (Str × V)}, m ∉ fs.map (·.1) → fs.lookup m = none
  | [], _ => rfl
  | (g, y) :: r, h => by
    have h1 : (m == g) = false := beq_eq_false_iff_ne.mpr fun e => h (by rw [e]; exact List.mem_cons_self)
    rw [List.lookup_cons, h1]
    exact look_none fun e => h (List.mem_cons_of_mem _ e)
/-- o.m(..) -/
theorem ev_meth {R : List Sl → Dat → List Sl → Prop} {E : XK} {as' : List Sl} (ha : Ev K ta ρ (.ins C ns ds) ρ1) (hb : EvA K tg ρ1 ag ρ2) (hd : agD ag = some es) (hm : m ∉ ns) (hR : R (.dat (.ins C ns ds) :: es.map Sl.dat) d as') : Ev K (tMeth C m (spG K R) [] E ta tg) ρ d ρ2 := fun Z G H σ c Q q => by
  have hb := agD_map hd ▸ hb
  refine ha Z G H σ c _ fun v G1 H1 s1 c1 r1 => ?_
  have r1' := r1
  cases r1 with
  | @ins a _ dx fs _ _ e n r =>
    refine ⟨a, dx, fs, rfl, c1.gh _ _ e, look_none (by rw [n]; exact hm), ?_⟩
    refine hb Z G1 H1 σ c1 _ fun vs G2 H2 s2 c2 r2 => ?_
    rw [List.append_nil]
    have ra : RpAll K G2 (.ref a :: vs) (.ins C ns ds :: es) := .cons (r1'.to s2) (rp_args r2)
    refine ⟨G2, [], _, d, as', hR, start_all c2.gh ra, fun v G3 H3 c3 r3 => ?_⟩
    obtain ⟨s3, c4⟩ := c2.after0 c3
    exact q v G3 H3 ((s1.trans s2).trans s3) c4 r3
end

section
variable {K : PySem.W.Frag} {ρ ρ1 ρ2 : List Sl} {ta tb : TE} {ds es : List Dat}
theorem ef_rep {n : Int} {a : Ag} (ha : EvL K ta ρ a ρ1) (hb : Ev K tb ρ1 (.int n) ρ2) (la : lookS ρ2 a = some ds) (h1 : -1000 ≤ n) (h2 : n ≤ 1000) (hl : ds.length * n.toNat ≤ 100000) : EvF K (tOp rRep ta tb) ρ (rep ds n.toNat) ρ2 := fun Z G H σ c Q q => by
  refine ha Z G H σ c _ fun x G1 H1 s1 c1 r1 => ?_
  refine hb Z G1 H1 σ c1 _ fun y G2 H2 s2 c2 r2 => ?_
  obtain ⟨p, xs, rfl, hp, rx⟩ := c2.readS (r1.to s2) la
  cases r2
  refine ⟨p, n, xs, rfl, rfl, hp, by omega, by omega, by rw [rx.length]; exact sz_ok hl, fun q' hn => ?_⟩
  obtain ⟨a, b, z, no⟩ := fresh_of c2 (xs := (List.replicate n.toNat xs).flatten) hn
  exact q q' _ G2 _ (s1.trans s2) a b upd_same (rp_rep rx _) z no
theorem ev_rep {n : Int} {a : Ag} (ha : EvL K ta ρ a ρ1) (hb : Ev K tb ρ1 (.int n) ρ2) (la : lookS ρ2 a = some ds) (h1 : -1000 ≤ n) (h2 : n ≤ 1000) (hl : ds.length * n.toNat ≤ 100000) : Ev K (tOp rRep ta tb) ρ (.lst (rep ds n.toNat)) ρ2 := ev_of_fresh (ef_rep ha hb la h1 h2 hl)
/-- {} -/
theorem ev_emp : Ev K tDNewK ρ .emp ρ := fun Z G H σ c Q q => by
  intro p hp
  obtain ⟨c2, s2⟩ := c.grown (o := .dK []) hp
  exact q _ _ _ s2 c2 (.emp upd_same)
theorem cutD_len (xs : List Dat) (lo hi : Option Int) : (cutD xs lo hi).length ≤ xs.length := by
  unfold cutD
  rw [List.length_take, List.length_drop]
  omega
end
/-! ### the rules with the written part named -/
section
variable (K : PySem.W.Frag) {X : Cx} {tg it e : Expr} {ta tb te to : TE} {t : TA} {f : Str} {T : String} {r : V → List V → Hp → VK → Prop} {n : Nat} {u : TGs}
theorem kEqD (hu : X.A.units + 64 < cLine) (h : X.K = K := by rfl) : OpR X (compareOp .Eq) (rEqD K) := h ▸ op_eqD hu
theorem kNeD (hu : X.A.units + 64 < cLine) (h : X.K = K := by rfl) : OpR X (compareOp .NotEq) (rNeD K) := h ▸ op_neD hu
theorem kInD (hu : X.A.units + 65 < cLine) (h : X.K = K := by rfl) : OpR X (compareOp .In) (rInD K) := h ▸ op_inD hu
theorem kNotInD (hu : X.A.units + 65 < cLine) (h : X.K = K := by rfl) : OpR X (compareOp .NotIn) (rNotInD K) := h ▸ op_notInD hu
theorem kIn (h : X.K = K := by rfl) : OpR X (compareOp .In) (rIn K false) := h ▸ op_in_seq
theorem kNotIn (h : X.K = K := by rfl) : OpR X (compareOp .NotIn) (rIn K true) := h ▸ op_notIn_seq
theorem kIxL (h : X.K = K := by rfl) : IxR X (rIxL K) := h ▸ ix_list
theorem kIxT (h : X.K = K := by rfl) : IxR X (rIxT K) := h ▸ ix_tup
theorem kSlL (h : X.K = K := by rfl) : SlR X (rSlL K) := h ▸ sl_list
theorem kSlA (h : X.K = K := by rfl) : SlR X (rSlA K) := h ▸ sl_tupA
theorem kCatA (h : X.K = K := by rfl) : OpR X (binaryOp .Add) (rCatA K) := h ▸ op_catA
abbrev rLenQ (K : PySem.W.Frag) : List V → Hp → VK → Prop := fun xs H Q => ∃ p ys, xs = [.ref p] ∧ (SqL K H p ys ∨ SqT K H p ys) ∧ Q (.int ys.length) H
theorem kLen (h : X.K = K := by rfl) : CallR X (.builtin "len") (rLenQ K) := h ▸ call_len_seq
abbrev rListQ (K : PySem.W.Frag) : List V → Hp → VK → Prop := fun xs H Q => ∃ p ys, xs = [.ref p] ∧ (SqL K H p ys ∨ SqT K H p ys) ∧ ∀ l, H l = none → Q (.ref l) (upd H l (.lst ys))
theorem kList (h : X.K = K := by rfl) : CallR X (.type "list") (rListQ K) := h ▸ call_list_of
abbrev rTupQ (K : PySem.W.Frag) : List V → Hp → VK → Prop := fun xs H Q => ∃ p ys, xs = [.ref p] ∧ ((SqL K H p ys ∧ ∀ l, H l = none → Q (.ref l) (upd H l (.tup ys))) ∨ (SqT K H p ys ∧ Q (.ref p) H))
theorem kTuple (h : X.K = K := by rfl) : CallR X (.type "tuple") (rTupQ K) := h ▸ call_tuple_of
theorem kIsi (h : X.K = K := by rfl) : CallR X (.builtin "isinstance") (rIsi K) := h ▸ call_isi
theorem kType (h : X.K = K := by rfl) : CallR X (.type "type") (rTyp K) := h ▸ call_type1
theorem kAll (hc : X.calm = true) (h : X.K = K := by rfl) : CallR X (.builtin "all") (rAll K) := h ▸ cr_all hc
theorem kAny (hc : X.calm = true) (h : X.K = K := by rfl) : CallR X (.builtin "any") (rAny K) := h ▸ cr_any hc
theorem kIndexD (hu : X.A.units + 65 < cLine) (h : X.K = K := by rfl) : MtR X "list.index" (rIndexD K) := h ▸ mt_indexD hu
theorem kCount (h : X.K = K := by rfl) : MtR X "list.count" (rCntI K) := h ▸ mt_lcount
theorem kFld (p : PE X e (tFld X.K ta f)) (h : X.K = K := by rfl) : PE X e (tFld K ta f) := h ▸ p
theorem kBM (p : PE X e (tBM X.K T r to t)) (h : X.K = K := by rfl) : PE X e (tBM K T r to t) := h ▸ p
theorem kBM0 (p : PE X e (tBM0 X.K T r to)) (h : X.K = K := by rfl) : PE X e (tBM0 K T r to) := h ▸ p
abbrev rJoinQ (K : PySem.W.Frag) : V → List V → Hp → VK → Prop := fun x xs H Q => ∃ a p, ∃ ys : List Str, x = .str a ∧ xs = [.ref p] ∧ (SqL K H p (ys.map V.str) ∨ SqT K H p (ys.map V.str)) ∧
      (ys.map (·.length)).sum + ys.length * a.length ≤ 16777216 ∧ Q (.str (Txt.join a ys)) H
theorem kJoin (p : PE X e (tM1 (rJoinQ X.K) to te)) (h : X.K = K := by rfl) : PE X e (tM1 (rJoinQ K) to te) := h ▸ p
theorem kLenSet (p : PE X e (tLenSetG X.K ta)) (h : X.K = K := by rfl) : PE X e (tLenSetG K ta) := h ▸ p
theorem kiList (p : PI X tg it (iList X.K te)) (h : X.K = K := by rfl) : PI X tg it (iList K te) := h ▸ p
theorem kiTup (p : PI X tg it (iTup X.K te)) (h : X.K = K := by rfl) : PI X tg it (iTup K te) := h ▸ p
theorem kiEnum (p : PI X tg it (iEnum X.K t)) (h : X.K = K := by rfl) : PI X tg it (iEnum K t) := h ▸ p
theorem kiZip (p : PI X tg it (iZip X.K t)) (h : X.K = K := by rfl) : PI X tg it (iZip K t) := h ▸ p
theorem kgTup (p : PG X e (gTup X.K n u)) (h : X.K = K := by rfl) : PG X e (gTup K n u) := h ▸ p
theorem ksFld {st : Stmt} {tv : TE} (p : PS X st (sFld X.K ta tv f)) (h : X.K = K := by rfl) : PS X st (sFld K ta tv f) := h ▸ p
end
/-! ### exceptions -/
/-- isinstance(e, (A, B, ..)) of the exception in hand -/
def rIsET (K : PySem.W.Frag) (D a : Addr) : List V → Hp → VK → Prop := fun xs H Q => ∃ (p : Addr) (cs : List V) (its : List Value) (b : Bool), xs = [.ref a, .ref p] ∧ H p = some (.tup cs) ∧ (∀ us, Vals cs us → us = its) ∧ PySem.W.kitAny K (.ref D) its = some b ∧ Q (.bl b) H
theorem call_isET {X : Cx} {a D : Addr} {oe : Obj} {pn : List (Addr × Obj)} (C : ExcC X.K D) (hz : Zc (.ref D) none oe) (hf : ∃ vs, oe.data = .fields vs) : CallR (X.suite a ((a, oe) :: pn)) (.builtin "isinstance") (rIsET X.K D a) := by
  rintro pins s σ H xs us Q I hv ⟨p, cs, its, b, rfl, hp, hits, hk, q⟩
  cases hv with
  | cons h1 h2 =>
  cases h2 with
  | cons h3 h4 =>
  cases h4
  cases h1
  cases h3
  have hpin := (I.pin (a, oe) (by simp)).1
  obtain ⟨ts, tv, tt, _⟩ := I.tuple (.inl (.inl hp))
  have e := hits _ tv
  obtain ⟨o, to, tc, n, td⟩ := tt
  obtain ⟨oc, od, odt, osl⟩ := o
  obtain ⟨vs, hf⟩ := hf
  have hcl : (PySem.W.clsIn X.K D).isSome = true := by
    have := C.hd
    unfold PySem.W.hasDictIn at this
    cases q : PySem.W.clsIn X.K D with
    | none => rw [q] at this; cases this
    | some _ => rfl
  refine PySem.W.kia_tup (PySem.W.kitx_exc (x := a) (ox := oe) (od := none) hcl C.hg C.hk C.hs C.ha C.hn C.ht C.hm) I.kIn ⟨hpin, hz.1, ?_, ?_⟩ (tp := p) (its := its) (n := n) (sl := osl) (dd := od) ?_ hk (by intro h; cases h) fun tk => ?_
  · unfold PySem.W.notCls
    rw [hf]
  · rw [hz.2]; trivial
  · rw [to, ← e]
    cases tc
    cases td
    rfl
  · exact ⟨.bl b, H, I.tok tk, rfl, q⟩
/-- C(..) that may refuse -/
theorem pe_makeX {X : Cx} {k : Nat} {f C : Addr} {fd : FuncData} {ps : List Str} {sp : Sp} {E : L2.St → XK} {x : Str} {p pos : Pos} {e : Expr} {es : List Expr} {t : TA}
    (mk : Mk X.K C f) (F : FnOk X.prog X.w X.K X.mg X.base (CX X.prog X.w) k f fd ps sp) (hr : Room (k + 1) X.A) (hg : Gl X x) (hm : X.mg x = some (.ref C)) (hb : Binds X.K fd ps []) (hx : ∀ σ, PassesAt (CX X.prog X.w) X σ (E σ)) (ha : PA X (e :: es) t)
    (h1 : (x == ("__debug__" : Str)) = false := by decide) (h2 : starEach (e :: es) X.env = (false, eval e X.env) :: starEach es X.env := by rfl) (h3 : (backTo pos (starEach es X.env)).any (·.1) = false := by rfl) :
    PE X (.Call (.Name x p) (e :: es) [] pos) (tMake C sp [] (fun cls d H => ∀ σ', σ'.length = X.N.length → E σ' cls d H) t) :=
  pe_make mk F hr hg hm hb .nil (fun pins σ H s e s' I h => hx σ pins H s e s' I (by
    obtain ⟨a, B, H', cls, d, q1, q2, q3, q4, q5, q6, q7, q8⟩ := h
    exact ⟨a, B, H', cls, d, q1, q2, q3, q4, q5, q6, q7, q8 σ I.len⟩)) ha h1 h2 h3
/-- a call that raises CB -/
def spX (K : PySem.W.Frag) (CB : Addr) (R : List Sl → Prop) : Sp := fun vs H _ E => ∃ (G : Hp) (O : List Addr) (as : List Sl), R as ∧ Ct K ⟨G, H, O, fun _ => none⟩ G H (vs.map some) as ∧
  ∀ (G' H' : Hp), Ct K ⟨G, H, O, fun _ => none⟩ G' H' (vs.map some) (as.map fun _ => .no) → E (.ref CB) none H'
/-- an __init__ that refuses -/
def spInitX (K : PySem.W.Frag) (C CB : Addr) (R : List Dat → Prop) : Sp := fun vs H _ E => ∃ (G H0 : Hp) (x dx : Addr) (vs' : List V) (es : List Dat), R es ∧ vs = .ref x :: vs' ∧ Same G H0 ∧ H0 x = none ∧ H0 dx = none ∧ dx ≠ x ∧
  H = upd (upd H0 dx (.own x)) x (.ins C dx []) ∧ RpAll K G vs' es ∧ ∀ (G' H' : Hp), Ct K ⟨G, H0, [], fun _ => none⟩ G' H' [] [] → E (.ref CB) none H'
/-- a statement raises CB, E being what the def's caller wishes -/
def ExR (K : PySem.W.Frag) (CB : Addr) (E : XK) (t : TS) (ρ : List Sl) : Prop := ∀ (Z : Zs) (G H : Hp) (σ : L2.St), Ct K Z G H σ ρ → ∀ D : Ends, (∀ (σ' : L2.St) (G' H' : Hp), Same G G' → Ct K Z G' H' σ' (ρ.map fun _ => .no) → E (.ref CB) none H') → t D σ H
section
variable {K : PySem.W.Frag} {CB : Addr} {E : XK} {ρ ρ1 : List Sl} {t u : TS} {tt : TT}
theorem Ct.blank {Z : Zs} {G H : Hp} {σ : L2.St} (c : Ct K Z G H σ ρ) : Ct K Z G H σ (ρ.map fun _ => .no) := c.weak (by
  clear c
  induction ρ with
  | nil => exact .nil
  | cons s r ih => exact .no ih)
theorem exr_raise : ExR K CB E (fun _ _ H => E (.ref CB) none H) ρ := fun Z G H σ c D q => q σ G H (Same.refl G) c.blank
theorem exr_head (h : ExR K CB E t ρ) : ExR K CB E (tSeq t u) ρ := fun Z G H σ c D q => h Z G H σ c _ q
theorem exr_if (h : EvT K tt ρ true ρ) (k : ExR K CB E t ρ) : ExR K CB E (tIfS tt t u) ρ := fun Z G H σ c D q => h Z G H σ c _ fun G1 H1 s1 c1 => iteT (k Z G1 H1 σ c1 D fun σ' G2 H2 s2 => q σ' G2 H2 (s1.trans s2))
end
section
variable {K : PySem.W.Frag} {C CB : Addr} {Z : Zs} {G G' H H' : Hp} {σ : L2.St} {ρ ρ' ρ1 ρ2 : List Sl} {te ta tv : TE} {tt : TT} {t u : TS} {tg : TA} {d : Dat} {ds es : List Dat} {ag : List Ag}
theorem Ct.reslot (c : Ct K Z G H σ ρ) {σ' : L2.St} {n : Nat} (h : σ'.length = n) : Ct K Z G H σ' (List.replicate n .no) := by
  have k : ∀ {i : Nat} {s : Sl}, (List.replicate n Sl.no)[i]? = some s → s = .no := fun {i s} e => by
    have := List.mem_of_getElem? e
    rw [List.mem_replicate] at this
    exact this.2
  have kh : ∀ {i : Nat} {p : Addr}, ¬ Hd σ' (List.replicate n Sl.no) i p := fun {i p} a => by
    obtain ⟨_, s, e, o⟩ := a
    rw [k e] at o
    cases o
  exact ⟨by rw [h, List.length_replicate], c.gg, c.gh, c.hh, c.ge, c.fr, fun i s e m => (by rw [k e] at m; cases m), fun i j p a => (kh a).elim, c.kp, c.kg, fun i p a => (kh a).elim⟩
/-- how an __init__'s body begins -/
theorem init_start {N : List Str} {x dx : Addr} {H0 : Hp} {vs' : List V} {n : Nat} (gh : Same G H0) (hx : H0 x = none) (hdx : H0 dx = none) (ne : dx ≠ x) (ra : RpAll K G vs' es) (hn : es.length = n) :
    Ct K ⟨G, H0, [], fun _ => none⟩ G (upd (upd H0 dx (.own x)) x (.ins C dx [])) (L2.start N (.ref x :: vs')) ([.no] ++ es.map Sl.dat ++ List.replicate (N.length - (n + 1)) .no) := by
  have l : vs'.length = n := by rw [ra.length, hn]
  have c0 : Ct K ⟨G, H0, [], fun _ => none⟩ G H0 (vs'.map some) (es.map Sl.dat) := start_all gh ra
  have c1 : Ct K ⟨G, H0, [], fun _ => none⟩ G (upd (upd H0 dx (.own x)) x (.ins C dx [])) (vs'.map some) (es.map Sl.dat) := (c0.grow (o := .own x) hdx).grow (by rw [upd_ne ne.symm]; exact hx)
  have sl : ∀ {i : Nat} {s : Sl}, ([.no] ++ es.map Sl.dat ++ List.replicate (N.length - (n + 1)) Sl.no : List Sl)[i]? = some s → s.isNo = false → ∃ j d, i = j + 1 ∧ es[j]? = some d ∧ s = .dat d := fun {i s} e hs => by
    cases i with
    | zero =>
      have e : some Sl.no = some s := e
      cases e
      cases hs
    | succ j =>
      have e : (es.map Sl.dat ++ List.replicate (N.length - (n + 1)) Sl.no)[j]? = some s := e
      by_cases hj : j < es.length
      · rw [List.getElem?_append_left (by simpa using hj), List.getElem?_map, List.getElem?_eq_getElem hj] at e
        exact ⟨j, _, rfl, List.getElem?_eq_getElem hj, (Option.some.inj e).symm⟩
      · rw [List.getElem?_append_right (by simpa using hj)] at e
        have := List.mem_of_getElem? e
        rw [List.mem_replicate] at this
        rw [this.2] at hs
        cases hs
  have est : L2.start N (.ref x :: vs') = [some (.ref x)] ++ vs'.map some ++ List.replicate (N.length - (n + 1)) none := by
    show (V.ref x :: vs').map some ++ List.replicate (N.length - (V.ref x :: vs').length) none = _
    rw [List.length_cons, l]
    rfl
  have nohd : ∀ {i : Nat} {p : Addr}, ¬ Hd (L2.start N (.ref x :: vs')) ([.no] ++ es.map Sl.dat ++ List.replicate (N.length - (n + 1)) .no) i p := fun {i p} a => by
    obtain ⟨_, s, e, o⟩ := a
    obtain ⟨j, d, _, _, rfl⟩ := sl e (Sl.own_not_no o)
    cases o
  exact ⟨by rw [est]; simp [l, hn], c1.gg, c1.gh, c1.hh, c1.ge, c1.fr, fun i s e hs => by
      obtain ⟨j, d, rfl, hd, rfl⟩ := sl e hs
      obtain ⟨v, hv, rv⟩ := ra.get hd
      refine ⟨v, ?_, rv⟩
      rw [est]
      show (vs'.map some ++ List.replicate (N.length - (n + 1)) none)[j]? = _
      have hj : j < vs'.length := (List.getElem?_eq_some_iff.mp hv).1
      rw [List.getElem?_append_left (by simpa using hj), List.getElem?_map, hv]
      rfl, fun i j p a => (nohd a).elim, c1.kp, c1.kg, fun i p a => (nohd a).elim⟩
/-- an __init__'s body that refuses -/
theorem initX_ok {R : List Dat → Prop} {N : List Str} {vs : List V} {Q : VK} {E : XK} {n : Nat} (h : spInitX K C CB R vs H Q E) (hn : ∀ es, R es → es.length = n)
    (k : ∀ es, R es → ExR K CB E t ([.no] ++ es.map Sl.dat ++ List.replicate (N.length - (n + 1)) .no)) : t { nx := fun _ H' => Q .non H', rt := Q } (L2.start N vs) H := by
  obtain ⟨G, H0, x, dx, vs', es, r, rfl, gh, hx, hdx, ne, rfl, ra, q⟩ := h
  exact k es r _ G _ _ (init_start gh hx hdx ne ra (hn _ r)) _ fun σ' G' H' s c => q G' H' c.nil
theorem initX_len {R : List Dat → Prop} {n : Nat} (h : ∀ es, R es → es.length = n) : ∀ vs H Q E, spInitX K C CB R vs H Q E → vs.length = n + 1 := by
  rintro vs H Q E ⟨G, H0, x, dx, vs', es, r, rfl, _, _, _, _, _, ra, _⟩
  rw [List.length_cons, ra.length, h _ r]
/-- try: C(..) except X as e: suite, where C refuses -/
theorem ex_tryMake {R : List Dat → Prop} {cv : Value} {i n : Nat} {ts : Addr → Value → Option Addr → TS} {Wout : WX} (ha : EvA K tg ρ ag ρ1) (hd : agD ag = some es) (hR : R es) (hm : PySem.W.exmOne K (.ref CB) cv = some true) (hi : i < n)
    (suite : ∀ a, Ex K (ts a (.ref CB) none) ((List.replicate n .no).set i (.dat (.cls a))) (.rt d ρ2)) :
    Ex K (fun D σ H => tDrop (tMake C (spInitX K C CB R) [] (fun cls dd H => ∀ σ', σ'.length = n → wAs K cv i ts Wout D cls dd σ' H) tg) D σ H) ρ (.rt d ρ2) := fun Z G H σ c D q => by
  have ha := agD_map hd ▸ ha
  refine ha Z G H σ c _ fun vs G1 H1 s1 c1 r1 => ?_
  have r := rp_args r1
  intro x dx hx hdx ne
  rw [List.append_nil]
  refine ⟨G1, H1, x, dx, vs, es, hR, rfl, c1.gh, hx, hdx, ne, rfl, r, fun G2 H2 c2 => ?_⟩
  obtain ⟨s2, c3⟩ := c1.after0 (vs := []) c2
  intro σ' hσ
  refine ⟨true, hm, fun _ a _ => ?_, fun h => by cases h⟩
  have c4 := (c3.reslot hσ).setD (i := i) (v := .ref a) (d := .cls a) (by rw [List.getElem?_replicate, if_pos hi]; rfl) (.cls a)
  exact suite a Z G2 H2 _ c4 _ fun σ2 v G3 H3 s3 c5 r5 => q σ2 v G3 H3 ((s1.trans s2).trans s3) c5 r5
theorem ev_isE {D a : Addr} {i : Nat} {c : V} {cv : Value} {b : Bool} (h : ρ[i]? = some (.dat (.cls a))) (hc : ∀ u, RelV c u → u = cv) (hk : PySem.W.kitOne K (.ref D) cv = some b) : Ev K (tCB (rIsE K D a) (tCons (tVar i) (tCons (tC c) tNil))) ρ (.bl b) ρ := fun Z G H σ ct Q q => by
  obtain ⟨v, e, r⟩ := ct.dat h
  cases r
  exact ⟨_, e, c, cv, b, rfl, hc, hk, q _ G H (Same.refl G) ct (.bl b)⟩
theorem ev_isET {D a : Addr} {i : Nat} {As : List Addr} {b : Bool} (h : ρ[i]? = some (.dat (.cls a))) (hb : Ev K ta ρ (.tup (As.map Dat.cls)) ρ1) (hk : PySem.W.kitAny K (.ref D) (As.map Value.ref) = some b) : Ev K (tCB (rIsET K D a) (tCons (tVar i) (tCons ta tNil))) ρ (.bl b) ρ1 := fun Z G H σ ct Q q => by
  obtain ⟨v, e, r⟩ := ct.dat h
  cases r
  refine ⟨_, e, ?_⟩
  refine hb Z G H σ ct _ fun w G1 H1 s1 c1 r1 => ?_
  cases r1 with
  | tup hp ra =>
    have hv : ∀ (As : List Addr) (cs : List V), RpAll K G1 cs (As.map Dat.cls) → ∀ us, Vals cs us → us = As.map Value.ref := by
      intro As
      induction As with
      | nil => intro cs h us hu; cases h; cases hu; rfl
      | cons A As ih =>
        intro cs h us hu
        cases h with
        | cons h1 h2 =>
          cases h1
          cases hu with
          | cons u1 u2 =>
            cases u1
            rw [ih _ h2 _ u2]
            rfl
    exact ⟨_, _, _, b, rfl, c1.gh _ _ hp, hv As _ ra, hk, q _ G1 H1 s1 c1 (.bl b)⟩
theorem ev_cref {A : Addr} : Ev K (tC (.ref A)) ρ (.cls A) ρ := ev_c fun _ => .cls A
theorem ex_seqRt (h : Ex K t ρ (.rt d ρ1)) : Ex K (tSeq t u) ρ (.rt d ρ1) := fun Z G H σ c D q => h Z G H σ c { D with nx := u D } fun σ' v G' H' s c' r => q σ' v G' H' s c' r
end
/-! ### what is new since the def began -/
def Nw (B G : Hp) : Hp := fun b => match B b with
  | none => G b
  | some _ => none
section
variable {B G G' : Hp}
theorem nw_none {b : Addr} (h : B b = none) : Nw B G b = G b := by unfold Nw; rw [h]
theorem nw_some {b : Addr} {o : HO} (h : Nw B G b = some o) : B b = none ∧ G b = some o := by
  unfold Nw at h
  cases e : B b with
  | none => rw [e] at h; exact ⟨rfl, h⟩
  | some _ => rw [e] at h; cases h
theorem nw_sub : Same (Nw B G) G := fun b o e => (nw_some e).2
theorem nw_same (s : Same G G') : Same (Nw B G) (Nw B G') := fun b o e => by
  obtain ⟨h, k⟩ := nw_some e
  rw [nw_none h]
  exact s b o k
theorem nw_base {B' : Hp} (h : ∀ b, B b ≠ none → B' b ≠ none) : Same (Nw B' G) (Nw B G) := fun b o e => by
  obtain ⟨k, e⟩ := nw_some e
  have : B b = none := by
    cases q : B b with
    | none => rfl
    | some _ => exact absurd k (h b (by rw [q]; intro z; cases z))
  rw [nw_none this]
  exact e
end
def Atom : Dat → Bool
  | .non => true | .bl _ => true | .int _ => true | .str _ => true | .ty _ => true | .cls _ => true
  | _ => false
section
variable (K : PySem.W.Frag)
def EvN (te : TE) (ρ : List Sl) (d : Dat) (ρ' : List Sl) : Prop := ∀ (Z : Zs) (G H : Hp) (σ : L2.St), Ct K Z G H σ ρ → ∀ Q : VK, (∀ (v : V) (G' H' : Hp), Same G G' → Ct K Z G' H' σ ρ' → Rp K (Nw Z.H0 G') v d → Q v H') → te σ H Q
def EvFN (te : TE) (ρ : List Sl) (ds : List Dat) (ρ' : List Sl) : Prop := ∀ (Z : Zs) (G H : Hp) (σ : L2.St), Ct K Z G H σ ρ → ∀ Q : VK,
  (∀ (p : Addr) (xs : List V) (G' H' : Hp), Same G G' → Ct K Z G' H' σ ρ' → G' p = none → H' p = some (.lst xs) → RpAll K (Nw Z.H0 G') xs ds → Z.H0 p = none ∧ Z.Kp p = none → (∀ i, ¬ Hd σ ρ' i p) → Q (.ref p) H') → te σ H Q
def EvAN (ta : TA) (ρ : List Sl) (ds : List Dat) (ρ' : List Sl) : Prop := ∀ (Z : Zs) (G H : Hp) (σ : L2.St), Ct K Z G H σ ρ → ∀ Q : List V → Hp → Prop, (∀ (vs : List V) (G' H' : Hp), Same G G' → Ct K Z G' H' σ ρ' → RpAll K (Nw Z.H0 G') vs ds → Q vs H') → ta σ H Q
def ExIN (C : Addr) (t : TS) (ρ : List Sl) (ns : List Str) (ds : List Dat) (ρ' : List Sl) (ns' : List Str) (ds' : List Dat) : Prop :=
  ∀ (Z : Zs) (G H : Hp) (σ : L2.St) (x dx : Addr) (fs : List (Str × V)), Ct K Z G H σ ρ → σ[0]? = some (some (.ref x)) → H x = some (.ins C dx fs) → G x = none → Z.H0 x = none → Z.Kp x = none → (∀ i, ¬ Hd σ ρ i x) → fs.map (·.1) = ns → RpAll K (Nw Z.H0 G) (fs.map (·.2)) ds →
    ∀ D : Ends, (∀ (σ' : L2.St) (G' H' : Hp) (fs' : List (Str × V)), Same G G' → Ct K Z G' H' σ' ρ' → σ'[0]? = some (some (.ref x)) → H' x = some (.ins C dx fs') → G' x = none → (∀ i, ¬ Hd σ' ρ' i x) → fs'.map (·.1) = ns' → RpAll K (Nw Z.H0 G') (fs'.map (·.2)) ds' → D.nx σ' H') → t D σ H
/-- a def's promise: what it hands back is new -/
def spN (R : List Dat → Dat → Prop) : Sp := fun vs H Q _ => ∃ (G : Hp) (as : List Dat) (d : Dat), R as d ∧ Same G H ∧ RpAll K G vs as ∧
  ∀ (v : V) (G' H' : Hp), Ct K ⟨G, H, [], fun _ => none⟩ G' H' (vs.map some) (List.replicate vs.length .no) → Rp K (Nw H G') v d → Q v H'
def spInitN (C : Addr) (R : List Dat → List Str → List Dat → Prop) : Sp := fun vs H Q _ => ∃ (G H0 : Hp) (x dx : Addr) (vs' : List V) (es : List Dat) (ns : List Str) (ds : List Dat), R es ns ds ∧ vs = .ref x :: vs' ∧ Same G H0 ∧ H0 x = none ∧ H0 dx = none ∧ dx ≠ x ∧
  H = upd (upd H0 dx (.own x)) x (.ins C dx []) ∧ RpAll K G vs' es ∧ ∀ (v : V) (G' H' : Hp), v = .non → Ct K ⟨G, H0, [], fun _ => none⟩ G' H' [] [] → Rp K (Nw H0 G') (.ref x) (.ins C ns ds) → Q v H'
end
section
variable {K : PySem.W.Frag} {C : Addr} {Z : Zs} {G G' H H' : Hp} {σ : L2.St} {ρ ρ' ρ1 ρ2 : List Sl} {te ta tb tv : TE} {tt : TT} {t u : TS} {tg : TA} {d : Dat} {ds ds1 ds2 es bs : List Dat} {ns ns1 ns2 : List Str} {f m : Str} {ag : List Ag}
theorem rp_atom {v : V} (h : Atom d = true) (r : Rp K G v d) : Rp K G' v d := by
  cases r <;> first | (constructor; done) | cases h
theorem rpAll_atoms : ∀ {vs : List V} {ds : List Dat}, ds.all Atom = true → RpAll K G vs ds → RpAll K G' vs ds
  | _, [], _, h => by cases h; exact .nil
  | _, d :: ds, a, h => by
    rw [List.all_cons, Bool.and_eq_true] at a
    cases h with | cons h1 h2 => exact .cons (rp_atom a.1 h1) (rpAll_atoms a.2 h2)
theorem EvN.to {d' : Dat} (h : EvN K te ρ d ρ') (e : d = d') : EvN K te ρ d' ρ' := e ▸ h
theorem evn_atom (h : Ev K te ρ d ρ') (a : Atom d = true) : EvN K te ρ d ρ' := fun Z G H σ c Q q => h Z G H σ c _ fun v G1 H1 s1 c1 r1 => q v G1 H1 s1 c1 (rp_atom a r1)
theorem ev_of_evn (h : EvN K te ρ d ρ') : Ev K te ρ d ρ' := fun Z G H σ c Q q => h Z G H σ c _ fun v G1 H1 s1 c1 r1 => q v G1 H1 s1 c1 (r1.to nw_sub)
theorem efn_atoms (h : EvF K te ρ ds ρ') (a : ds.all Atom = true) : EvFN K te ρ ds ρ' := fun Z G H σ c Q q => h Z G H σ c _ fun p xs G1 H1 s1 c1 g1 h1 r1 z no => q p xs G1 H1 s1 c1 g1 h1 (rpAll_atoms a r1) z no
theorem evn_of_fresh (h : EvFN K te ρ ds ρ') : EvN K te ρ (.lst ds) ρ' := fun Z G H σ c Q q => by
  refine h Z G H σ c _ fun p xs G1 H1 s1 c1 g1 h1 r1 z no => ?_
  obtain ⟨c2, s2⟩ := c1.adopt h1 z.1 z.2 no g1
  exact q _ _ _ (s1.trans s2) c2 (.lst (by rw [nw_none z.1]; exact upd_same) (r1.to (nw_same s2)))
theorem ean_nil : EvAN K tNil ρ [] ρ := fun _ G H _ c Q q => q [] G H (Same.refl G) c .nil
theorem ean_cons {t : TA} (ha : EvN K te ρ d ρ1) (hb : EvAN K t ρ1 ds ρ2) : EvAN K (tCons te t) ρ (d :: ds) ρ2 := fun Z G H σ c Q q => by
  refine ha Z G H σ c _ fun v G1 H1 s1 c1 r1 => ?_
  refine hb Z G1 H1 σ c1 _ fun vs G2 H2 s2 c2 r2 => ?_
  exact q _ G2 H2 (s1.trans s2) c2 (.cons (r1.to (nw_same s2)) r2)
theorem efn_lst {t : TA} (h : EvAN K t ρ ds ρ1) (hl : ds.length ≤ 100000) : EvFN K (tLst t) ρ ds ρ1 := fun Z G H σ c Q q => by
  refine h Z G H σ c _ fun vs G1 H1 s1 c1 r1 => ?_
  refine ⟨by rw [r1.length]; exact sz_ok hl, fun p hp => ?_⟩
  obtain ⟨a, b, z, no⟩ := fresh_of c1 (xs := vs) hp
  exact q p vs G1 _ s1 a b upd_same r1 z no
theorem efn_cat (ha : EvN K ta ρ (.lst ds) ρ1) (hb : EvN K tb ρ1 (.lst es) ρ2) (hl : ds.length + es.length ≤ 100000) : EvFN K (tOp rCat ta tb) ρ (ds ++ es) ρ2 := fun Z G H σ c Q q => by
  refine ha Z G H σ c _ fun x G1 H1 s1 c1 r1 => ?_
  refine hb Z G1 H1 σ c1 _ fun y G2 H2 s2 c2 r2 => ?_
  have r1 := r1.to (nw_same s2)
  cases r1 with
  | @lst p xs _ hp rx =>
    cases r2 with
    | @lst p' ys _ hp' ry =>
      refine ⟨p, p', xs, ys, rfl, rfl, c2.gh _ _ (nw_sub _ _ hp), c2.gh _ _ (nw_sub _ _ hp'), by rw [rx.length, ry.length]; exact sz_ok hl, fun n hn => ?_⟩
      obtain ⟨a, b, z, no⟩ := fresh_of c2 (xs := xs ++ ys) hn
      exact q n _ G2 _ (s1.trans s2) a b upd_same (rx.app ry) z no
theorem efn_lc {wi : TI} {x : Nat} (ρs : Nat → List Sl) (keep : Nat → Bool) (f : Nat → Dat) (h : Src K wi ρ ds (ρs 0)) (hx : ∀ i, (ρs i)[x]?.isSome = true) (hl : ds.length < 100000)
    (body : ∀ i d, ds[i]? = some d → ∃ ρa, EvT K tt ((wipeS (ρs i) [x]).set x (.dat d)) (keep i) ρa ∧ (keep i = true → ∃ ρb, EvN K te ρa (f i) ρb ∧ wipeS ρb [x] = wipeS (ρs (i + 1)) [x]) ∧ (keep i = false → wipeS ρa [x] = wipeS (ρs (i + 1)) [x])) :
    EvFN K (tLc wi (gName x) tt te [x]) ρ (lcOut keep f ds.length) (wipeS (ρs ds.length) [x]) := fun Z G H σ c Q q => by
  refine h Z G H σ c _ fun J G1 H1 s1 c1 wk D hD => ?_
  obtain ⟨c2, gD, ⟨z0, zk⟩, noD⟩ := fresh_of c1 (xs := []) hD
  refine ⟨fun i m H' => m = ds.length - i ∧ i ≤ ds.length ∧ ∃ G' acc, Same G1 G' ∧ Ct K Z G' H' (wipe σ [x]) (wipeS (ρs i) [x]) ∧ H' D = some (.lst acc) ∧ G' D = none ∧ RpAll K (Nw Z.H0 G') acc (lcOut keep f i) ∧ ∀ j, ¬ Hd (wipe σ [x]) (wipeS (ρs i) [x]) j D,
    ⟨ds.length, by simp, Nat.zero_le _, G1, [], Same.refl G1, c2.wipe [x], upd_same, gD, .nil, fun j a => noD j (hd_wipe a)⟩, ?_⟩
  rintro i m H' ⟨rfl, hi, G', acc, s', c', hacc, gD', rx, no'⟩
  by_cases hlt : i < ds.length
  · have ca := c'.aside hacc gD' no'
    obtain ⟨w1, w2⟩ := wk i G' H' _ _ _ s' ca
    obtain ⟨go, yl⟩ := w2 ds[i] (List.getElem?_eq_getElem hlt)
    refine .inr ⟨go, fun H'' => ∃ G'' acc', Same G1 G'' ∧ Ct K Z G'' H'' (wipe σ [x]) (wipeS (ρs (i + 1)) [x]) ∧ H'' D = some (.lst acc') ∧ G'' D = none ∧ RpAll K (Nw Z.H0 G'') acc' (lcOut keep f (i + 1)) ∧ ∀ j, ¬ Hd (wipe σ [x]) (wipeS (ρs (i + 1)) [x]) j D,
      fun H'' k => ⟨ds.length - (i + 1), by omega, rfl, hlt, k⟩, fun y H'' hy => ?_⟩
    obtain ⟨Gy, sy, cy, ry⟩ := yl y H'' hy
    have hx' : (wipeS (ρs i) [x])[x]?.isSome = true := isSome_set (hx i)
    have cb := cy.setD (i := x) hx' ry
    refine ⟨wipe_back, ?_⟩
    obtain ⟨ρa, ht, hy1, hy0⟩ := body i _ (List.getElem?_eq_getElem hlt)
    refine ht _ Gy _ _ cb _ fun G3 H3 s3 c3 => ?_
    cases hk : keep i with
    | false =>
      refine iteF ?_
      obtain ⟨c4, h4, g4, n4⟩ := c3.unaside zk
      have c5 := c4.wipe [x]
      rw [wipe_back, hy0 hk] at c5
      refine ⟨G3, acc, s'.trans (sy.trans s3), c5, h4, g4, ?_, fun j a => n4 j ?_⟩
      · rw [lcOut_succ, hk]
        rw [if_neg Bool.false_ne_true, List.append_nil]
        exact rx.to (nw_same (sy.trans s3))
      · rw [← wipe_back (σ := σ) (x := x) (y := y), ← hy0 hk] at a
        exact hd_wipe a
    | true =>
      refine iteT ?_
      obtain ⟨ρb, he, ew⟩ := hy1 hk
      refine he _ G3 H3 _ c3 _ fun w G4 H4 s4 c4 r4 => ?_
      obtain ⟨c5, h5, g5, n5⟩ := c4.unaside zk
      refine ⟨acc, h5, by
        rw [rx.length]
        exact Nat.lt_of_le_of_lt (lcOut_len keep f i) (Nat.lt_of_lt_of_le (Nat.lt_trans hlt hl) (by decide)), ?_⟩
      have c6 := (c5.asideSet (o' := .lst (acc ++ [w])) h5 g5 n5 z0 zk).wipe [x]
      rw [wipe_back, ew] at c6
      refine ⟨G4, acc ++ [w], s'.trans (sy.trans (s3.trans s4)), c6, upd_same, g5, ?_, fun j a => n5 j ?_⟩
      · rw [lcOut_succ, hk, if_pos rfl]
        exact (rx.to (nw_same (sy.trans (s3.trans s4)))).app (.cons r4 .nil)
      · rw [← wipe_back (σ := σ) (x := x) (y := y), ← ew] at a
        exact hd_wipe a
  · have e : i = ds.length := by omega
    subst e
    have ca := c'.aside hacc gD' no'
    obtain ⟨w1, _⟩ := wk _ G' H' _ _ _ s' ca
    exact .inl ⟨w1 rfl, q D acc G' H' (s1.trans s') c'.unwipe gD' hacc rx ⟨z0, zk⟩ fun j a => no' j (hd_unwipe a)⟩
theorem efn_lcMap {wi : TI} {x : Nat} (g : Dat → Dat) (h : Src K wi ρ ds ρ1) (hx : ρ1[x]?.isSome = true) (hl : ds.length < 100000)
    (body : ∀ d, d ∈ ds → EvN K te ((wipeS ρ1 [x]).set x (.dat d)) (g d) ((wipeS ρ1 [x]).set x (.dat d))) : EvFN K (tLc wi (gName x) tYes te [x]) ρ (ds.map g) (wipeS ρ1 [x]) := by
  have e := efn_lc (tt := tYes) (te := te) (x := x) (fun _ => ρ1) (fun _ => true) (fun i => g (ds.getD i .non)) h (fun _ => hx) hl (fun i d hd => ⟨_, et_yes, fun _ => ⟨_, (body d (List.mem_of_getElem? hd)).to (by rw [List.getD_eq_getElem?_getD, hd]; rfl), by
    show (((ρ1.set x .no).set x (.dat d)).set x .no) = ρ1.set x .no
    rw [List.set_set, List.set_set]⟩, fun q => by cases q⟩)
  rwa [lcOut_all _ g (fun i d hd => by rw [List.getD_eq_getElem?_getD, hd]; rfl)] at e
theorem exin_seq (h : ExIN K C t ρ ns ds ρ1 ns1 ds1) (k : ExIN K C u ρ1 ns1 ds1 ρ2 ns2 ds2) : ExIN K C (tSeq t u) ρ ns ds ρ2 ns2 ds2 := fun Z G H σ x dx fs c e0 hx gx z zk no hn hr D q => by
  refine h Z G H σ x dx fs c e0 hx gx z zk no hn hr { D with nx := u D } fun σ1 G1 H1 fs1 s1 c1 e1 hx1 gx1 no1 hn1 hr1 => ?_
  exact k Z G1 H1 σ1 x dx fs1 c1 e1 hx1 gx1 z zk no1 hn1 hr1 D fun σ2 G2 H2 fs2 s2 => q σ2 G2 H2 fs2 (s1.trans s2)
theorem exin_fld (hv : EvN K tv ρ d ρ1) (hc : Cls K C) (hn : NoAttr K C f) (hf : f ∉ ns) (hl : ns.length < 1000) : ExIN K C (sFld K (tVar 0) tv f) ρ ns ds ρ1 (ns ++ [f]) (ds ++ [d]) := fun Z G H σ x dx fs c e0 hx gx z zk no hn' hr D q => by
  have ca := c.aside hx gx no
  refine hv _ G H σ ca _ fun y G1 H1 s1 c1 r1 => ?_
  obtain ⟨c2, h2, g2, no2⟩ := c1.unaside zk
  refine ⟨.ref x, e0, x, C, dx, fs, rfl, h2, hc, hn, by rw [← hn'] at hl; simpa using hl, ?_⟩
  refine q σ G1 _ (fs ++ [(f, y)]) s1 (c2.asideSet h2 g2 no2 z zk) e0 ?_ g2 no2 ?_ ?_
  · rw [upd_same, putF_new (by rw [hn']; exact hf)]
  · rw [List.map_append, hn']
    rfl
  · rw [List.map_append]
    exact (hr.to (nw_same s1)).app (.cons r1 .nil)
theorem exin_no {t1 : TS} (h : EvT K tt ρ false ρ1) (k : ExIN K C u ρ1 ns ds ρ2 ns2 ds2) : ExIN K C (tSeq (tIfS tt t1 tNext) u) ρ ns ds ρ2 ns2 ds2 := fun Z G H σ x dx fs c e0 hx gx z zk no hn hr D q => by
  have ca := c.aside hx gx no
  refine h _ G H σ ca _ fun G1 H1 s1 c1 => ?_
  obtain ⟨c2, h2, g2, no2⟩ := c1.unaside zk
  refine iteF ?_
  exact k Z G1 H1 σ x dx fs c2 e0 h2 g2 z zk no2 hn (hr.to (nw_same s1)) D fun σ2 G2 H2 fs2 s2 => q σ2 G2 H2 fs2 (s1.trans s2)

theorem nw_at {B : Hp} {p : Addr} {o : HO} (h : B p = none) : Nw B (upd G p o) p = some o := by rw [nw_none h]; exact upd_same
theorem initN_len {R : List Dat → List Str → List Dat → Prop} {n : Nat} (h : ∀ es ns ds, R es ns ds → es.length = n) : ∀ vs H Q E, spInitN K C R vs H Q E → vs.length = n + 1 := by
  rintro vs H Q E ⟨G, H0, x, dx, vs', es, ns, ds, r, rfl, _, _, _, _, _, ra, _⟩
  rw [List.length_cons, ra.length, h _ _ _ r]
theorem initN_ok {R : List Dat → List Str → List Dat → Prop} {N : List Str} {vs : List V} {Q : VK} {E : XK} {n : Nat} (h : spInitN K C R vs H Q E) (hn : ∀ es ns ds, R es ns ds → es.length = n)
    (k : ∀ es ns ds, R es ns ds → ∃ ρ', ExIN K C t ([.no] ++ es.map Sl.dat ++ List.replicate (N.length - (n + 1)) .no) [] [] ρ' ns ds) : t { nx := fun _ H' => Q .non H', rt := Q } (start N vs) H := by
  obtain ⟨G, H0, x, dx, vs', es, ns, ds, r, rfl, gh, hx, hdx, ne, rfl, ra, q⟩ := h
  obtain ⟨ρ', ex⟩ := k es ns ds r
  have c2 := init_start (C := C) (N := N) gh hx hdx ne ra (hn _ _ _ r)
  have gx : G x = none := by
    cases e : G x with
    | none => rfl
    | some o => rw [gh _ _ e] at hx; cases hx
  have nohd : ∀ {i : Nat} {p : Addr}, ¬ Hd (L2.start N (.ref x :: vs')) ([.no] ++ es.map Sl.dat ++ List.replicate (N.length - (n + 1)) .no) i p := fun {i p} a => by
    obtain ⟨_, s, e, o⟩ := a
    have := List.mem_of_getElem? e
    rw [List.mem_append, List.mem_append, List.mem_singleton, List.mem_replicate, List.mem_map] at this
    rcases this with (rfl | ⟨d, _, rfl⟩) | ⟨_, rfl⟩ <;> cases o
  refine ex _ G _ _ x dx [] c2 (by rfl) upd_same gx hx rfl (fun i a => nohd a) rfl .nil _ fun σ' G' H' fs' s' c' e' hx' gx' no' hn' hr' => ?_
  obtain ⟨c3, s3⟩ := c'.adopt hx' hx rfl no' gx'
  exact q .non _ H' rfl c3.nil (.ins (nw_at hx) hn' (hr'.to (nw_same s3)))
theorem evn_make {R : List Dat → List Str → List Dat → Prop} {E : XK} (ha : EvA K tg ρ ag ρ1) (hd : agD ag = some es) (hR : R es ns ds) : EvN K (tMake C (spInitN K C R) [] E tg) ρ (.ins C ns ds) ρ1 := fun Z G H σ c Q q => by
  have ha := agD_map hd ▸ ha
  refine ha Z G H σ c _ fun vs G1 H1 s1 c1 r1 => ?_
  have r := rp_args r1
  intro x dx hx hdx ne
  rw [List.append_nil]
  refine ⟨G1, H1, x, dx, vs, es, ns, ds, hR, rfl, c1.gh, hx, hdx, ne, rfl, r, fun v G2 H2 ev c2 r2 => ⟨ev, ?_⟩⟩
  obtain ⟨s2, c3⟩ := c1.after0 (vs := []) c2
  exact q _ G2 H2 (s1.trans s2) c3 (r2.to (nw_base c1.ge))
theorem evn_meth {R : List Dat → Dat → Prop} {E : XK} (ha : Ev K ta ρ (.ins C ns ds) ρ1) (hb : EvA K tg ρ1 ag ρ2) (hd : agD ag = some es) (hm : m ∉ ns) (hR : R (.ins C ns ds :: es) d) : EvN K (tMeth C m (spN K R) [] E ta tg) ρ d ρ2 := fun Z G H σ c Q q => by
  have hb := agD_map hd ▸ hb
  refine ha Z G H σ c _ fun v G1 H1 s1 c1 r1 => ?_
  have r1' := r1
  cases r1 with
  | @ins a _ dx fs _ _ e n r =>
    refine ⟨a, dx, fs, rfl, c1.gh _ _ e, look_none (by rw [n]; exact hm), ?_⟩
    refine hb Z G1 H1 σ c1 _ fun vs G2 H2 s2 c2 r2 => ?_
    rw [List.append_nil]
    have ra : RpAll K G2 (.ref a :: vs) (.ins C ns ds :: es) := .cons (r1'.to s2) (rp_args r2)
    refine ⟨G2, _, d, hR, c2.gh, ra, fun v G3 H3 c3 r3 => ?_⟩
    obtain ⟨s3, c4⟩ := c2.after0 c3
    exact q v G3 H3 ((s1.trans s2).trans s3) c4 (r3.to (nw_base c2.ge))
theorem spN_len {R : List Dat → Dat → Prop} {n : Nat} (h : ∀ as d, R as d → as.length = n) : ∀ vs H Q E, spN K R vs H Q E → vs.length = n := by
  rintro vs H Q E ⟨G, as, d, r, _, ra, _⟩
  rw [ra.length, h _ _ r]
theorem bodyN_ok {R : List Dat → Dat → Prop} {N : List Str} {vs : List V} {Q : VK} {E : XK} {n : Nat} (h : spN K R vs H Q E) (hn : ∀ as d, R as d → as.length = n)
    (k : ∀ as d, R as d → ∃ ρ1, EvN K te (as.map Sl.dat ++ List.replicate (N.length - n) .no) d ρ1) : tRet te { nx := fun _ H' => Q .non H', rt := Q } (start N vs) H := by
  obtain ⟨G, as, d, r, gh, ra, q⟩ := h
  obtain ⟨ρ1, ev⟩ := k as d r
  have c := start_all gh ra
  have e : start N vs = vs.map some ++ List.replicate (N.length - n) none := by
    show vs.map some ++ List.replicate (N.length - vs.length) none = _
    rw [ra.length, hn _ _ r]
  exact ev _ G H _ (start_ct c e) _ fun v G' H' s c' rv => q v G' H' (c'.reslot (by rw [List.length_map])) rv
end
/-! ### step by step over the heap itself: for lists in lists that are changed -/
inductive SlAll (K : PySem.W.Frag) (G : Hp) : L2.St → List Sl → Prop
  | nil : SlAll K G [] []
  | no {o : Option V} {σ : L2.St} {ρ : List Sl} : SlAll K G σ ρ → SlAll K G (o :: σ) (.no :: ρ)
  | dat {v : V} {d : Dat} {σ : L2.St} {ρ : List Sl} : Rp K G v d → SlAll K G σ ρ → SlAll K G (some v :: σ) (.dat d :: ρ)
section
variable {K : PySem.W.Frag} {Z : Zs} {G G' H H' X : Hp} {σ σ' : L2.St} {ρ ρ' : List Sl} {te ta : TE} {tt : TT} {t u : TS} {d : Dat} {D : Ends} {i : Nat} {p a : Addr} {v : V} {b : Bool} {o : Out}
theorem SlAll.len (h : SlAll K G σ ρ) : σ.length = ρ.length := by
  induction h with
  | nil => rfl
  | no _ ih => exact congrArg (· + 1) ih
  | dat _ _ ih => exact congrArg (· + 1) ih
theorem SlAll.get (h : SlAll K G σ ρ) : ∀ (i : Nat) (s : Sl), ρ[i]? = some s → s.isNo = false → ∃ v d, s = .dat d ∧ σ[i]? = some (some v) ∧ Rp K G v d := by
  induction h with
  | nil => intro i s e; simp at e
  | no _ ih =>
    intro i s e n
    cases i with
    | zero =>
      have e : some Sl.no = some s := e
      cases e
      cases n
    | succ i => exact ih i s e n
  | @dat v d σ ρ r _ ih =>
    intro i s e n
    cases i with
    | zero =>
      have e : some (Sl.dat d) = some s := e
      cases e
      exact ⟨v, d, rfl, rfl, r⟩
    | succ i => exact ih i s e n
theorem ct_here (gh : Same G H) (h : SlAll K G σ ρ) : Ct K ⟨G, H, [], fun _ => none⟩ G H σ ρ := by
  have nohd : ∀ {i : Nat} {p : Addr}, ¬ Hd σ ρ i p := fun {i p} a => by
    obtain ⟨_, s, e, o⟩ := a
    obtain ⟨_, _, rfl, _⟩ := h.get i s e (Sl.own_not_no o)
    cases o
  exact ⟨h.len, Same.refl G, gh, fun _ _ e _ => e, fun _ n => n, fun _ _ n => n, fun i s e n => by
    obtain ⟨v, d, rfl, e2, r⟩ := h.get i s e n
    exact ⟨v, e2, r⟩, fun i j p a => (nohd a).elim, fun _ _ e => (by cases e), fun _ n => absurd rfl n, fun _ _ _ => rfl⟩
theorem Ct.fin (c : Ct K Z G H σ ρ) (s : Same H H') {n : Nat} (hσ : σ'.length = n) : Ct K Z G H' σ' (List.replicate n .no) := by
  have k : ∀ {i : Nat} {s : Sl}, (List.replicate n Sl.no)[i]? = some s → s = .no := fun {i s} e => by
    have := List.mem_of_getElem? e
    rw [List.mem_replicate] at this
    exact this.2
  have kh : ∀ {i : Nat} {p : Addr}, ¬ Hd σ' (List.replicate n Sl.no) i p := fun {i p} a => by
    obtain ⟨_, s, e, o⟩ := a
    rw [k e] at o
    cases o
  refine ⟨by rw [hσ, List.length_replicate], c.gg, fun b o e => s b o (c.gh b o e), fun b o e n => s b o (c.hh b o e n), fun b n => ?_, c.fr, fun i s e m => (by rw [k e] at m; cases m), fun i j p a => (kh a).elim, fun b o e => s b o (c.kp b o e), c.kg, fun i p a => (kh a).elim⟩
  have := c.ge b n
  cases q : H b with
  | none => exact absurd q this
  | some o =>
    rw [s b o q]
    intro z
    cases z
theorem raw_setN (h : EvN K te ρ d ρ') (sl : SlAll K H σ ρ) (k : ∀ (v : V) (X H' : Hp), Same H H' → Same X H' → (∀ b o, X b = some o → H b = none) → Rp K X v d → u D (σ.set i (some v)) H') : tSeq (tAsg te (gName i)) u D σ H :=
  h _ H H σ (ct_here (Same.refl H) sl) _ fun v G1 H1 _ c1 r1 => k v _ H1 (fun b o e => c1.hh b o e (by simp)) (nw_sub.trans c1.gh) (fun b o e => (nw_some e).1) r1
theorem raw_set (h : Ev K te ρ d ρ') (sl : SlAll K H σ ρ) (k : ∀ (v : V) (H' : Hp), Same H H' → Rp K H' v d → u D (σ.set i (some v)) H') : tSeq (tAsg te (gName i)) u D σ H :=
  h _ H H σ (ct_here (Same.refl H) sl) _ fun v G1 H1 _ c1 r1 => k v H1 (fun b o e => c1.hh b o e (by simp)) (r1.to c1.gh)
theorem raw_ifF (h : EvT K tt ρ false ρ') (sl : SlAll K H σ ρ) (k : ∀ (H' : Hp), Same H H' → u D σ H') : tSeq (tIfS tt t tNext) u D σ H :=
  h _ H H σ (ct_here (Same.refl H) sl) _ fun G1 H1 _ c1 => iteF (k H1 (fun b o e => c1.hh b o e (by simp)))
/-- the expression is the object at p, and nothing happens -/
def At (te : TE) (σ : L2.St) (H : Hp) (p : Addr) : Prop := ∀ Q : VK, Q (.ref p) H → te σ H Q
theorem at_var (e : σ[i]? = some (some (.ref p))) : At (tVar i) σ H p := fun Q q => ⟨_, e, q⟩
theorem at_ix {ps : List V} {j : Int} (h : At te σ H a) (ha : H a = some (.lst ps)) (hj : L2.atI ps j = some (.ref p)) : At (tOp (rIxL K) te (tC (.int j))) σ H p := fun Q q => h _ ⟨a, ps, j, _, rfl, rfl, .inl (.inl ha), hj, q⟩
theorem raw_app1 {xs : List V} (h : At te σ H p) (hp : H p = some (.lst xs)) (hl : xs.length ≤ 100000) (q : D.nx σ (upd H p (.lst (xs ++ [v])))) : tDrop (tBM K "list" rAppend te (tCons (tC v) tNil)) D σ H :=
  h _ ⟨.inl ⟨rfl, xs, .inl (.inl hp)⟩, p, xs, v, rfl, rfl, hp, Nat.lt_of_le_of_lt hl (by decide), q⟩
theorem raw_app {xs : List V} (h : At te σ H p) (hp : H p = some (.lst xs)) (hl : xs.length ≤ 100000) (q : u D σ (upd H p (.lst (xs ++ [v])))) : tSeq (tDrop (tBM K "list" rAppend te (tCons (tC v) tNil))) u D σ H :=
  h _ ⟨.inl ⟨rfl, xs, .inl (.inl hp)⟩, p, xs, v, rfl, rfl, hp, Nat.lt_of_le_of_lt hl (by decide), q⟩
theorem raw_pop {xs : List V} (h : At te σ H p) (hp : H p = some (.lst xs)) (hl : 0 < xs.length) (q : u D σ (upd H p (.lst xs.dropLast))) : tSeq (tDrop (tBM0 K "list" rPop te)) u D σ H :=
  h _ ⟨.inl ⟨rfl, xs, .inl (.inl hp)⟩, p, xs, xs[xs.length - 1], rfl, rfl, hp, List.getElem?_eq_getElem (by omega), q⟩
theorem raw_ixset {xs : List V} {k : Int} {m : Nat} (h : At te σ H p) (hp : H p = some (.lst xs)) (hk : ixN xs.length k = some m) (q : u D σ (upd H p (.lst (xs.set m v)))) : tSeq (tAsg (tC v) (gSub te (tC (.int k)) rSetL)) u D σ H :=
  h _ ⟨p, xs, k, m, rfl, rfl, hp, hk, q⟩
theorem same_upd {o : HO} (s : Same H H') (n : H p = none) : Same H (upd H' p o) := fun b u e => by
  rw [upd_ne (show b ≠ p from fun q => by rw [q, n] at e; cases e)]
  exact s b u e
theorem raw_ex (h : Ex K t ρ (.rt d ρ')) (sl : SlAll K H σ ρ) (k : ∀ (σ' : L2.St) (v : V) (H' : Hp), Same H H' → σ'.length = ρ'.length → Rp K H' v d → D.rt v H') : t D σ H :=
  h _ H H σ (ct_here (Same.refl H) sl) D fun σ' v G1 H1 _ c1 r1 => k σ' v H1 (fun b o e => c1.hh b o e (by simp)) c1.len (r1.to c1.gh)
/-- for x in (a list of lists): x.append(v) -/
theorem raw_forApp {x : Nat} {ps : List V} {N : Nat} (e : σ[i]? = some (some (.ref a))) (hix : i ≠ x) (hx : x < σ.length) (ha : H a = some (.lst ps)) (hps : ∀ y ∈ ps, ∃ r ys, y = .ref r ∧ r ≠ a ∧ H r = some (.lst ys) ∧ ys.length ≤ N) (hl : N + ps.length ≤ 100000)
    (k : ∀ (σ' : L2.St) (H' : Hp), (∀ j, j ≠ x → σ'[j]? = σ[j]?) → σ'.length = σ.length → (∀ b, (∀ y ∈ ps, y ≠ .ref b) → H' b = H b) → H' a = some (.lst ps) → (∀ r ys, .ref r ∈ ps → H r = some (.lst ys) → ∃ n, n ≤ ps.length ∧ H' r = some (.lst (ys ++ List.replicate n v))) → u D σ' H') :
    tSeq (tFor (iList K (tVar i)) (gName x) (tDrop (tBM K "list" rAppend (tVar x) (tCons (tC v) tNil)))) u D σ H := by
  refine ⟨.ref a, e, a, rfl, ⟨ps, .inl (.inl ha)⟩, fun n m σ' H' => m = ps.length - n ∧ n ≤ ps.length ∧ (∀ j, j ≠ x → σ'[j]? = σ[j]?) ∧ σ'.length = σ.length ∧ (∀ b, (∀ y ∈ ps, y ≠ .ref b) → H' b = H b) ∧ H' a = some (.lst ps) ∧ ∀ r ys, .ref r ∈ ps → H r = some (.lst ys) → ∃ l, l ≤ n ∧ H' r = some (.lst (ys ++ List.replicate l v)),
    ⟨ps.length, by simp, Nat.zero_le _, fun _ _ => rfl, rfl, fun _ _ => rfl, ha, fun r ys _ h => ⟨0, Nat.le_refl _, by rw [h]; simp⟩⟩, ?_⟩
  rintro n m σ1 H1 ⟨rfl, hn, h1, h2, h3, h4, h5⟩
  by_cases hlt : n < ps.length
  · refine .inr ⟨⟨ps, ps[n], .inl (.inl h4), List.getElem?_eq_getElem hlt⟩, fun σ' H' => (∀ j, j ≠ x → σ'[j]? = σ[j]?) ∧ σ'.length = σ.length ∧ (∀ b, (∀ y ∈ ps, y ≠ .ref b) → H' b = H b) ∧ H' a = some (.lst ps) ∧ ∀ r ys, .ref r ∈ ps → H r = some (.lst ys) → ∃ l, l ≤ n + 1 ∧ H' r = some (.lst (ys ++ List.replicate l v)),
      fun σ' H' kk => ⟨ps.length - (n + 1), by omega, rfl, hlt, kk⟩, ?_⟩
    rintro y H2 ⟨rfl, hy⟩
    have ey := hy ps (.inl (.inl h4))
    rw [List.getElem?_eq_getElem hlt] at ey
    obtain rfl := Option.some.inj ey
    have hmem : ps[n] ∈ ps := List.getElem_mem hlt
    obtain ⟨r, ys, er, ra, hr, hlen⟩ := hps _ hmem
    obtain ⟨l, hl2, hr2⟩ := h5 r ys (er ▸ hmem) hr
    have hre : V.ref r ∈ ps := er ▸ hmem
    show tDrop (tBM K "list" rAppend (tVar x) (tCons (tC v) tNil)) _ (σ1.set x (some ps[n])) H2
    rw [er]
    have hat : At (tVar x) (σ1.set x (some (.ref r))) H2 r := at_var (List.getElem?_set_self (by rw [h2]; exact hx))
    refine raw_app1 hat hr2 ?_ ?_
    · rw [List.length_append, List.length_replicate]
      omega
    · refine ⟨fun j hj => by rw [List.getElem?_set_ne (Ne.symm hj)]; exact h1 j hj, by rw [List.length_set]; exact h2, fun b hb => ?_, ?_, fun r2 ys2 hm2 hr3 => ?_⟩
      · rw [upd_ne (show b ≠ r from fun q => hb _ hre (by rw [q]))]
        exact h3 b hb
      · rw [upd_ne ra.symm]
        exact h4
      · by_cases q : r2 = r
        · subst q
          rw [hr] at hr3
          cases hr3
          exact ⟨l + 1, by omega, by rw [upd_same, List.append_assoc, List.replicate_succ']⟩
        · obtain ⟨l2, a1, a2⟩ := h5 r2 ys2 hm2 hr3
          exact ⟨l2, by omega, by rw [upd_ne q]; exact a2⟩
  · exact .inl ⟨⟨ps, .inl (.inl h4), by omega⟩, k σ1 H1 h1 h2 h3 h4 fun r ys hm hr => by
      obtain ⟨l, h6, h7⟩ := h5 r ys hm hr
      exact ⟨l, by omega, h7⟩⟩
end
/-! ### more: a star in a display, zip, two names in a comprehension, a def that refuses within a try -/
section
variable {K : PySem.W.Frag} {C CB : Addr} {Z : Zs} {G G' H H' : Hp} {σ : L2.St} {ρ ρ' ρ1 ρ2 : List Sl} {te ta tb tv : TE} {tt : TT} {t u : TS} {tg : TA} {d : Dat} {ds es : List Dat} {ag as : List Ag}
theorem paired_app {G : Hp} : ∀ {xs : List V} {ds : List Dat} {ys : List V} {as : List Ag}, RpAll K G xs ds → Paired (AgAt K G σ) ys as → Paired (AgAt K G σ) (xs ++ ys) (ds.map Ag.d ++ as)
  | _, [], _, _, h, k => by cases h; exact k
  | _, d :: ds, _, _, h, k => by cases h with | cons a b => exact .cons a (paired_app b k)
theorem ea_star {a : Ag} (ha : EvL K te ρ a ρ1) (l : look ρ1 a = some ds) (hb : EvA K tg ρ1 as ρ2) : EvA K (StX.tStar K te tg) ρ (ds.map Ag.d ++ as) ρ2 := fun Z G H σ c Q q => by
  refine ha Z G H σ c _ fun x G1 H1 s1 c1 r1 => ?_
  obtain ⟨p, xs, rfl, hs, rx⟩ := c1.read r1 l
  refine ⟨p, xs, rfl, .inr hs, ?_⟩
  refine hb Z G1 H1 σ c1 _ fun ys G2 H2 s2 c2 r2 => ?_
  exact q _ G2 H2 (s1.trans s2) c2 (paired_app (rx.to s2) r2)
/-- isinstance(o, C), o an instance of C -/
theorem ev_isC {ns : List Str} (ha : Ev K ta ρ (.ins C ns ds) ρ1) (hc : Cls K C) (h1 : PySem.W.findIn K (.ref C) "__class__" = some (some (.builtin "object.__class__"))) (h2 : PySem.W.specialIn K (.builtin "object.__class__") "__get__" = some (some (.builtin "getset_descriptor.__get__")))
    (h3 : PySem.W.takesIn K (.builtin "object.__class__") = some true) (h4 : PySem.W.mroIn K C (.type "object") = some true) : Ev K (tCB (rIsi K) (tCons ta (tCons (tC (.ref C)) tNil))) ρ (.bl true) ρ1 := fun Z G H σ c Q q => by
  refine ha Z G H σ c _ fun v G1 H1 s1 c1 r1 => ?_
  cases r1 with
  | ins e n r =>
    refine ⟨_, .ref C, .ref C, .ref C, true, rfl, .own C, .base (.ins (c1.gh _ _ e) hc h1 h2 h3 h4), ?_, q _ _ _ s1 c1 (.bl true)⟩
    unfold PySem.W.kitOne
    rw [if_pos (by simp)]
def zipD (ds es : List Dat) : List Dat := List.zipWith (fun a b => .tup [a, b]) ds es
theorem src_zip (ha : Ev K ta ρ d ρ1) (hb : Ev K tb ρ1 d2 ρ2) (la : d.items = some ds) (lb : d2.items = some es) : Src K (iZip K (tCons ta (tCons tb tNil))) ρ (zipD ds es) ρ2 := fun Z G H σ c R q => by
  refine ha Z G H σ c _ fun v G1 H1 s1 c1 r1 => ?_
  refine hb Z G1 H1 σ c1 _ fun v2 G2 H2 s2 c2 r2 => ?_
  have r1 := r1.to s2
  obtain ⟨p, xs, rfl, hs, rx⟩ := c2.read (a := .d d) r1 la
  obtain ⟨p2, ys, rfl, hs2, ry⟩ := c2.read (a := .d d2) r2 lb
  refine ⟨p, p2, xs, ys, rfl, hs, hs2, q _ G2 H2 (s1.trans s2) c2 fun i Gx Hx σx ρx Zx s cx => ?_⟩
  obtain ⟨p', xs', e', hs', rx'⟩ := cx.read (a := .d d) (r1.to s) la
  obtain ⟨p2', ys', e2', hs2', ry'⟩ := cx.read (a := .d d2) (r2.to s) lb
  cases e'
  cases e2'
  refine ⟨fun e => ⟨xs', ys', hs', hs2', ?_⟩, fun d' hd => ?_⟩
  · rw [rx'.length, ry'.length]
    have e : i = min ds.length es.length := by rw [e]; exact List.length_zipWith
    omega
  · rw [zipD, List.getElem?_zipWith] at hd
    cases q1 : ds[i]? with
    | none => rw [q1] at hd; cases hd
    | some d1 =>
      cases q2 : es[i]? with
      | none => rw [q1, q2] at hd; cases hd
      | some e1 =>
        rw [q1, q2] at hd
        cases hd
        obtain ⟨x, hx, rd⟩ := rx'.get q1
        obtain ⟨y, hy, re⟩ := ry'.get q2
        refine ⟨⟨xs', ys', x, y, hs', hs2', hx, hy⟩, fun v Hy hv => ?_⟩
        obtain ⟨T, x2, y2, rfl, hT, rfl, h1, h2⟩ := hv
        have ex : x2 = x := Option.some.inj ((h1 xs' hs').symm.trans hx)
        have ey : y2 = y := Option.some.inj ((h2 ys' hs2').symm.trans hy)
        subst ex
        subst ey
        obtain ⟨c3, s3⟩ := cx.grown (o := .tup [x2, y2]) hT
        exact ⟨_, s3, c3, .tup upd_same (.cons (rd.to s3) (.cons (re.to s3) .nil))⟩
theorem wipe_back2 {x y : Nat} {a b : V} (h : x ≠ y) : L2.wipe (((L2.wipe σ [x, y]).set x (some a)).set y (some b)) [x, y] = L2.wipe σ [x, y] := by
  show ((((((σ.set y none).set x none).set x (some a)).set y (some b)).set y none).set x none) = (σ.set y none).set x none
  rw [List.set_set, List.set_set, List.set_comm _ _ h, List.set_set, List.set_set]
theorem wipeS_back2 {x y : Nat} {a b : Sl} (h : x ≠ y) : wipeS (((wipeS ρ [x, y]).set x a).set y b) [x, y] = wipeS ρ [x, y] := by
  show ((((((ρ.set y .no).set x .no).set x a).set y b).set y .no).set x .no) = (ρ.set y .no).set x .no
  rw [List.set_set, List.set_set, List.set_comm _ _ h, List.set_set, List.set_set]
/-- [e for x, y in ..] -/
theorem ef_lcMap2 {wi : TI} {x y : Nat} {pairs : List (Dat × Dat)} (g : Dat → Dat → Dat) (hxy : x ≠ y) (h : Src K wi ρ (pairs.map fun p => .tup [p.1, p.2]) ρ1) (hx : x < ρ1.length) (hy : y < ρ1.length) (hl : pairs.length < 100000)
    (body : ∀ p ∈ pairs, Ev K te (((wipeS ρ1 [x, y]).set x (.dat p.1)).set y (.dat p.2)) (g p.1 p.2) (((wipeS ρ1 [x, y]).set x (.dat p.1)).set y (.dat p.2))) :
    EvF K (tLc wi (gTup K 2 (gCons (gName x) (gCons (gName y) gNil))) tYes te [x, y]) ρ (pairs.map fun p => g p.1 p.2) (wipeS ρ1 [x, y]) := fun Z G H σ c Q q => by
  refine h Z G H σ c _ fun J G1 H1 s1 c1 wk D hD => ?_
  obtain ⟨c2, gD, ⟨z0, zk⟩, noD⟩ := fresh_of c1 (xs := []) hD
  have lw : (wipeS ρ1 [x, y]).length = ρ1.length := wipeS_len _ _
  refine ⟨fun i m H' => m = pairs.length - i ∧ i ≤ pairs.length ∧ ∃ G' acc, Same G1 G' ∧ Ct K Z G' H' (wipe σ [x, y]) (wipeS ρ1 [x, y]) ∧ H' D = some (.lst acc) ∧ G' D = none ∧ RpAll K G' acc ((pairs.take i).map fun p => g p.1 p.2) ∧ ∀ j, ¬ Hd (wipe σ [x, y]) (wipeS ρ1 [x, y]) j D,
    ⟨pairs.length, by simp, Nat.zero_le _, G1, [], Same.refl G1, c2.wipe [x, y], upd_same, gD, .nil, fun j a => noD j (hd_wipe a)⟩, ?_⟩
  rintro i m H' ⟨rfl, hi, G', acc, s', c', hacc, gD', rx, no'⟩
  by_cases hlt : i < pairs.length
  · have ca := c'.aside hacc gD' no'
    obtain ⟨w1, w2⟩ := wk i G' H' _ _ _ s' ca
    obtain ⟨go, yl⟩ := w2 (.tup [pairs[i].1, pairs[i].2]) (by rw [List.getElem?_map, List.getElem?_eq_getElem hlt]; rfl)
    refine .inr ⟨go, fun H'' => ∃ G'' acc', Same G1 G'' ∧ Ct K Z G'' H'' (wipe σ [x, y]) (wipeS ρ1 [x, y]) ∧ H'' D = some (.lst acc') ∧ G'' D = none ∧ RpAll K G'' acc' ((pairs.take (i + 1)).map fun p => g p.1 p.2) ∧ ∀ j, ¬ Hd (wipe σ [x, y]) (wipeS ρ1 [x, y]) j D,
      fun H'' k => ⟨pairs.length - (i + 1), by omega, rfl, hlt, k⟩, fun v H'' hy2 => ?_⟩
    obtain ⟨Gy, sy, cy, ry⟩ := yl v H'' hy2
    obtain ⟨a, xs, rfl, hs, hl2, r⟩ := rp_tup cy.gh ry
    cases r with
    | @cons v1 _ _ _ ra r =>
    cases r with
    | @cons v2 _ _ _ rb r =>
    cases r
    have cb := (cy.setD (i := x) (by rw [List.getElem?_eq_getElem (by rw [lw]; exact hx)]; rfl) ra).setD (i := y) (by rw [List.getElem?_eq_getElem (by rw [List.length_set, lw]; exact hy)]; rfl) rb
    refine ⟨a, _, rfl, hs, hl2, _, _, rfl, _, _, rfl, rfl, wipe_back2 hxy, ?_⟩
    refine et_yes _ Gy _ _ cb _ fun G3 H3 s3 c3 => ?_
    refine iteT ?_
    refine body _ (List.getElem_mem hlt) _ G3 _ _ c3 _ fun w G4 H4 s4 c4 r4 => ?_
    obtain ⟨c5, h5, g5, n5⟩ := c4.unaside zk
    refine ⟨acc, h5, ?_, ?_⟩
    · rw [rx.length, List.length_map, List.length_take]
      exact Nat.lt_of_le_of_lt (Nat.min_le_right _ _) (Nat.lt_of_lt_of_le hl (by decide))
    · have c6 := (c5.asideSet (o' := .lst (acc ++ [w])) h5 g5 n5 z0 zk).wipe [x, y]
      rw [wipe_back2 hxy, wipeS_back2 hxy] at c6
      refine ⟨G4, acc ++ [w], s'.trans (sy.trans (s3.trans s4)), c6, upd_same, g5, ?_, fun j a => n5 j ?_⟩
      · rw [List.take_add_one, List.getElem?_eq_getElem hlt, List.map_append]
        exact (rx.to (sy.trans (s3.trans s4))).app (.cons r4 .nil)
      · rw [← wipe_back2 (σ := σ) (x := x) (y := y) (a := v1) (b := v2) hxy, ← wipeS_back2 (ρ := ρ1) (x := x) (y := y) (a := .dat pairs[i].1) (b := .dat pairs[i].2) hxy] at a
        exact hd_wipe a
  · have e : i = pairs.length := by omega
    subst e
    have ca := c'.aside hacc gD' no'
    obtain ⟨w1, _⟩ := wk _ G' H' _ _ _ s' ca
    rw [List.take_length] at rx
    exact .inl ⟨w1 (by rw [List.length_map]), q D acc G' H' (s1.trans s') c'.unwipe gD' hacc rx ⟨z0, zk⟩ fun j a => no' j (hd_unwipe a)⟩
/-- try: f(..) except X as e: suite, where f refuses -/
theorem ex_tryCall {R : List Sl → Prop} {cv : Value} {i : Nat} {ts : Addr → Value → Option Addr → TS} {Wout : WX} (ha : EvA K tg ρ ag ρ1) (hd : agD ag = some es) (hR : R (es.map Sl.dat)) (hm : PySem.W.exmOne K (.ref CB) cv = some true) (hi : ρ1[i]?.isSome = true)
    (suite : ∀ a, Ex K (ts a (.ref CB) none) (ρ1.set i (.dat (.cls a))) (.rt d ρ2)) :
    Ex K (fun D σ H => tDrop (tCallS (spX K CB R) (fun σ cls dd H => wAs K cv i ts Wout D cls dd σ H) tg) D σ H) ρ (.rt d ρ2) := fun Z G H σ c D q => by
  have ha := agD_map hd ▸ ha
  refine ha Z G H σ c _ fun vs G1 H1 s1 c1 r1 => ?_
  have r := rp_args r1
  refine ⟨G1, [], _, hR, start_all c1.gh r, fun G2 H2 c2 => ?_⟩
  obtain ⟨s2, c3⟩ := c1.after0 c2
  refine ⟨true, hm, fun _ a _ => ?_, fun h => by cases h⟩
  exact suite a Z G2 H2 _ (c3.setD hi (.cls a)) _ fun σ2 v G3 H3 s3 c5 r5 => q σ2 v G3 H3 ((s1.trans s2).trans s3) c5 r5
end
theorem kStar {X : Cx} (K : PySem.W.Frag) {es : List Expr} {te : TE} {t : TA} (p : PA X es (StX.tStar X.K te t)) (h : X.K = K := by rfl) : PA X es (StX.tStar K te t) := h ▸ p
/-! ### defs that refuse, defs whose answer is new -/
section
variable {K : PySem.W.Frag} {C CB : Addr} {Z : Zs} {G G' H H' : Hp} {σ : L2.St} {ρ ρ' ρ1 ρ2 : List Sl} {te ta tb tv : TE} {tt : TT} {t t1 u : TS} {tg : TA} {d : Dat} {ds es : List Dat}
theorem spX_len {R : List Sl → Prop} {n : Nat} (h : ∀ as, R as → as.length = n) : ∀ vs H Q E, spX K CB R vs H Q E → vs.length = n := by
  rintro vs H Q E ⟨G, O, as, r, c, _⟩
  have := c.len
  rw [List.length_map] at this
  rw [this, h _ r]
theorem bodyX_ok {R : List Sl → Prop} {N : List Str} {vs : List V} {Q : VK} {E : XK} {n : Nat} (h : spX K CB R vs H Q E) (hn : ∀ as, R as → as.length = n)
    (k : ∀ as, R as → ExR K CB E t (as ++ List.replicate (N.length - n) .no)) : t { nx := fun _ H' => Q .non H', rt := Q } (start N vs) H := by
  obtain ⟨G, O, as, r, c, q⟩ := h
  have l := c.len
  rw [List.length_map] at l
  have e : start N vs = vs.map some ++ List.replicate (N.length - n) none := by
    show vs.map some ++ List.replicate (N.length - vs.length) none = _
    rw [l, hn _ r]
  refine k as r _ G H _ (start_ct c e) _ fun σ' G' H' s c' => q G' H' ?_
  have := c'.reslot (σ' := vs.map some) (n := as.length) (by rw [List.length_map, l])
  rw [List.map_const']
  exact this
theorem evn_tup {t : TA} (h : EvAN K t ρ ds ρ1) (hl : ds.length ≤ 100000) : EvN K (tTup t) ρ (.tup ds) ρ1 := fun Z G H σ c Q q => by
  refine h Z G H σ c _ fun vs G1 H1 s1 c1 r1 => ?_
  refine ⟨by rw [r1.length]; exact sz_ok hl, fun p hp => ?_⟩
  obtain ⟨c2, s2⟩ := c1.grown (o := .tup vs) hp
  exact q _ _ _ (s1.trans s2) c2 (.tup (nw_at (c1.fresh0 hp)) (r1.to (nw_same s2)))
def ExN (K : PySem.W.Frag) (t : TS) (ρ : List Sl) (d : Dat) : Prop := ∀ (Z : Zs) (G H : Hp) (σ : L2.St), Ct K Z G H σ ρ → ∀ D : Ends, (∀ (σ' : L2.St) (ρ' : List Sl) (v : V) (G' H' : Hp), Same G G' → Ct K Z G' H' σ' ρ' → Rp K (Nw Z.H0 G') v d → D.rt v H') → t D σ H
theorem exn_ret (h : EvN K te ρ d ρ1) : ExN K (tRet te) ρ d := fun Z G H σ c D q => h Z G H σ c _ fun v G1 H1 s1 c1 r1 => q σ ρ1 v G1 H1 s1 c1 r1
theorem exn_no (h : EvT K tt ρ false ρ1) (k : ExN K u ρ1 d) : ExN K (tSeq (tIfS tt t1 tNext) u) ρ d := fun Z G H σ c D q => by
  refine h Z G H σ c _ fun G1 H1 s1 c1 => ?_
  refine iteF ?_
  exact k Z G1 H1 σ c1 D fun σ' ρ' v G2 H2 s2 => q σ' ρ' v G2 H2 (s1.trans s2)
theorem bodyN2_ok {R : List Dat → Dat → Prop} {N : List Str} {vs : List V} {Q : VK} {E : XK} {n : Nat} (h : spN K R vs H Q E) (hn : ∀ as d, R as d → as.length = n)
    (k : ∀ as d, R as d → ExN K t (as.map Sl.dat ++ List.replicate (N.length - n) .no) d) : t { nx := fun _ H' => Q .non H', rt := Q } (start N vs) H := by
  obtain ⟨G, as, d, r, gh, ra, q⟩ := h
  have c := start_all gh ra
  have e : start N vs = vs.map some ++ List.replicate (N.length - n) none := by
    show vs.map some ++ List.replicate (N.length - vs.length) none = _
    rw [ra.length, hn _ _ r]
  exact k as d r _ G H _ (start_ct c e) _ fun σ' ρ' v G' H' s c' rv => q v G' H' (c'.reslot (by rw [List.length_map])) rv
theorem evn_call {R : List Dat → Dat → Prop} {E : XK} {ag : List Ag} (hb : EvA K tg ρ ag ρ1) (hd : agD ag = some es) (hR : R es d) : EvN K (tCall (spN K R) [] E tg) ρ d ρ1 := fun Z G H σ c Q q => by
  have hb := agD_map hd ▸ hb
  refine hb Z G H σ c _ fun vs G2 H2 s2 c2 r2 => ?_
  rw [List.append_nil]
  refine ⟨G2, _, d, hR, c2.gh, rp_args r2, fun v G3 H3 c3 r3 => ?_⟩
  obtain ⟨s3, c4⟩ := c2.after0 c3
  exact q v G3 H3 (s2.trans s3) c4 (r3.to (nw_base c2.ge))
end
/-! ### index, index from a place on, count -/
section
variable {X : Cx}
def rIndexF (K : PySem.W.Frag) : V → List V → Hp → VK → Prop := fun x xs H Q => ∃ (a : Addr) (ys : List V) (y : V) (lo j : Nat) (z : V), x = V.ref a ∧ xs = [y, .int lo] ∧ SqL K H a ys ∧ flatV y = true ∧ ys.all flatV = true ∧ lo ≤ j ∧ ys[j]? = some z ∧ eqV z y = true ∧
  (∀ (m : Nat) (z' : V), lo ≤ m → m < j → ys[m]? = some z' → eqV z' y = false) ∧ Q (.int (j : Nat)) H
theorem mt_indexF : MtR X "list.index" (rIndexF X.K) := by
  intro pins s σ H x xs v us Q I rx rxs h
  obtain ⟨a, ys, y, lo, j, z, rfl, rfl, hs, fy, fys, hlo, hz, hzj, hno, q⟩ := h
  cases rx
  cases rxs with
  | cons ry rt =>
    rename_i uy ut
    cases rt with
    | cons rl rt =>
      rename_i ul ut
      cases rt
      obtain ⟨tl, rfl⟩ := rl
      obtain ⟨its, rv, ⟨⟨cls, dd, data, sl⟩, n, ho, hc, hdn, hd⟩, hlen⟩ := I.list hs
      simp only at hc hd
      subst hc hd
      obtain ⟨u, hu, ru⟩ := rv.get hz
      obtain ⟨hjl, hje⟩ := List.getElem?_eq_some_iff.mp hu
      have hvl := rv.length
      have hj : j < its.toArray.size := by simpa using hjl
      have hsl := sizeLine_eq
      have hlo' : SeqAt.searchFrom (lo : Int) its.toArray.size = lo := SeqAt.searchFrom_nat lo _
      refine call_meets PySem.F.slot_list_index ⟨_, ho, rfl⟩ PySem.F.entry_list_index (PySem.F.args_list_index_3 _ _ _)
        (SeqAt.list_index3_found a its.toArray n dd sl uy (fun m => eqU y (its.toArray.getD m .none)) (lo : Int) tl j hj (by rw [hlo']; exact hlo) (by omega) ?_ ?_) ⟨ho, fun m hm => ?_, ?_⟩
      · have e1 : its.toArray.getD j .none = u := by
          rw [Array.getD_eq_getD_getElem?, Array.getElem?_eq_getElem hj]
          simpa using hje
        show eqU y (its.toArray.getD j .none) = true
        rw [e1, eqU_of ru (flat_at fys hz)]
        exact hzj
      · intro m hm hml hmj
        rw [hlo'] at hml
        have hml2 : m < its.length := by simpa using hm
        have hmy : m < ys.length := by omega
        have hy' : ys[m]? = some ys[m] := List.getElem?_eq_getElem hmy
        obtain ⟨u2, hu2, ru2⟩ := rv.get hy'
        obtain ⟨_, hme⟩ := List.getElem?_eq_some_iff.mp hu2
        have e1 : its.toArray.getD m .none = u2 := by
          rw [Array.getD_eq_getD_getElem?, Array.getElem?_eq_getElem hm]
          simpa using hme
        show eqU y (its.toArray.getD m .none) = false
        rw [e1, eqU_of ru2 (flat_at fys hy')]
        exact hno m _ hml hmj hy'
      · have e1 : its.toArray.getD m .none = its.toArray[m] := by
          rw [Array.getD_eq_getD_getElem?, Array.getElem?_eq_getElem hm]
          rfl
        show SeqAt.EqAt _ _ its.toArray[m] uy (eqU y (its.toArray.getD m .none))
        rw [e1]
        exact mem_eqAt ry fy rv fys _ (by simp)
      · exact ⟨.int (j : Nat), H, I.tok _, ⟨_, rfl⟩, q⟩
theorem kIndex (K : PySem.W.Frag) (h : X.K = K := by rfl) : MtR X "list.index" (rIndex K) := h ▸ mt_index
theorem kIndexF (K : PySem.W.Frag) (h : X.K = K := by rfl) : MtR X "list.index" (rIndexF K) := h ▸ mt_indexF
end
section
variable {K : PySem.W.Frag} {Z : Zs} {G G' H H' : Hp} {σ : L2.St} {ρ ρ' ρ1 ρ2 ρ3 : List Sl} {te ta tb tc : TE} {tt tu : TT} {t u tbd : TS} {d d1 d2 d3 : Dat} {ds es : List Dat} {b : Bool} {i : Nat} {o : Out}
theorem flat_ints (zs : List Int) : (zs.map V.int).all flatV = true := by
  rw [List.all_map, List.all_eq_true]
  intro _ _
  rfl
/-- xs.index(y) of ints -/
theorem ev_index {a : Ag} {zs : List Int} {y : Int} {j : Nat} (ha : EvL K ta ρ a ρ1) (hb : Ev K tb ρ1 (.int y) ρ2) (l1 : look ρ1 a = some (zs.map Dat.int)) (l : look ρ2 a = some (zs.map Dat.int)) (hj : zs[j]? = some y) (hno : ∀ m, m < j → zs[m]? ≠ some y) :
    Ev K (tBM K "list" (rIndex K) ta (tCons tb tNil)) ρ (.int j) ρ2 := fun Z G H σ c Q q => by
  refine ha Z G H σ c _ fun v G1 H1 s1 c1 r1 => ?_
  obtain ⟨p, xs, rfl, hs, rx⟩ := c1.read r1 l1
  refine ⟨.inl ⟨rfl, _, hs⟩, ?_⟩
  refine hb Z G1 H1 σ c1 _ fun w G2 H2 s2 c2 r2 => ?_
  obtain ⟨p', xs', e', hs', rx'⟩ := c2.read (r1.to s2) l
  cases e'
  cases RpAll.intsEq rx'
  cases r2
  refine ⟨p, zs.map V.int, .int y, j, .int y, rfl, rfl, hs', rfl, flat_ints zs, by rw [List.getElem?_map, hj]; rfl, by simp [eqV], fun m z' hm hz => ?_, q _ _ _ (s1.trans s2) c2 (.int _)⟩
  rw [List.getElem?_map] at hz
  cases e : zs[m]? with
  | none => rw [e] at hz; cases hz
  | some k =>
    rw [e] at hz
    cases hz
    have : k ≠ y := fun q => hno m hm (by rw [e, q])
    simpa [eqV] using this
/-- xs.index(y, lo) of ints -/
theorem ev_indexF {a : Ag} {zs : List Int} {y : Int} {lo j : Nat} (ha : EvL K ta ρ a ρ1) (hb : Ev K tb ρ1 (.int y) ρ2) (hc : Ev K tc ρ2 (.int lo) ρ3) (l1 : look ρ1 a = some (zs.map Dat.int)) (l : look ρ3 a = some (zs.map Dat.int)) (hlo : lo ≤ j) (hj : zs[j]? = some y) (hno : ∀ m, lo ≤ m → m < j → zs[m]? ≠ some y) :
    Ev K (tBM K "list" (rIndexF K) ta (tCons tb (tCons tc tNil))) ρ (.int j) ρ3 := fun Z G H σ c Q q => by
  refine ha Z G H σ c _ fun v G1 H1 s1 c1 r1 => ?_
  obtain ⟨p, xs, rfl, hs, rx⟩ := c1.read r1 l1
  refine ⟨.inl ⟨rfl, _, hs⟩, ?_⟩
  refine hb Z G1 H1 σ c1 _ fun w G2 H2 s2 c2 r2 => ?_
  refine hc Z G2 H2 σ c2 _ fun w2 G3 H3 s3 c3 r3 => ?_
  obtain ⟨p', xs', e', hs', rx'⟩ := c3.read (r1.to (s2.trans s3)) l
  cases e'
  cases RpAll.intsEq rx'
  cases r2
  cases r3
  refine ⟨p, zs.map V.int, .int y, lo, j, .int y, rfl, rfl, hs', rfl, flat_ints zs, hlo, by rw [List.getElem?_map, hj]; rfl, by simp [eqV], fun m z' hl hm hz => ?_, q _ _ _ (s1.trans (s2.trans s3)) c3 (.int _)⟩
  rw [List.getElem?_map] at hz
  cases e : zs[m]? with
  | none => rw [e] at hz; cases hz
  | some k =>
    rw [e] at hz
    cases hz
    have : k ≠ y := fun q => hno m hl hm (by rw [e, q])
    simpa [eqV] using this
/-- xs.count(y) of ints -/
theorem ev_count {a : Ag} {zs : List Int} {y : Int} (ha : EvL K ta ρ a ρ1) (hb : Ev K tb ρ1 (.int y) ρ2) (l1 : look ρ1 a = some (zs.map Dat.int)) (l : look ρ2 a = some (zs.map Dat.int)) :
    Ev K (tBM K "list" (rCntI K) ta (tCons tb tNil)) ρ (.int (zs.count y : Nat)) ρ2 := fun Z G H σ c Q q => by
  refine ha Z G H σ c _ fun v G1 H1 s1 c1 r1 => ?_
  obtain ⟨p, xs, rfl, hs, rx⟩ := c1.read r1 l1
  refine ⟨.inl ⟨rfl, _, hs⟩, ?_⟩
  refine hb Z G1 H1 σ c1 _ fun w G2 H2 s2 c2 r2 => ?_
  obtain ⟨p', xs', e', hs', rx'⟩ := c2.read (r1.to s2) l
  cases e'
  cases RpAll.intsEq rx'
  cases r2
  exact ⟨p, zs, y, rfl, rfl, hs', q _ _ _ (s1.trans s2) c2 (.int _)⟩
end
/-! ### loops that look at each item, and leave where one is not as it should be -/
section
variable {K : PySem.W.Frag} {Z : Zs} {G G' H H' : Hp} {σ : L2.St} {ρ ρ' ρ0 ρ1 ρ2 ρ3 : List Sl} {te ta tb tc : TE} {tt tu : TT} {t u tbd : TS} {d r d1 d2 d3 : Dat} {ds es : List Dat} {b : Bool} {i : Nat} {o : Out}
theorem Src.weak {wi : TI} (h : Src K wi ρ ds ρ0) (l : Le ρ1 ρ0) : Src K wi ρ ds ρ1 := fun Z G H σ c R q => h Z G H σ c R fun J G1 H1 s1 c1 wk => q J G1 H1 s1 (c1.weak l) wk
theorem ex_forT {wi : TI} {x : Nat} (p : Dat → Bool) (h : Src K wi ρ ds ρ0) (l : Le ρ1 ρ0) (hx : x < ρ1.length) (ha : ds.all p = true) (k : ∀ d ∈ ds, p d = true → Ex K tbd (ρ1.set x (.dat d)) (.nx ρ1)) : Ex K (tFor wi (gName x) tbd) ρ (.nx ρ1) :=
  ex_for (n := ds.length) (fun _ => ρ1) (h.weak l) (fun _ => isSome_of_lt hx) (Nat.le_refl _) (fun i d hi hd => .inl (k d (List.mem_of_getElem? hd) (List.all_eq_true.mp ha d (List.mem_of_getElem? hd)))) (.done rfl)
theorem ex_forF {wi : TI} {x : Nat} (p : Dat → Bool) (h : Src K wi ρ ds ρ0) (l : Le ρ1 ρ0) (hx : x < ρ1.length) (ha : ds.all p = false) (k : ∀ d ∈ ds, p d = true → Ex K tbd (ρ1.set x (.dat d)) (.nx ρ1)) (kf : ∀ d ∈ ds, p d = false → Ex K tbd (ρ1.set x (.dat d)) (.rt r ρ')) : Ex K (tFor wi (gName x) tbd) ρ (.rt r ρ') := by
  have hn : ds.findIdx (fun d => !p d) < ds.length := by
    rw [List.findIdx_lt_length]
    obtain ⟨d, hd, hp⟩ := List.all_eq_false.mp ha
    exact ⟨d, hd, by simpa using hp⟩
  have hat : ds[ds.findIdx (fun d => !p d)]? = some ds[ds.findIdx (fun d => !p d)] := List.getElem?_eq_getElem hn
  have hp : (!p ds[ds.findIdx (fun d => !p d)]) = true := List.findIdx_getElem (p := fun d => !p d)
  refine ex_for (n := ds.findIdx (fun d => !p d)) (fun _ => ρ1) (h.weak l) (fun _ => isSome_of_lt hx) (Nat.le_of_lt hn) (fun i d hi hd => .inl (k d (List.mem_of_getElem? hd) ?_)) (.ret hat (kf _ (List.getElem_mem hn) (by simpa using hp)))
  obtain ⟨hl, e⟩ := List.getElem?_eq_some_iff.mp hd
  have := List.not_of_lt_findIdx (p := fun d => !p d) hi
  rw [e] at this
  simpa using this
end
section
variable {K : PySem.W.Frag} {Z : Zs} {G G' H H' : Hp} {σ : L2.St} {ρ ρ' ρ0 ρ1 ρ2 ρ3 : List Sl} {te ta tb tc : TE} {tt tu : TT} {t u tbd : TS} {d r d1 d2 d3 : Dat} {ds es : List Dat} {b : Bool} {i : Nat} {o : Out}
/-- a test that isn't met; one that is, and leaves -/
theorem ex_no (h : EvT K tt ρ false ρ1) (k : Ex K u ρ1 o) : Ex K (tSeq (tIfS tt t tNext) u) ρ o :=
  ex_seq (ex_if h (fun q => by cases q) fun _ => ex_next) k
theorem ex_yes (h : EvT K tt ρ true ρ1) (k : Ex K t ρ1 o) (no : o.isNx = false) : Ex K (tSeq (tIfS tt t tNext) u) ρ o :=
  ex_out (ex_if h (fun _ => k) fun q => by cases q) no
/-- what goes on, or leaves with r -/
theorem ex_seqC (h : Ex K t ρ (bif b then .nx ρ1 else .rt r ρ')) (k : b = true → Ex K u ρ1 o) (e : b = false → o = .rt r ρ') : Ex K (tSeq t u) ρ o := by
  cases b with
  | true => exact ex_seq h (k rfl)
  | false =>
    rw [e rfl]
    exact ex_out h rfl
theorem ex_forC {wi : TI} {x : Nat} (p : Dat → Bool) (h : Src K wi ρ ds ρ0) (l : Le ρ1 ρ0) (hx : x < ρ1.length) (k : ∀ d ∈ ds, Ex K tbd (ρ1.set x (.dat d)) (bif p d then .nx ρ1 else .rt r ρ')) : Ex K (tFor wi (gName x) tbd) ρ (bif ds.all p then .nx ρ1 else .rt r ρ') := by
  cases ha : ds.all p with
  | true => exact ex_forT p h l hx ha fun d hd hp => by have := k d hd; rwa [hp] at this
  | false => exact ex_forF p h l hx ha (fun d hd hp => by have := k d hd; rwa [hp] at this) fun d hd hp => by have := k d hd; rwa [hp] at this
theorem ex_ifC (h : EvT K tt ρ (!b) ρ2) (l : Le ρ1 ρ2) (k : b = false → Ex K t ρ2 (.rt r ρ')) : Ex K (tIfS tt t tNext) ρ (bif b then .nx ρ1 else .rt r ρ') := by
  cases b with
  | true => exact ex_if h (fun q => by cases q) fun _ => Ex.weak ex_next l
  | false => exact ex_if h (fun _ => k rfl) fun q => by cases q
end
/-! ### defs that hand back a new list which nothing holds -/
def spF (K : PySem.W.Frag) (R : List Dat → List Dat → Prop) : Sp := fun vs H Q _ => ∃ (G : Hp) (as ds : List Dat), R as ds ∧ Same G H ∧ RpAll K G vs as ∧
  ∀ (p : Addr) (xs : List V) (G' H' : Hp), Ct K ⟨G, H, [], fun _ => none⟩ G' H' (vs.map some) (List.replicate vs.length .no) → H p = none → G' p = none → H' p = some (.lst xs) → RpAll K G' xs ds → Q (.ref p) H'
theorem spF_len {K : PySem.W.Frag} {R : List Dat → List Dat → Prop} {n : Nat} (h : ∀ as ds, R as ds → as.length = n) : ∀ vs H Q E, spF K R vs H Q E → vs.length = n := by
  rintro vs H Q E ⟨G, as, d, r, _, ra, _⟩
  rw [ra.length, h _ _ r]
section
variable {K : PySem.W.Frag} {Z : Zs} {G G' H H' : Hp} {σ : L2.St} {ρ ρ' ρ0 ρ1 ρ2 ρ3 : List Sl} {te ta tb tc : TE} {tg : TA} {tt tu : TT} {t u tbd : TS} {d r d1 d2 d3 : Dat} {ds es : List Dat} {b : Bool} {i : Nat} {o : Out} {ag : List Ag}
theorem ef_call {R : List Dat → List Dat → Prop} {E : XK} (ha : EvA K tg ρ ag ρ1) (hd : agD ag = some es) (hR : R es ds) : EvF K (tCall (spF K R) [] E tg) ρ ds ρ1 := fun Z G H σ c Q q => by
  have ha := agD_map hd ▸ ha
  refine ha Z G H σ c _ fun vs G2 H2 s2 c2 r2 => ?_
  rw [List.append_nil]
  refine ⟨G2, _, ds, hR, c2.gh, rp_args r2, fun p xs G3 H3 c3 np gp hp rx => ?_⟩
  obtain ⟨s3, c4⟩ := c2.after0 c3
  refine q p xs G3 H3 (s2.trans s3) c4 gp hp rx ⟨c2.fresh0 np, c2.freshK np⟩ fun i hi => ?_
  obtain ⟨e, s, es, eo⟩ := hi
  obtain ⟨p', xs', ds', e', _, hp', _⟩ := c2.ow es eo
  rw [e] at e'
  cases e'
  rw [np] at hp'
  cases hp'
/-- an owned list is handed on as a new one -/
theorem ef_own (h : ρ[i]? = some (.own ds) := by rfl) : EvF K (tVar i) ρ ds (ρ.set i .no) := fun Z G H σ c Q q => by
  obtain ⟨v, ev, p, xs, rfl, z, g, hp, rx⟩ := c.sl i _ h rfl
  have hd : Hd σ ρ i p := ⟨ev, _, h, rfl⟩
  have c2 : Ct K Z G H σ (ρ.set i .no) := c.weak (by
    have key : ∀ (ρ : List Sl) (i : Nat), Le (ρ.set i .no) ρ := by
      intro ρ
      induction ρ with
      | nil => intro i; exact Le.nil
      | cons s ρ ih =>
        intro i
        cases i with
        | zero => exact Le.no (Le.refl ρ)
        | succ i => exact Le.eq (ih i)
    exact key ρ i)
  refine ⟨_, ev, q p xs G H (Same.refl G) c2 g hp rx ⟨z, c.kn i p hd⟩ fun j hj => ?_⟩
  obtain ⟨e, s, es, eo⟩ := hj
  by_cases hji : i = j
  · subst hji
    rw [List.getElem?_set_self (by exact (List.getElem?_eq_some_iff.mp h).1)] at es
    cases es
    cases eo
  · rw [List.getElem?_set_ne hji] at es
    exact hji (c.ds i j p hd ⟨e, s, es, eo⟩)
theorem ex_retF (h : EvF K te ρ ds ρ1) (l : Le ρ2 ρ1) : Ex K (tRet te) ρ (.rf ds ρ2) := fun Z G H σ c D q => h Z G H σ c _ fun p xs G' H' s c' g hp r z _ => q σ p xs G' H' s (c'.weak l) g z.1 hp r
theorem bodyF_ok {R : List Dat → List Dat → Prop} {N : List Str} {vs : List V} {Q : VK} {E : XK} {n : Nat} (h : spF K R vs H Q E) (hn : ∀ as ds, R as ds → as.length = n)
    (k : ∀ as ds, R as ds → Ex K t (as.map Sl.dat ++ List.replicate (N.length - n) .no) (.rf ds (List.replicate N.length .no))) : t { nx := fun _ H' => Q .non H', rt := Q } (start N vs) H := by
  obtain ⟨G, as, ds, r, gh, ra, q⟩ := h
  have c := start_all gh ra
  have e : start N vs = vs.map some ++ List.replicate (N.length - n) none := by
    show vs.map some ++ List.replicate (N.length - vs.length) none = _
    rw [ra.length, hn _ _ r]
  exact k as ds r _ G H _ (start_ct c e) _ fun σ' p xs G' H' s c' g z hp rv => q p xs G' H' (c'.reslot (by rw [List.length_map])) z g hp rv
/-! ### tuples sliced, a flat thing in a tuple, a text split, a list turned about, a range downwards -/
theorem ev_slA {tl th : TO} {lo hi : Option Int} (ha : Ev K ta ρ (.tup ds) ρ1) (hl : EvO K tl ρ1 lo ρ2) (hh : EvO K th ρ2 hi ρ3) : Ev K (tSl (rSlA K) ta tl th) ρ (.tup (cutD ds lo hi)) ρ3 := fun Z G H σ c Q q => by
  refine ha Z G H σ c _ fun x G1 H1 s1 c1 r1 => ?_
  refine hl Z G1 H1 σ c1 _ fun G2 H2 s2 c2 => ?_
  refine hh Z G2 H2 σ c2 _ fun G3 H3 s3 c3 => ?_
  obtain ⟨a, xs, rfl, hs, lx, rx⟩ := rp_tup c3.gh (r1.to (s2.trans s3))
  refine ⟨a, xs, rfl, hs, fun hq => ?_, fun _ p hp => ?_⟩
  · have hq2 : cutD ds lo hi = ds := by
      unfold cutD
      rw [← lx, hq.1, hq.2, List.drop_zero, Nat.sub_zero, lx, List.take_length]
    rw [hq2] at q
    exact q _ G3 H3 ((s1.trans s2).trans s3) c3 (r1.to (s2.trans s3))
  · obtain ⟨c4, s4⟩ := c3.grown (o := .tup (cutV xs lo hi)) hp
    exact q _ _ _ ((s1.trans s2).trans (s3.trans s4)) c4 (.tup upd_same ((rp_cut rx lo hi).to s4))
def Flat : Dat → Bool
  | .non => true
  | .bl _ => true
  | .int _ => true
  | .str _ => true
  | _ => false
def flv : Dat → V
  | .non => .non
  | .bl b => .bl b
  | .int i => .int i
  | .str x => .str x
  | _ => .non
theorem rp_flat {v : V} (f : Flat d = true) (r : Rp K G v d) : v = flv d := by
  cases d <;> first | (cases f; done) | (cases r; rfl)
theorem flat_flv (f : Flat d = true) : flatV (flv d) = true := by
  cases d <;> first | (cases f; done) | rfl
theorem rp_flats : ∀ {vs : List V} {ds : List Dat}, ds.all Flat = true → RpAll K G vs ds → vs = ds.map flv
  | _, [], _, h => by cases h; rfl
  | _, d :: ds, f, h => by
    rw [List.all_cons, Bool.and_eq_true] at f
    cases h with
    | cons a b => rw [rp_flat f.1 a, rp_flats f.2 b]; rfl
theorem flat_flvs : ∀ {ds : List Dat}, ds.all Flat = true → (ds.map flv).all flatV = true := fun {ds} f => by
  rw [List.all_map, List.all_eq_true]
  intro d hd
  exact flat_flv (List.all_eq_true.mp f d hd)
theorem ev_inT (ha : Ev K ta ρ d ρ1) (hb : Ev K tb ρ1 (.tup ds) ρ2) (f : Flat d = true) (fs : ds.all Flat = true) : Ev K (tOp (rIn K false) ta tb) ρ (.bl (inV (flv d) (ds.map flv))) ρ2 := fun Z G H σ c Q q => by
  refine ha Z G H σ c _ fun x G1 H1 s1 c1 r1 => ?_
  refine hb Z G1 H1 σ c1 _ fun y G2 H2 s2 c2 r2 => ?_
  obtain ⟨a, xs, rfl, hs, _, rx⟩ := rp_tup c2.gh r2
  cases rp_flats fs rx
  cases rp_flat f r1
  exact ⟨a, _, rfl, .inr hs, flat_flv f, flat_flvs fs, q _ _ _ (s1.trans s2) c2 (.bl _)⟩
theorem ev_notInT (ha : Ev K ta ρ d ρ1) (hb : Ev K tb ρ1 (.tup ds) ρ2) (f : Flat d = true) (fs : ds.all Flat = true) : Ev K (tOp (rIn K true) ta tb) ρ (.bl (!inV (flv d) (ds.map flv))) ρ2 := fun Z G H σ c Q q => by
  refine ha Z G H σ c _ fun x G1 H1 s1 c1 r1 => ?_
  refine hb Z G1 H1 σ c1 _ fun y G2 H2 s2 c2 r2 => ?_
  obtain ⟨a, xs, rfl, hs, _, rx⟩ := rp_tup c2.gh r2
  cases rp_flats fs rx
  cases rp_flat f r1
  exact ⟨a, _, rfl, .inr hs, flat_flv f, flat_flvs fs, q _ _ _ (s1.trans s2) c2 (.bl _)⟩
/-- x.split(sep) -/
theorem ef_split {r : V → List V → Hp → VK → Prop} {x y : Str} (hr : r = fun x xs H Q => ∃ a b, x = .str a ∧ xs = [.str b] ∧ (b.length == 0) = false ∧ a.length + 2 ≤ sizeLine ∧ rNewStrs (Txt.split a b) H Q)
    (ha : Ev K ta ρ (.str x) ρ1) (hb : Ev K tb ρ1 (.str y) ρ2) (hy : (y.length == 0) = false) (hx : x.length ≤ 1000) : EvF K (tM1 r ta tb) ρ ((Txt.split x y).map Dat.str) ρ2 := fun Z G H σ c Q q => by
  subst hr
  refine ha Z G H σ c _ fun v G1 H1 s1 c1 r1 => ?_
  cases r1
  refine ⟨⟨x, rfl⟩, ?_⟩
  refine hb Z G1 H1 σ c1 _ fun w G2 H2 s2 c2 r2 => ?_
  cases r2
  refine ⟨x, y, rfl, rfl, hy, sz_ok (by omega), fun p hp => ?_⟩
  obtain ⟨a, b, z, no⟩ := fresh_of c2 (xs := (Txt.split x y).map V.str) hp
  refine q p _ G2 _ (s1.trans s2) a b upd_same ?_ z no
  generalize Txt.split x y = ys
  induction ys with
  | nil => exact .nil
  | cons y ys ih => exact .cons (.str y) ih
/-- xs.reverse(), xs a list of the slot's own -/
theorem ex_reverse {s : Sl} (hs : ρ[i]? = some s := by rfl) (l : slItems (some s) = some ds := by rfl) :
    Ex K (tDrop (tBM0 K "list" rReverse (tVar i))) ρ (.nx (ρ.set i (s.put ds.reverse))) := fun Z G H σ c D q => by
  have os : s.isOwn = true := by cases s <;> first | rfl | cases l
  obtain ⟨p, xs, ds0, ep, _, hp, rx, _, _, hc⟩ := c.ow hs os
  have e0 : ds0 = ds := by
    rcases hc with ⟨rfl, _⟩ | ⟨j, rfl, _⟩ <;> (cases l; rfl)
  subst e0
  refine ⟨.ref p, ep, .inl ⟨rfl, xs, .inl (.inl hp)⟩, p, xs, rfl, rfl, hp, ?_⟩
  exact q σ G _ (Same.refl G) (c.write hs os ep (rpAll_reverse rx))
where
  rpAll_reverse {K : PySem.W.Frag} {G : Hp} {xs : List V} {ds : List Dat} (r : RpAll K G xs ds) : RpAll K G xs.reverse ds.reverse := by
    have key : ∀ {xs : List V} {ds : List Dat}, RpAll K G xs ds → RpAll K G xs.reverse ds.reverse := by
      intro xs
      induction xs with
      | nil => intro ds r; cases r; exact .nil
      | cons x xs ih =>
        intro ds r
        cases r with
        | cons a b =>
          rw [List.reverse_cons, List.reverse_cons]
          exact (ih b).app (.cons a .nil)
    exact key r
/-- hi, hi - 1, .. n of them -/
def rngC (lo c : Int) (n : Nat) : List Dat := (List.range n).map fun i => .int (lo + (i : Nat) * c)
theorem rngC_len (lo c : Int) (n : Nat) : (rngC lo c n).length = n := by simp [rngC]
theorem rngC_get {lo c : Int} {n i : Nat} {d : Dat} (h : (rngC lo c n)[i]? = some d) : i < n ∧ d = .int (lo + (i : Nat) * c) := by
  unfold rngC at h
  rw [List.getElem?_map] at h
  cases e : (List.range n)[i]? with
  | none => rw [e] at h; cases h
  | some k =>
    rw [e] at h
    cases h
    obtain ⟨hl, hk⟩ := List.getElem?_eq_some_iff.mp e
    rw [List.getElem_range] at hk
    rw [List.length_range] at hl
    subst hk
    exact ⟨hl, rfl⟩
theorem walks_rangeC {lo cc : Int} {n : Nat} : Walks K Z G (Itc lo cc n) (rngC lo cc n) := fun i Gx Hx σx ρx Zx s c => by
  refine ⟨fun e => ?_, fun d hd => ?_⟩
  · rw [rngC_len] at e
    show n ≤ i
    omega
  · obtain ⟨hi, rfl⟩ := rngC_get hd
    refine ⟨hi, fun y Hy hy => ?_⟩
    obtain ⟨e1, e2⟩ := hy
    subst e1 e2
    exact ⟨Gx, Same.refl Gx, c, .int _⟩
theorem src_rngDown {lo hi : Int} (ha : Ev K ta ρ (.int lo) ρ1) (hb : Ev K tb ρ1 (.int hi) ρ2) (hc : Ev K tc ρ2 (.int (-1)) ρ3) (h1 : -1000000 ≤ lo) (h2 : lo ≤ 1000000) (h3 : -1000000 ≤ hi) (h4 : hi ≤ 1000000) : Src K (iRng3 (tCons ta (tCons tb (tCons tc tNil)))) ρ (rngC lo (-1) (lo - hi).toNat) ρ3 := fun Z G H σ c R q => by
  refine ha Z G H σ c _ fun v G1 H1 s1 c1 r1 => ?_
  refine hb Z G1 H1 σ c1 _ fun w G2 H2 s2 c2 r2 => ?_
  refine hc Z G2 H2 σ c2 _ fun z G3 H3 s3 c3 r3 => ?_
  cases r1; cases r2; cases r3
  exact ⟨lo, hi, -1, _, rfl, RgC.neg (by omega) (by omega) (by omega) (by omega), q _ G3 H3 (s1.trans (s2.trans s3)) c3 walks_rangeC⟩
end
section
variable {K : PySem.W.Frag} {Z : Zs} {G G' H H' : Hp} {σ : L2.St} {ρ ρ' ρ0 ρ1 ρ2 ρ3 : List Sl} {te ta tb tc : TE} {tg : TA} {tt tu : TT} {t u tbd : TS} {d r d1 d2 d3 : Dat} {ds es : List Dat} {b : Bool} {i : Nat} {o : Out} {ag : List Ag}
/-- [e for x in ..], item by item -/
theorem ef_lcIx {wi : TI} {x : Nat} (fs : List Dat) (h : Src K wi ρ ds ρ1) (hx : ρ1[x]?.isSome = true) (hf : fs.length = ds.length) (hl : ds.length < 100000)
    (body : ∀ (i : Nat) (d e : Dat), ds[i]? = some d → fs[i]? = some e → Ev K te ((wipeS ρ1 [x]).set x (.dat d)) e ((wipeS ρ1 [x]).set x (.dat d))) : EvF K (tLc wi (gName x) tYes te [x]) ρ fs (wipeS ρ1 [x]) := by
  have e := ef_lc (tt := tYes) (te := te) (x := x) (fun _ => ρ1) (fun _ => true) (fun i => fs.getD i .non) h (fun _ => hx) hl (fun i d hd => ⟨_, et_yes, fun _ => ⟨_, body i d (fs.getD i .non) hd (by
    have hi := (List.getElem?_eq_some_iff.mp hd).1
    rw [List.getD_eq_getElem?_getD, List.getElem?_eq_getElem (by omega)]; rfl), by
    show (((ρ1.set x .no).set x (.dat d)).set x .no) = ρ1.set x .no
    rw [List.set_set, List.set_set]⟩, fun q => by cases q⟩)
  have : lcOut (fun _ => true) (fun i => fs.getD i .non) ds.length = fs := by
    unfold lcOut
    rw [List.filter_eq_self.mpr (fun _ _ => rfl)]
    refine List.ext_getElem (by rw [List.length_map, List.length_range, hf]) fun i h1 h2 => ?_
    rw [List.getElem_map, List.getElem_range, List.getD_eq_getElem?_getD, List.getElem?_eq_getElem h2]
    rfl
  rwa [this] at e
/-- a word against a word -/
theorem et_word {x y : Str} (h : ρ[i]? = some (.dat (.str x)) := by rfl) (sx : PyData.strOk x = true) (sy : PyData.strOk y = true) (e : (x == y) = b) : EvT K (tTest (tOp (rEqD K) (tVar i) (tC (.str y)))) ρ b ρ :=
  EvT.to (et_test (ev_eq (ev_var h) ev_str (by simpa only [Shp] using sx) (by simpa only [Shp] using sy))) (by rw [eqd_str]; exact e)
theorem ev_word {x y : Str} (h : ρ[i]? = some (.dat (.str x)) := by rfl) (sx : PyData.strOk x = true) (sy : PyData.strOk y = true) (e : (x == y) = b) : Ev K (tOp (rEqD K) (tVar i) (tC (.str y))) ρ (.bl b) ρ :=
  Ev.to (ev_eq (ev_var h) ev_str (by simpa only [Shp] using sx) (by simpa only [Shp] using sy)) (by rw [eqd_str, e])
end
section
variable {K : PySem.W.Frag} {Z : Zs} {G G' H H' : Hp} {σ : L2.St} {ρ ρ' ρ0 ρ1 ρ2 ρ3 : List Sl} {te ta tb tc : TE} {tg : TA} {tt tu : TT} {t u tbd : TS} {d d1 d2 d3 : Dat} {ds es : List Dat} {b : Bool} {i : Nat} {o : Out} {ag : List Ag}
/-- a loop that leaves at the first item of a kind -/
theorem ex_forFind {wi : TI} {x : Nat} (p : Dat → Bool) (r : Dat → Dat) (h : Src K wi ρ ds ρ0) (l : Le ρ1 ρ0) (hx : x < ρ1.length) (k : ∀ d ∈ ds, p d = false → Ex K tbd (ρ1.set x (.dat d)) (.nx ρ1)) (kt : ∀ d ∈ ds, p d = true → Ex K tbd (ρ1.set x (.dat d)) (.rt (r d) ρ')) :
    Ex K (tFor wi (gName x) tbd) ρ (match ds.find? p with | some d => .rt (r d) ρ' | none => .nx ρ1) := by
  cases e : ds.find? p with
  | none =>
    have hn := List.find?_eq_none.mp e
    exact ex_forT (fun d => !p d) h l hx (List.all_eq_true.mpr fun d hd => by simpa using hn d hd) fun d hd hp => k d hd (by simpa using hp)
  | some d =>
    obtain ⟨hpd, as, bs, hds, has⟩ := List.find?_eq_some_iff_append.mp e
    have hn : as.length < ds.length := by rw [hds, List.length_append, List.length_cons]; omega
    have hat : ds[as.length]? = some d := by rw [hds, List.getElem?_append_right (Nat.le_refl _), Nat.sub_self]; rfl
    refine ex_for (n := as.length) (fun _ => ρ1) (h.weak l) (fun _ => isSome_of_lt hx) (Nat.le_of_lt hn) (fun i d' hi hd => .inl (k d' (List.mem_of_getElem? hd) ?_)) (.ret hat (kt d (List.mem_of_getElem? hat) hpd))
    rw [hds, List.getElem?_append_left hi] at hd
    simpa using has d' (List.mem_of_getElem? hd)
/-- [e for x in ..] while something is changed -/
theorem ef_lcS {wi : TI} {x : Nat} (ρs : Nat → List Sl) (fs : List Dat) (h : Src K wi ρ ds (ρs 0)) (hx : ∀ i, (ρs i)[x]?.isSome = true) (hf : fs.length = ds.length) (hl : ds.length < 100000)
    (body : ∀ (i : Nat) (d e : Dat), ds[i]? = some d → fs[i]? = some e → Ev K te ((wipeS (ρs i) [x]).set x (.dat d)) e ((wipeS (ρs (i + 1)) [x]).set x (.dat d))) : EvF K (tLc wi (gName x) tYes te [x]) ρ fs (wipeS (ρs ds.length) [x]) := by
  have e := ef_lc (tt := tYes) (te := te) (x := x) ρs (fun _ => true) (fun i => fs.getD i .non) h hx hl (fun i d hd => ⟨_, et_yes, fun _ => ⟨_, body i d (fs.getD i .non) hd (by
    have hi := (List.getElem?_eq_some_iff.mp hd).1
    rw [List.getD_eq_getElem?_getD, List.getElem?_eq_getElem (by omega)]; rfl), by
    show ((((ρs (i + 1)).set x .no).set x (.dat d)).set x .no) = (ρs (i + 1)).set x .no
    rw [List.set_set, List.set_set]⟩, fun q => by cases q⟩)
  have : lcOut (fun _ => true) (fun i => fs.getD i .non) ds.length = fs := by
    unfold lcOut
    rw [List.filter_eq_self.mpr (fun _ _ => rfl)]
    refine List.ext_getElem (by rw [List.length_map, List.length_range, hf]) fun i h1 h2 => ?_
    rw [List.getElem_map, List.getElem_range, List.getD_eq_getElem?_getD, List.getElem?_eq_getElem h2]
    rfl
  rwa [this] at e
end
section
variable {K : PySem.W.Frag} {Z : Zs} {G G' H H' : Hp} {σ : L2.St} {ρ ρ' ρ0 ρ1 ρ2 ρ3 : List Sl} {te ta tb tc : TE} {tg : TA} {tt tu : TT} {t u tbd : TS} {d r d1 d2 d3 : Dat} {ds es : List Dat} {b : Bool} {i : Nat} {o : Out} {ag : List Ag}
/-- a new list of atoms, as a new answer -/
theorem evn_callF {R : List Dat → List Dat → Prop} {E : XK} (ha : EvA K tg ρ ag ρ1) (hd : agD ag = some es) (hR : R es ds) (at_ : ds.all Atom = true) : EvN K (tCall (spF K R) [] E tg) ρ (.lst ds) ρ1 := evn_of_fresh (efn_atoms (ef_call ha hd hR) at_)
theorem atoms_bls (bs : List Bool) : (bs.map Dat.bl).all Atom = true := by
  rw [List.all_map, List.all_eq_true]
  intro _ _
  rfl
end
end Bg

namespace My
open PySem L2 Bg
def topS (i : Nat) : Stmt := PySem.Challenge.pw_everafter_k04_what_it_means.main.body.getD i (.Pass ⟨0, 0, 0, 0⟩)
/-- a def that may be called -/
structure Cal (P : Program) (w : World) (K : PySem.W.Frag) (mg : Str → Option Value) (base : Heap) (x : Str) (k : Nat) (ps : List Str) (sp : Sp) (f : Addr) (fd : FuncData) : Prop where
  g : mg x = some (.ref f)
  kp : PySem.W.keepIn K (.ref f) = true
  b : Binds K fd ps []
  ok : FnOk P w K mg base CX0 k f fd ps sp
/-- a def that may be called and may raise -/
structure CalX (P : Program) (w : World) (K : PySem.W.Frag) (mg : Str → Option Value) (base : Heap) (CX : CXT) (x : Str) (k : Nat) (ps : List Str) (sp : Sp) (f : Addr) (fd : FuncData) : Prop where
  g : mg x = some (.ref f)
  kp : PySem.W.keepIn K (.ref f) = true
  b : Binds K fd ps []
  ok : FnOk P w K mg base CX k f fd ps sp
/-- a class that may be made, a method that may be called -/
structure CalI (P : Program) (w : World) (K : PySem.W.Frag) (mg : Str → Option Value) (base : Heap) (C : Addr) (k : Nat) (ps : List Str) (sp : Sp) (f : Addr) (fd : FuncData) : Prop where
  mkc : Mk K C f
  b : Binds K fd ps []
  ok : FnOk P w K mg base CX0 k f fd ps sp
structure CalIX (P : Program) (w : World) (K : PySem.W.Frag) (mg : Str → Option Value) (base : Heap) (CX : CXT) (C : Addr) (k : Nat) (ps : List Str) (sp : Sp) (f : Addr) (fd : FuncData) : Prop where
  mkc : Mk K C f
  b : Binds K fd ps []
  ok : FnOk P w K mg base CX k f fd ps sp
structure CalM (P : Program) (w : World) (K : PySem.W.Frag) (mg : Str → Option Value) (base : Heap) (C : Addr) (x : Str) (k : Nat) (ps : List Str) (sp : Sp) (f : Addr) (fd : FuncData) : Prop where
  m : Meth K C x f
  b : Binds K fd ps []
  ok : FnOk P w K mg base CX0 k f fd ps sp
theorem init_len {K : PySem.W.Frag} {C : Addr} {R : List Dat → List Str → List Dat → Prop} {n : Nat} (h : ∀ es ns ds, R es ns ds → es.length = n) : ∀ vs H Q E, spInit K C R vs H Q E → vs.length = n + 1 := by
  rintro vs H Q E ⟨G, H0, x, dx, vs', es, ns, ds, r, rfl, _, _, _, _, _, ra, _⟩
  rw [List.length_cons, ra.length, h _ _ _ r]
theorem cxK {CX : CXT} {P : Program} {w : World} {K : PySem.W.Frag} {mg : Str → Option Value} {base : Heap} {N : List Str} {q : Str} {sc : Scope} {f : Addr} {c : Value} {A : Around} {outer : List Env} {s : Shared} {H : Hp} {E : XK} : (cxOf CX P w K mg base N q sc f c A outer s H E).K = K := rfl
theorem wipeS_one {ρ : List Sl} {v : Nat} : wipeS ρ [v] = ρ.set v .no := rfl
theorem unit5 {k : Nat} {A : Around} (r : Room k A) : A.units + 65 < cLine := by
  have := r.un
  omega
theorem kcls {K : PySem.W.Frag} {t : Value} {C : Addr} {b : Bool} (i : PySem.W.isClsIn K C = true) (ty : PySem.W.typeIn K (.ref C) = some (.type "type")) (s : PySem.W.subIn K t (.ref C) = some b) : PySem.W.kitCls K t (.ref C) = some b := by
  show (if ((PySem.W.clsIn K C).isSome && PySem.W.typeIn K (.ref C) == some (.type "type")) = true then PySem.W.subIn K t (.ref C) else none) = some b
  rw [show (PySem.W.clsIn K C).isSome = true from i, ty]
  simpa using s
theorem kexm {K : PySem.W.Frag} {A B : Addr} (b : PySem.W.subIn K (.ref B) (.type "BaseException") = some true) (i : PySem.W.isClsIn K B = true) (ty : PySem.W.typeIn K (.ref B) = some (.type "type")) (s : PySem.W.subIn K (.ref A) (.ref B) = some true) : PySem.W.exmOne K (.ref A) (.ref B) = some true := by
  unfold PySem.W.exmOne
  rw [b]
  simpa using kcls i ty s
theorem kone_ty {K : PySem.W.Frag} {t : Addr} {T : String} {b : Bool} (m : PySem.W.kitMeta T = true) (s : PySem.W.subIn K (.ref t) (.type T) = some b) : PySem.W.kitOne K (.ref t) (.type T) = some b := by
  unfold PySem.W.kitOne
  rw [if_neg (by simp)]
  show (if PySem.W.kitMeta T = true then PySem.W.subIn K (.ref t) (.type T) else none) = some b
  rw [m]
  simpa using s
theorem kone_ref {K : PySem.W.Frag} {t C : Addr} {b : Bool} (ne : t ≠ C) (i : PySem.W.isClsIn K C = true) (ty : PySem.W.typeIn K (.ref C) = some (.type "type")) (s : PySem.W.subIn K (.ref t) (.ref C) = some b) : PySem.W.kitOne K (.ref t) (.ref C) = some b := by
  unfold PySem.W.kitOne
  rw [if_neg (by simpa using ne)]
  exact kcls i ty s
theorem kany_nil {K : PySem.W.Frag} {t : Value} : PySem.W.kitAny K t (([] : List Addr).map Value.ref) = some false := PySem.W.kitAny.eq_1 K t
theorem kany_cons {K : PySem.W.Frag} {t : Value} {A : Addr} {As : List Addr} (h : PySem.W.kitOne K t (.ref A) = some false) (k : PySem.W.kitAny K t (As.map Value.ref) = some false) : PySem.W.kitAny K t ((A :: As).map Value.ref) = some false := by
  rw [List.map_cons, PySem.W.kitAny.eq_2, h]
  exact k
/-! ### the steps of a body, by their shape -/
local macro_rules | `(tactic| walk_at "side") => `(tactic| ((try dsimp only); first | exact rfl | exact ⟨by decide, by decide⟩ | exact Or.inl ⟨by decide, by decide⟩ | exact Or.inr ⟨by decide, by decide⟩ | omega | decide | (simp only [List.length_append, List.length_map, List.length_cons, List.length_nil, List.length_range]; omega) | skip))
local macro_rules | `(tactic| walk_at "ev") => `(tactic| first
  | with_reducible exact ev_int
  | with_reducible exact ev_str
  | with_reducible exact ev_bl
  | with_reducible exact ev_non
  | with_reducible exact ev_ty
  | ((with_reducible refine' ev_var ?hv); (case' hv => exact rfl))
  | ((with_reducible refine' ev_i0 ?q1ha ?q1hb); (case' q1ha => walk_at "ev"); (case' q1hb => walk_at "ev"))
  | ((with_reducible refine' ev_b0 ?q2ha ?q2hb); (case' q2ha => walk_at "ev"); (case' q2hb => walk_at "ev"))
  | ((with_reducible refine' ev_i ?q3ha ?q3hb ?q3hc); (case' q3ha => walk_at "ev"); (case' q3hb => walk_at "ev"); (case' q3hc => walk_at "side"))
  | ((with_reducible refine' ev_neg ?q4ha); (case' q4ha => walk_at "ev"))
  | ((with_reducible refine' ev_eq ?q5ha ?q5hb ?q5h1 ?q5h2); (case' q5ha => walk_at "ev"); (case' q5hb => walk_at "ev"); (case' q5h1 => walk_at "shp"); (case' q5h2 => walk_at "shp"))
  | ((with_reducible refine' ev_ne ?q6ha ?q6hb ?q6h1 ?q6h2); (case' q6ha => walk_at "ev"); (case' q6hb => walk_at "ev"); (case' q6h1 => walk_at "shp"); (case' q6h2 => walk_at "shp"))
  | ((with_reducible refine' ev_ixL ?q7ha ?q7hb ?q7hl ?q7hj); (case' q7ha => walk_at "el"); (case' q7hb => walk_at "ev"); (case' q7hl => exact rfl); (case' q7hj => walk_at "side"))
  | ((with_reducible refine' ev_ixT ?q8ha ?q8hb ?q8hj); (case' q8ha => walk_at "ev"); (case' q8hb => walk_at "ev"); (case' q8hj => walk_at "side"))
  | ((with_reducible refine' ev_ixS ?q9ha ?q9hb ?q9hz ?q9hj); (case' q9ha => walk_at "ev"); (case' q9hb => walk_at "ev"); (case' q9hz => walk_at "side"); (case' q9hj => walk_at "side"))
  | ((with_reducible refine' ev_lenL ?q10hr ?q10ha ?q10hl); (case' q10hr => exact rfl); (case' q10ha => walk_at "el"); (case' q10hl => exact rfl))
  | ((with_reducible refine' ev_lstA ?q11ha ?q11hd ?q11hl); (case' q11ha => walk_at "ead"); (case' q11hd => exact rfl); (case' q11hl => walk_at "side"))
  | ((with_reducible refine' ev_tupA ?q12ha ?q12hd ?q12hl); (case' q12ha => walk_at "ead"); (case' q12hd => exact rfl); (case' q12hl => walk_at "side"))
  | ((with_reducible refine' ev_cat ?q13ha ?q13hb ?q13la ?q13lb ?q13hl); (case' q13ha => walk_at "el"); (case' q13hb => walk_at "el"); (case' q13la => exact rfl); (case' q13lb => exact rfl); (case' q13hl => walk_at "side"))
  | ((with_reducible refine' ev_slL ?q14ha ?q14hb ?q14hc ?q14hl); (case' q14ha => walk_at "el"); (case' q14hb => walk_at "eo"); (case' q14hc => walk_at "eo"); (case' q14hl => exact rfl))
  | ((with_reducible refine' ev_slS ?q15ha ?q15hb ?q15hc ?q15hl); (case' q15ha => walk_at "ev"); (case' q15hb => walk_at "eo"); (case' q15hc => walk_at "eo"); (case' q15hl => walk_at "side"))
  | ((with_reducible refine' ev_cats ?q16hr ?q16ha ?q16hb ?q16hl); (case' q16hr => exact rfl); (case' q16ha => walk_at "ev"); (case' q16hb => walk_at "ev"); (case' q16hl => walk_at "side"))
  | ((with_reducible refine' ev_list ?q17hr ?q17ha ?q17hl); (case' q17hr => exact rfl); (case' q17ha => walk_at "el"); (case' q17hl => exact rfl))
  | ((with_reducible refine' ev_isi ?q18ha ?q18hb ?q18hc); (case' q18ha => walk_at "ev"); (case' q18hb => walk_at "side"); (case' q18hc => walk_at "side"))
  | ((with_reducible refine' ev_not ?q19ha); (case' q19ha => walk_at "ev"))
  | ((with_reducible refine' ev_callA ?q20ha ?q20hd ?q20hR); (case' q20ha => walk_at "ead"); (case' q20hd => exact rfl); (case' q20hR => simp only [List.map_cons, List.map_nil]))
  | walk_at "draw"
  | ((with_reducible refine' ev_give ?hv); (case' hv => exact rfl))
  | ((with_reducible refine' ev_ty1 ?q60a ?q60b); (case' q60a => walk_at "ev"); (case' q60b => walk_at "tyn"))
  | ((with_reducible refine' ev_lenS ?q61a ?q61b ?q61c); (case' q61a => exact rfl); (case' q61b => walk_at "ev"); (case' q61c => walk_at "side"))
  | ((with_reducible refine' ev_lenSet ?q62a ?q62b ?q62c); (case' q62a => walk_at "el"); (case' q62b => exact rfl); (case' q62c => walk_at "side"))
  | ((with_reducible refine' ev_chain ?q63a ?q63b ?q63c ?q63d ?q63e); (case' q63a => walk_at "ev"); (case' q63b => walk_at "ev"); (case' q63c => walk_at "rv"); (case' q63d => (intro _; walk_at "ev")); (case' q63e => (intro _; walk_at "rv")))
  | ((with_reducible refine' ev_all ?q64a ?q64b); (case' q64a => walk_at "el"); (case' q64b => (try exact rfl)))
  | ((with_reducible refine' ev_rep ?q66a ?q66b ?q66c ?q66d ?q66e ?q66f); (case' q66a => walk_at "el"); (case' q66b => walk_at "ev"); (case' q66c => exact rfl); (case' q66d => walk_at "side"); (case' q66e => walk_at "side"); (case' q66f => walk_at "side"))
  | ((with_reducible refine' ev_tupleL ?q67a ?q67b ?q67c); (case' q67a => exact rfl); (case' q67b => walk_at "el"); (case' q67c => exact rfl))
  | with_reducible exact ev_emp
  | ((with_reducible refine' ev_op ?q65a ?q65b ?q65c); (case' q65a => walk_at "ev"); (case' q65b => walk_at "ev"); (case' q65c => walk_at "rv"))
  | skip)
local macro_rules | `(tactic| walk_at "rv") => `(tactic| first | exact rv_isnt | exact rv_isTy rfl | exact rv_leS rfl | exact rv_I0 (fun _ => .bl _) | skip)
local macro_rules | `(tactic| walk_at "tyn") => `(tactic| first | exact rfl | assumption | skip)
local macro_rules | `(tactic| walk_at "el") => `(tactic| first
  | ((with_reducible refine' el_s ?hs); (case' hs => exact ⟨_, rfl, rfl⟩))
  | ((with_reducible refine' el_d ?q21ha); (case' q21ha => walk_at "ev")))
local macro_rules | `(tactic| walk_at "eo") => `(tactic| first
  | with_reducible exact eo_no
  | ((with_reducible refine' eo_some ?q22ha); (case' q22ha => walk_at "ev")))
local macro_rules | `(tactic| walk_at "ea") => `(tactic| first
  | with_reducible exact ea_nil
  | ((with_reducible refine' ea_s ?q23hs ?q23hb); (case' q23hs => exact ⟨_, rfl, rfl⟩); (case' q23hb => walk_at "ea"))
  | ((with_reducible refine' ea_d ?q24ha ?q24hb); (case' q24ha => walk_at "ev"); (case' q24hb => walk_at "ea")))
local macro_rules | `(tactic| walk_at "ead") => `(tactic| first
  | with_reducible exact ea_nil
  | ((with_reducible refine' ea_d ?q54ha ?q54hb); (case' q54ha => walk_at "ev"); (case' q54hb => walk_at "ead")))
local macro_rules | `(tactic| walk_at "et") => `(tactic| first
  | ((with_reducible refine' et_not ?q25ha); (case' q25ha => walk_at "et"))
  | ((with_reducible refine' et_test ?q26ha); (case' q26ha => walk_at "ev"))
  | ((with_reducible refine' et_B ?q27ha); (case' q27ha => walk_at "ev"))
  | ((with_reducible refine' et_and ?q28ha ?q28hb); (case' q28ha => walk_at "et"); (case' q28hb => (intro _; walk_at "et")))
  | ((with_reducible refine' et_or ?q29ha ?q29hb); (case' q29ha => walk_at "et"); (case' q29hb => (intro _; walk_at "et")))
  | with_reducible exact et_yes)
local macro_rules | `(tactic| walk_at "shp") => `(tactic| first | (simp only [Shp]; done) | skip)
local macro_rules | `(tactic| walk_at "set") => `(tactic| ((with_reducible refine' ex_seq (ex_set ?ha ?hi) ?hb); (case' ha => walk_at "ev"); (case' hi => exact rfl)))
local macro_rules | `(tactic| walk_at "setF") => `(tactic| ((with_reducible refine' ex_seq (ex_setF ?ha ?hi) ?hb); (case' ha => walk_at "ef"); (case' hi => exact rfl)))
local macro_rules | `(tactic| walk_at "ef") => `(tactic| first
  | ((with_reducible refine' ef_lstA ?q32ha ?q32hd ?q32hl); (case' q32ha => walk_at "ead"); (case' q32hd => exact rfl); (case' q32hl => walk_at "side"))
  | ((with_reducible refine' ef_cat ?q33ha ?q33hb ?q33la ?q33lb ?q33hl); (case' q33ha => walk_at "el"); (case' q33hb => walk_at "el"); (case' q33la => exact rfl); (case' q33lb => exact rfl); (case' q33hl => walk_at "side"))
  | ((with_reducible refine' ef_list ?q34hr ?q34ha ?q34hl); (case' q34hr => exact rfl); (case' q34ha => walk_at "el"); (case' q34hl => exact rfl))
  | ((with_reducible refine' ef_slL ?q35ha ?q35hb ?q35hc ?q35hl); (case' q35ha => walk_at "el"); (case' q35hb => walk_at "eo"); (case' q35hc => walk_at "eo"); (case' q35hl => exact rfl)))
local macro_rules | `(tactic| walk_at "le") => `(tactic| first | exact Le.nil | ((refine' Le.no ?_); (walk_at "le")) | (refine' Le.eq ?_; walk_at "le"))
local macro_rules | `(tactic| walk_at "fin") => `(tactic| first | exact FinOk.nil | ((refine' FinOk.no ?_); (walk_at "fin")) | (refine' FinOk.par ?_; walk_at "fin"))
local macro_rules | `(tactic| walk_at "body") => `(tactic| (refine ⟨by walk_at "fin", ?_⟩; simp only [List.length_cons, List.length_nil, Nat.reduceAdd, Nat.reduceSub, List.replicate, List.cons_append, List.nil_append, cxK]))
local macro_rules | `(tactic| walk_at "bodyF") => `(tactic| simp only [List.map_cons, List.map_nil, List.length_cons, List.length_nil, Nat.reduceAdd, Nat.reduceSub, List.replicate, List.cons_append, List.nil_append, cxK])
local macro_rules | `(tactic| walk_at "ret") => `(tactic| ((with_reducible refine' ex_retW ?ha ?he ?hl); (case' ha => walk_at "ev"); (case' hl => walk_at "le"); (case' he => (try exact rfl))))
local macro_rules | `(tactic| walk_at "ifl") => `(tactic| ((with_reducible refine' ex_ifL ?ht ?h1 ?h2 ?hn); (case' ht => walk_at "et"); (case' hn => exact rfl)))
local macro_rules | `(tactic| walk_at "nrm") => `(tactic| try simp only [wipeS_one, List.set_cons_zero, List.set_cons_succ, Sl.put])
local macro_rules | `(tactic| walk_at "app") => `(tactic| ((with_reducible refine' ex_append ?q50a ?q50b ?q50c ?q50d ?q50e); (case' q50a => walk_at "ev"); (case' q50b => exact ⟨_, rfl, rfl⟩); (case' q50c => exact rfl); (case' q50d => exact rfl); (case' q50e => walk_at "side")))
local macro_rules | `(tactic| walk_at "draw") => `(tactic| ((with_reducible refine' ev_call1 (k := 1) ?q51a ?q51b ?q51c ?q51d ?q51e ?q51f ?q51g); (case' q51a => walk_at "ea"); (case' q51b => exact ⟨rfl, rfl⟩); (case' q51c => exact rfl); (case' q51d => exact ⟨_, _, rfl, rfl, rfl⟩); (case' q51e => exact rfl); (case' q51f => exact rfl); (case' q51g => exact rfl)))
local macro_rules | `(tactic| walk_at "appS") => `(tactic| ((with_reducible refine' ex_seq ?q52a ?q52b); (case' q52a => walk_at "app")))
local macro_rules | `(tactic| walk_at "wk") => `(tactic| (refine' Ex.weak ?q53a ?q53b))

/-! ### plain facts -/
theorem at_map {α : Type} {f : α → Dat} {xs : List α} {k : Nat} {x : α} (h : xs[k]? = some x) : atI (xs.map f) (k : Int) = some (f x) := atI_nat (by rw [List.getElem?_map, h]; rfl)
theorem at_ints {ns : List Int} {k : Nat} (h : k < ns.length) : atI (ns.map Dat.int) (k : Int) = some (.int (ns.getD k 0)) :=
  at_map (by rw [List.getD_eq_getElem?_getD, List.getElem?_eq_getElem h]; rfl)
theorem at_of_eq {ds : List Dat} {i j : Int} {d : Dat} (e : i = j) (h : atI ds j = some d) : atI ds i = some d := e ▸ h
theorem cps_append (x y : Str) : (x ++ y).cps.toList = x.cps.toList ++ y.cps.toList := by
  show (x.cps ++ y.cps).toList = _
  simp
theorem len_cps (x : Str) : x.length = x.cps.toList.length := by simp [Str.length]
theorem tyn_str {d : Dat} (h : d.tyn = some "str") : ∃ x, d = .str x := by
  cases d <;> first | exact ⟨_, rfl⟩ | (simp [Dat.tyn] at h)
theorem tyn_list {d : Dat} (h : d.tyn = some "list") : ∃ x, d = .lst x := by
  cases d <;> first | exact ⟨_, rfl⟩ | (simp [Dat.tyn] at h)
theorem tyn_int {d : Dat} (h : d.tyn = some "int") : ∃ x, d = .int x := by
  cases d <;> first | exact ⟨_, rfl⟩ | (simp [Dat.tyn] at h)
theorem at_mod {ds : List Dat} {x n : Int} (h : 0 < n) (hl : (ds.length : Int) = n) : atI ds (x % n) = some (ds.getD (x % n).toNat .non) := by
  have h1 : 0 ≤ x % n := Int.emod_nonneg _ (by omega)
  have h2 : x % n < n := Int.emod_lt_of_pos _ h
  generalize x % n = j at *
  obtain ⟨k, rfl⟩ := Int.eq_ofNat_of_zero_le h1
  have hk : k < ds.length := by omega
  exact atI_nat (by rw [Int.toNat_natCast, List.getD_eq_getElem?_getD, List.getElem?_eq_getElem hk]; rfl)
theorem sIx_neg1 (n d : Nat) : HT.sIx n d (some (-1)) = n - 1 := by
  simp only [HT.sIx]
  rw [if_pos (by decide)]
  omega
theorem sIx_nat (n d : Nat) (a : Nat) : HT.sIx n d (some (a : Int)) = min a n := by
  simp only [HT.sIx]
  rw [if_neg (by omega)]
  omega
theorem cutD_last (xs : List Dat) : cutD xs none (some (-1)) = xs.dropLast := by
  unfold cutD
  rw [sIx_neg1, List.dropLast_eq_take]
  simp [HT.sIx]
theorem cutD_to (xs : List Dat) (a : Nat) : cutD xs none (some (a : Int)) = xs.take a := by
  unfold cutD
  rw [sIx_nat]
  show (List.drop 0 xs).take (min a xs.length - 0) = _
  rw [List.drop_zero, Nat.sub_zero, ← List.take_take, List.take_length]
theorem cutD_fromLast (xs : List Dat) (a : Nat) (h : a < xs.length) : cutD xs (some (a : Int)) (some (-1)) = xs.dropLast.drop a := by
  unfold cutD
  rw [sIx_neg1, sIx_nat, Nat.min_eq_left (by omega), List.dropLast_eq_take, List.drop_take]
theorem cutD_from (xs : List Dat) (a : Nat) : cutD xs (some (a : Int)) none = xs.drop a := by
  unfold cutD
  have e : HT.sIx xs.length 0 (some (a : Int)) = min a xs.length := by
    simp only [HT.sIx]
    rw [if_neg (by omega)]
    omega
  rw [e]
  show (List.drop (min a xs.length) xs).take (xs.length - min a xs.length) = _
  by_cases h : a ≤ xs.length
  · rw [Nat.min_eq_left h, List.take_of_length_le (by rw [List.length_drop]; exact Nat.le_refl _)]
  · rw [Nat.min_eq_right (by omega), List.drop_length, List.drop_eq_nil_of_le (by omega), List.take_nil]

structure Tx (K : PySem.W.Frag) (mg : Str → Option Value) : Prop where
  b_any : mg "any" = none
  b_bool : mg "bool" = none
  b_isinstance : mg "isinstance" = none
  b_len : mg "len" = none
  b_list : mg "list" = none
  b_range : mg "range" = none
  b_zip : mg "zip" = none
section
variable {P : Program} {w : World} {K : PySem.W.Frag} {mg : Str → Option Value} {base : Heap}
def okCode (c : Nat) : Bool := decide (97 ≤ c) && decide (c ≤ 122)
def isMark : Dat → Bool
  | .str x => decide (x.length ≤ 6) && x.cps.toList.all okCode
  | _ => false
theorem mark_ok {x : Str} (h : isMark (.str x) = true) : x.length ≤ 6 ∧ PyData.strOk x = true := by
  have h : (decide (x.length ≤ 6) && x.cps.toList.all okCode) = true := h
  rw [Bool.and_eq_true, decide_eq_true_eq] at h
  refine ⟨h.1, ?_⟩
  unfold PyData.strOk
  rw [← Array.all_toList, List.all_eq_true]
  intro c hc
  have := List.all_eq_true.mp h.2 c hc
  unfold okCode at this
  rw [Bool.and_eq_true, decide_eq_true_eq, decide_eq_true_eq] at this
  exact decide_eq_true (by omega)
def okLet (x : Str) : Bool := x.cps.toList.all okCode
theorem okLet_cut {z : Str} {lo hi : Option Int} (h : okLet z = true) : okLet (cutS z lo hi) = true := by
  unfold okLet at *
  rw [List.all_eq_true] at *
  intro c hc
  refine h c ?_
  have hc : c ∈ (List.take _ (List.drop _ z.cps.toList)) := hc
  exact List.mem_of_mem_drop (List.mem_of_mem_take hc)
theorem okLet_app {x y : Str} (h : okLet x = true) (k : okLet y = true) : okLet (x ++ y) = true := by
  unfold okLet at *
  rw [cps_append, List.all_append, h, k]
  rfl
theorem okCode_26 (i : Int) : okCode (97 + (i % 26).toNat) = true := by
  have h1 : 0 ≤ i % 26 := Int.emod_nonneg _ (by decide)
  have h2 : i % 26 < 26 := Int.emod_lt_of_pos _ (by decide)
  unfold okCode
  rw [Bool.and_eq_true, decide_eq_true_eq, decide_eq_true_eq]
  omega
theorem isMark_of {x : Str} (h : x.length ≤ 6) (k : okLet x = true) : isMark (.str x) = true := by
  show (decide (x.length ≤ 6) && x.cps.toList.all okCode) = true
  rw [decide_eq_true h]
  exact k
inductive Say where
  | mark (m : Str) | yes | not (s : Say) | and (s t : Say) | or (s t : Say) | next (s : Say) | till (s t : Say) | always (s : Say) | again (s : Say)
  deriving DecidableEq
def Say.d : Say → Dat
  | .mark m => .tup [.str "mark", .str m]
  | .yes => .tup [.str "yes"]
  | .not s => .tup [.str "not", s.d]
  | .and s t => .tup [.str "and", s.d, t.d]
  | .or s t => .tup [.str "or", s.d, t.d]
  | .next s => .tup [.str "next", s.d]
  | .till s t => .tup [.str "till", s.d, t.d]
  | .always s => .tup [.str "always", s.d]
  | .again s => .tup [.str "again", s.d]
def Say.dep : Say → Nat
  | .mark _ => 1
  | .yes => 1
  | .not s => s.dep + 1
  | .and s t => max s.dep t.dep + 1
  | .or s t => max s.dep t.dep + 1
  | .next s => s.dep + 1
  | .till s t => max s.dep t.dep + 1
  | .always s => s.dep + 1
  | .again s => s.dep + 1
def markOk (m : Str) : Prop := isMark (.str m) = true ∧ m ≠ ""
def Say.Ok : Say → Prop
  | .mark m => markOk m
  | .yes => True
  | .not s => s.Ok
  | .and s t => s.Ok ∧ t.Ok
  | .or s t => s.Ok ∧ t.Ok
  | .next s => s.Ok
  | .till s t => s.Ok ∧ t.Ok
  | .always s => s.Ok
  | .again s => s.Ok
theorem dep_pos (s : Say) : 1 ≤ s.dep := by cases s <;> simp only [Say.dep] <;> omega
theorem shp_lit {n : Nat} (x : Str) (h : PyData.strOk x = true) : Shp n (.str x) := by simpa only [Shp] using h
theorem shp_tupl {n : Nat} {ds : List Dat} (h : ∀ d ∈ ds, Shp n d) : Shp (n + 1) (.tup ds) := by
  rw [shp_tup]
  exact shpAll_of h
theorem say_shp : ∀ (s : Say), s.Ok → Shp (s.dep + 1) s.d
  | .mark m, h => shp_tupl fun d hd => by
    simp only [List.mem_cons, List.not_mem_nil, or_false] at hd
    rcases hd with rfl | rfl
    · exact shp_lit _ (by decide +kernel)
    · exact shp_lit _ (mark_ok h.1).2
  | .yes, _ => shp_tupl fun d hd => by
    simp only [List.mem_cons, List.not_mem_nil, or_false] at hd
    subst hd
    exact shp_lit _ (by decide +kernel)
  | .not s, h => shp_tupl fun d hd => by
    simp only [List.mem_cons, List.not_mem_nil, or_false] at hd
    rcases hd with rfl | rfl
    · exact shp_lit _ (by decide +kernel)
    · exact say_shp s h
  | .next s, h => shp_tupl fun d hd => by
    simp only [List.mem_cons, List.not_mem_nil, or_false] at hd
    rcases hd with rfl | rfl
    · exact shp_lit _ (by decide +kernel)
    · exact say_shp s h
  | .always s, h => shp_tupl fun d hd => by
    simp only [List.mem_cons, List.not_mem_nil, or_false] at hd
    rcases hd with rfl | rfl
    · exact shp_lit _ (by decide +kernel)
    · exact say_shp s h
  | .again s, h => shp_tupl fun d hd => by
    simp only [List.mem_cons, List.not_mem_nil, or_false] at hd
    rcases hd with rfl | rfl
    · exact shp_lit _ (by decide +kernel)
    · exact say_shp s h
  | .and s t, h => shp_tupl fun d hd => by
    simp only [List.mem_cons, List.not_mem_nil, or_false] at hd
    have e : (Say.and s t).dep = max s.dep t.dep + 1 := rfl
    rcases hd with rfl | rfl | rfl
    · exact shp_lit _ (by decide +kernel)
    · exact shp_le (say_shp s h.1) (by omega)
    · exact shp_le (say_shp t h.2) (by omega)
  | .or s t, h => shp_tupl fun d hd => by
    simp only [List.mem_cons, List.not_mem_nil, or_false] at hd
    have e : (Say.or s t).dep = max s.dep t.dep + 1 := rfl
    rcases hd with rfl | rfl | rfl
    · exact shp_lit _ (by decide +kernel)
    · exact shp_le (say_shp s h.1) (by omega)
    · exact shp_le (say_shp t h.2) (by omega)
  | .till s t, h => shp_tupl fun d hd => by
    simp only [List.mem_cons, List.not_mem_nil, or_false] at hd
    have e : (Say.till s t).dep = max s.dep t.dep + 1 := rfl
    rcases hd with rfl | rfl | rfl
    · exact shp_lit _ (by decide +kernel)
    · exact shp_le (say_shp s h.1) (by omega)
    · exact shp_le (say_shp t h.2) (by omega)
/-! what a saying means of an endless run -/
def Hold (w : Nat → Str) : Say → Nat → Prop
  | .mark m, t => w t = m
  | .yes, _ => True
  | .not s, t => ¬ Hold w s t
  | .and s u, t => Hold w s t ∧ Hold w u t
  | .or s u, t => Hold w s t ∨ Hold w u t
  | .next s, t => Hold w s (t + 1)
  | .till s u, t => ∃ n, Hold w u (t + n) ∧ ∀ m, m < n → Hold w s (t + m)
  | .always s, t => ∀ n, Hold w s (t + n)
  | .again s, t => ∀ n, ∃ k, Hold w s (t + n + k)
noncomputable def hb (w : Nat → Str) (s : Say) (t : Nat) : Bool := @decide (Hold w s t) (Classical.propDecidable _)
theorem hb_eq {w : Nat → Str} {s : Say} {t : Nat} : hb w s t = true ↔ Hold w s t := by
  unfold hb
  exact @decide_eq_true_iff _ (Classical.propDecidable _)
theorem hb_ne {w : Nat → Str} {s : Say} {t : Nat} : hb w s t = false ↔ ¬ Hold w s t := by
  unfold hb
  exact @decide_eq_false_iff_not _ (Classical.propDecidable _)
theorem bool_iff {a b : Bool} (h : a = true ↔ b = true) : a = b := by
  cases a <;> cases b <;> simp_all
/-- what comes behind is all that counts -/
theorem hold_shift {w w' : Nat → Str} {a b : Nat} (h : ∀ n, w (a + n) = w' (b + n)) : ∀ (s : Say) (n : Nat), Hold w s (a + n) ↔ Hold w' s (b + n)
  | .mark m, n => by show w (a + n) = m ↔ w' (b + n) = m; rw [h n]
  | .yes, n => Iff.rfl
  | .not s, n => not_congr (hold_shift h s n)
  | .and s u, n => and_congr (hold_shift h s n) (hold_shift h u n)
  | .or s u, n => or_congr (hold_shift h s n) (hold_shift h u n)
  | .next s, n => hold_shift h s (n + 1)
  | .till s u, n => by
    show (∃ k, Hold w u (a + n + k) ∧ ∀ m, m < k → Hold w s (a + n + m)) ↔ ∃ k, Hold w' u (b + n + k) ∧ ∀ m, m < k → Hold w' s (b + n + m)
    refine exists_congr fun k => and_congr ?_ (forall_congr' fun m => imp_congr Iff.rfl ?_)
    · rw [Nat.add_assoc, Nat.add_assoc]; exact hold_shift h u (n + k)
    · rw [Nat.add_assoc, Nat.add_assoc]; exact hold_shift h s (n + m)
  | .always s, n => by
    show (∀ k, Hold w s (a + n + k)) ↔ ∀ k, Hold w' s (b + n + k)
    refine forall_congr' fun k => ?_
    rw [Nat.add_assoc, Nat.add_assoc]; exact hold_shift h s (n + k)
  | .again s, n => by
    show (∀ k, ∃ j, Hold w s (a + n + k + j)) ↔ ∀ k, ∃ j, Hold w' s (b + n + k + j)
    refine forall_congr' fun k => exists_congr fun j => ?_
    rw [Nat.add_assoc, Nat.add_assoc, Nat.add_assoc, Nat.add_assoc]; exact hold_shift h s (n + (k + j))
/-- the marks of an endless run -/
def wd (way ring : List Str) (t : Nat) : Str := if t < way.length then way.getD t "" else ring.getD ((t - way.length) % ring.length) ""
theorem wd_per (way ring : List Str) (n : Nat) : wd way ring (way.length + n) = wd way ring (way.length + ring.length + n) := by
  unfold wd
  rw [if_neg (by omega), if_neg (by omega)]
  have e1 : way.length + n - way.length = n := by omega
  have e2 : way.length + ring.length + n - way.length = n + ring.length := by omega
  rw [e1, e2, Nat.add_mod_right]
theorem wd_at (way ring : List Str) {t : Nat} (h : t < way.length + ring.length) : (way ++ ring)[t]? = some (wd way ring t) := by
  unfold wd
  by_cases h1 : t < way.length
  · rw [if_pos h1, List.getElem?_append_left h1, List.getD_eq_getElem?_getD, List.getElem?_eq_getElem h1]
    rfl
  · rw [if_neg h1, List.getElem?_append_right (by omega), Nat.mod_eq_of_lt (by omega), List.getD_eq_getElem?_getD, List.getElem?_eq_getElem (by omega)]
    rfl
theorem hold_per (way ring : List Str) (s : Say) (n : Nat) : Hold (wd way ring) s (way.length + n) ↔ Hold (wd way ring) s (way.length + ring.length + n) := hold_shift (wd_per way ring) s n
theorem hb_per (way ring : List Str) (s : Say) (n : Nat) : hb (wd way ring) s (way.length + ring.length + n) = hb (wd way ring) s (way.length + n) :=
  bool_iff (by rw [hb_eq, hb_eq]; exact (hold_per way ring s n).symm)
theorem hb_perk (way ring : List Str) (s : Say) (n : Nat) : ∀ k, hb (wd way ring) s (way.length + (n + k * ring.length)) = hb (wd way ring) s (way.length + n)
  | 0 => by rw [Nat.zero_mul, Nat.add_zero]
  | k + 1 => by
    have e : way.length + (n + (k + 1) * ring.length) = way.length + ring.length + (n + k * ring.length) := by
      rw [Nat.succ_mul]; omega
    rw [e, hb_per, hb_perk way ring s n k]
theorem hb_mod (way ring : List Str) (s : Say) (n : Nat) : hb (wd way ring) s (way.length + n) = hb (wd way ring) s (way.length + n % ring.length) := by
  have e : n = n % ring.length + (n / ring.length) * ring.length := by rw [Nat.mul_comm]; exact (Nat.mod_add_div n ring.length).symm
  conv => lhs; rw [e]
  exact hb_perk way ring s _ _
/-- the row of a saying: each moment of the way and of one round of the ring -/
noncomputable def rowB (s : Say) (way ring : List Str) : List Bool := (List.range (way.length + ring.length)).map (hb (wd way ring) s)
theorem rowB_len (s : Say) (way ring : List Str) : (rowB s way ring).length = way.length + ring.length := by unfold rowB; rw [List.length_map, List.length_range]
theorem rowB_get (s : Say) (way ring : List Str) {t : Nat} (h : t < way.length + ring.length) : (rowB s way ring)[t]? = some (hb (wd way ring) s t) := by
  unfold rowB
  rw [List.getElem?_map, List.getElem?_range h]
  rfl
def intsN (ks : List Nat) : Dat := .lst (ks.map fun k => .int ((k : Nat) : Int))
def bls (bs : List Bool) : List Dat := bs.map Dat.bl
theorem row_ext {s : Say} {way ring : List Str} {bs : List Bool} (hl : bs.length = way.length + ring.length) (h : ∀ t, t < way.length + ring.length → bs[t]? = some (hb (wd way ring) s t)) : bs = rowB s way ring := by
  refine List.ext_getElem? fun i => ?_
  by_cases hi : i < way.length + ring.length
  · rw [h i hi, rowB_get s way ring hi]
  · rw [List.getElem?_eq_none (by omega), List.getElem?_eq_none (by rw [rowB_len]; omega)]
theorem row_not (s : Say) (way ring : List Str) : (rowB s way ring).map (fun b => !b) = rowB (.not s) way ring := by
  unfold rowB
  rw [List.map_map]
  refine List.map_congr_left fun t _ => bool_iff ?_
  show (!hb _ s t) = true ↔ _
  rw [hb_eq, Bool.not_eq_true', hb_ne]
  rfl
theorem row_and (s u : Say) (way ring : List Str) : List.zipWith (fun a b => a && b) (rowB s way ring) (rowB u way ring) = rowB (.and s u) way ring := by
  unfold rowB
  rw [List.zipWith_map, List.zipWith_self]
  refine List.map_congr_left fun t _ => bool_iff ?_
  rw [hb_eq, Bool.and_eq_true, hb_eq, hb_eq]
  rfl
theorem row_or (s u : Say) (way ring : List Str) : List.zipWith (fun a b => a || b) (rowB s way ring) (rowB u way ring) = rowB (.or s u) way ring := by
  unfold rowB
  rw [List.zipWith_map, List.zipWith_self]
  refine List.map_congr_left fun t _ => bool_iff ?_
  rw [hb_eq, Bool.or_eq_true, hb_eq, hb_eq]
  rfl
theorem row_yes (way ring : List Str) : List.replicate (way.length + ring.length) true = rowB .yes way ring := by
  refine row_ext (by rw [List.length_replicate]) fun t ht => ?_
  rw [List.getElem?_replicate, if_pos ht]
  exact congrArg some ((hb_eq (w := wd way ring) (s := .yes) (t := t)).mpr trivial).symm
theorem row_mark (m : Str) (way ring : List Str) : (way ++ ring).map (fun x => x == m) = rowB (.mark m) way ring := by
  refine row_ext (by rw [List.length_map, List.length_append]) fun t ht => ?_
  rw [List.getElem?_map, wd_at way ring ht]
  refine congrArg some (bool_iff ?_)
  rw [hb_eq, beq_iff_eq]
  rfl
/-- the moment behind t, of the way and one round of the ring -/
def nxt (way ring : List Str) (t : Nat) : Nat := if t + 1 < way.length + ring.length then t + 1 else way.length
theorem hb_nxt (way ring : List Str) (s : Say) {t : Nat} (h : t < way.length + ring.length) : hb (wd way ring) s (t + 1) = hb (wd way ring) s (nxt way ring t) := by
  unfold nxt
  by_cases h1 : t + 1 < way.length + ring.length
  · rw [if_pos h1]
  · rw [if_neg h1]
    have e : t + 1 = way.length + ring.length + 0 := by omega
    rw [e]
    exact hb_per way ring s 0
theorem row_next (s : Say) (way ring : List Str) (hr : 1 ≤ ring.length) : (rowB s way ring).drop 1 ++ [hb (wd way ring) s way.length] = rowB (.next s) way ring := by
  have hl := rowB_len s way ring
  refine row_ext (by rw [List.length_append, List.length_drop, hl, List.length_singleton]; omega) fun t ht => ?_
  have e : hb (wd way ring) (.next s) t = hb (wd way ring) s (t + 1) := bool_iff (by rw [hb_eq, hb_eq]; rfl)
  rw [e, hb_nxt way ring s ht]
  unfold nxt
  by_cases h1 : t + 1 < way.length + ring.length
  · rw [if_pos h1, List.getElem?_append_left (by rw [List.length_drop, hl]; omega), List.getElem?_drop, Nat.add_comm 1 t]
    exact rowB_get s way ring h1
  · rw [if_neg h1, List.getElem?_append_right (by rw [List.length_drop, hl]; omega), List.length_drop, hl]
    have e2 : t - (way.length + ring.length - 1) = 0 := by omega
    rw [e2]
    rfl
/-! till: from behind -/
def passF (a g : Nat → Bool) (ks : List Nat) (z : Bool) : Bool := ks.foldr (fun k later => g k || (a k && later)) z
theorem till_step (w : Nat → Str) (s u : Say) (t : Nat) : hb w (.till s u) t = (hb w u t || (hb w s t && hb w (.till s u) (t + 1))) := bool_iff (by
  rw [hb_eq, Bool.or_eq_true, Bool.and_eq_true, hb_eq, hb_eq, hb_eq]
  constructor
  · rintro ⟨n, h1, h2⟩
    cases n with
    | zero => exact .inl h1
    | succ n =>
      refine .inr ⟨h2 0 (by omega), n, ?_, fun m hm => ?_⟩
      · rw [show t + 1 + n = t + (n + 1) by omega]; exact h1
      · rw [show t + 1 + m = t + (m + 1) by omega]; exact h2 (m + 1) (by omega)
  · rintro (h | ⟨h, n, h1, h2⟩)
    · exact ⟨0, h, fun m hm => by omega⟩
    · refine ⟨n + 1, ?_, fun m hm => ?_⟩
      · rw [show t + (n + 1) = t + 1 + n by omega]; exact h1
      · cases m with
        | zero => exact h
        | succ m => rw [show t + (m + 1) = t + 1 + m by omega]; exact h2 m (by omega))
theorem till_pass (w : Nat → Str) (s u : Say) (t : Nat) : ∀ n, passF (hb w s) (hb w u) ((List.range n).map (t + ·)) (hb w (.till s u) (t + n)) = hb w (.till s u) t := by
  intro n
  induction n generalizing t with
  | zero => rfl
  | succ n ih =>
    rw [List.range_succ_eq_map, List.map_cons, List.map_map]
    show (hb w u (t + 0) || (hb w s (t + 0) && passF (hb w s) (hb w u) ((List.range n).map ((t + ·) ∘ Nat.succ)) (hb w (.till s u) (t + (n + 1))))) = _
    have e : (List.range n).map ((t + ·) ∘ Nat.succ) = (List.range n).map (t + 1 + ·) := List.map_congr_left fun k _ => by show t + (k + 1) = t + 1 + k; omega
    rw [e, show t + (n + 1) = t + 1 + n by omega, ih (t + 1), Nat.add_zero]
    exact (till_step w s u t).symm
theorem passF_mono (a g : Nat → Bool) : ∀ (ks : List Nat) (z : Bool), passF a g ks false = true → passF a g ks z = true
  | [], z, h => by cases h
  | k :: ks, z, h => by
    have h : (g k || (a k && passF a g ks false)) = true := h
    show (g k || (a k && passF a g ks z)) = true
    rw [Bool.or_eq_true, Bool.and_eq_true] at *
    rcases h with h | h
    · exact .inl h
    · exact .inr ⟨h.1, passF_mono a g ks z h.2⟩
theorem passF_hit (a g : Nat → Bool) : ∀ (ks : List Nat) (j : Nat) (z : Bool), (hj : j < ks.length) → g (ks.getD j 0) = true → (∀ i, i < j → a (ks.getD i 0) = true) → passF a g ks z = true
  | [], j, z, hj, _, _ => by simp at hj
  | k :: ks, 0, z, _, h, _ => by
    show (g k || _) = true
    rw [show g k = true from h]
    rfl
  | k :: ks, j + 1, z, hj, h, ha => by
    show (g k || (a k && passF a g ks z)) = true
    rw [show a k = true from ha 0 (by omega), passF_hit a g ks j z (by simpa using hj) h fun i hi => ha (i + 1) (by omega)]
    simp
/-- once around the ring is enough -/
theorem till_ring (way ring : List Str) (s u : Say) (hr : 1 ≤ ring.length) : passF (hb (wd way ring) s) (hb (wd way ring) u) ((List.range ring.length).map (way.length + ·)) false = hb (wd way ring) (.till s u) way.length := by
  have key := till_pass (wd way ring) s u way.length ring.length
  have per := hb_per way ring (.till s u) 0
  rw [Nat.add_zero, Nat.add_zero] at per
  rw [per] at key
  cases h : hb (wd way ring) (.till s u) way.length with
  | false =>
    rw [h] at key
    exact key
  | true =>
    obtain ⟨n, h1, h2⟩ := hb_eq.mp h
    have gt : ∀ j, j < ring.length → ((List.range ring.length).map (way.length + ·)).getD j 0 = way.length + j := fun j hj => by
      rw [List.getD_eq_getElem?_getD, List.getElem?_map, List.getElem?_range hj]
      rfl
    have hm : n % ring.length < ring.length := Nat.mod_lt _ (by omega)
    have hle : n % ring.length ≤ n := Nat.mod_le _ _
    refine passF_hit _ _ _ (n % ring.length) false (by rw [List.length_map, List.length_range]; exact hm) ?_ fun i hi => ?_
    · rw [gt _ hm, ← hb_mod]
      exact hb_eq.mpr h1
    · rw [gt _ (by omega)]
      exact hb_eq.mpr (h2 i (by omega))
theorem passF_app (a g : Nat → Bool) (xs ys : List Nat) (z : Bool) : passF a g (xs ++ ys) z = passF a g xs (passF a g ys z) := by
  unfold passF
  rw [List.foldr_append]
/-- the moments from t on that are ever unlike -/
def after (way ring : List Str) (t : Nat) : List Nat := (List.range (way.length + ring.length - t)).map (t + ·) ++ (List.range ring.length).map (way.length + ·)
theorem till_after (way ring : List Str) (s u : Say) (hr : 1 ≤ ring.length) {t : Nat} (ht : t ≤ way.length + ring.length) : passF (hb (wd way ring) s) (hb (wd way ring) u) (after way ring t) false = hb (wd way ring) (.till s u) t := by
  unfold after
  rw [passF_app, till_ring way ring s u hr]
  have per := hb_per way ring (.till s u) 0
  rw [Nat.add_zero, Nat.add_zero] at per
  rw [← per]
  have key := till_pass (wd way ring) s u t (way.length + ring.length - t)
  rwa [show t + (way.length + ring.length - t) = way.length + ring.length by omega] at key
theorem always_till (w : Nat → Str) (s : Say) (t : Nat) : hb w (.always s) t = !hb w (.till .yes (.not s)) t := bool_iff (by
  rw [hb_eq, Bool.not_eq_true', hb_ne]
  constructor
  · rintro h ⟨n, h1, _⟩
    exact h1 (h n)
  · intro h n
    exact Classical.byContradiction fun q => h ⟨n, q, fun _ _ => trivial⟩)
theorem passF_yes (g : Nat → Bool) : ∀ ks : List Nat, passF (fun _ => true) g ks false = ks.any g
  | [] => rfl
  | k :: ks => by
    show (g k || (true && passF (fun _ => true) g ks false)) = _
    rw [passF_yes g ks, List.any_cons, Bool.true_and]
theorem always_after (way ring : List Str) (s : Say) (hr : 1 ≤ ring.length) {t : Nat} (ht : t ≤ way.length + ring.length) : (after way ring t).all (hb (wd way ring) s) = hb (wd way ring) (.always s) t := by
  rw [always_till, ← till_after way ring .yes (.not s) hr ht]
  have e : (hb (wd way ring) .yes) = fun _ => true := funext fun k => hb_eq.mpr trivial
  rw [e, passF_yes, List.all_eq_not_any_not]
  refine congrArg _ (congrArg (fun f => List.any _ f) (funext fun k => bool_iff ?_))
  rw [hb_eq, Bool.not_eq_true', hb_ne]
  rfl
/-- again: somewhere on the ring -/
theorem again_ring (way ring : List Str) (s : Say) (hr : 1 ≤ ring.length) (t : Nat) : ((rowB s way ring).drop way.length).any id = hb (wd way ring) (.again s) t := bool_iff (by
  rw [hb_eq, List.any_eq_true]
  constructor
  · rintro ⟨b, hb1, hb2⟩ n
    obtain ⟨j, hj⟩ := List.getElem?_of_mem hb1
    rw [List.getElem?_drop] at hj
    have hj2 := (List.getElem?_eq_some_iff.mp hj).1
    rw [rowB_len] at hj2
    rw [rowB_get s way ring hj2] at hj
    have hh : hb (wd way ring) s (way.length + j) = true := (Option.some.inj hj).trans hb2
    -- a moment behind t + n that is the same place of the ring
    refine ⟨way.length + (j + (t + n) * ring.length) - (t + n), ?_⟩
    have hge : t + n ≤ (t + n) * ring.length := Nat.le_mul_of_pos_right _ (by omega)
    rw [show t + n + (way.length + (j + (t + n) * ring.length) - (t + n)) = way.length + (j + (t + n) * ring.length) by omega]
    rw [← hb_eq, hb_perk]
    exact hh
  · intro h
    obtain ⟨k, hk⟩ := h way.length
    have e : t + way.length + k = way.length + (t + k) := by omega
    rw [e, ← hb_eq, hb_mod] at hk
    have hm : (t + k) % ring.length < ring.length := Nat.mod_lt _ (by omega)
    refine ⟨true, ?_, rfl⟩
    rw [List.mem_iff_getElem?]
    exact ⟨(t + k) % ring.length, by rw [List.getElem?_drop, rowB_get s way ring (by omega), hk]⟩)
theorem wd_double (way ring : List Str) (hr : 1 ≤ ring.length) : wd way (ring ++ ring) = wd way ring := by
  funext t
  unfold wd
  by_cases h : t < way.length
  · rw [if_pos h, if_pos h]
  · rw [if_neg h, if_neg h]
    generalize t - way.length = q
    rw [List.length_append, List.getD_eq_getElem?_getD, List.getD_eq_getElem?_getD]
    have hm : q % (ring.length + ring.length) < ring.length + ring.length := Nat.mod_lt _ (by omega)
    have hmm : q % (ring.length + ring.length) % ring.length = q % ring.length := Nat.mod_mod_of_dvd q ⟨2, by omega⟩
    by_cases h2 : q % (ring.length + ring.length) < ring.length
    · rw [List.getElem?_append_left h2]
      rw [Nat.mod_eq_of_lt h2] at hmm
      rw [hmm]
    · rw [List.getElem?_append_right (by omega)]
      have : q % (ring.length + ring.length) - ring.length = q % ring.length := by
        rw [← hmm]
        generalize q % (ring.length + ring.length) = x at *
        rw [Nat.mod_eq_sub_mod (by omega), Nat.mod_eq_of_lt (by omega)]
      rw [this]
theorem wd_turn (way rs : List Str) (a : Str) : wd (way ++ [a]) (rs ++ [a]) = wd way (a :: rs) := by
  funext t
  unfold wd
  rw [List.length_append, List.length_append, List.length_cons]
  show (if t < way.length + 1 then (way ++ [a]).getD t "" else (rs ++ [a]).getD ((t - (way.length + 1)) % (rs.length + 1)) "") = _
  by_cases h : t < way.length
  · rw [if_pos (by omega), if_pos h, List.getD_eq_getElem?_getD, List.getD_eq_getElem?_getD, List.getElem?_append_left h]
  · rw [if_neg h]
    by_cases h1 : t = way.length
    · subst h1
      rw [if_pos (by omega), List.getD_eq_getElem?_getD, List.getElem?_append_right (Nat.le_refl _), Nat.sub_self, Nat.zero_mod]
      rfl
    · rw [if_neg (by omega)]
      have eq : t - way.length = (t - (way.length + 1)) + 1 := by omega
      rw [eq, show (a :: rs).length = rs.length + 1 from rfl]
      generalize t - (way.length + 1) = q
      have hm : q % (rs.length + 1) < rs.length + 1 := Nat.mod_lt _ (by omega)
      have hs : (q + 1) % (rs.length + 1) = (q % (rs.length + 1) + 1) % (rs.length + 1) := by rw [Nat.mod_add_mod]
      rw [hs]
      generalize q % (rs.length + 1) = m at hm
      rw [List.getD_eq_getElem?_getD, List.getD_eq_getElem?_getD]
      by_cases h2 : m < rs.length
      · rw [Nat.mod_eq_of_lt (by omega), List.getElem?_append_left h2, List.getElem?_cons_succ]
      · have : m = rs.length := by omega
        subst this
        rw [Nat.mod_self, List.getElem?_append_right (Nat.le_refl _), Nat.sub_self]
        rfl
theorem row_double (s : Say) (way ring : List Str) (hr : 1 ≤ ring.length) : rowB s way (ring ++ ring) = rowB s way ring ++ (rowB s way ring).drop way.length := by
  refine (row_ext (by rw [List.length_append, List.length_drop, rowB_len, List.length_append]; omega) fun t ht => ?_).symm
  rw [List.length_append] at ht
  rw [wd_double way ring hr]
  by_cases h : t < way.length + ring.length
  · rw [List.getElem?_append_left (by rw [rowB_len]; exact h), rowB_get s way ring h]
  · rw [List.getElem?_append_right (by rw [rowB_len]; omega), rowB_len, List.getElem?_drop, rowB_get s way ring (by omega)]
    have e : t = way.length + ring.length + (t - (way.length + ring.length)) := by omega
    have := hb_per way ring s (t - (way.length + ring.length))
    rw [← e] at this
    rw [this]
theorem row_turn (s : Say) (way rs : List Str) (a : Str) : rowB s (way ++ [a]) (rs ++ [a]) = rowB s way (a :: rs) ++ ((rowB s way (a :: rs)).drop way.length).take 1 := by
  have hl := rowB_len s way (a :: rs)
  have l1 : (((rowB s way (a :: rs)).drop way.length).take 1).length = 1 := by
    rw [List.length_take, List.length_drop, hl, List.length_cons]
    omega
  refine (row_ext (by rw [List.length_append, l1, hl, List.length_append, List.length_append, List.length_cons]; simp only [List.length_cons, List.length_nil]; omega) fun t ht => ?_).symm
  rw [List.length_append, List.length_append] at ht
  simp only [List.length_cons, List.length_nil] at ht
  rw [wd_turn]
  by_cases h : t < way.length + (a :: rs).length
  · rw [List.getElem?_append_left (by rw [hl]; exact h), rowB_get s way (a :: rs) h]
  · have e : t = way.length + (a :: rs).length + 0 := by rw [List.length_cons] at *; omega
    rw [List.getElem?_append_right (by rw [hl]; omega), hl, e, Nat.add_zero, Nat.sub_self, List.getElem?_take, if_pos (by decide), List.getElem?_drop, Nat.add_zero, rowB_get s way (a :: rs) (by rw [List.length_cons]; omega)]
    have := hb_per way (a :: rs) s 0
    rw [Nat.add_zero, Nat.add_zero] at this
    rw [this]
def letters : Str := "abcdefghijklmnopqrstuvwxyz"
def chr1 (i : Int) : Str := ⟨#[97 + (i % 26).toNat]⟩
theorem letters_at (i : Int) : atI letters.cps.toList (i % 26) = some (97 + (i % 26).toNat) := by
  have h1 : 0 ≤ i % 26 := Int.emod_nonneg _ (by decide)
  have h2 : i % 26 < 26 := Int.emod_lt_of_pos _ (by decide)
  generalize i % 26 = j at *
  obtain ⟨n, rfl⟩ := Int.eq_ofNat_of_zero_le h1
  have hn : n < 26 := by omega
  have key : ∀ n : Fin 26, letters.cps.toList[n.val]? = some (97 + n.val) := by decide +kernel
  exact atI_nat (key ⟨n, hn⟩)
theorem cut_len (z : Str) (lo hi : Option Int) : (cutS z lo hi).length ≤ z.length := by
  rw [len_cps, len_cps]
  unfold cutS
  rw [List.length_take, List.length_drop]
  omega
theorem len_append (x y : Str) : (x ++ y).length = x.length + y.length := by
  rw [len_cps, len_cps, len_cps, cps_append, List.length_append]
def restS (c : Int) : Str := Txt.join "" ((List.range 6).map fun j => chr1 (c / 7 + 5 * (0 + (j : Nat))))
def namesS (c : Int) : List Str :=
  if c % 3 = 2 then (List.range 3).map fun k => cutS (restS c) none (some (1 + c / 3 % 4 + (0 + (k : Nat))))
  else (List.range 3).map fun k => cutS (restS c) none (some (c / 18 % (c / 3 % 6 + 1))) ++ chr1 (c / 90 + 7 * (0 + (k : Nat))) ++ cutS (restS c) (some (c / 18 % (c / 3 % 6 + 1))) (some (c / 3 % 6))
theorem len_chr (i : Int) : (chr1 i).length = 1 := rfl
theorem joinE : ∀ ys : List Str, (Txt.join "" ys).cps.toList = (ys.map fun y => y.cps.toList).flatten := by
  intro ys
  have h : TL.tl (Str.join "" ys) = TL.joinL (TL.tl "") (ys.map TL.tl) := TL.tl_join "" ys
  have e : TL.tl ("" : Str) = [] := rfl
  rw [e] at h
  have j : ∀ ps : List (List Nat), TL.joinL [] ps = ps.flatten := by
    intro ps
    induction ps with
    | nil => rfl
    | cons p ps ih =>
      cases ps with
      | nil => simp [TL.joinL]
      | cons q r =>
        show p ++ ([] ++ TL.joinL [] (q :: r)) = _
        rw [ih]
        simp
  rw [j] at h
  rw [TL.join_eq]
  exact h
theorem rest_cps (c : Int) : (restS c).cps.toList = (List.range 6).map fun j => 97 + ((c / 7 + 5 * (0 + ((j : Nat) : Int))) % 26).toNat := by
  unfold restS
  rw [joinE, List.map_map]
  rfl
theorem rest_len (c : Int) : (restS c).length = 6 := by
  rw [len_cps, rest_cps]
  simp
def R_names : List Sl → Dat → List Sl → Prop := fun as d as' => ∃ (c : Int), as = [.dat (.int c)] ∧ d = .lst ((namesS c).map Dat.str) ∧ as' = [.no]
theorem len_names : ∀ as d as', R_names as d as' → as.length = 1 := by
  rintro as d as' ⟨_, rfl, _⟩
  rfl
abbrev s_names : Stmt := topS 10
theorem sc_names : FnScope ["_law_cell", "_law_letters", "_law_rest", "_law_size", "_law_at", "_law_found", "_law_k", "_law_letter", "_law_j"] ["_law_cell"] (defScope s_names) := ⟨rfl, rfl, rfl, by decide +kernel, rfl, by decide +kernel, by decide +kernel⟩
theorem ok_names {f : Addr} {fd : FuncData} (F : Fun K "_law_names" "_law_names" s_names f fd) (T : Tx K mg)  : FnOk P w K mg base CX0 1 f fd ["_law_cell"] ((spG K R_names)) := by
  have nd := sc_names.nd
  refine F.ok sc_names (spG_len len_names) (fun cdv A outer s H vs Q E hr h => ?_)
  have hu := hr.units
  have hu5 := unit5 hr
  refine ⟨_, (pss_cons (ps_set (i := 1) nd rfl (by first | exact Or.inl rfl | exact Or.inr rfl) pe_str)
      (pss_cons (ps_set (i := 2) nd rfl (by first | exact Or.inl rfl | exact Or.inr rfl) (kJoin K (pe_join pe_str (pe_lc (own := [("_law_j", 8)]) (g := gName 8) (tt := tYes) (by rfl) nd (pi_range1 (by rfl) T.b_range (pa_cons pe_int pa_nil)) (blkOk_by (own := [("_law_j", 8)]) (N := ["_law_cell", "_law_letters", "_law_rest", "_law_size", "_law_at", "_law_found", "_law_k", "_law_letter", "_law_j"]) (sc := defScope s_names) (by decide +kernel)) (fun _ _ _ _ _ => pg_name (i := 8) nd rfl (Or.inl rfl)) (fun _ _ _ _ _ => pts_nil) (fun _ _ _ _ _ => (pe_ix ix_str (pv 1) (pe_op op_mod (pe_op op_add (pe_op op_fdiv (pv 0) pe_int) (pe_op op_mul pe_int (pv 8))) pe_int) (fun _ _ => rfl)))))))
      (pss_cons (ps_if (pt_cmpR (kEqD K hu) (pe_op op_mod (pv 0) pe_int) pe_int (nomark _)) (pss_cons (ps_set (i := 3) nd rfl (by first | exact Or.inl rfl | exact Or.inr rfl) (pe_op op_add pe_int (pe_op op_mod (pe_op op_fdiv (pv 0) pe_int) pe_int)))
      (pss_one (ps_ret (pe_lc (own := [("_law_k", 6)]) (g := gName 6) (tt := tYes) (by rfl) nd (pi_range1 (by rfl) T.b_range (pa_cons pe_int pa_nil)) (blkOk_by (own := [("_law_k", 6)]) (N := ["_law_cell", "_law_letters", "_law_rest", "_law_size", "_law_at", "_law_found", "_law_k", "_law_letter", "_law_j"]) (sc := defScope s_names) (by decide +kernel)) (fun _ _ _ _ _ => pg_name (i := 6) nd rfl (Or.inl rfl)) (fun _ _ _ _ _ => pts_nil) (fun _ _ _ _ _ => (pe_slice sl_str (pv 2) po_none (po_some (pe_op op_add (pv 3) (pv 6))))))))) pss_nil)
      (pss_cons (ps_set (i := 3) nd rfl (by first | exact Or.inl rfl | exact Or.inr rfl) (pe_op op_mod (pe_op op_fdiv (pv 0) pe_int) pe_int))
      (pss_cons (ps_set (i := 4) nd rfl (by first | exact Or.inl rfl | exact Or.inr rfl) (pe_op op_mod (pe_op op_fdiv (pv 0) pe_int) (pe_op op_add (pv 3) pe_int)))
      (pss_cons (ps_set (i := 5) nd rfl (by first | exact Or.inl rfl | exact Or.inr rfl) (pe_lst pa_nil))
      (pss_cons (ps_for PassesOwn.never (by rfl) (pi_range1 (by rfl) T.b_range (pa_cons pe_int pa_nil)) (pg_name (i := 6) nd rfl (by first | exact Or.inl rfl | exact Or.inr rfl)) (pss_cons (ps_set (i := 7) nd rfl (by first | exact Or.inl rfl | exact Or.inr rfl) (pe_ix ix_str (pv 1) (pe_op op_mod (pe_op op_add (pe_op op_fdiv (pv 0) pe_int) (pe_op op_mul pe_int (pv 6))) pe_int) (fun _ _ => rfl)))
      (pss_one (ps_expr (kBM K (pe_bm PySem.F.plainAttrs_list PySem.F.slot_list_append PySem.F.type_list_append mt_append (pv 5) (pa_cons (pe_op op_add_str (pe_op op_add_str (pe_slice sl_str (pv 2) po_none (po_some (pv 4))) (pv 7)) (pe_slice sl_str (pv 2) (po_some (pv 4)) (po_some (pv 3)))) pa_nil)))))))
      (pss_one (ps_ret (pv 5)))))))))), ?_⟩
  refine body_ok h len_names fun as d as' hR => ?_
  obtain ⟨c, rfl, rfl, rfl⟩ := hR
  walk_at "body"
  walk_at "set"
  walk_at "nrm"
  -- rest
  refine' ex_seq (ex_set (d := .str (restS c)) (ev_join rfl ev_str (el_d (ev_of_fresh (ef_lcMap (onI fun j => .str (chr1 (c / 7 + 5 * j))) (src_rng1 ev_int (by decide) (by decide)) (by exact rfl) (by rw [rngD_len]; decide) ?hb))) ?hl ?hz) ?hi) ?hc
  case hb =>
    intro d hd
    obtain ⟨j, hj, rfl⟩ := rngD_mem hd
    show Ev K _ _ (.str ⟨#[97 + ((c / 7 + 5 * (0 + (j : Nat))) % 26).toNat]⟩) _
    walk_at "nrm"
    walk_at "ev"
    exact letters_at _
  case hl =>
    show some _ = some _
    rw [rngD_map]
    exact congrArg some (List.map_map.symm)
  case hz =>
    rw [List.map_map]
    show (List.map (fun _ => 1) (List.range 6)).sum + _ * 0 ≤ _
    rw [Nat.mul_zero]
    decide
  case hi => exact rfl
  walk_at "nrm"
  have h3 : eqd (.int (c % 3)) (.int 2) = decide (c % 3 = 2) := by rw [eqd_int]; rfl
  walk_at "ifl"
  · intro h
    rw [h3, decide_eq_true_eq] at h
    walk_at "set"
    walk_at "nrm"
    refine ex_retW (ev_of_fresh (ef_lcMap (onI fun k => .str (cutS (restS c) none (some (1 + c / 3 % 4 + k)))) (src_rng1 ev_int (by decide) (by decide)) (by exact rfl) (by rw [rngD_len]; decide) ?_)) ?_ (by walk_at "nrm"; walk_at "le")
    · intro d hd
      obtain ⟨j, hj, rfl⟩ := rngD_mem hd
      show Ev K _ _ (.str (cutS (restS c) none (some (1 + c / 3 % 4 + (0 + (j : Nat)))))) _
      walk_at "nrm"
      walk_at "ev"
      rw [rest_len]
      decide
    · rw [rngD_map, show namesS c = _ from if_pos h, List.map_map]
      rfl
  · intro h
    rw [h3, decide_eq_false_iff_not] at h
    have p1 : 0 ≤ c / 3 % 6 := Int.emod_nonneg _ (by decide)
    walk_at "set"
    walk_at "nrm"
    walk_at "set"
    walk_at "nrm"
    walk_at "setF"
    walk_at "nrm"
    refine' ex_seq (ex_for (n := 3) (fun i => [.dat (.int c), .dat (.str letters), .dat (.str (restS c)), .dat (.int (c / 3 % 6)), .dat (.int (c / 18 % (c / 3 % 6 + 1))),
        .own ((List.range i).map fun k => .str (cutS (restS c) none (some (c / 18 % (c / 3 % 6 + 1))) ++ chr1 (c / 90 + 7 * (0 + (k : Nat))) ++ cutS (restS c) (some (c / 18 % (c / 3 % 6 + 1))) (some (c / 3 % 6)))), .no, .no, .no])
      (src_rng1 ev_int (by decide) (by decide)) (fun _ => rfl) (by rw [rngD_len]; decide) (fun i d hi hd => .inl ?hb) (.done (by rw [rngD_len]; decide))) ?hr
    case hb =>
      obtain ⟨_, rfl⟩ := rngD_get hd
      walk_at "nrm"
      refine' Ex.weak (ex_seq (ex_set (d := .str ⟨#[97 + ((c / 90 + 7 * (0 + (i : Nat))) % 26).toNat]⟩) ?h1 ?h1i) ?h2) ?h4
      case h1 =>
        walk_at "ev"
        exact letters_at _
      case' h1i => exact rfl
      case' h2 => walk_at "app"
      all_goals walk_at "nrm"
      any_goals (rw [rest_len]; decide)
      all_goals first | (simp only [List.length_map, List.length_range]; omega) | skip
      any_goals (rw [List.range_succ, List.map_append]; walk_at "le")
      · have h1 := cut_len (restS c) none (some (c / 18 % (c / 3 % 6 + 1)))
        rw [rest_len] at h1
        show _ + 1 ≤ _
        omega
      · have h1 := cut_len (restS c) none (some (c / 18 % (c / 3 % 6 + 1)))
        have h2 := cut_len (restS c) (some (c / 18 % (c / 3 % 6 + 1))) (some (c / 3 % 6))
        rw [rest_len] at h1 h2
        rw [len_append]
        show _ + 1 + _ ≤ _
        omega
    case hr =>
      walk_at "ret"
      rw [show namesS c = _ from if_neg h, List.map_map]
      rfl
theorem okLet_chr (i : Int) : okLet (chr1 i) = true := by
  show ([97 + (i % 26).toNat] : List Nat).all okCode = true
  rw [List.all_cons, okCode_26]
  rfl
theorem okLet_rest (c : Int) : okLet (restS c) = true := by
  unfold okLet
  rw [rest_cps, List.all_map, List.all_eq_true]
  intro j _
  exact okCode_26 _
theorem names_ok (c : Int) : ∀ x ∈ namesS c, isMark (.str x) = true := by
  have cl : ∀ (z : Str) (a : Int), 0 ≤ a → (cutS z none (some a)).length ≤ a.toNat := fun z a ha => by
    rw [len_cps]
    show (List.take (HT.sIx z.length z.length (some a) - HT.sIx z.length 0 none) (List.drop (HT.sIx z.length 0 none) z.cps.toList)).length ≤ _
    rw [List.length_take]
    have h1 : HT.sIx z.length z.length (some a) ≤ a.toNat := by
      simp only [HT.sIx]
      split <;> omega
    omega
  have cl2 : ∀ (z : Str) (a b : Int), 0 ≤ a → 0 ≤ b → a ≤ z.length → (cutS z (some a) (some b)).length ≤ b.toNat - a.toNat := fun z a b ha hb hz => by
    rw [len_cps]
    show (List.take (HT.sIx z.length z.length (some b) - HT.sIx z.length 0 (some a)) (List.drop (HT.sIx z.length 0 (some a)) z.cps.toList)).length ≤ _
    rw [List.length_take]
    have h1 : HT.sIx z.length z.length (some b) ≤ b.toNat := by
      simp only [HT.sIx]
      split <;> omega
    have h2 : HT.sIx z.length 0 (some a) = a.toNat := by
      simp only [HT.sIx]
      split <;> omega
    omega
  intro x hx
  unfold namesS at hx
  by_cases h : c % 3 = 2
  · rw [if_pos h, List.mem_map] at hx
    obtain ⟨k, _, rfl⟩ := hx
    exact isMark_of (by have := cut_len (restS c) none (some (1 + c / 3 % 4 + (0 + (k : Nat)))); rw [rest_len] at this; exact this) (okLet_cut (okLet_rest c))
  · rw [if_neg h, List.mem_map] at hx
    obtain ⟨k, _, rfl⟩ := hx
    have p1 : 0 ≤ c / 3 % 6 := Int.emod_nonneg _ (by decide)
    have p2 : c / 3 % 6 < 6 := Int.emod_lt_of_pos _ (by decide)
    have p3 : 0 ≤ c / 18 % (c / 3 % 6 + 1) := Int.emod_nonneg _ (by omega)
    have p4 : c / 18 % (c / 3 % 6 + 1) < c / 3 % 6 + 1 := Int.emod_lt_of_pos _ (by omega)
    refine isMark_of ?_ (okLet_app (okLet_app (okLet_cut (okLet_rest c)) (okLet_chr _)) (okLet_cut (okLet_rest c)))
    rw [len_append, len_append, len_chr]
    have q1 := cl (restS c) (c / 18 % (c / 3 % 6 + 1)) p3
    have q2 := cl2 (restS c) (c / 18 % (c / 3 % 6 + 1)) (c / 3 % 6) p3 p1 (by rw [rest_len]; omega)
    omega
theorem names_len (c : Int) : (namesS c).length = 3 := by
  unfold namesS
  split <;> rw [List.length_map, List.length_range]
def drawv (ns : List Int) (k : Nat) : Int := if k < ns.length then ns.getD k 0 else if 4 < ns.length ∧ k < 50 then (ns.getD (k % ns.length) 0 + 7919 * k) * 48271 % 1000003 else 0
def R_draw : List Sl → Dat → List Sl → Prop := fun as d as' => ∃ (ns : List Int) (k : Nat), as = [.dat (.scr ns), .par 0 [.int k]] ∧ d = .int (drawv ns k) ∧ as' = [.no, .par 0 [.int (k + 1 : Nat)]]
theorem len_draw : ∀ as d as', R_draw as d as' → as.length = 2 := by
  rintro as d as' ⟨_, _, rfl, _⟩
  rfl
abbrev s_draw : Stmt := topS 9
theorem sc_draw : FnScope ["_law_script", "_law_spot", "_law_k"] ["_law_script", "_law_spot"] (defScope s_draw) := ⟨rfl, rfl, rfl, by decide +kernel, rfl, by decide +kernel, by decide +kernel⟩
theorem ok_draw {f : Addr} {fd : FuncData} (F : Fun K "_law_draw" "_law_draw" s_draw f fd) (T : Tx K mg)  : FnOk P w K mg base CX0 1 f fd ["_law_script", "_law_spot"] ((spG K R_draw)) := by
  have nd := sc_draw.nd
  refine F.ok sc_draw (spG_len len_draw) (fun cdv A outer s H vs Q E hr h => ?_)
  have hu := hr.units
  have hu5 := unit5 hr
  refine ⟨_, (pss_cons (ps_asg (pe_op op_add (pe_ix (kIxL K) (pv 1) pe_int (fun _ _ => rfl)) pe_int) (pg_sub (pv 1) pe_int set_list))
      (pss_cons (ps_set (i := 2) nd rfl (by first | exact Or.inl rfl | exact Or.inr rfl) (pe_op op_sub (pe_ix (kIxL K) (pv 1) pe_int (fun _ _ => rfl)) pe_int))
      (pss_cons (ps_if (pt_cmpR op_lt (pv 2) (pe_callB (kLen K) (by rfl) T.b_len PySem.boot_len (pa_cons (pv 0) pa_nil)) (nomark _)) (pss_one (ps_ret (pe_ix (kIxL K) (pv 0) (pv 2) (fun _ _ => rfl)))) pss_nil)
      (pss_cons (ps_if (PW.pt (pw_and (pt_cmpR op_gt (pe_callB (kLen K) (by rfl) T.b_len PySem.boot_len (pa_cons (pv 0) pa_nil)) pe_int (nomark _)) (pw_and1 (pt_cmpR op_lt (pv 2) pe_int (nomark _))))) (pss_one (ps_ret (pe_op op_mod (pe_op op_mul (pe_op op_add (pe_ix (kIxL K) (pv 0) (pe_op op_mod (pv 2) (pe_callB (kLen K) (by rfl) T.b_len PySem.boot_len (pa_cons (pv 0) pa_nil))) (fun _ _ => rfl)) (pe_op op_mul pe_int (pv 2))) pe_int) pe_int))) pss_nil)
      (pss_one (ps_ret pe_int)))))), ?_⟩
  refine body_ok h len_draw fun as d as' hR => ?_
  obtain ⟨ns, k, rfl, rfl, rfl⟩ := hR
  walk_at "body"
  refine' ex_seq (ex_setIx (k := 0) ?ha ?hi ?hs ?hl ?hk) ?hb
  case' ha => walk_at "ev"
  case' hi => walk_at "ev"
  case' hs => exact rfl
  case' hl => exact rfl
  case' hk => exact rfl
  walk_at "set"
  walk_at "nrm"
  rw [show (k : Int) + 1 - 1 = (k : Int) by omega, show (k : Int) + 1 = ((k + 1 : Nat) : Int) by omega]
  walk_at "ifl"
  · intro h
    have h : k < ns.length := by simpa using h
    walk_at "ret"
    rw [show drawv ns k = ns.getD k 0 from if_pos h]
    exact at_ints h
  · intro h
    have h : ¬ k < ns.length := by simpa using h
    walk_at "ifl"
    · intro h2
      have h2 : 4 < ns.length ∧ k < 50 := by
        simp only [List.length_map, Bool.and_eq_true, decide_eq_true_eq] at h2
        omega
      have hm : k % ns.length < ns.length := Nat.mod_lt _ (by omega)
      walk_at "ret"
      any_goals (refine at_of_eq ?_ (at_ints hm); simp only [List.length_map]; omega)
      rw [show drawv ns k = _ from (if_neg h).trans (if_pos h2)]
    · intro h2
      have h2 : ¬ (4 < ns.length ∧ k < 50) := by
        simp only [List.length_map, Bool.and_eq_false_iff, decide_eq_false_iff_not] at h2
        omega
      walk_at "ret"
      rw [show drawv ns k = _ from (if_neg h).trans (if_neg h2)]
def kindsL : List Str := ["not", "and", "or", "next", "till", "always", "again", "till", "always", "next", "not"]
def isBin (j : Nat) : Bool := j == 1 || j == 2 || j == 4 || j == 7
def mkSay (j : Nat) (s t : Say) : Say := match j with
  | 0 => .not s
  | 1 => .and s t
  | 2 => .or s t
  | 3 => .next s
  | 4 => .till s t
  | 5 => .always s
  | 6 => .again s
  | 7 => .till s t
  | 8 => .always s
  | 9 => .next s
  | _ => .not s
def leafS (nm : List Str) (c : Int) : Say := if c % 9 = 4 then .yes else .mark (nm.getD (c % 3).toNat "")
def kindJ (c : Int) : Nat := (c % 13 - 2).toNat
def madeS (nm : List Str) (ns : List Int) : Nat → Nat → Say × Nat
  | 0, k => (leafS nm (drawv ns k / 13), k + 1)
  | d + 1, k => if d + 1 < 2 ∨ drawv ns k % 13 < 2 then (leafS nm (drawv ns k / 13), k + 1)
    else if isBin (kindJ (drawv ns k)) then (mkSay (kindJ (drawv ns k)) (madeS nm ns d (k + 1)).1 (madeS nm ns d (madeS nm ns d (k + 1)).2).1, (madeS nm ns d (madeS nm ns d (k + 1)).2).2)
    else (mkSay (kindJ (drawv ns k)) (madeS nm ns d (k + 1)).1 .yes, (madeS nm ns d (k + 1)).2)
theorem eleven {j : Nat} (h : j < 11) : j = 0 ∨ j = 1 ∨ j = 2 ∨ j = 3 ∨ j = 4 ∨ j = 5 ∨ j = 6 ∨ j = 7 ∨ j = 8 ∨ j = 9 ∨ j = 10 := by omega
theorem mk_un {j : Nat} (h : j < 11) (hb : isBin j = false) (s t : Say) : (mkSay j s t).d = .tup [.str (kindsL.getD j ""), s.d] := by
  rcases eleven h with rfl | rfl | rfl | rfl | rfl | rfl | rfl | rfl | rfl | rfl | rfl <;> first | rfl | (exact absurd hb (by decide))
theorem mk_bin {j : Nat} (h : j < 11) (hb : isBin j = true) (s t : Say) : (mkSay j s t).d = .tup [.str (kindsL.getD j ""), s.d, t.d] := by
  rcases eleven h with rfl | rfl | rfl | rfl | rfl | rfl | rfl | rfl | rfl | rfl | rfl <;> first | rfl | (exact absurd hb (by decide))
def unL : List Dat := [.str "not", .str "next", .str "always", .str "again"]
theorem un_in {j : Nat} (h : j < 11) : inV (flv (.str (kindsL.getD j ""))) (unL.map flv) = !isBin j := by
  rcases eleven h with rfl | rfl | rfl | rfl | rfl | rfl | rfl | rfl | rfl | rfl | rfl <;> decide +kernel
theorem kinds_split : Txt.split "not and or next till always again till always next not" " " = kindsL := by decide +kernel
theorem mk_dep (j : Nat) (s t : Say) {d : Nat} (h1 : s.dep ≤ d) (h2 : t.dep ≤ d) : (mkSay j s t).dep ≤ d + 1 := by
  unfold mkSay
  split <;> simp only [Say.dep] <;> omega
theorem mk_ok (j : Nat) (s t : Say) (h1 : s.Ok) (h2 : t.Ok) : (mkSay j s t).Ok := by
  unfold mkSay
  split <;> first | exact h1 | exact ⟨h1, h2⟩
theorem leaf_dep (nm : List Str) (c : Int) : (leafS nm c).dep = 1 := by
  unfold leafS
  split <;> rfl
theorem leaf_ok {nm : List Str} (h : ∀ x ∈ nm, markOk x) (hl : nm.length = 3) (c : Int) : (leafS nm c).Ok := by
  unfold leafS
  split
  · trivial
  · have h1 : 0 ≤ c % 3 := Int.emod_nonneg _ (by decide)
    have h2 : c % 3 < 3 := Int.emod_lt_of_pos _ (by decide)
    show markOk _
    rw [List.getD_eq_getElem?_getD, List.getElem?_eq_getElem (by omega)]
    exact h _ (List.getElem_mem _)
theorem made_ok {nm : List Str} (h : ∀ x ∈ nm, markOk x) (hl : nm.length = 3) (ns : List Int) : ∀ (d k : Nat), (madeS nm ns d k).1.Ok
  | 0, k => leaf_ok h hl _
  | d + 1, k => by
    unfold madeS
    split
    · exact leaf_ok h hl _
    · split
      · exact mk_ok _ _ _ (made_ok h hl ns d _) (made_ok h hl ns d _)
      · exact mk_ok _ _ _ (made_ok h hl ns d _) trivial
theorem made_dep (nm : List Str) (ns : List Int) : ∀ (d k : Nat), 1 ≤ d → (madeS nm ns d k).1.dep ≤ d
  | 0, k, h => by omega
  | d + 1, k, h => by
    unfold madeS
    by_cases hc : d + 1 < 2 ∨ drawv ns k % 13 < 2
    · rw [if_pos hc, leaf_dep]
      exact h
    · rw [if_neg hc]
      have hd : 1 ≤ d := by omega
      split
      · exact mk_dep _ _ _ (made_dep nm ns d _ hd) (made_dep nm ns d _ hd)
      · exact mk_dep _ _ _ (made_dep nm ns d _ hd) hd
theorem names_mark (c : Int) : ∀ x ∈ namesS c, markOk x := by
  intro x hx
  refine ⟨names_ok c x hx, fun e => ?_⟩
  subst e
  unfold namesS at hx
  by_cases h : c % 3 = 2
  · rw [if_pos h, List.mem_map] at hx
    obtain ⟨k, hk, e⟩ := hx
    have h1 : 0 ≤ c / 3 % 4 := Int.emod_nonneg _ (by decide)
    have e2 : (cutS (restS c) none (some (1 + c / 3 % 4 + (0 + (k : Nat))))).length = 0 := by rw [e]; rfl
    rw [len_cps] at e2
    have e3 : ((List.take (HT.sIx (restS c).length (restS c).length (some (1 + c / 3 % 4 + (0 + (k : Nat)))) - HT.sIx (restS c).length 0 none) (List.drop (HT.sIx (restS c).length 0 none) (restS c).cps.toList))).length = 0 := e2
    have z : HT.sIx (restS c).length 0 none = 0 := rfl
    rw [z, List.drop_zero, Nat.sub_zero, List.length_take, ← len_cps, rest_len] at e3
    simp only [HT.sIx] at e3
    rw [if_neg (by omega)] at e3
    omega
  · rw [if_neg h, List.mem_map] at hx
    obtain ⟨k, hk, e⟩ := hx
    have e2 := congrArg Str.length e
    rw [len_append, len_append, len_chr] at e2
    have : ("" : Str).length = 0 := rfl
    omega
def two8 (nm : List Str) : List Str := [("" : Str), cutS (nm.getD 2 "") none (some 1) ++ ("zq" : Str)]
def some8 (nm : List Str) : List Str := nm ++ two8 nm ++ nm
def marksN (ns : List Int) (k least md : Nat) : Nat := least + (drawv ns k % (md : Int)).toNat
def marksM (nm : List Str) (ns : List Int) (k least md : Nat) : List Str := (List.range (marksN ns k least md)).map fun j => (some8 nm).getD (drawv ns (k + 1 + j) % 8).toNat ""
theorem marksM_len (nm : List Str) (ns : List Int) (k least md : Nat) : (marksM nm ns k least md).length = marksN ns k least md := by
  unfold marksM
  rw [List.length_map, List.length_range]
theorem marksN_le (ns : List Int) (k least : Nat) {md : Nat} (h : 1 ≤ md) : least ≤ marksN ns k least md ∧ marksN ns k least md < least + md := by
  have h1 : 0 ≤ drawv ns k % (md : Int) := Int.emod_nonneg _ (by omega)
  have h2 : drawv ns k % (md : Int) < md := Int.emod_lt_of_pos _ (by omega)
  unfold marksN
  omega
theorem some8_ok {nm : List Str} (h : ∀ x ∈ nm, markOk x) (hl : nm.length = 3) : ∀ x ∈ some8 nm, isMark (.str x) = true := by
  intro x hx
  have hx : x ∈ nm ++ two8 nm ++ nm := hx
  rcases List.mem_append.mp hx with hx | hx
  rcases List.mem_append.mp hx with hx | hx
  · exact (h x hx).1
  · have hx : x ∈ [_, _] := hx
    simp only [List.mem_cons, List.not_mem_nil, or_false] at hx
    rcases hx with rfl | rfl
    · rfl
    · have h2 : markOk (nm.getD 2 "") := by
        rw [List.getD_eq_getElem?_getD, List.getElem?_eq_getElem (by omega)]
        exact h _ (List.getElem_mem _)
      have hz := (mark_ok h2.1).1
      have hlet : okLet (nm.getD 2 "") = true := by
        have q : (decide ((nm.getD 2 "").length ≤ 6) && (nm.getD 2 "").cps.toList.all okCode) = true := h2.1
        rw [Bool.and_eq_true] at q
        exact q.2
      refine isMark_of ?_ (okLet_app (okLet_cut hlet) (by decide +kernel))
      rw [len_append]
      have e : ("zq" : Str).length = 2 := by decide +kernel
      have h3 : (cutS (nm.getD 2 "") none (some 1)).length ≤ 1 := by
        rw [len_cps]
        show (List.take (HT.sIx (nm.getD 2 "").length (nm.getD 2 "").length (some 1) - HT.sIx (nm.getD 2 "").length 0 none) (List.drop (HT.sIx (nm.getD 2 "").length 0 none) (nm.getD 2 "").cps.toList)).length ≤ _
        rw [List.length_take]
        have : HT.sIx (nm.getD 2 "").length (nm.getD 2 "").length (some 1) ≤ 1 := by
          simp only [HT.sIx]
          rw [if_neg (by decide)]
          omega
        omega
      omega
  · exact (h x hx).1
theorem some8_len {nm : List Str} (hl : nm.length = 3) : (some8 nm).length = 8 := by
  unfold some8
  rw [List.length_append, List.length_append, hl]
  rfl
theorem marksM_ok {nm : List Str} (h : ∀ x ∈ nm, markOk x) (hl : nm.length = 3) (ns : List Int) (k least md : Nat) : ∀ x ∈ marksM nm ns k least md, isMark (.str x) = true := by
  intro x hx
  obtain ⟨j, _, rfl⟩ := List.mem_map.mp hx
  have h1 : 0 ≤ drawv ns (k + 1 + j) % 8 := Int.emod_nonneg _ (by decide)
  have h2 : drawv ns (k + 1 + j) % 8 < 8 := Int.emod_lt_of_pos _ (by decide)
  rw [List.getD_eq_getElem?_getD, List.getElem?_eq_getElem (by rw [some8_len hl]; omega)]
  exact some8_ok h hl _ (List.getElem_mem _)
theorem strs_of {xs : List Str} (h : ∀ x ∈ xs, isMark (.str x) = true) : ∀ x ∈ xs, PyData.strOk x = true := fun x hx => (mark_ok (h x hx)).2
theorem at_mod8 {xs : List Str} (h : xs.length = 8) (x : Int) : atI (xs.map Dat.str) (x % 8) = some (.str (xs.getD (x % 8).toNat "")) := by
  have h1 : 0 ≤ x % 8 := Int.emod_nonneg _ (by decide)
  have h2 : x % 8 < 8 := Int.emod_lt_of_pos _ (by decide)
  have hh := at_map (f := Dat.str) (xs := xs) (k := (x % 8).toNat) (x := xs.getD (x % 8).toNat "") (by rw [List.getD_eq_getElem?_getD, List.getElem?_eq_getElem (by omega)]; rfl)
  rwa [Int.toNat_of_nonneg h1] at hh
def onB (f : Bool → Bool) : Dat → Dat
  | .bl b => .bl (f b)
  | _ => .non
theorem bls_map (f : Bool → Bool) (bs : List Bool) : (bls bs).map (onB f) = bls (bs.map f) := by
  unfold bls
  rw [List.map_map, List.map_map]
  rfl
theorem bls_len (bs : List Bool) : (bls bs).length = bs.length := List.length_map ..
theorem at_bls {bs : List Bool} {k : Nat} (h : k < bs.length) : atI (bls bs) (k : Int) = some (.bl (bs.getD k false)) :=
  at_map (by rw [List.getD_eq_getElem?_getD, List.getElem?_eq_getElem h]; rfl)
def R_not_row : List Dat → List Dat → Prop := fun as ds => ∃ (bs : List Bool), as = [.lst (bls bs)] ∧ ds = bls (bs.map (fun b => !b)) ∧ bs.length ≤ 2000
theorem len_not_row : ∀ as ds, R_not_row as ds → as.length = 1 := by
  rintro as ds ⟨_, rfl, _⟩
  rfl
abbrev s_not_row : Stmt := topS 4
theorem sc_not_row : FnScope ["row", "truth"] ["row"] (defScope s_not_row) := ⟨rfl, rfl, rfl, by decide +kernel, rfl, by decide +kernel, by decide +kernel⟩
theorem ok_not_row {f : Addr} {fd : FuncData} (F : Fun K "_not_row" "_not_row" s_not_row f fd) (T : Tx K mg)  : FnOk P w K mg base CX0 1 f fd ["row"] ((spF K R_not_row)) := by
  have nd := sc_not_row.nd
  refine F.ok sc_not_row (spF_len len_not_row) (fun cdv A outer s H vs Q E hr h => ?_)
  have hu := hr.units
  have hu5 := unit5 hr
  refine ⟨_, (pss_one (ps_ret (pe_lc (own := [("truth", 1)]) (g := gName 1) (tt := tYes) (by rfl) nd (kiList K (pi_list (pv 0))) (blkOk_by (own := [("truth", 1)]) (N := ["row", "truth"]) (sc := defScope s_not_row) (by decide +kernel)) (fun _ _ _ _ _ => pg_name (i := 1) nd rfl (Or.inl rfl)) (fun _ _ _ _ _ => pts_nil) (fun _ _ _ _ _ => (pe_not (pv 1)))))), ?_⟩
  refine bodyF_ok h len_not_row fun as ds hR => ?_
  obtain ⟨bs, rfl, rfl, hl⟩ := hR
  walk_at "bodyF"
  rw [← bls_map]
  refine ex_retF (ef_lcMap (onB fun b => !b) (src_list (ev_var rfl) rfl) (by exact rfl) (by rw [bls_len]; omega) fun d hd => ?_) (by walk_at "le")
  obtain ⟨b, _, rfl⟩ := List.mem_map.mp hd
  walk_at "nrm"
  exact ev_not (ev_var rfl)
def tillR (xs gs : List Bool) (back : Nat) : List Bool := (List.range gs.length).map fun t => passF (fun k => xs.getD k false) (fun k => gs.getD k false) ((List.range (gs.length - t)).map (t + ·) ++ (List.range (gs.length - back)).map (back + ·)) false
theorem passF_down (a g : Nat → Bool) (lo n : Nat) (z : Bool) : passF a g ((List.range (n + 1)).map (lo + ·)) z = (g lo || (a lo && passF a g ((List.range n).map (lo + 1 + ·)) z)) := by
  rw [List.range_succ_eq_map, List.map_cons, List.map_map]
  have e : (List.range n).map ((lo + ·) ∘ Nat.succ) = (List.range n).map (lo + 1 + ·) := List.map_congr_left fun k _ => by show lo + (k + 1) = lo + 1 + k; omega
  rw [e]
  show (g (lo + 0) || (a (lo + 0) && _)) = _
  rw [Nat.add_zero]
  rfl
theorem map_down {α : Type} (f : Nat → α) (L : Nat) : ((List.range L).map fun j => f (L - 1 - j)).reverse = (List.range L).map f := by
  refine List.ext_getElem (by rw [List.length_reverse, List.length_map, List.length_map]) fun i h1 h2 => ?_
  rw [List.length_map, List.length_range] at h2
  rw [List.getElem_reverse, List.getElem_map, List.getElem_map, List.getElem_range, List.getElem_range, List.length_map, List.length_range]
  exact congrArg f (by omega)
def R_till_row : List Dat → List Dat → Prop := fun as ds => ∃ (xs gs : List Bool) (back : Nat), as = [.lst (bls xs), .lst (bls gs), .int back] ∧ ds = bls (tillR xs gs back) ∧ xs.length = gs.length ∧ gs.length ≤ 2000 ∧ back ≤ gs.length
theorem len_till_row : ∀ as ds, R_till_row as ds → as.length = 3 := by
  rintro as ds ⟨_, _, _, rfl, _⟩
  rfl
abbrev s_till_row : Stmt := topS 5
theorem sc_till_row : FnScope ["ahead", "goal", "back", "later", "at", "row"] ["ahead", "goal", "back"] (defScope s_till_row) := ⟨rfl, rfl, rfl, by decide +kernel, rfl, by decide +kernel, by decide +kernel⟩
theorem ok_till_row {f : Addr} {fd : FuncData} (F : Fun K "_till_row" "_till_row" s_till_row f fd) (T : Tx K mg)  : FnOk P w K mg base CX0 1 f fd ["ahead", "goal", "back"] ((spF K R_till_row)) := by
  have nd := sc_till_row.nd
  refine F.ok sc_till_row (spF_len len_till_row) (fun cdv A outer s H vs Q E hr h => ?_)
  have hu := hr.units
  have hu5 := unit5 hr
  refine ⟨_, (pss_cons (ps_set (i := 3) nd rfl (by first | exact Or.inl rfl | exact Or.inr rfl) pe_bl)
      (pss_cons (ps_for PassesOwn.never (by rfl) (pi_range3 (by rfl) T.b_range (pa_cons (pe_op op_sub (pe_callB (kLen K) (by rfl) T.b_len PySem.boot_len (pa_cons (pv 1) pa_nil)) pe_int) (pa_cons (pe_op op_sub (pv 2) pe_int) (pa_cons (pe_un un_neg pe_int) pa_nil)))) (pg_name (i := 4) nd rfl (by first | exact Or.inl rfl | exact Or.inr rfl)) (pss_one (ps_set (i := 3) nd rfl (by first | exact Or.inl rfl | exact Or.inr rfl) (pe_or (pe_ix (kIxL K) (pv 1) (pv 4) (fun _ _ => rfl)) (pe_one (pe_and (pe_ix (kIxL K) (pv 0) (pv 4) (fun _ _ => rfl)) (pe_one (pv 3))))))))
      (pss_cons (ps_set (i := 5) nd rfl (by first | exact Or.inl rfl | exact Or.inr rfl) (pe_lst pa_nil))
      (pss_cons (ps_for PassesOwn.never (by rfl) (pi_range3 (by rfl) T.b_range (pa_cons (pe_op op_sub (pe_callB (kLen K) (by rfl) T.b_len PySem.boot_len (pa_cons (pv 1) pa_nil)) pe_int) (pa_cons (pe_un un_neg pe_int) (pa_cons (pe_un un_neg pe_int) pa_nil)))) (pg_name (i := 4) nd rfl (by first | exact Or.inl rfl | exact Or.inr rfl)) (pss_cons (ps_set (i := 3) nd rfl (by first | exact Or.inl rfl | exact Or.inr rfl) (pe_or (pe_ix (kIxL K) (pv 1) (pv 4) (fun _ _ => rfl)) (pe_one (pe_and (pe_ix (kIxL K) (pv 0) (pv 4) (fun _ _ => rfl)) (pe_one (pv 3))))))
      (pss_one (ps_expr (kBM K (pe_bm PySem.F.plainAttrs_list PySem.F.slot_list_append PySem.F.type_list_append mt_append (pv 5) (pa_cons (pv 3) pa_nil)))))))
      (pss_cons (ps_expr (kBM0 K (pe_bm0 PySem.F.plainAttrs_list PySem.F.slot_list_reverse PySem.F.type_list_reverse mt_reverse (pv 5))))
      (pss_one (ps_ret (pv 5)))))))), ?_⟩
  refine bodyF_ok h len_till_row fun as ds hR => ?_
  obtain ⟨xs, gs, back, rfl, rfl, hx, hl, hb⟩ := hR
  walk_at "bodyF"
  generalize hL : gs.length = L at *
  have lg := bls_len gs
  rw [hL] at lg
  let a : Nat → Bool := fun k => xs.getD k false
  let g : Nat → Bool := fun k => gs.getD k false
  have step : ∀ (ρ : List Sl) (t : Nat) (later : Bool), t < L → ρ[0]? = some (.dat (.lst (bls xs))) → ρ[1]? = some (.dat (.lst (bls gs))) → ρ[3]? = some (.dat (.bl later)) → ρ[4]? = some (.dat (.int t)) →
      Ev K (tOrV (tOp (rIxL K) (tVar 1) (tVar 4)) (tAndV (tOp (rIxL K) (tVar 0) (tVar 4)) (tVar 3))) ρ (.bl (g t || (a t && later))) ρ := fun ρ t later ht h0 h1 h3 h4 =>
    ev_or (ev_ixL (el_d (ev_var h1)) (ev_var h4) rfl (at_bls (by omega))) fun _ => ev_and (ev_ixL (el_d (ev_var h0)) (ev_var h4) rfl (at_bls (by omega))) fun _ => ev_var h3
  walk_at "set"
  walk_at "nrm"
  refine' ex_seq (ex_for (n := L - back) (fun i => [.dat (.lst (bls xs)), .dat (.lst (bls gs)), .dat (.int back), .dat (.bl (passF a g ((List.range i).map (L - i + ·)) false)), .no, .no])
    (src_rngDown (lo := (L : Int) - 1) (hi := (back : Int) - 1) (Ev.to (ev_i0 (ev_lenL (ds := bls gs) rfl (el_d (ev_var rfl)) rfl) ev_int) (by rw [lg])) (ev_i0 (ev_var rfl) ev_int) (ev_neg ev_int) (by omega) (by omega) (by omega) (by omega)) (fun _ => rfl) (by rw [rngC_len]; omega) (fun i d hi hd => .inl ?a1) (.done (by rw [rngC_len]; omega))) ?a2
  case a1 =>
    obtain ⟨hi2, rfl⟩ := rngC_get hd
    walk_at "nrm"
    have e : (L : Int) - 1 + (i : Nat) * (-1) = ((L - (i + 1) : Nat) : Int) := by omega
    rw [e]
    refine Ex.weak (ex_set (step _ (L - (i + 1)) _ (by omega) rfl rfl rfl rfl) rfl) ?_
    rw [passF_down, show L - (i + 1) + 1 = L - i by omega]
    walk_at "nrm"
    walk_at "le"
  have eb : L - (L - back) = back := by omega
  rw [eb]
  generalize hz : passF a g ((List.range (L - back)).map (back + ·)) false = z
  walk_at "setF"
  walk_at "nrm"
  let f : Nat → Bool := fun t => passF a g ((List.range (L - t)).map (t + ·)) z
  refine' ex_seq (ex_for (n := L) (fun i => [.dat (.lst (bls xs)), .dat (.lst (bls gs)), .dat (.int back), .dat (.bl (f (L - i))), .no, .own (bls ((List.range i).map fun j => f (L - 1 - j)))])
    (Src.weak (src_rngDown (lo := (L : Int) - 1) (hi := -1) (Ev.to (ev_i0 (ev_lenL (ds := bls gs) rfl (el_d (ev_var rfl)) rfl) ev_int) (by rw [lg])) (ev_neg ev_int) (ev_neg ev_int) (by omega) (by omega) (by omega) (by omega)) ?b0) (fun _ => rfl) (by rw [rngC_len]; omega) (fun i d hi hd => .inl ?b1) (.done (by rw [rngC_len]; omega))) ?b2
  case b0 =>
    have e : f (L - 0) = z := by
      show passF a g ((List.range (L - (L - 0))).map (L - 0 + ·)) z = z
      rw [show L - (L - 0) = 0 by omega]
      rfl
    rw [e]
    walk_at "le"
  case b1 =>
    obtain ⟨hi2, rfl⟩ := rngC_get hd
    walk_at "nrm"
    have e : (L : Int) - 1 + (i : Nat) * (-1) = ((L - (i + 1) : Nat) : Int) := by omega
    rw [e]
    have ef : (g (L - (i + 1)) || (a (L - (i + 1)) && f (L - i))) = f (L - (i + 1)) := by
      show _ = passF a g ((List.range (L - (L - (i + 1)))).map (L - (i + 1) + ·)) z
      rw [show L - (L - (i + 1)) = i + 1 by omega, passF_down, show L - (i + 1) + 1 = L - i by omega]
      show _ = (g (L - (i + 1)) || (a (L - (i + 1)) && passF a g ((List.range i).map (L - i + ·)) z))
      have : f (L - i) = passF a g ((List.range i).map (L - i + ·)) z := by
        show passF a g ((List.range (L - (L - i))).map (L - i + ·)) z = _
        rw [show L - (L - i) = i by omega]
      rw [this]
    refine Ex.weak (ex_seq (ex_set (Ev.to (step _ (L - (i + 1)) _ (by omega) rfl rfl rfl rfl) (by rw [ef])) rfl) (ex_append (ev_var rfl) ⟨_, rfl, rfl⟩ rfl rfl ?_)) ?_
    · rw [bls_len, List.length_map, List.length_range]; omega
    · walk_at "nrm"
      have er : bls ((List.range i).map fun j => f (L - 1 - j)) ++ [.bl (f (L - (i + 1)))] = bls ((List.range (i + 1)).map fun j => f (L - 1 - j)) := by
        rw [List.range_succ, List.map_append]
        unfold bls
        rw [List.map_append, List.map_cons, List.map_cons, List.map_nil, List.map_nil, show L - (i + 1) = L - 1 - i by omega]
      rw [er]
      walk_at "le"
  refine ex_seq (ex_reverse rfl rfl) ?_
  walk_at "nrm"
  have er : (bls ((List.range L).map fun j => f (L - 1 - j))).reverse = bls (tillR xs gs back) := by
    unfold bls
    rw [← List.map_reverse, map_down]
    refine congrArg _ ?_
    unfold tillR
    rw [hL]
    refine List.map_congr_left fun t ht => ?_
    rw [passF_app]
    show f t = _
    rw [hz]
  rw [er]
  exact ex_retF (ef_own rfl) (by walk_at "le")
theorem rep_bls (b : Bool) (n : Nat) : rep [.bl b] n = bls (List.replicate n b) := by
  unfold rep bls
  induction n with
  | zero => rfl
  | succ n ih => rw [List.replicate_succ, List.flatten_cons, ih, List.replicate_succ]; rfl
def R_always_row : List Dat → List Dat → Prop := fun as ds => ∃ (bs : List Bool) (back : Nat), as = [.lst (bls bs), .int back] ∧ ds = bls ((tillR (List.replicate bs.length true) (bs.map fun b => !b) back).map fun b => !b) ∧ bs.length ≤ 1000 ∧ back ≤ bs.length
theorem len_always_row : ∀ as ds, R_always_row as ds → as.length = 2 := by
  rintro as ds ⟨_, _, rfl, _⟩
  rfl
abbrev s_always_row : Stmt := topS 6
theorem sc_always_row : FnScope ["row", "back"] ["row", "back"] (defScope s_always_row) := ⟨rfl, rfl, rfl, by decide +kernel, rfl, by decide +kernel, by decide +kernel⟩
theorem ok_always_row {f : Addr} {fd : FuncData} (F : Fun K "_always_row" "_always_row" s_always_row f fd) (T : Tx K mg) {a_not_row : Addr} {fd_not_row : FuncData} (c_not_row : Cal P w K mg base "_not_row" 1 ["row"] (spF K R_not_row) a_not_row fd_not_row) {a_till_row : Addr} {fd_till_row : FuncData} (c_till_row : Cal P w K mg base "_till_row" 1 ["ahead", "goal", "back"] (spF K R_till_row) a_till_row fd_till_row) : FnOk P w K mg base CX0 2 f fd ["row", "back"] ((spF K R_always_row)) := by
  have nd := sc_always_row.nd
  refine F.ok sc_always_row (spF_len len_always_row) (fun cdv A outer s H vs Q E hr h => ?_)
  have hu := hr.units
  have hu5 := unit5 hr
  refine ⟨_, (pss_one (ps_ret (pe_call c_not_row.ok (hr.mono (by omega)) (by rfl) c_not_row.g c_not_row.kp c_not_row.b .nil pass0 (pa_cons (pe_call c_till_row.ok (hr.mono (by omega)) (by rfl) c_till_row.g c_till_row.kp c_till_row.b .nil pass0 (pa_cons (pe_op op_rep (pe_lst (pa_cons pe_bl pa_nil)) (pe_callB (kLen K) (by rfl) T.b_len PySem.boot_len (pa_cons (pv 0) pa_nil))) (pa_cons (pe_call c_not_row.ok (hr.mono (by omega)) (by rfl) c_not_row.g c_not_row.kp c_not_row.b .nil pass0 (pa_cons (pv 0) pa_nil)) (pa_cons (pv 1) pa_nil)))) pa_nil)))), ?_⟩
  refine bodyF_ok h len_always_row fun as ds hR => ?_
  obtain ⟨bs, back, rfl, rfl, hl, hb⟩ := hR
  walk_at "bodyF"
  have e1 : (bs.map fun b => !b).length = bs.length := List.length_map ..
  have e2 : (tillR (List.replicate bs.length true) (bs.map fun b => !b) back).length = bs.length := by
    unfold tillR
    rw [List.length_map, List.length_range, e1]
  refine ex_retF (ef_call (ea_d (ev_of_fresh (ef_call (es := [.lst (bls (List.replicate bs.length true)), .lst (bls (bs.map fun b => !b)), .int back]) (ea_d (Ev.to (ev_rep (n := bs.length) (el_d (ev_lstA (ds := [.bl true]) (ea_d ev_bl ea_nil) rfl (by decide))) (Ev.to (ev_lenL (ds := bls bs) rfl (el_d (ev_var rfl)) rfl) (by rw [bls_len])) rfl (by omega) (by omega) (by show 1 * _ ≤ _; omega)) (by rw [rep_bls, Int.toNat_natCast]))
    (ea_d (ev_of_fresh (ef_call (ea_d (ev_var rfl) ea_nil) rfl ⟨bs, rfl, rfl, by omega⟩)) (ea_d (ev_var rfl) ea_nil))) rfl ⟨_, _, back, rfl, rfl, by rw [List.length_replicate, e1], by omega, by omega⟩)) ea_nil) rfl ⟨_, rfl, rfl, by omega⟩) (by walk_at "le")
theorem zip_bls (f : Bool → Bool → Bool) (xs ys : List Bool) (g : Dat → Dat → Dat) (h : ∀ a b, g (.bl a) (.bl b) = .bl (f a b)) : ((bls xs).zip (bls ys)).map (fun p => g p.1 p.2) = bls (List.zipWith f xs ys) := by
  unfold bls
  induction xs generalizing ys with
  | nil => rfl
  | cons x xs ih =>
    cases ys with
    | nil => rfl
    | cons y ys =>
      rw [List.map_cons, List.map_cons, List.zip_cons_cons, List.map_cons, ih, List.zipWith_cons_cons, List.map_cons]
      exact congrArg (· :: _) (h x y)
theorem zipD_zip (xs ys : List Dat) : zipD xs ys = (xs.zip ys).map fun p => .tup [p.1, p.2] := by
  unfold zipD
  rw [List.zip_eq_zipWith, List.map_zipWith]
def binD (f : Bool → Bool → Bool) : Dat → Dat → Dat := fun a b => match a, b with
  | .bl a, .bl b => .bl (f a b)
  | _, _ => .non
theorem zip_mem_bls {xs ys : List Bool} {p : Dat × Dat} (h : p ∈ (bls xs).zip (bls ys)) : ∃ a b, p = (.bl a, .bl b) := by
  obtain ⟨a, b⟩ := p
  have := List.of_mem_zip h
  obtain ⟨x, _, hx⟩ := List.mem_map.mp this.1
  obtain ⟨y, _, hy⟩ := List.mem_map.mp this.2
  exact ⟨x, y, by rw [← hx, ← hy]⟩
theorem tillR_row (s u : Say) (way ring : List Str) (hr : 1 ≤ ring.length) : tillR (rowB s way ring) (rowB u way ring) way.length = rowB (.till s u) way ring := by
  have l1 := rowB_len u way ring
  refine row_ext (by unfold tillR; rw [List.length_map, List.length_range, l1]) fun t ht => ?_
  unfold tillR
  rw [l1, List.getElem?_map, List.getElem?_range ht]
  refine congrArg some ?_
  rw [← till_after way ring s u hr (Nat.le_of_lt ht)]
  unfold after
  have e : way.length + ring.length - way.length = ring.length := by omega
  rw [e]
  have key : ∀ (v : Say) (k : Nat), k < way.length + ring.length → (rowB v way ring).getD k false = hb (wd way ring) v k := fun v k hk => by
    rw [List.getD_eq_getElem?_getD, rowB_get v way ring hk]
    rfl
  have cong : ∀ (ks : List Nat), (∀ k ∈ ks, k < way.length + ring.length) → passF (fun k => (rowB s way ring).getD k false) (fun k => (rowB u way ring).getD k false) ks false = passF (hb (wd way ring) s) (hb (wd way ring) u) ks false := fun ks => by
    induction ks with
    | nil => intro _; rfl
    | cons k ks ih =>
      intro h
      show ((rowB u way ring).getD k false || ((rowB s way ring).getD k false && passF _ _ ks false)) = (hb (wd way ring) u k || (hb (wd way ring) s k && passF _ _ ks false))
      rw [ih fun j hj => h j (List.mem_cons_of_mem _ hj), key u k (h k List.mem_cons_self), key s k (h k List.mem_cons_self)]
  refine cong _ fun k hk => ?_
  rcases List.mem_append.mp hk with hk | hk
  · obtain ⟨j, hj, rfl⟩ := List.mem_map.mp hk
    rw [List.mem_range] at hj
    show t + j < _
    omega
  · obtain ⟨j, hj, rfl⟩ := List.mem_map.mp hk
    rw [List.mem_range] at hj
    show way.length + j < _
    omega
theorem always_row (s : Say) (way ring : List Str) (hr : 1 ≤ ring.length) : (tillR (List.replicate (rowB s way ring).length true) ((rowB s way ring).map fun b => !b) way.length).map (fun b => !b) = rowB (.always s) way ring := by
  rw [rowB_len, row_yes way ring, row_not, tillR_row .yes (.not s) way ring hr]
  unfold rowB
  rw [List.map_map]
  refine List.map_congr_left fun t _ => ?_
  exact (always_till _ s t).symm
theorem again_row (s : Say) (way ring : List Str) (hr : 1 ≤ ring.length) : List.replicate (way.length + ring.length) (((rowB s way ring).drop way.length).any id) = rowB (.again s) way ring := by
  refine row_ext (by rw [List.length_replicate]) fun t ht => ?_
  rw [List.getElem?_replicate, if_pos ht, again_ring way ring s hr t]
theorem next_row (s : Say) (way ring : List Str) (hr : 1 ≤ ring.length) : (rowB s way ring).drop 1 ++ [(rowB s way ring).getD way.length false] = rowB (.next s) way ring := by
  rw [← row_next s way ring hr, List.getD_eq_getElem?_getD, rowB_get s way ring (by omega)]
  rfl
theorem bls_drop (bs : List Bool) (n : Nat) : (bls bs).drop n = bls (bs.drop n) := List.map_drop.symm
theorem bls_app (xs ys : List Bool) : bls xs ++ bls ys = bls (xs ++ ys) := List.map_append.symm
def Strs (xs : List Str) : Prop := ∀ x ∈ xs, PyData.strOk x = true
theorem kindOk : ∀ x ∈ ([("mark" : Str), "yes", "not", "and", "or", "next", "till", "always", "again"] : List Str), PyData.strOk x = true := by decide +kernel
def Rn_row (n : Nat) : List Dat → List Dat → Prop := fun as ds => ∃ (s : Say) (way ring : List Str), as = [s.d, .lst ((way ++ ring).map Dat.str), .int way.length] ∧ ds = bls (rowB s way ring) ∧ s.dep ≤ n ∧ s.Ok ∧ 1 ≤ ring.length ∧ way.length + ring.length ≤ 1000 ∧ Strs (way ++ ring)
theorem lenn_row {n : Nat} : ∀ as ds, Rn_row n as ds → as.length = 3 := by
  rintro as ds ⟨_, _, _, rfl, _⟩
  rfl
def R_row := Rn_row 6
theorem len_row : ∀ as ds, R_row as ds → as.length = 3 := lenn_row
abbrev s_row : Stmt := topS 3
theorem sc_row : FnScope ["saying", "marks", "back", "kind", "rows", "mark", "part", "one", "other"] ["saying", "marks", "back"] (defScope s_row) := ⟨rfl, rfl, rfl, by decide +kernel, rfl, by decide +kernel, by decide +kernel⟩
theorem ok_row {f : Addr} {fd : FuncData} (F : Fun K "_row" "_row" s_row f fd) (T : Tx K mg) (g_self : mg "_row" = some (.ref f)) (k_self : PySem.W.keepIn K (.ref f) = true) (b_self : Binds K fd ["saying", "marks", "back"] []) {a_not_row : Addr} {fd_not_row : FuncData} (c_not_row : Cal P w K mg base "_not_row" 1 ["row"] (spF K R_not_row) a_not_row fd_not_row) {a_till_row : Addr} {fd_till_row : FuncData} (c_till_row : Cal P w K mg base "_till_row" 1 ["ahead", "goal", "back"] (spF K R_till_row) a_till_row fd_till_row) {a_always_row : Addr} {fd_always_row : FuncData} (c_always_row : Cal P w K mg base "_always_row" 2 ["row", "back"] (spF K R_always_row) a_always_row fd_always_row) : FnOk P w K mg base CX0 9 f fd ["saying", "marks", "back"] ((spF K R_row)) := by
  have nd := sc_row.nd
  have key : ∀ n : Nat, FnOk P w K mg base CX0 (3 + n) f fd ["saying", "marks", "back"] (spF K (Rn_row n)) := by
    intro n
    induction n with
    | zero =>
      have no : ∀ as ds, Rn_row 0 as ds → False := by
          rintro as ds ⟨s, way, ring, rfl, rfl, h, _⟩
          have := dep_pos s
          omega
      exact F.ok sc_row (spF_len lenn_row) (fun cdv A outer s H vs Q E hr h => by obtain ⟨_, _, _, r, _⟩ := h; exact (no _ _ r).elim)
    | succ n ih =>
      have c_row : Cal P w K mg base "_row" (3 + n) ["saying", "marks", "back"] (spF K (Rn_row n)) f fd := ⟨g_self, k_self, b_self, ih⟩
      refine F.ok (k := 3 + n) sc_row (spF_len lenn_row) (fun cdv A outer s H vs Q E hr h => ?_)
      have hu := hr.units
      have hu5 := unit5 hr
      refine ⟨_, (pss_cons (ps_set (i := 3) nd rfl (by first | exact Or.inl rfl | exact Or.inr rfl) (pe_ix (kIxT K) (pv 0) pe_int (fun _ _ => rfl)))
      (pss_cons (ps_if (pt_cmpR (kEqD K hu) (pv 3) pe_str (nomark _)) (pss_one (ps_ret (pe_lc (own := [("mark", 5)]) (g := gName 5) (tt := tYes) (by rfl) nd (kiList K (pi_list (pv 1))) (blkOk_by (own := [("mark", 5)]) (N := ["saying", "marks", "back", "kind", "rows", "mark", "part", "one", "other"]) (sc := defScope s_row) (by decide +kernel)) (fun _ _ _ _ _ => pg_name (i := 5) nd rfl (Or.inl rfl)) (fun _ _ _ _ _ => pts_nil) (fun _ _ _ _ _ => (pe_cmpR (kEqD K hu) (pv 5) (pe_ix (kIxT K) (pv 0) pe_int (fun _ _ => rfl)) (nomark _)))))) pss_nil)
      (pss_cons (ps_if (pt_cmpR (kEqD K hu) (pv 3) pe_str (nomark _)) (pss_one (ps_ret (pe_op op_rep (pe_lst (pa_cons pe_bl pa_nil)) (pe_callB (kLen K) (by rfl) T.b_len PySem.boot_len (pa_cons (pv 1) pa_nil))))) pss_nil)
      (pss_cons (ps_setLc (i := 4) (own := [("part", 6)]) (g := gName 6) (tt := tYes) (by rfl) nd rfl rfl (sw_true rfl rfl rfl (by decide +kernel)) (kiTup K (pi_tup (pe_slice (kSlA K) (pv 0) (po_some pe_int) po_none))) (blkOk_by (own := [("part", 6)]) (N := ["saying", "marks", "back", "kind", "rows", "mark", "part", "one", "other"]) (sc := defScope s_row) (by decide +kernel)) (fun _ _ _ _ _ => pg_name (i := 6) nd rfl (Or.inl rfl)) (fun _ _ _ _ _ => pts_nil) (fun _ _ _ _ _ => (pe_call c_row.ok (hr.mono (by omega)) (by rfl) c_row.g c_row.kp c_row.b .nil pass0 (pa_cons (pv 6) (pa_cons (pv 1) (pa_cons (pv 2) pa_nil))))))
      (pss_cons (ps_if (pt_cmpR (kEqD K hu) (pv 3) pe_str (nomark _)) (pss_one (ps_ret (pe_call c_not_row.ok (hr.mono (by omega)) (by rfl) c_not_row.g c_not_row.kp c_not_row.b .nil pass0 (pa_cons (pe_ix (kIxL K) (pv 4) pe_int (fun _ _ => rfl)) pa_nil)))) pss_nil)
      (pss_cons (ps_if (pt_cmpR (kEqD K hu) (pv 3) pe_str (nomark _)) (pss_one (ps_ret (pe_lc (own := [("one", 7), ("other", 8)]) (g := gTup K 2 (gCons (gName 7) (gCons (gName 8) gNil))) (tt := tYes) (by rfl) nd (kiZip K (pi_zip (by rfl) T.b_zip (pa_cons (pe_ix (kIxL K) (pv 4) pe_int (fun _ _ => rfl)) (pa_cons (pe_ix (kIxL K) (pv 4) pe_int (fun _ _ => rfl)) pa_nil)))) (blkOk_by (own := [("one", 7), ("other", 8)]) (N := ["saying", "marks", "back", "kind", "rows", "mark", "part", "one", "other"]) (sc := defScope s_row) (by decide +kernel)) (fun _ _ _ _ _ => (kgTup K (pg_tup (n := 2) (by rfl) (pgs_cons (pg_name (i := 7) nd rfl (by first | exact Or.inl rfl | exact Or.inr rfl)) (pgs_cons (pg_name (i := 8) nd rfl (by first | exact Or.inl rfl | exact Or.inr rfl)) pgs_nil))))) (fun _ _ _ _ _ => pts_nil) (fun _ _ _ _ _ => (pe_and (pv 7) (pe_one (pv 8))))))) pss_nil)
      (pss_cons (ps_if (pt_cmpR (kEqD K hu) (pv 3) pe_str (nomark _)) (pss_one (ps_ret (pe_lc (own := [("one", 7), ("other", 8)]) (g := gTup K 2 (gCons (gName 7) (gCons (gName 8) gNil))) (tt := tYes) (by rfl) nd (kiZip K (pi_zip (by rfl) T.b_zip (pa_cons (pe_ix (kIxL K) (pv 4) pe_int (fun _ _ => rfl)) (pa_cons (pe_ix (kIxL K) (pv 4) pe_int (fun _ _ => rfl)) pa_nil)))) (blkOk_by (own := [("one", 7), ("other", 8)]) (N := ["saying", "marks", "back", "kind", "rows", "mark", "part", "one", "other"]) (sc := defScope s_row) (by decide +kernel)) (fun _ _ _ _ _ => (kgTup K (pg_tup (n := 2) (by rfl) (pgs_cons (pg_name (i := 7) nd rfl (by first | exact Or.inl rfl | exact Or.inr rfl)) (pgs_cons (pg_name (i := 8) nd rfl (by first | exact Or.inl rfl | exact Or.inr rfl)) pgs_nil))))) (fun _ _ _ _ _ => pts_nil) (fun _ _ _ _ _ => (pe_or (pv 7) (pe_one (pv 8))))))) pss_nil)
      (pss_cons (ps_if (pt_cmpR (kEqD K hu) (pv 3) pe_str (nomark _)) (pss_one (ps_ret (pe_op op_cat (pe_slice (kSlL K) (pe_ix (kIxL K) (pv 4) pe_int (fun _ _ => rfl)) (po_some pe_int) po_none) (pe_lst (pa_cons (pe_ix (kIxL K) (pe_ix (kIxL K) (pv 4) pe_int (fun _ _ => rfl)) (pv 2) (fun _ _ => rfl)) pa_nil))))) pss_nil)
      (pss_cons (ps_if (pt_cmpR (kEqD K hu) (pv 3) pe_str (nomark _)) (pss_one (ps_ret (pe_call c_till_row.ok (hr.mono (by omega)) (by rfl) c_till_row.g c_till_row.kp c_till_row.b .nil pass0 (pa_cons (pe_ix (kIxL K) (pv 4) pe_int (fun _ _ => rfl)) (pa_cons (pe_ix (kIxL K) (pv 4) pe_int (fun _ _ => rfl)) (pa_cons (pv 2) pa_nil)))))) pss_nil)
      (pss_cons (ps_if (pt_cmpR (kEqD K hu) (pv 3) pe_str (nomark _)) (pss_one (ps_ret (pe_call c_always_row.ok (hr.mono (by omega)) (by rfl) c_always_row.g c_always_row.kp c_always_row.b .nil pass0 (pa_cons (pe_ix (kIxL K) (pv 4) pe_int (fun _ _ => rfl)) (pa_cons (pv 2) pa_nil))))) pss_nil)
      (pss_one (ps_ret (pe_op op_rep (pe_lst (pa_cons (pe_callB (kAny K (by rfl)) (by rfl) T.b_any (by decide +kernel) (pa_cons (pe_slice (kSlL K) (pe_ix (kIxL K) (pv 4) pe_int (fun _ _ => rfl)) (po_some (pv 2)) po_none) pa_nil)) pa_nil)) (pe_callB (kLen K) (by rfl) T.b_len PySem.boot_len (pa_cons (pv 1) pa_nil))))))))))))))), ?_⟩
      refine bodyF_ok h lenn_row fun as ds hR => ?_
      obtain ⟨s, way, ring, rfl, rfl, hn, ok, hr, hl, hs⟩ := hR
      walk_at "bodyF"
      have hrl : ∀ v, (rowB v way ring).length = way.length + ring.length := fun v => rowB_len v way ring
      have hlm : ((way ++ ring).map Dat.str).length = way.length + ring.length := by rw [List.length_map, List.length_append]
      have part : ∀ (s : Say) (ρ : List Sl), s.dep ≤ n → s.Ok → ρ[1]? = some (.dat (.lst ((way ++ ring).map Dat.str))) → ρ[2]? = some (.dat (.int way.length)) → ρ[6]? = some (.dat s.d) →
          Ev K (tCall (spF K (Rn_row n)) [] E0 (tCons (tVar 6) (tCons (tVar 1) (tCons (tVar 2) tNil)))) ρ (.lst (bls (rowB s way ring))) ρ := fun s ρ h1 h2 a1 a2 a6 =>
        ev_of_fresh (ef_call (ea_d (ev_var a6) (ea_d (ev_var a1) (ea_d (ev_var a2) ea_nil))) rfl ⟨s, way, ring, rfl, rfl, h1, h2, hr, hl, hs⟩)
      have rows1 : ∀ (w : Str) (s : Say), s.dep ≤ n → s.Ok → Ex K (tAsg (tLc (iTup K (tSl (rSlA K) (tVar 0) (tPart (tC (V.int 1))) tNoPart)) (gName 6) tYes (tCall (spF K (Rn_row n)) [] E0 (tCons (tVar 6) (tCons (tVar 1) (tCons (tVar 2) tNil)))) [6]) (gName 4))
          [.dat (.tup [.str w, s.d]), .dat (.lst ((way ++ ring).map Dat.str)), .dat (.int way.length), .dat (.str w), .no, .no, .no, .no, .no]
          (.nx [.dat (.tup [.str w, s.d]), .dat (.lst ((way ++ ring).map Dat.str)), .dat (.int way.length), .dat (.str w), .dat (.lst [.lst (bls (rowB s way ring))]), .no, .no, .no, .no]) := fun w s h1 h2 => by
        refine Ex.to (ex_set (ev_of_fresh (ef_lcIx (ds := [s.d]) [.lst (bls (rowB s way ring))] (src_tup (ev_slA (ds := [.str w, s.d]) (ev_var rfl) (eo_some ev_int) eo_no)) (by exact rfl) rfl (by show 1 < 100000; decide) fun i d e hi he => ?_)) rfl) rfl
        match i, hi, he with
        | 0, hi, he =>
          cases hi
          cases he
          exact part s _ h1 h2 rfl rfl rfl
        | i + 1, hi, he => cases hi
      have rows2 : ∀ (w : Str) (s u : Say), s.dep ≤ n → s.Ok → u.dep ≤ n → u.Ok → Ex K (tAsg (tLc (iTup K (tSl (rSlA K) (tVar 0) (tPart (tC (V.int 1))) tNoPart)) (gName 6) tYes (tCall (spF K (Rn_row n)) [] E0 (tCons (tVar 6) (tCons (tVar 1) (tCons (tVar 2) tNil)))) [6]) (gName 4))
          [.dat (.tup [.str w, s.d, u.d]), .dat (.lst ((way ++ ring).map Dat.str)), .dat (.int way.length), .dat (.str w), .no, .no, .no, .no, .no]
          (.nx [.dat (.tup [.str w, s.d, u.d]), .dat (.lst ((way ++ ring).map Dat.str)), .dat (.int way.length), .dat (.str w), .dat (.lst [.lst (bls (rowB s way ring)), .lst (bls (rowB u way ring))]), .no, .no, .no, .no]) := fun w s u h1 h2 h3 h4 => by
        refine Ex.to (ex_set (ev_of_fresh (ef_lcIx (ds := [s.d, u.d]) [.lst (bls (rowB s way ring)), .lst (bls (rowB u way ring))] (src_tup (ev_slA (ds := [.str w, s.d, u.d]) (ev_var rfl) (eo_some ev_int) eo_no)) (by exact rfl) rfl (by show 2 < 100000; decide) fun i d e hi he => ?_)) rfl) rfl
        match i, hi, he with
        | 0, hi, he =>
          cases hi
          cases he
          exact part s _ h1 h2 rfl rfl rfl
        | 1, hi, he =>
          cases hi
          cases he
          exact part u _ h3 h4 rfl rfl rfl
        | i + 2, hi, he => cases hi
      have r0 : ∀ (x : Dat) (xs : List Dat), atI (x :: xs) 0 = some x := fun x xs => atI_nat (j := 0) rfl
      have r1 : ∀ (x y : Dat) (xs : List Dat), atI (x :: y :: xs) 1 = some y := fun x y xs => atI_nat (j := 1) rfl
      cases s with
      | mark m =>
        refine ex_seq (ex_set (d := .str "mark") (ev_ixT (ds := [.str "mark", .str m]) (ev_var rfl) ev_int rfl) rfl) ?_
        refine ex_yes (et_word rfl (by decide +kernel) (by decide +kernel) (by decide +kernel)) ?_ rfl
        have smk : ∀ x ∈ way ++ ring, Shp 60 (.str x) := fun x hx => shp_lit _ (hs x hx)
        have e : ((way ++ ring).map Dat.str).map (fun d => .bl (eqd d (.str m))) = bls (rowB (.mark m) way ring) := by
          rw [← row_mark m way ring]
          unfold bls
          rw [List.map_map, List.map_map]
          refine List.map_congr_left fun x _ => ?_
          show Dat.bl (eqd (.str x) (.str m)) = .bl (x == m)
          rw [eqd_str]
        rw [← e]
        refine ex_retF (ef_lcMap (fun d => .bl (eqd d (.str m))) (src_list (ev_var rfl) rfl) (by exact rfl) (by omega) fun d hd => ?_) (by walk_at "le")
        obtain ⟨x, hx, rfl⟩ := List.mem_map.mp hd
        walk_at "nrm"
        exact ev_eq (ev_var rfl) (ev_ixT (ds := [.str "mark", .str m]) (ev_var rfl) ev_int rfl) (smk x hx) (shp_lit _ (mark_ok ok.1).2)
      | yes =>
        refine ex_seq (ex_set (d := .str "yes") (ev_ixT (ds := [.str "yes"]) (ev_var rfl) ev_int rfl) rfl) ?_
        refine ex_no (et_word rfl (by decide +kernel) (by decide +kernel) (by decide +kernel)) ?_
        refine ex_yes (et_word rfl (by decide +kernel) (by decide +kernel) (by decide +kernel)) ?_ rfl
        rw [← row_yes way ring, ← rep_bls]
        refine ex_retF (ef_rep (n := (way.length + ring.length : Nat)) (el_d (ev_lstA (ds := [.bl true]) (ea_d ev_bl ea_nil) rfl (by decide))) (Ev.to (ev_lenL (ds := (way ++ ring).map Dat.str) rfl (el_d (ev_var rfl)) rfl) (by rw [hlm])) rfl (by omega) (by omega) (by show 1 * _ ≤ _; omega)) (by walk_at "le")
      | not s =>
        have hd : s.dep ≤ n := by have : s.dep + 1 ≤ n + 1 := hn; omega
        refine ex_seq (ex_set (d := .str "not") (ev_ixT (ds := [.str "not", s.d]) (ev_var rfl) ev_int rfl) rfl) ?_
        refine ex_no (et_word rfl (by decide +kernel) (by decide +kernel) (by decide +kernel)) ?_
        refine ex_no (et_word rfl (by decide +kernel) (by decide +kernel) (by decide +kernel)) ?_
        refine ex_seq (rows1 "not" s hd ok) ?_
        refine ex_yes (et_word rfl (by decide +kernel) (by decide +kernel) (by decide +kernel)) ?_ rfl
        rw [← row_not]
        exact ex_retF (ef_call (ea_d (ev_ixL (el_d (ev_var rfl)) ev_int rfl (r0 _ _)) ea_nil) rfl ⟨_, rfl, rfl, by rw [hrl]; omega⟩) (by walk_at "le")
      | and s u =>
        have hd : s.dep ≤ n ∧ u.dep ≤ n := by have : max s.dep u.dep + 1 ≤ n + 1 := hn; omega
        refine ex_seq (ex_set (d := .str "and") (ev_ixT (ds := [.str "and", s.d, u.d]) (ev_var rfl) ev_int rfl) rfl) ?_
        refine ex_no (et_word rfl (by decide +kernel) (by decide +kernel) (by decide +kernel)) ?_
        refine ex_no (et_word rfl (by decide +kernel) (by decide +kernel) (by decide +kernel)) ?_
        refine ex_seq (rows2 "and" s u hd.1 ok.1 hd.2 ok.2) ?_
        refine ex_no (et_word rfl (by decide +kernel) (by decide +kernel) (by decide +kernel)) ?_
        refine ex_yes (et_word rfl (by decide +kernel) (by decide +kernel) (by decide +kernel)) ?_ rfl
        rw [← row_and s u way ring, ← zip_bls (fun a b => a && b) _ _ (binD fun a b => a && b) (fun _ _ => rfl)]
        refine ex_retF (ef_lcMap2 (pairs := (bls (rowB s way ring)).zip (bls (rowB u way ring))) (binD fun a b => a && b) (by decide) (by rw [← zipD_zip]; exact src_zip (ev_ixL (el_d (ev_var rfl)) ev_int rfl (r0 _ _)) (ev_ixL (el_d (ev_var rfl)) ev_int rfl (r1 _ _ _)) rfl rfl) (by show 7 < 9; decide) (by show 8 < 9; decide) (by rw [List.length_zip, bls_len, bls_len, hrl, hrl]; omega) fun p hp => ?_) (by walk_at "le")
        obtain ⟨a, b, rfl⟩ := zip_mem_bls hp
        exact ev_and (a := a) (b := b) (ev_var rfl) fun _ => ev_var rfl
      | or s u =>
        have hd : s.dep ≤ n ∧ u.dep ≤ n := by have : max s.dep u.dep + 1 ≤ n + 1 := hn; omega
        refine ex_seq (ex_set (d := .str "or") (ev_ixT (ds := [.str "or", s.d, u.d]) (ev_var rfl) ev_int rfl) rfl) ?_
        refine ex_no (et_word rfl (by decide +kernel) (by decide +kernel) (by decide +kernel)) ?_
        refine ex_no (et_word rfl (by decide +kernel) (by decide +kernel) (by decide +kernel)) ?_
        refine ex_seq (rows2 "or" s u hd.1 ok.1 hd.2 ok.2) ?_
        refine ex_no (et_word rfl (by decide +kernel) (by decide +kernel) (by decide +kernel)) ?_
        refine ex_no (et_word rfl (by decide +kernel) (by decide +kernel) (by decide +kernel)) ?_
        refine ex_yes (et_word rfl (by decide +kernel) (by decide +kernel) (by decide +kernel)) ?_ rfl
        rw [← row_or s u way ring, ← zip_bls (fun a b => a || b) _ _ (binD fun a b => a || b) (fun _ _ => rfl)]
        refine ex_retF (ef_lcMap2 (pairs := (bls (rowB s way ring)).zip (bls (rowB u way ring))) (binD fun a b => a || b) (by decide) (by rw [← zipD_zip]; exact src_zip (ev_ixL (el_d (ev_var rfl)) ev_int rfl (r0 _ _)) (ev_ixL (el_d (ev_var rfl)) ev_int rfl (r1 _ _ _)) rfl rfl) (by show 7 < 9; decide) (by show 8 < 9; decide) (by rw [List.length_zip, bls_len, bls_len, hrl, hrl]; omega) fun p hp => ?_) (by walk_at "le")
        obtain ⟨a, b, rfl⟩ := zip_mem_bls hp
        exact ev_or (a := a) (b := b) (ev_var rfl) fun _ => ev_var rfl
      | next s =>
        have hd : s.dep ≤ n := by have : s.dep + 1 ≤ n + 1 := hn; omega
        refine ex_seq (ex_set (d := .str "next") (ev_ixT (ds := [.str "next", s.d]) (ev_var rfl) ev_int rfl) rfl) ?_
        refine ex_no (et_word rfl (by decide +kernel) (by decide +kernel) (by decide +kernel)) ?_
        refine ex_no (et_word rfl (by decide +kernel) (by decide +kernel) (by decide +kernel)) ?_
        refine ex_seq (rows1 "next" s hd ok) ?_
        refine ex_no (et_word rfl (by decide +kernel) (by decide +kernel) (by decide +kernel)) ?_
        refine ex_no (et_word rfl (by decide +kernel) (by decide +kernel) (by decide +kernel)) ?_
        refine ex_no (et_word rfl (by decide +kernel) (by decide +kernel) (by decide +kernel)) ?_
        refine ex_yes (et_word rfl (by decide +kernel) (by decide +kernel) (by decide +kernel)) ?_ rfl
        rw [← next_row s way ring hr, ← bls_app, ← bls_drop]
        have hx : atI (bls (rowB s way ring)) (way.length : Int) = some (.bl ((rowB s way ring).getD way.length false)) := at_bls (by rw [hrl]; omega)
        rw [show (bls (rowB s way ring)).drop 1 = cutD (bls (rowB s way ring)) (some ((1 : Nat) : Int)) none from (cutD_from _ 1).symm]
        exact ex_retF (ef_cat (es := [.bl _]) (el_d (ev_slL (el_d (ev_ixL (el_d (ev_var rfl)) ev_int rfl (r0 _ _))) (eo_some ev_int) eo_no rfl)) (el_d (ev_lstA (ea_d (ev_ixL (el_d (ev_ixL (el_d (ev_var rfl)) ev_int rfl (r0 _ _))) (ev_var rfl) rfl hx) ea_nil) rfl (by show 1 ≤ 100000; decide))) rfl rfl (by rw [cutD_from, List.length_drop, bls_len, hrl]; show _ + 1 ≤ _; omega)) (by walk_at "le")
      | till s u =>
        have hd : s.dep ≤ n ∧ u.dep ≤ n := by have : max s.dep u.dep + 1 ≤ n + 1 := hn; omega
        refine ex_seq (ex_set (d := .str "till") (ev_ixT (ds := [.str "till", s.d, u.d]) (ev_var rfl) ev_int rfl) rfl) ?_
        refine ex_no (et_word rfl (by decide +kernel) (by decide +kernel) (by decide +kernel)) ?_
        refine ex_no (et_word rfl (by decide +kernel) (by decide +kernel) (by decide +kernel)) ?_
        refine ex_seq (rows2 "till" s u hd.1 ok.1 hd.2 ok.2) ?_
        refine ex_no (et_word rfl (by decide +kernel) (by decide +kernel) (by decide +kernel)) ?_
        refine ex_no (et_word rfl (by decide +kernel) (by decide +kernel) (by decide +kernel)) ?_
        refine ex_no (et_word rfl (by decide +kernel) (by decide +kernel) (by decide +kernel)) ?_
        refine ex_no (et_word rfl (by decide +kernel) (by decide +kernel) (by decide +kernel)) ?_
        refine ex_yes (et_word rfl (by decide +kernel) (by decide +kernel) (by decide +kernel)) ?_ rfl
        rw [← tillR_row s u way ring hr]
        exact ex_retF (ef_call (ea_d (ev_ixL (el_d (ev_var rfl)) ev_int rfl (r0 _ _)) (ea_d (ev_ixL (el_d (ev_var rfl)) ev_int rfl (r1 _ _ _)) (ea_d (ev_var rfl) ea_nil))) rfl ⟨_, _, _, rfl, rfl, by rw [hrl, hrl], by rw [hrl]; omega, by rw [hrl]; omega⟩) (by walk_at "le")
      | always s =>
        have hd : s.dep ≤ n := by have : s.dep + 1 ≤ n + 1 := hn; omega
        refine ex_seq (ex_set (d := .str "always") (ev_ixT (ds := [.str "always", s.d]) (ev_var rfl) ev_int rfl) rfl) ?_
        refine ex_no (et_word rfl (by decide +kernel) (by decide +kernel) (by decide +kernel)) ?_
        refine ex_no (et_word rfl (by decide +kernel) (by decide +kernel) (by decide +kernel)) ?_
        refine ex_seq (rows1 "always" s hd ok) ?_
        refine ex_no (et_word rfl (by decide +kernel) (by decide +kernel) (by decide +kernel)) ?_
        refine ex_no (et_word rfl (by decide +kernel) (by decide +kernel) (by decide +kernel)) ?_
        refine ex_no (et_word rfl (by decide +kernel) (by decide +kernel) (by decide +kernel)) ?_
        refine ex_no (et_word rfl (by decide +kernel) (by decide +kernel) (by decide +kernel)) ?_
        refine ex_no (et_word rfl (by decide +kernel) (by decide +kernel) (by decide +kernel)) ?_
        refine ex_yes (et_word rfl (by decide +kernel) (by decide +kernel) (by decide +kernel)) ?_ rfl
        rw [← always_row s way ring hr]
        exact ex_retF (ef_call (ea_d (ev_ixL (el_d (ev_var rfl)) ev_int rfl (r0 _ _)) (ea_d (ev_var rfl) ea_nil)) rfl ⟨_, _, rfl, rfl, by rw [hrl]; omega, by rw [hrl]; omega⟩) (by walk_at "le")
      | again s =>
        have hd : s.dep ≤ n := by have : s.dep + 1 ≤ n + 1 := hn; omega
        refine ex_seq (ex_set (d := .str "again") (ev_ixT (ds := [.str "again", s.d]) (ev_var rfl) ev_int rfl) rfl) ?_
        refine ex_no (et_word rfl (by decide +kernel) (by decide +kernel) (by decide +kernel)) ?_
        refine ex_no (et_word rfl (by decide +kernel) (by decide +kernel) (by decide +kernel)) ?_
        refine ex_seq (rows1 "again" s hd ok) ?_
        refine ex_no (et_word rfl (by decide +kernel) (by decide +kernel) (by decide +kernel)) ?_
        refine ex_no (et_word rfl (by decide +kernel) (by decide +kernel) (by decide +kernel)) ?_
        refine ex_no (et_word rfl (by decide +kernel) (by decide +kernel) (by decide +kernel)) ?_
        refine ex_no (et_word rfl (by decide +kernel) (by decide +kernel) (by decide +kernel)) ?_
        refine ex_no (et_word rfl (by decide +kernel) (by decide +kernel) (by decide +kernel)) ?_
        refine ex_no (et_word rfl (by decide +kernel) (by decide +kernel) (by decide +kernel)) ?_
        rw [← again_row s way ring hr, ← rep_bls]
        exact ex_retF (ef_rep (n := (way.length + ring.length : Nat)) (el_d (ev_lstA (ds := [.bl _]) (ea_d (ev_any (bs := (rowB s way ring).drop way.length) (el_d (ev_slL (el_d (ev_ixL (el_d (ev_var rfl)) ev_int rfl (r0 _ _))) (eo_some (ev_var rfl)) eo_no rfl)) (by rw [cutD_from, bls_drop]; rfl)) ea_nil) rfl (by show 1 ≤ 100000; decide))) (Ev.to (ev_lenL (ds := (way ++ ring).map Dat.str) rfl (el_d (ev_var rfl)) rfl) (by rw [hlm])) rfl (by omega) (by omega) (by show 1 * _ ≤ _; omega)) (by walk_at "le")
  exact key 6
def R_row_of : List Dat → List Dat → Prop := fun as ds => ∃ (s : Say) (way ring : List Str), as = [s.d, .lst (way.map Dat.str), .lst (ring.map Dat.str)] ∧ ds = bls (rowB s way ring) ∧ s.dep ≤ 6 ∧ s.Ok ∧ 1 ≤ ring.length ∧ way.length + ring.length ≤ 1000 ∧ Strs (way ++ ring)
theorem len_row_of : ∀ as ds, R_row_of as ds → as.length = 3 := by
  rintro as ds ⟨_, _, _, rfl, _⟩
  rfl
abbrev s_row_of : Stmt := topS 2
theorem sc_row_of : FnScope ["saying", "way", "ring"] ["saying", "way", "ring"] (defScope s_row_of) := ⟨rfl, rfl, rfl, by decide +kernel, rfl, by decide +kernel, by decide +kernel⟩
theorem ok_row_of {f : Addr} {fd : FuncData} (F : Fun K "row_of" "row_of" s_row_of f fd) (T : Tx K mg) {a_row : Addr} {fd_row : FuncData} (c_row : Cal P w K mg base "_row" 9 ["saying", "marks", "back"] (spF K R_row) a_row fd_row) : FnOk P w K mg base CX0 10 f fd ["saying", "way", "ring"] ((spF K R_row_of)) := by
  have nd := sc_row_of.nd
  refine F.ok sc_row_of (spF_len len_row_of) (fun cdv A outer s H vs Q E hr h => ?_)
  have hu := hr.units
  have hu5 := unit5 hr
  refine ⟨_, (pss_one (ps_ret (pe_call c_row.ok (hr.mono (by omega)) (by rfl) c_row.g c_row.kp c_row.b .nil pass0 (pa_cons (pv 0) (pa_cons (pe_lst (kStar K (StX.pa_star (pv 1) (kStar K (StX.pa_star (pv 2) pa_nil))))) (pa_cons (pe_callB (kLen K) (by rfl) T.b_len PySem.boot_len (pa_cons (pv 1) pa_nil)) pa_nil)))))), ?_⟩
  refine bodyF_ok h len_row_of fun as ds hR => ?_
  obtain ⟨s, way, ring, rfl, rfl, hn, ok, hr, hl, hs⟩ := hR
  walk_at "bodyF"
  refine ex_retF (ef_call (es := [s.d, .lst ((way ++ ring).map Dat.str), .int way.length]) (ea_d (ev_var rfl) (ea_d (ev_lst (ρ1 := [.dat s.d, .dat (.lst (way.map Dat.str)), .dat (.lst (ring.map Dat.str))]) (ds := (way ++ ring).map Dat.str) ?_ (by rw [List.length_map, List.length_append]; omega)) (ea_d (Ev.to (ev_lenL (ds := way.map Dat.str) rfl (el_d (ev_var rfl)) rfl) (by rw [List.length_map])) ea_nil))) rfl ⟨s, way, ring, rfl, rfl, hn, ok, hr, hl, hs⟩) (by walk_at "le")
  rw [List.map_append, List.map_append]
  have := ea_star (K := K) (ρ := [.dat s.d, .dat (.lst (way.map Dat.str)), .dat (.lst (ring.map Dat.str))]) (el_d (ev_var (i := 1) (d := .lst (way.map Dat.str)) rfl)) rfl (ea_star (el_d (ev_var (i := 2) (d := .lst (ring.map Dat.str)) rfl)) rfl ea_nil)
  rw [List.append_nil] at this
  exact this
def R_holds : List Sl → Dat → List Sl → Prop := fun as d as' => ∃ (s : Say) (way ring : List Str), as = [.dat s.d, .dat (.lst (way.map Dat.str)), .dat (.lst (ring.map Dat.str))] ∧ d = .bl (hb (wd way ring) s 0) ∧ as' = [.no, .no, .no] ∧ s.dep ≤ 6 ∧ s.Ok ∧ 1 ≤ ring.length ∧ way.length + ring.length ≤ 1000 ∧ Strs (way ++ ring)
theorem len_holds : ∀ as d as', R_holds as d as' → as.length = 3 := by
  rintro as d as' ⟨_, _, _, rfl, _⟩
  rfl
abbrev s_holds : Stmt := topS 1
theorem sc_holds : FnScope ["saying", "way", "ring"] ["saying", "way", "ring"] (defScope s_holds) := ⟨rfl, rfl, rfl, by decide +kernel, rfl, by decide +kernel, by decide +kernel⟩
theorem ok_holds {f : Addr} {fd : FuncData} (F : Fun K "holds" "holds" s_holds f fd) (T : Tx K mg) {a_row_of : Addr} {fd_row_of : FuncData} (c_row_of : Cal P w K mg base "row_of" 10 ["saying", "way", "ring"] (spF K R_row_of) a_row_of fd_row_of) : FnOk P w K mg base CX0 11 f fd ["saying", "way", "ring"] ((spG K R_holds)) := by
  have nd := sc_holds.nd
  refine F.ok sc_holds (spG_len len_holds) (fun cdv A outer s H vs Q E hr h => ?_)
  have hu := hr.units
  have hu5 := unit5 hr
  refine ⟨_, (pss_one (ps_ret (pe_ix (kIxL K) (pe_call c_row_of.ok (hr.mono (by omega)) (by rfl) c_row_of.g c_row_of.kp c_row_of.b .nil pass0 (pa_cons (pv 0) (pa_cons (pv 1) (pa_cons (pv 2) pa_nil)))) pe_int (fun _ _ => rfl)))), ?_⟩
  refine body_ok h len_holds fun as d as' hR => ?_
  obtain ⟨s, way, ring, rfl, rfl, rfl, hn, ok, hr, hl, hs⟩ := hR
  walk_at "body"
  have h0 : atI (bls (rowB s way ring)) 0 = some (.bl (hb (wd way ring) s 0)) := by
    have := at_bls (bs := rowB s way ring) (k := 0) (by rw [rowB_len]; omega)
    rw [List.getD_eq_getElem?_getD, rowB_get s way ring (by omega)] at this
    exact this
  exact ex_retW (ev_ixL (el_d (ev_of_fresh (ef_call (ea_d (ev_var rfl) (ea_d (ev_var rfl) (ea_d (ev_var rfl) ea_nil))) rfl ⟨s, way, ring, rfl, rfl, hn, ok, hr, hl, hs⟩))) ev_int rfl h0) rfl (by walk_at "le")
def afterD (way ring : List Str) (t : Nat) : Dat := intsN (after way ring t)
def R_after : List Sl → Dat → List Sl → Prop := fun as d as' => ∃ (way ring : List Str) (t : Nat), as = [.dat (.lst (way.map Dat.str)), .dat (.lst (ring.map Dat.str)), .dat (.int t)] ∧ d = afterD way ring t ∧ as' = [.no, .no, .no] ∧ way.length + ring.length ≤ 1000 ∧ t ≤ 1000
theorem len_after : ∀ as d as', R_after as d as' → as.length = 3 := by
  rintro as d as' ⟨_, _, _, rfl, _⟩
  rfl
abbrev s_after : Stmt := topS 12
theorem sc_after : FnScope ["_law_way", "_law_ring", "_law_at", "_law_size", "_law_k"] ["_law_way", "_law_ring", "_law_at"] (defScope s_after) := ⟨rfl, rfl, rfl, by decide +kernel, rfl, by decide +kernel, by decide +kernel⟩
theorem ok_after {f : Addr} {fd : FuncData} (F : Fun K "_law_after" "_law_after" s_after f fd) (T : Tx K mg)  : FnOk P w K mg base CX0 1 f fd ["_law_way", "_law_ring", "_law_at"] ((spG K R_after)) := by
  have nd := sc_after.nd
  refine F.ok sc_after (spG_len len_after) (fun cdv A outer s H vs Q E hr h => ?_)
  have hu := hr.units
  have hu5 := unit5 hr
  refine ⟨_, (pss_cons (ps_set (i := 3) nd rfl (by first | exact Or.inl rfl | exact Or.inr rfl) (pe_op op_add (pe_callB (kLen K) (by rfl) T.b_len PySem.boot_len (pa_cons (pv 0) pa_nil)) (pe_callB (kLen K) (by rfl) T.b_len PySem.boot_len (pa_cons (pv 1) pa_nil))))
      (pss_one (ps_ret (pe_op op_cat (pe_lc (own := [("_law_k", 4)]) (g := gName 4) (tt := tYes) (by rfl) nd (pi_range2 (by rfl) T.b_range (pa_cons (pv 2) (pa_cons (pv 3) pa_nil))) (blkOk_by (own := [("_law_k", 4)]) (N := ["_law_way", "_law_ring", "_law_at", "_law_size", "_law_k"]) (sc := defScope s_after) (by decide +kernel)) (fun _ _ _ _ _ => pg_name (i := 4) nd rfl (Or.inl rfl)) (fun _ _ _ _ _ => pts_nil) (fun _ _ _ _ _ => (pv 4))) (pe_lc (own := [("_law_k", 4)]) (g := gName 4) (tt := tYes) (by rfl) nd (pi_range2 (by rfl) T.b_range (pa_cons (pe_callB (kLen K) (by rfl) T.b_len PySem.boot_len (pa_cons (pv 0) pa_nil)) (pa_cons (pv 3) pa_nil))) (blkOk_by (own := [("_law_k", 4)]) (N := ["_law_way", "_law_ring", "_law_at", "_law_size", "_law_k"]) (sc := defScope s_after) (by decide +kernel)) (fun _ _ _ _ _ => pg_name (i := 4) nd rfl (Or.inl rfl)) (fun _ _ _ _ _ => pts_nil) (fun _ _ _ _ _ => (pv 4))))))), ?_⟩
  refine body_ok h len_after fun as d as' hR => ?_
  obtain ⟨way, ring, t, rfl, rfl, rfl, hl, ht⟩ := hR
  walk_at "body"
  refine ex_seq (ex_set (d := .int (way.length + ring.length : Nat)) (Ev.to (ev_i0 (ev_lenL (ds := way.map Dat.str) rfl (el_d (ev_var rfl)) rfl) (ev_lenL (ds := ring.map Dat.str) rfl (el_d (ev_var rfl)) rfl)) (by rw [List.length_map, List.length_map, Int.natCast_add])) rfl) ?_
  walk_at "nrm"
  have rng : ∀ (i : Nat) (lo hi : Nat) (e : TE) (ρ : List Sl), ρ.length = 5 → ρ[4]? = some .no → Ev K e ρ (.int lo) ρ → ρ[3]? = some (.dat (.int hi)) → lo ≤ 1000 → hi ≤ 1000 →
      Ev K (tLc (iRng2 (tCons e (tCons (tVar 3) tNil))) (gName 4) tYes (tVar 4) [4]) ρ (intsN ((List.range (hi - lo)).map (lo + ·))) (wipeS ρ [4]) := fun i lo hi e ρ hlen h4 he h3 hlo hhi => by
    have hm : (rngD lo ((hi : Int) - lo).toNat).map (fun d => d) = ((List.range (hi - lo)).map (lo + ·)).map fun k => .int ((k : Nat) : Int) := by
      rw [List.map_id']
      unfold rngD
      rw [List.map_map, show ((hi : Int) - lo).toNat = hi - lo by omega]
      refine List.map_congr_left fun k _ => ?_
      show Dat.int ((lo : Int) + (k : Nat)) = .int ((lo + k : Nat) : Int)
      rw [Int.natCast_add]
    unfold intsN
    rw [← hm]
    exact ev_of_fresh (ef_lcMap (fun d => d) (src_rng2 he (ev_var h3) (by omega) (by omega) (by omega) (by omega)) (isSome_of_lt (by omega)) (by rw [rngD_len]; omega) fun d hd => ev_var (by
      show (((ρ.set 4 .no).set 4 (.dat d))[4]?) = _
      rw [List.set_set, List.getElem?_set_self (by omega)]))
  have e1 := rng 0 t (way.length + ring.length) (tVar 2) [.dat (.lst (way.map Dat.str)), .dat (.lst (ring.map Dat.str)), .dat (.int t), .dat (.int (way.length + ring.length : Nat)), .no] rfl rfl (ev_var rfl) rfl ht hl
  have e2 := rng 0 way.length (way.length + ring.length) (tCB (rLenQ K) (tCons (tVar 0) tNil)) [.dat (.lst (way.map Dat.str)), .dat (.lst (ring.map Dat.str)), .dat (.int t), .dat (.int (way.length + ring.length : Nat)), .no] rfl rfl (Ev.to (ev_lenL (ds := way.map Dat.str) rfl (el_d (ev_var rfl)) rfl) (by rw [List.length_map])) rfl (by omega) hl
  refine ex_retW (ev_cat (el_d e1) (el_d e2) rfl rfl ?_) ?_ (by walk_at "le")
  · rw [List.length_map, List.length_map, List.length_map, List.length_map, List.length_range, List.length_range]
    omega
  · unfold afterD after intsN
    rw [← List.map_append, show way.length + ring.length - way.length = ring.length by omega]
def R_till : List Sl → Dat → List Sl → Prop := fun as d as' => ∃ (xs gs : List Bool) (ks : List Nat), as = [.dat (.lst (bls xs)), .dat (.lst (bls gs)), .dat (intsN ks)] ∧ d = .bl (passF (fun k => xs.getD k false) (fun k => gs.getD k false) ks false) ∧ as' = [.no, .no, .no] ∧ ∀ k ∈ ks, k < xs.length ∧ k < gs.length
theorem len_till : ∀ as d as', R_till as d as' → as.length = 3 := by
  rintro as d as' ⟨_, _, _, rfl, _⟩
  rfl
abbrev s_till : Stmt := topS 13
theorem sc_till : FnScope ["_law_ones", "_law_others", "_law_moments", "_law_k"] ["_law_ones", "_law_others", "_law_moments"] (defScope s_till) := ⟨rfl, rfl, rfl, by decide +kernel, rfl, by decide +kernel, by decide +kernel⟩
theorem ok_till {f : Addr} {fd : FuncData} (F : Fun K "_law_till" "_law_till" s_till f fd) (T : Tx K mg)  : FnOk P w K mg base CX0 1 f fd ["_law_ones", "_law_others", "_law_moments"] ((spG K R_till)) := by
  have nd := sc_till.nd
  refine F.ok sc_till (spG_len len_till) (fun cdv A outer s H vs Q E hr h => ?_)
  have hu := hr.units
  have hu5 := unit5 hr
  refine ⟨_, (pss_cons (ps_for PassesOwn.never (by rfl) (kiList K (pi_list (pv 2))) (pg_name (i := 3) nd rfl (by first | exact Or.inl rfl | exact Or.inr rfl)) (pss_cons (ps_if (pt_val (pe_ix (kIxL K) (pv 1) (pv 3) (fun _ _ => rfl))) (pss_one (ps_ret pe_bl)) pss_nil)
      (pss_one (ps_if (pt_not (pt_val (pe_ix (kIxL K) (pv 0) (pv 3) (fun _ _ => rfl)))) (pss_one (ps_ret pe_bl)) pss_nil))))
      (pss_one (ps_ret pe_bl))), ?_⟩
  refine body_ok h len_till fun as d as' hR => ?_
  obtain ⟨xs, gs, ks, rfl, rfl, rfl, hk⟩ := hR
  walk_at "body"
  let p : Dat → Bool := fun d => match d with | .int i => gs.getD i.toNat false || !xs.getD i.toNat false | _ => false
  let r : Dat → Dat := fun d => match d with | .int i => .bl (gs.getD i.toNat false) | _ => .non
  have hv : passF (fun k => xs.getD k false) (fun k => gs.getD k false) ks false = match (ks.map fun k => Dat.int ((k : Nat) : Int)).find? p with | some (.int i) => gs.getD i.toNat false | _ => false := by
    clear hk
    induction ks with
    | nil => rfl
    | cons k ks ih =>
      show (gs.getD k false || (xs.getD k false && passF _ _ ks false)) = _
      rw [ih, List.map_cons, List.find?_cons]
      have hp : p (.int ((k : Nat) : Int)) = (gs.getD k false || !xs.getD k false) := by
        show (gs.getD ((k : Nat) : Int).toNat false || !xs.getD ((k : Nat) : Int).toNat false) = _
        rw [Int.toNat_natCast]
      rw [hp]
      cases hg : gs.getD k false with
      | true =>
        show true = gs.getD ((k : Nat) : Int).toNat false
        rw [Int.toNat_natCast, hg]
      | false =>
        cases hx : xs.getD k false with
        | true => rfl
        | false =>
          show false = gs.getD ((k : Nat) : Int).toNat false
          rw [Int.toNat_natCast, hg]
  have at1 : ∀ k ∈ ks, atI (bls gs) ((k : Nat) : Int) = some (.bl (gs.getD k false)) := fun k h => at_bls (hk k h).2
  have at0 : ∀ k ∈ ks, atI (bls xs) ((k : Nat) : Int) = some (.bl (xs.getD k false)) := fun k h => at_bls (hk k h).1
  have hloop := ex_forFind (K := K) (wi := iList K (tVar 2)) (x := 3) (ρ := [.dat (.lst (bls xs)), .dat (.lst (bls gs)), .dat (intsN ks), .no]) (ρ1 := [.dat (.lst (bls xs)), .dat (.lst (bls gs)), .no, .no]) (ρ' := [.no, .no, .no, .no]) (ds := ks.map fun k => Dat.int ((k : Nat) : Int)) (tbd := tSeq (tIfS (tB (tOp (rIxL K) (tVar 1) (tVar 3))) (tRet (tC (V.bl true))) tNext) (tIfS (tNot (tB (tOp (rIxL K) (tVar 0) (tVar 3)))) (tRet (tC (V.bl false))) tNext)) p r (src_list (ev_var rfl) rfl) (by walk_at "le") (by show 3 < 4; decide) (fun d hd hp => ?_) (fun d hd hp => ?_)
  · cases e : (ks.map fun k => Dat.int ((k : Nat) : Int)).find? p with
    | none =>
      rw [e] at hloop hv
      rw [hv]
      exact ex_seq hloop (ex_retW ev_bl rfl (by walk_at "le"))
    | some d =>
      obtain ⟨k, hk2, rfl⟩ := List.mem_map.mp (List.mem_of_find?_eq_some e)
      rw [e] at hloop hv
      rw [hv]
      exact ex_seqRt hloop
  · obtain ⟨k, hk2, rfl⟩ := List.mem_map.mp hd
    have hp : (gs.getD ((k : Nat) : Int).toNat false || !xs.getD ((k : Nat) : Int).toNat false) = false := hp
    rw [Int.toNat_natCast, Bool.or_eq_false_iff] at hp
    have hx : xs.getD k false = true := by simpa using hp.2
    walk_at "nrm"
    refine ex_no (EvT.to (et_B (ev_ixL (el_d (ev_var rfl)) (ev_var rfl) rfl (at1 k hk2))) hp.1) ?_
    exact ex_if (a := false) (EvT.to (et_not (et_B (ev_ixL (el_d (ev_var rfl)) (ev_var rfl) rfl (at0 k hk2)))) (by rw [hx]; rfl)) (fun q => by cases q) fun _ => Ex.weak ex_next (by walk_at "le")
  · obtain ⟨k, hk2, rfl⟩ := List.mem_map.mp hd
    have hp : (gs.getD ((k : Nat) : Int).toNat false || !xs.getD ((k : Nat) : Int).toNat false) = true := hp
    show Ex K _ _ (.rt (.bl (gs.getD ((k : Nat) : Int).toNat false)) _)
    rw [Int.toNat_natCast] at hp ⊢
    walk_at "nrm"
    cases hg : gs.getD k false with
    | true => exact ex_yes (EvT.to (et_B (ev_ixL (el_d (ev_var rfl)) (ev_var rfl) rfl (at1 k hk2))) hg) (ex_retW ev_bl rfl (by walk_at "le")) rfl
    | false =>
      rw [hg, Bool.false_or] at hp
      refine ex_no (EvT.to (et_B (ev_ixL (el_d (ev_var rfl)) (ev_var rfl) rfl (at1 k hk2))) hg) ?_
      exact ex_if (a := true) (EvT.to (et_not (et_B (ev_ixL (el_d (ev_var rfl)) (ev_var rfl) rfl (at0 k hk2)))) hp) (fun _ => ex_retW ev_bl rfl (by walk_at "le")) fun q => by cases q
theorem any_bl_true (bs : List Bool) : ((bs.map Dat.bl).any fun e => eqd e (.bl true)) = bs.any id := by
  induction bs with
  | nil => rfl
  | cons b bs ih =>
    rw [List.map_cons, List.any_cons, ih, eqd_bl, List.any_cons]
    cases b <;> simp
theorem any_bl_falseB (bs : List Bool) : ((bs.map Dat.bl).any fun e => eqd e (.bl false)) = !bs.all id := by
  induction bs with
  | nil => rfl
  | cons b bs ih =>
    rw [List.map_cons, List.any_cons, ih, eqd_bl, List.all_cons]
    cases b <;> simp
theorem shp_bls (n : Nat) (bs : List Bool) : ShpAll n (bls bs) := shpAll_of fun d hd => by
  obtain ⟨b, _, rfl⟩ := List.mem_map.mp hd
  cases n <;> simp only [Shp]
theorem after_lt {way ring : List Str} {t k : Nat} (h : k ∈ after way ring t) : k < way.length + ring.length := by
  rcases List.mem_append.mp h with h | h
  · obtain ⟨j, hj, rfl⟩ := List.mem_map.mp h
    rw [List.mem_range] at hj
    show t + j < _
    omega
  · obtain ⟨j, hj, rfl⟩ := List.mem_map.mp h
    rw [List.mem_range] at hj
    show way.length + j < _
    omega
theorem after_one (way ring : List Str) (hr : 1 ≤ ring.length) {t : Nat} (ht : t < way.length + ring.length) : (after way ring t)[1]? = some (nxt way ring t) := by
  unfold after nxt
  by_cases h : t + 1 < way.length + ring.length
  · rw [if_pos h, List.getElem?_append_left (by rw [List.length_map, List.length_range]; omega), List.getElem?_map, List.getElem?_range (by omega)]
    rfl
  · rw [if_neg h, List.getElem?_append_right (by rw [List.length_map, List.length_range]; omega), List.length_map, List.length_range, show 1 - (way.length + ring.length - t) = 0 by omega, List.getElem?_map, List.getElem?_range hr]
    rfl
theorem till_rows (s u : Say) (way ring : List Str) (hr : 1 ≤ ring.length) {t : Nat} (ht : t < way.length + ring.length) : passF (fun k => (rowB s way ring).getD k false) (fun k => (rowB u way ring).getD k false) (after way ring t) false = hb (wd way ring) (.till s u) t := by
  rw [← till_after way ring s u hr (Nat.le_of_lt ht)]
  have key : ∀ (v : Say) (k : Nat), k < way.length + ring.length → (rowB v way ring).getD k false = hb (wd way ring) v k := fun v k hk => by
    rw [List.getD_eq_getElem?_getD, rowB_get v way ring hk]
    rfl
  have cong : ∀ (ks : List Nat), (∀ k ∈ ks, k < way.length + ring.length) → passF (fun k => (rowB s way ring).getD k false) (fun k => (rowB u way ring).getD k false) ks false = passF (hb (wd way ring) s) (hb (wd way ring) u) ks false := fun ks => by
    induction ks with
    | nil => intro _; rfl
    | cons k ks ih =>
      intro h
      show ((rowB u way ring).getD k false || ((rowB s way ring).getD k false && passF _ _ ks false)) = (hb (wd way ring) u k || (hb (wd way ring) s k && passF _ _ ks false))
      rw [ih fun j hj => h j (List.mem_cons_of_mem _ hj), key u k (h k List.mem_cons_self), key s k (h k List.mem_cons_self)]
  exact cong _ fun k hk => after_lt hk
theorem always_rows (s : Say) (way ring : List Str) (hr : 1 ≤ ring.length) {t : Nat} (ht : t < way.length + ring.length) : ((after way ring t).map fun k => hb (wd way ring) s k).all id = hb (wd way ring) (.always s) t := by
  rw [← always_after way ring s hr (Nat.le_of_lt ht), List.all_map]
  rfl
def Rn_means (n : Nat) : List Dat → List Dat → Prop := fun as ds => ∃ (s : Say) (way ring : List Str), as = [s.d, .lst (way.map Dat.str), .lst (ring.map Dat.str)] ∧ ds = bls (rowB s way ring) ∧ s.dep ≤ n ∧ s.Ok ∧ 1 ≤ ring.length ∧ way.length + ring.length ≤ 1000 ∧ Strs (way ++ ring)
theorem lenn_means {n : Nat} : ∀ as ds, Rn_means n as ds → as.length = 3 := by
  rintro as ds ⟨_, _, _, rfl, _⟩
  rfl
def R_means := Rn_means 6
theorem len_means : ∀ as ds, R_means as ds → as.length = 3 := lenn_means
abbrev s_means : Stmt := topS 14
theorem sc_means : FnScope ["_law_saying", "_law_way", "_law_ring", "_law_word", "_law_run", "_law_rows", "_law_mark", "_law_part", "_law_one", "_law_other", "_law_at", "_law_k"] ["_law_saying", "_law_way", "_law_ring"] (defScope s_means) := ⟨rfl, rfl, rfl, by decide +kernel, rfl, by decide +kernel, by decide +kernel⟩
theorem ok_means {f : Addr} {fd : FuncData} (F : Fun K "_law_means" "_law_means" s_means f fd) (T : Tx K mg) (g_self : mg "_law_means" = some (.ref f)) (k_self : PySem.W.keepIn K (.ref f) = true) (b_self : Binds K fd ["_law_saying", "_law_way", "_law_ring"] []) {a_after : Addr} {fd_after : FuncData} (c_after : Cal P w K mg base "_law_after" 1 ["_law_way", "_law_ring", "_law_at"] (spG K R_after) a_after fd_after) {a_till : Addr} {fd_till : FuncData} (c_till : Cal P w K mg base "_law_till" 1 ["_law_ones", "_law_others", "_law_moments"] (spG K R_till) a_till fd_till) : FnOk P w K mg base CX0 8 f fd ["_law_saying", "_law_way", "_law_ring"] ((spF K R_means)) := by
  have nd := sc_means.nd
  have key : ∀ n : Nat, FnOk P w K mg base CX0 (2 + n) f fd ["_law_saying", "_law_way", "_law_ring"] (spF K (Rn_means n)) := by
    intro n
    induction n with
    | zero =>
      have no : ∀ as ds, Rn_means 0 as ds → False := by
          rintro as ds ⟨s, way, ring, rfl, rfl, h, _⟩
          have := dep_pos s
          omega
      exact F.ok sc_means (spF_len lenn_means) (fun cdv A outer s H vs Q E hr h => by obtain ⟨_, _, _, r, _⟩ := h; exact (no _ _ r).elim)
    | succ n ih =>
      have c_means : Cal P w K mg base "_law_means" (2 + n) ["_law_saying", "_law_way", "_law_ring"] (spF K (Rn_means n)) f fd := ⟨g_self, k_self, b_self, ih⟩
      refine F.ok (k := 2 + n) sc_means (spF_len lenn_means) (fun cdv A outer s H vs Q E hr h => ?_)
      have hu := hr.units
      have hu5 := unit5 hr
      refine ⟨_, (pss_cons (ps_set (i := 3) nd rfl (by first | exact Or.inl rfl | exact Or.inr rfl) (pe_ix (kIxT K) (pv 0) pe_int (fun _ _ => rfl)))
      (pss_cons (ps_set (i := 4) nd rfl (by first | exact Or.inl rfl | exact Or.inr rfl) (pe_op op_cat (pv 1) (pv 2)))
      (pss_cons (ps_if (pt_cmpR (kEqD K hu) (pv 3) pe_str (nomark _)) (pss_one (ps_ret (pe_lc (own := [("_law_mark", 6)]) (g := gName 6) (tt := tYes) (by rfl) nd (kiList K (pi_list (pv 4))) (blkOk_by (own := [("_law_mark", 6)]) (N := ["_law_saying", "_law_way", "_law_ring", "_law_word", "_law_run", "_law_rows", "_law_mark", "_law_part", "_law_one", "_law_other", "_law_at", "_law_k"]) (sc := defScope s_means) (by decide +kernel)) (fun _ _ _ _ _ => pg_name (i := 6) nd rfl (Or.inl rfl)) (fun _ _ _ _ _ => pts_nil) (fun _ _ _ _ _ => (pe_cmpR (kEqD K hu) (pv 6) (pe_ix (kIxT K) (pv 0) pe_int (fun _ _ => rfl)) (nomark _)))))) pss_nil)
      (pss_cons (ps_if (pt_cmpR (kEqD K hu) (pv 3) pe_str (nomark _)) (pss_one (ps_ret (pe_lc (own := [("_law_mark", 6)]) (g := gName 6) (tt := tYes) (by rfl) nd (kiList K (pi_list (pv 4))) (blkOk_by (own := [("_law_mark", 6)]) (N := ["_law_saying", "_law_way", "_law_ring", "_law_word", "_law_run", "_law_rows", "_law_mark", "_law_part", "_law_one", "_law_other", "_law_at", "_law_k"]) (sc := defScope s_means) (by decide +kernel)) (fun _ _ _ _ _ => pg_name (i := 6) nd rfl (Or.inl rfl)) (fun _ _ _ _ _ => pts_nil) (fun _ _ _ _ _ => pe_bl)))) pss_nil)
      (pss_cons (ps_set (i := 5) nd rfl (by first | exact Or.inl rfl | exact Or.inr rfl) (pe_lc (own := [("_law_part", 7)]) (g := gName 7) (tt := tYes) (by rfl) nd (kiTup K (pi_tup (pe_slice (kSlA K) (pv 0) (po_some pe_int) po_none))) (blkOk_by (own := [("_law_part", 7)]) (N := ["_law_saying", "_law_way", "_law_ring", "_law_word", "_law_run", "_law_rows", "_law_mark", "_law_part", "_law_one", "_law_other", "_law_at", "_law_k"]) (sc := defScope s_means) (by decide +kernel)) (fun _ _ _ _ _ => pg_name (i := 7) nd rfl (Or.inl rfl)) (fun _ _ _ _ _ => pts_nil) (fun _ _ _ _ _ => (pe_call c_means.ok (hr.mono (by omega)) (by rfl) c_means.g c_means.kp c_means.b .nil pass0 (pa_cons (pv 7) (pa_cons (pv 1) (pa_cons (pv 2) pa_nil)))))))
      (pss_cons (ps_if (pt_cmpR (kEqD K hu) (pv 3) pe_str (nomark _)) (pss_one (ps_ret (pe_lc (own := [("_law_one", 8)]) (g := gName 8) (tt := tYes) (by rfl) nd (kiList K (pi_list (pe_ix (kIxL K) (pv 5) pe_int (fun _ _ => rfl)))) (blkOk_by (own := [("_law_one", 8)]) (N := ["_law_saying", "_law_way", "_law_ring", "_law_word", "_law_run", "_law_rows", "_law_mark", "_law_part", "_law_one", "_law_other", "_law_at", "_law_k"]) (sc := defScope s_means) (by decide +kernel)) (fun _ _ _ _ _ => pg_name (i := 8) nd rfl (Or.inl rfl)) (fun _ _ _ _ _ => pts_nil) (fun _ _ _ _ _ => (pe_not (pv 8)))))) pss_nil)
      (pss_cons (ps_if (pt_cmpR (kEqD K hu) (pv 3) pe_str (nomark _)) (pss_one (ps_ret (pe_lc (own := [("_law_one", 8), ("_law_other", 9)]) (g := gTup K 2 (gCons (gName 8) (gCons (gName 9) gNil))) (tt := tYes) (by rfl) nd (kiZip K (pi_zip (by rfl) T.b_zip (pa_cons (pe_ix (kIxL K) (pv 5) pe_int (fun _ _ => rfl)) (pa_cons (pe_ix (kIxL K) (pv 5) pe_int (fun _ _ => rfl)) pa_nil)))) (blkOk_by (own := [("_law_one", 8), ("_law_other", 9)]) (N := ["_law_saying", "_law_way", "_law_ring", "_law_word", "_law_run", "_law_rows", "_law_mark", "_law_part", "_law_one", "_law_other", "_law_at", "_law_k"]) (sc := defScope s_means) (by decide +kernel)) (fun _ _ _ _ _ => (kgTup K (pg_tup (n := 2) (by rfl) (pgs_cons (pg_name (i := 8) nd rfl (by first | exact Or.inl rfl | exact Or.inr rfl)) (pgs_cons (pg_name (i := 9) nd rfl (by first | exact Or.inl rfl | exact Or.inr rfl)) pgs_nil))))) (fun _ _ _ _ _ => pts_nil) (fun _ _ _ _ _ => (pe_and (pv 8) (pe_one (pv 9))))))) pss_nil)
      (pss_cons (ps_if (pt_cmpR (kEqD K hu) (pv 3) pe_str (nomark _)) (pss_one (ps_ret (pe_lc (own := [("_law_one", 8), ("_law_other", 9)]) (g := gTup K 2 (gCons (gName 8) (gCons (gName 9) gNil))) (tt := tYes) (by rfl) nd (kiZip K (pi_zip (by rfl) T.b_zip (pa_cons (pe_ix (kIxL K) (pv 5) pe_int (fun _ _ => rfl)) (pa_cons (pe_ix (kIxL K) (pv 5) pe_int (fun _ _ => rfl)) pa_nil)))) (blkOk_by (own := [("_law_one", 8), ("_law_other", 9)]) (N := ["_law_saying", "_law_way", "_law_ring", "_law_word", "_law_run", "_law_rows", "_law_mark", "_law_part", "_law_one", "_law_other", "_law_at", "_law_k"]) (sc := defScope s_means) (by decide +kernel)) (fun _ _ _ _ _ => (kgTup K (pg_tup (n := 2) (by rfl) (pgs_cons (pg_name (i := 8) nd rfl (by first | exact Or.inl rfl | exact Or.inr rfl)) (pgs_cons (pg_name (i := 9) nd rfl (by first | exact Or.inl rfl | exact Or.inr rfl)) pgs_nil))))) (fun _ _ _ _ _ => pts_nil) (fun _ _ _ _ _ => (pe_or (pv 8) (pe_one (pv 9))))))) pss_nil)
      (pss_cons (ps_if (pt_cmpR (kEqD K hu) (pv 3) pe_str (nomark _)) (pss_one (ps_ret (pe_lc (own := [("_law_at", 10)]) (g := gName 10) (tt := tYes) (by rfl) nd (pi_range1 (by rfl) T.b_range (pa_cons (pe_callB (kLen K) (by rfl) T.b_len PySem.boot_len (pa_cons (pv 4) pa_nil)) pa_nil)) (blkOk_by (own := [("_law_at", 10)]) (N := ["_law_saying", "_law_way", "_law_ring", "_law_word", "_law_run", "_law_rows", "_law_mark", "_law_part", "_law_one", "_law_other", "_law_at", "_law_k"]) (sc := defScope s_means) (by decide +kernel)) (fun _ _ _ _ _ => pg_name (i := 10) nd rfl (Or.inl rfl)) (fun _ _ _ _ _ => pts_nil) (fun _ _ _ _ _ => (pe_ix (kIxL K) (pe_ix (kIxL K) (pv 5) pe_int (fun _ _ => rfl)) (pe_ix (kIxL K) (pe_call c_after.ok (hr.mono (by omega)) (by rfl) c_after.g c_after.kp c_after.b .nil pass0 (pa_cons (pv 1) (pa_cons (pv 2) (pa_cons (pv 10) pa_nil)))) pe_int (fun _ _ => rfl)) (fun _ _ => rfl)))))) pss_nil)
      (pss_cons (ps_if (pt_cmpR (kEqD K hu) (pv 3) pe_str (nomark _)) (pss_one (ps_ret (pe_lc (own := [("_law_at", 10)]) (g := gName 10) (tt := tYes) (by rfl) nd (pi_range1 (by rfl) T.b_range (pa_cons (pe_callB (kLen K) (by rfl) T.b_len PySem.boot_len (pa_cons (pv 4) pa_nil)) pa_nil)) (blkOk_by (own := [("_law_at", 10)]) (N := ["_law_saying", "_law_way", "_law_ring", "_law_word", "_law_run", "_law_rows", "_law_mark", "_law_part", "_law_one", "_law_other", "_law_at", "_law_k"]) (sc := defScope s_means) (by decide +kernel)) (fun _ _ _ _ _ => pg_name (i := 10) nd rfl (Or.inl rfl)) (fun _ _ _ _ _ => pts_nil) (fun _ _ _ _ _ => (pe_cmpR (kNotInD K hu5) pe_bl (pe_lc (own := [("_law_k", 11)]) (g := gName 11) (tt := tYes) (by rfl) nd (kiList K (pi_list (pe_call c_after.ok (hr.mono (by omega)) (by rfl) c_after.g c_after.kp c_after.b .nil pass0 (pa_cons (pv 1) (pa_cons (pv 2) (pa_cons (pv 10) pa_nil)))))) (blkOk_by (own := [("_law_k", 11)]) (N := ["_law_saying", "_law_way", "_law_ring", "_law_word", "_law_run", "_law_rows", "_law_mark", "_law_part", "_law_one", "_law_other", "_law_at", "_law_k"]) (by with_unfolding_all rfl)) (fun _ _ _ _ _ => pg_name (i := 11) nd rfl (Or.inl rfl)) (fun _ _ _ _ _ => pts_nil) (fun _ _ _ _ _ => (pe_ix (kIxL K) (pe_ix (kIxL K) (pv 5) pe_int (fun _ _ => rfl)) (pv 11) (fun _ _ => rfl)))) (by with_unfolding_all rfl)))))) pss_nil)
      (pss_cons (ps_if (pt_cmpR (kEqD K hu) (pv 3) pe_str (nomark _)) (pss_one (ps_ret (pe_lc (own := [("_law_mark", 6)]) (g := gName 6) (tt := tYes) (by rfl) nd (kiList K (pi_list (pv 4))) (blkOk_by (own := [("_law_mark", 6)]) (N := ["_law_saying", "_law_way", "_law_ring", "_law_word", "_law_run", "_law_rows", "_law_mark", "_law_part", "_law_one", "_law_other", "_law_at", "_law_k"]) (sc := defScope s_means) (by decide +kernel)) (fun _ _ _ _ _ => pg_name (i := 6) nd rfl (Or.inl rfl)) (fun _ _ _ _ _ => pts_nil) (fun _ _ _ _ _ => (pe_cmpR (kInD K hu5) pe_bl (pe_slice (kSlL K) (pe_ix (kIxL K) (pv 5) pe_int (fun _ _ => rfl)) (po_some (pe_callB (kLen K) (by rfl) T.b_len PySem.boot_len (pa_cons (pv 1) pa_nil))) po_none) (by with_unfolding_all rfl)))))) pss_nil)
      (pss_one (ps_ret (pe_lc (own := [("_law_at", 10)]) (g := gName 10) (tt := tYes) (by rfl) nd (pi_range1 (by rfl) T.b_range (pa_cons (pe_callB (kLen K) (by rfl) T.b_len PySem.boot_len (pa_cons (pv 4) pa_nil)) pa_nil)) (blkOk_by (own := [("_law_at", 10)]) (N := ["_law_saying", "_law_way", "_law_ring", "_law_word", "_law_run", "_law_rows", "_law_mark", "_law_part", "_law_one", "_law_other", "_law_at", "_law_k"]) (sc := defScope s_means) (by decide +kernel)) (fun _ _ _ _ _ => pg_name (i := 10) nd rfl (Or.inl rfl)) (fun _ _ _ _ _ => pts_nil) (fun _ _ _ _ _ => (pe_call c_till.ok (hr.mono (by omega)) (by rfl) c_till.g c_till.kp c_till.b .nil pass0 (pa_cons (pe_ix (kIxL K) (pv 5) pe_int (fun _ _ => rfl)) (pa_cons (pe_ix (kIxL K) (pv 5) pe_int (fun _ _ => rfl)) (pa_cons (pe_call c_after.ok (hr.mono (by omega)) (by rfl) c_after.g c_after.kp c_after.b .nil pass0 (pa_cons (pv 1) (pa_cons (pv 2) (pa_cons (pv 10) pa_nil)))) pa_nil))))))))))))))))))), ?_⟩
      refine bodyF_ok h lenn_means fun as ds hR => ?_
      obtain ⟨s, way, ring, rfl, rfl, hn, ok, hr, hl, hs⟩ := hR
      walk_at "bodyF"
      have hrl : ∀ v, (rowB v way ring).length = way.length + ring.length := fun v => rowB_len v way ring
      have hlm : ((way ++ ring).map Dat.str).length = way.length + ring.length := by rw [List.length_map, List.length_append]
      have part : ∀ (s : Say) (ρ : List Sl), s.dep ≤ n → s.Ok → ρ[1]? = some (.dat (.lst (way.map Dat.str))) → ρ[2]? = some (.dat (.lst (ring.map Dat.str))) → ρ[7]? = some (.dat s.d) →
          Ev K (tCall (spF K (Rn_means n)) [] E0 (tCons (tVar 7) (tCons (tVar 1) (tCons (tVar 2) tNil)))) ρ (.lst (bls (rowB s way ring))) ρ := fun s ρ h1 h2 a1 a2 a6 =>
        ev_of_fresh (ef_call (ea_d (ev_var a6) (ea_d (ev_var a1) (ea_d (ev_var a2) ea_nil))) rfl ⟨s, way, ring, rfl, rfl, h1, h2, hr, hl, hs⟩)
      have rows1 : ∀ (w : Str) (s : Say), s.dep ≤ n → s.Ok → Ex K (tAsg (tLc (iTup K (tSl (rSlA K) (tVar 0) (tPart (tC (V.int 1))) tNoPart)) (gName 7) tYes (tCall (spF K (Rn_means n)) [] E0 (tCons (tVar 7) (tCons (tVar 1) (tCons (tVar 2) tNil)))) [7]) (gName 5))
          [.dat (.tup [.str w, s.d]), .dat (.lst (way.map Dat.str)), .dat (.lst (ring.map Dat.str)), .dat (.str w), .dat (.lst ((way ++ ring).map Dat.str)), .no, .no, .no, .no, .no, .no, .no]
          (.nx [.dat (.tup [.str w, s.d]), .dat (.lst (way.map Dat.str)), .dat (.lst (ring.map Dat.str)), .dat (.str w), .dat (.lst ((way ++ ring).map Dat.str)), .dat (.lst [.lst (bls (rowB s way ring))]), .no, .no, .no, .no, .no, .no]) := fun w s h1 h2 => by
        refine Ex.to (ex_set (ev_of_fresh (ef_lcIx (ds := [s.d]) [.lst (bls (rowB s way ring))] (src_tup (ev_slA (ds := [.str w, s.d]) (ev_var rfl) (eo_some ev_int) eo_no)) (by exact rfl) rfl (by show 1 < 100000; decide) fun i d e hi he => ?_)) rfl) rfl
        match i, hi, he with
        | 0, hi, he =>
          cases hi
          cases he
          exact part s _ h1 h2 rfl rfl rfl
        | i + 1, hi, he => cases hi
      have rows2 : ∀ (w : Str) (s u : Say), s.dep ≤ n → s.Ok → u.dep ≤ n → u.Ok → Ex K (tAsg (tLc (iTup K (tSl (rSlA K) (tVar 0) (tPart (tC (V.int 1))) tNoPart)) (gName 7) tYes (tCall (spF K (Rn_means n)) [] E0 (tCons (tVar 7) (tCons (tVar 1) (tCons (tVar 2) tNil)))) [7]) (gName 5))
          [.dat (.tup [.str w, s.d, u.d]), .dat (.lst (way.map Dat.str)), .dat (.lst (ring.map Dat.str)), .dat (.str w), .dat (.lst ((way ++ ring).map Dat.str)), .no, .no, .no, .no, .no, .no, .no]
          (.nx [.dat (.tup [.str w, s.d, u.d]), .dat (.lst (way.map Dat.str)), .dat (.lst (ring.map Dat.str)), .dat (.str w), .dat (.lst ((way ++ ring).map Dat.str)), .dat (.lst [.lst (bls (rowB s way ring)), .lst (bls (rowB u way ring))]), .no, .no, .no, .no, .no, .no]) := fun w s u h1 h2 h3 h4 => by
        refine Ex.to (ex_set (ev_of_fresh (ef_lcIx (ds := [s.d, u.d]) [.lst (bls (rowB s way ring)), .lst (bls (rowB u way ring))] (src_tup (ev_slA (ds := [.str w, s.d, u.d]) (ev_var rfl) (eo_some ev_int) eo_no)) (by exact rfl) rfl (by show 2 < 100000; decide) fun i d e hi he => ?_)) rfl) rfl
        match i, hi, he with
        | 0, hi, he =>
          cases hi
          cases he
          exact part s _ h1 h2 rfl rfl rfl
        | 1, hi, he =>
          cases hi
          cases he
          exact part u _ h3 h4 rfl rfl rfl
        | i + 2, hi, he => cases hi
      have r0 : ∀ (x : Dat) (xs : List Dat), atI (x :: xs) 0 = some x := fun x xs => atI_nat (j := 0) rfl
      have r1 : ∀ (x y : Dat) (xs : List Dat), atI (x :: y :: xs) 1 = some y := fun x y xs => atI_nat (j := 1) rfl
      have run : ∀ (d : Dat) (x : Str), Ev K (tOp rCat (tVar 1) (tVar 2)) [.dat d, .dat (.lst (way.map Dat.str)), .dat (.lst (ring.map Dat.str)), .dat (.str x), .no, .no, .no, .no, .no, .no, .no, .no] (.lst ((way ++ ring).map Dat.str)) [.dat d, .dat (.lst (way.map Dat.str)), .dat (.lst (ring.map Dat.str)), .dat (.str x), .no, .no, .no, .no, .no, .no, .no, .no] := fun d x => by
        rw [List.map_append]
        exact ev_cat (el_d (ev_var rfl)) (el_d (ev_var rfl)) rfl rfl (by rw [List.length_map, List.length_map]; omega)
      have hrow : ∀ (v : Say) (t : Nat), t < way.length + ring.length → atI (bls (rowB v way ring)) (t : Int) = some (.bl (hb (wd way ring) v t)) := fun v t ht => by
        have := at_bls (bs := rowB v way ring) (k := t) (by rw [hrl]; omega)
        rw [List.getD_eq_getElem?_getD, rowB_get v way ring ht] at this
        exact this
      have src : ∀ (ρ : List Sl), ρ[4]? = some (.dat (.lst ((way ++ ring).map Dat.str))) → Src K (iRng1 (tCons (tCB (rLenQ K) (tCons (tVar 4) tNil)) tNil)) ρ (rngD 0 (way.length + ring.length)) ρ := fun ρ h4 => by
        have := src_rng1 (K := K) (n := (way.length + ring.length : Nat)) (Ev.to (ev_lenL (ds := (way ++ ring).map Dat.str) rfl (el_d (ev_var h4)) rfl) (by rw [hlm])) (by omega) (by omega)
        rwa [Int.toNat_natCast] at this
      have byAt : ∀ (v : Say) (te : TE) (ρ : List Sl), ρ.length = 12 → ρ[4]? = some (.dat (.lst ((way ++ ring).map Dat.str))) → (∀ t, t < way.length + ring.length → Ev K te ((wipeS ρ [10]).set 10 (.dat (.int (t : Nat)))) (.bl (hb (wd way ring) v t)) ((wipeS ρ [10]).set 10 (.dat (.int (t : Nat))))) →
          EvF K (tLc (iRng1 (tCons (tCB (rLenQ K) (tCons (tVar 4) tNil)) tNil)) (gName 10) tYes te [10]) ρ (bls (rowB v way ring)) (wipeS ρ [10]) := fun v te ρ hlen h4 h => by
        have e : (rngD 0 (way.length + ring.length)).map (onI fun t => .bl (hb (wd way ring) v t.toNat)) = bls (rowB v way ring) := by
          rw [rngD_map]
          unfold bls rowB
          rw [List.map_map]
          refine List.map_congr_left fun t _ => ?_
          show Dat.bl (hb _ v ((0 : Int) + (t : Nat)).toNat) = .bl (hb _ v t)
          rw [Int.zero_add, Int.toNat_natCast]
        rw [← e]
        refine ef_lcMap (onI fun t => .bl (hb (wd way ring) v t.toNat)) (src ρ h4) (isSome_of_lt (by omega)) (by rw [rngD_len]; omega) fun d hd => ?_
        obtain ⟨t, ht, rfl⟩ := rngD_mem hd
        rw [Int.zero_add]
        show Ev K _ _ (.bl (hb _ v ((t : Nat) : Int).toNat)) _
        rw [Int.toNat_natCast]
        exact h t ht
      have aft : ∀ (ρ : List Sl) (t : Nat), t < way.length + ring.length → ρ[1]? = some (.dat (.lst (way.map Dat.str))) → ρ[2]? = some (.dat (.lst (ring.map Dat.str))) → ρ[10]? = some (.dat (.int (t : Nat))) → Ev K (tCall (spG K R_after) [] E0 (tCons (tVar 1) (tCons (tVar 2) (tCons (tVar 10) tNil)))) ρ (afterD way ring t) ρ := fun ρ t ht h1 h2 h10 =>
        ev_callA (ea_d (ev_var h1) (ea_d (ev_var h2) (ea_d (ev_var h10) ea_nil))) rfl ⟨way, ring, t, rfl, rfl, rfl, hl, by omega⟩
      cases s with
      | mark m =>
        refine ex_seq (ex_set (d := .str "mark") (ev_ixT (ds := [.str "mark", .str m]) (ev_var rfl) ev_int rfl) rfl) ?_
        refine ex_seq (ex_set (run _ _) rfl) ?_
        refine ex_yes (et_word rfl (by decide +kernel) (by decide +kernel) (by decide +kernel)) ?_ rfl
        have smk : ∀ x ∈ way ++ ring, Shp 60 (.str x) := fun x hx => shp_lit _ (hs x hx)
        have e : ((way ++ ring).map Dat.str).map (fun d => .bl (eqd d (.str m))) = bls (rowB (.mark m) way ring) := by
          rw [← row_mark m way ring]
          unfold bls
          rw [List.map_map, List.map_map]
          refine List.map_congr_left fun x _ => ?_
          show Dat.bl (eqd (.str x) (.str m)) = .bl (x == m)
          rw [eqd_str]
        rw [← e]
        refine ex_retF (ef_lcMap (fun d => .bl (eqd d (.str m))) (src_list (ev_var rfl) rfl) (by exact rfl) (by omega) fun d hd => ?_) (by walk_at "le")
        obtain ⟨x, hx, rfl⟩ := List.mem_map.mp hd
        walk_at "nrm"
        exact ev_eq (ev_var rfl) (ev_ixT (ds := [.str "mark", .str m]) (ev_var rfl) ev_int rfl) (smk x hx) (shp_lit _ (mark_ok ok.1).2)
      | yes =>
        refine ex_seq (ex_set (d := .str "yes") (ev_ixT (ds := [.str "yes"]) (ev_var rfl) ev_int rfl) rfl) ?_
        refine ex_seq (ex_set (run _ _) rfl) ?_
        refine ex_no (et_word rfl (by decide +kernel) (by decide +kernel) (by decide +kernel)) ?_
        refine ex_yes (et_word rfl (by decide +kernel) (by decide +kernel) (by decide +kernel)) ?_ rfl
        have e : ((way ++ ring).map Dat.str).map (fun _ => .bl true) = bls (rowB .yes way ring) := by
          rw [← row_yes way ring, List.map_const', hlm]
          unfold bls
          rw [List.map_replicate]
        rw [← e]
        refine ex_retF (ef_lcMap (fun _ => .bl true) (src_list (ev_var rfl) rfl) (by exact rfl) (by omega) fun d hd => ev_bl) (by walk_at "le")
      | not s =>
        have hd : s.dep ≤ n := by have : s.dep + 1 ≤ n + 1 := hn; omega
        refine ex_seq (ex_set (d := .str "not") (ev_ixT (ds := [.str "not", s.d]) (ev_var rfl) ev_int rfl) rfl) ?_
        refine ex_seq (ex_set (run _ _) rfl) ?_
        refine ex_no (et_word rfl (by decide +kernel) (by decide +kernel) (by decide +kernel)) ?_
        refine ex_no (et_word rfl (by decide +kernel) (by decide +kernel) (by decide +kernel)) ?_
        refine ex_seq (rows1 "not" s hd ok) ?_
        refine ex_yes (et_word rfl (by decide +kernel) (by decide +kernel) (by decide +kernel)) ?_ rfl
        rw [← row_not, ← bls_map]
        refine ex_retF (ef_lcMap (onB fun b => !b) (src_list (ev_ixL (el_d (ev_var rfl)) ev_int rfl (r0 _ _)) rfl) (by exact rfl) (by rw [bls_len, hrl]; omega) fun d hd => ?_) (by walk_at "le")
        obtain ⟨b, _, rfl⟩ := List.mem_map.mp hd
        walk_at "nrm"
        exact ev_not (ev_var rfl)
      | and s u =>
        have hd : s.dep ≤ n ∧ u.dep ≤ n := by have : max s.dep u.dep + 1 ≤ n + 1 := hn; omega
        refine ex_seq (ex_set (d := .str "and") (ev_ixT (ds := [.str "and", s.d, u.d]) (ev_var rfl) ev_int rfl) rfl) ?_
        refine ex_seq (ex_set (run _ _) rfl) ?_
        refine ex_no (et_word rfl (by decide +kernel) (by decide +kernel) (by decide +kernel)) ?_
        refine ex_no (et_word rfl (by decide +kernel) (by decide +kernel) (by decide +kernel)) ?_
        refine ex_seq (rows2 "and" s u hd.1 ok.1 hd.2 ok.2) ?_
        refine ex_no (et_word rfl (by decide +kernel) (by decide +kernel) (by decide +kernel)) ?_
        refine ex_yes (et_word rfl (by decide +kernel) (by decide +kernel) (by decide +kernel)) ?_ rfl
        rw [← row_and s u way ring, ← zip_bls (fun a b => a && b) _ _ (binD fun a b => a && b) (fun _ _ => rfl)]
        refine ex_retF (ef_lcMap2 (pairs := (bls (rowB s way ring)).zip (bls (rowB u way ring))) (binD fun a b => a && b) (by decide) (by rw [← zipD_zip]; exact src_zip (ev_ixL (el_d (ev_var rfl)) ev_int rfl (r0 _ _)) (ev_ixL (el_d (ev_var rfl)) ev_int rfl (r1 _ _ _)) rfl rfl) (by show 8 < 12; decide) (by show 9 < 12; decide) (by rw [List.length_zip, bls_len, bls_len, hrl, hrl]; omega) fun p hp => ?_) (by walk_at "le")
        obtain ⟨a, b, rfl⟩ := zip_mem_bls hp
        exact ev_and (a := a) (b := b) (ev_var rfl) fun _ => ev_var rfl
      | or s u =>
        have hd : s.dep ≤ n ∧ u.dep ≤ n := by have : max s.dep u.dep + 1 ≤ n + 1 := hn; omega
        refine ex_seq (ex_set (d := .str "or") (ev_ixT (ds := [.str "or", s.d, u.d]) (ev_var rfl) ev_int rfl) rfl) ?_
        refine ex_seq (ex_set (run _ _) rfl) ?_
        refine ex_no (et_word rfl (by decide +kernel) (by decide +kernel) (by decide +kernel)) ?_
        refine ex_no (et_word rfl (by decide +kernel) (by decide +kernel) (by decide +kernel)) ?_
        refine ex_seq (rows2 "or" s u hd.1 ok.1 hd.2 ok.2) ?_
        refine ex_no (et_word rfl (by decide +kernel) (by decide +kernel) (by decide +kernel)) ?_
        refine ex_no (et_word rfl (by decide +kernel) (by decide +kernel) (by decide +kernel)) ?_
        refine ex_yes (et_word rfl (by decide +kernel) (by decide +kernel) (by decide +kernel)) ?_ rfl
        rw [← row_or s u way ring, ← zip_bls (fun a b => a || b) _ _ (binD fun a b => a || b) (fun _ _ => rfl)]
        refine ex_retF (ef_lcMap2 (pairs := (bls (rowB s way ring)).zip (bls (rowB u way ring))) (binD fun a b => a || b) (by decide) (by rw [← zipD_zip]; exact src_zip (ev_ixL (el_d (ev_var rfl)) ev_int rfl (r0 _ _)) (ev_ixL (el_d (ev_var rfl)) ev_int rfl (r1 _ _ _)) rfl rfl) (by show 8 < 12; decide) (by show 9 < 12; decide) (by rw [List.length_zip, bls_len, bls_len, hrl, hrl]; omega) fun p hp => ?_) (by walk_at "le")
        obtain ⟨a, b, rfl⟩ := zip_mem_bls hp
        exact ev_or (a := a) (b := b) (ev_var rfl) fun _ => ev_var rfl
      | next s =>
        have hd : s.dep ≤ n := by have : s.dep + 1 ≤ n + 1 := hn; omega
        refine ex_seq (ex_set (d := .str "next") (ev_ixT (ds := [.str "next", s.d]) (ev_var rfl) ev_int rfl) rfl) ?_
        refine ex_seq (ex_set (run _ _) rfl) ?_
        refine ex_no (et_word rfl (by decide +kernel) (by decide +kernel) (by decide +kernel)) ?_
        refine ex_no (et_word rfl (by decide +kernel) (by decide +kernel) (by decide +kernel)) ?_
        refine ex_seq (rows1 "next" s hd ok) ?_
        refine ex_no (et_word rfl (by decide +kernel) (by decide +kernel) (by decide +kernel)) ?_
        refine ex_no (et_word rfl (by decide +kernel) (by decide +kernel) (by decide +kernel)) ?_
        refine ex_no (et_word rfl (by decide +kernel) (by decide +kernel) (by decide +kernel)) ?_
        refine ex_yes (et_word rfl (by decide +kernel) (by decide +kernel) (by decide +kernel)) ?_ rfl
        refine ex_retF (byAt (.next s) _ _ rfl rfl fun t ht => ?_) (by walk_at "le")
        have e : hb (wd way ring) (.next s) t = hb (wd way ring) s (nxt way ring t) := (bool_iff (by rw [hb_eq, hb_eq]; rfl)).trans (hb_nxt way ring s ht)
        have hnx : nxt way ring t < way.length + ring.length := by unfold nxt; split <;> omega
        have ha1 : atI ((after way ring t).map fun k => Dat.int ((k : Nat) : Int)) 1 = some (.int (nxt way ring t : Nat)) := atI_nat (j := 1) (by rw [List.getElem?_map, after_one way ring hr ht]; rfl)
        rw [e]
        exact ev_ixL (el_d (ev_ixL (el_d (ev_var rfl)) ev_int rfl (r0 _ _))) (ev_ixL (el_d (aft _ t ht rfl rfl rfl)) ev_int rfl ha1) rfl (hrow s _ hnx)
      | always s =>
        have hd : s.dep ≤ n := by have : s.dep + 1 ≤ n + 1 := hn; omega
        refine ex_seq (ex_set (d := .str "always") (ev_ixT (ds := [.str "always", s.d]) (ev_var rfl) ev_int rfl) rfl) ?_
        refine ex_seq (ex_set (run _ _) rfl) ?_
        refine ex_no (et_word rfl (by decide +kernel) (by decide +kernel) (by decide +kernel)) ?_
        refine ex_no (et_word rfl (by decide +kernel) (by decide +kernel) (by decide +kernel)) ?_
        refine ex_seq (rows1 "always" s hd ok) ?_
        refine ex_no (et_word rfl (by decide +kernel) (by decide +kernel) (by decide +kernel)) ?_
        refine ex_no (et_word rfl (by decide +kernel) (by decide +kernel) (by decide +kernel)) ?_
        refine ex_no (et_word rfl (by decide +kernel) (by decide +kernel) (by decide +kernel)) ?_
        refine ex_no (et_word rfl (by decide +kernel) (by decide +kernel) (by decide +kernel)) ?_
        refine ex_yes (et_word rfl (by decide +kernel) (by decide +kernel) (by decide +kernel)) ?_ rfl
        refine ex_retF (byAt (.always s) _ _ rfl rfl fun t ht => ?_) (by walk_at "le")
        rw [← always_rows s way ring hr ht]
        have e : ((after way ring t).map fun k => Dat.int ((k : Nat) : Int)).map (onI fun k => .bl (hb (wd way ring) s k.toNat)) = bls ((after way ring t).map fun k => hb (wd way ring) s k) := by
          unfold bls
          rw [List.map_map, List.map_map]
          refine List.map_congr_left fun k _ => ?_
          show Dat.bl (hb _ s ((k : Nat) : Int).toNat) = _
          rw [Int.toNat_natCast]
          rfl
        refine Ev.to (ev_notIn (ds := bls ((after way ring t).map fun k => hb (wd way ring) s k)) (a := .d (.lst (bls ((after way ring t).map fun k => hb (wd way ring) s k)))) ev_bl (el_d ?_) rfl (by simp only [Shp]) (shp_bls _ _)) (by rw [show bls ((after way ring t).map fun k => hb (wd way ring) s k) = ((after way ring t).map fun k => hb (wd way ring) s k).map Dat.bl from rfl, any_bl_falseB, Bool.not_not])
        rw [← e]
        have haf : (after way ring t).length < 100000 := by unfold after; rw [List.length_append, List.length_map, List.length_map, List.length_range, List.length_range]; omega
        refine ev_of_fresh (ef_lcMap (onI fun k => .bl (hb (wd way ring) s k.toNat)) (src_list (aft _ t ht rfl rfl rfl) rfl) (by exact rfl) (by rw [List.length_map]; exact haf) fun d hd => ?_)
        obtain ⟨k, hk, rfl⟩ := List.mem_map.mp hd
        show Ev K _ _ (.bl (hb _ s ((k : Nat) : Int).toNat)) _
        rw [Int.toNat_natCast]
        exact ev_ixL (el_d (ev_ixL (el_d (ev_var rfl)) ev_int rfl (r0 _ _))) (ev_var rfl) rfl (hrow s k (after_lt hk))
      | again s =>
        have hd : s.dep ≤ n := by have : s.dep + 1 ≤ n + 1 := hn; omega
        refine ex_seq (ex_set (d := .str "again") (ev_ixT (ds := [.str "again", s.d]) (ev_var rfl) ev_int rfl) rfl) ?_
        refine ex_seq (ex_set (run _ _) rfl) ?_
        refine ex_no (et_word rfl (by decide +kernel) (by decide +kernel) (by decide +kernel)) ?_
        refine ex_no (et_word rfl (by decide +kernel) (by decide +kernel) (by decide +kernel)) ?_
        refine ex_seq (rows1 "again" s hd ok) ?_
        refine ex_no (et_word rfl (by decide +kernel) (by decide +kernel) (by decide +kernel)) ?_
        refine ex_no (et_word rfl (by decide +kernel) (by decide +kernel) (by decide +kernel)) ?_
        refine ex_no (et_word rfl (by decide +kernel) (by decide +kernel) (by decide +kernel)) ?_
        refine ex_no (et_word rfl (by decide +kernel) (by decide +kernel) (by decide +kernel)) ?_
        refine ex_no (et_word rfl (by decide +kernel) (by decide +kernel) (by decide +kernel)) ?_
        refine ex_yes (et_word rfl (by decide +kernel) (by decide +kernel) (by decide +kernel)) ?_ rfl
        have e : ((way ++ ring).map Dat.str).map (fun _ => .bl (((rowB s way ring).drop way.length).any id)) = bls (rowB (.again s) way ring) := by
          rw [← again_row s way ring hr, List.map_const', hlm]
          unfold bls
          rw [List.map_replicate]
        rw [← e]
        refine ex_retF (ef_lcMap (fun _ => .bl (((rowB s way ring).drop way.length).any id)) (src_list (ev_var rfl) rfl) (by exact rfl) (by omega) fun d hd => ?_) (by walk_at "le")
        refine Ev.to (ev_in (ds := bls ((rowB s way ring).drop way.length)) ev_bl (el_d (Ev.to (ev_slL (el_d (ev_ixL (el_d (ev_var rfl)) ev_int rfl (r0 _ _))) (eo_some (Ev.to (ev_lenL (ds := way.map Dat.str) rfl (el_d (ev_var rfl)) rfl) (by rw [List.length_map]))) eo_no rfl) (by rw [cutD_from, bls_drop]))) rfl (by simp only [Shp]) (shp_bls _ _)) (by rw [show bls ((rowB s way ring).drop way.length) = ((rowB s way ring).drop way.length).map Dat.bl from rfl, any_bl_true])
      | till s u =>
        have hd : s.dep ≤ n ∧ u.dep ≤ n := by have : max s.dep u.dep + 1 ≤ n + 1 := hn; omega
        refine ex_seq (ex_set (d := .str "till") (ev_ixT (ds := [.str "till", s.d, u.d]) (ev_var rfl) ev_int rfl) rfl) ?_
        refine ex_seq (ex_set (run _ _) rfl) ?_
        refine ex_no (et_word rfl (by decide +kernel) (by decide +kernel) (by decide +kernel)) ?_
        refine ex_no (et_word rfl (by decide +kernel) (by decide +kernel) (by decide +kernel)) ?_
        refine ex_seq (rows2 "till" s u hd.1 ok.1 hd.2 ok.2) ?_
        refine ex_no (et_word rfl (by decide +kernel) (by decide +kernel) (by decide +kernel)) ?_
        refine ex_no (et_word rfl (by decide +kernel) (by decide +kernel) (by decide +kernel)) ?_
        refine ex_no (et_word rfl (by decide +kernel) (by decide +kernel) (by decide +kernel)) ?_
        refine ex_no (et_word rfl (by decide +kernel) (by decide +kernel) (by decide +kernel)) ?_
        refine ex_no (et_word rfl (by decide +kernel) (by decide +kernel) (by decide +kernel)) ?_
        refine ex_no (et_word rfl (by decide +kernel) (by decide +kernel) (by decide +kernel)) ?_
        refine ex_retF (byAt (.till s u) _ _ rfl rfl fun t ht => ?_) (by walk_at "le")
        rw [← till_rows s u way ring hr ht]
        exact ev_callA (ea_d (ev_ixL (el_d (ev_var rfl)) ev_int rfl (r0 _ _)) (ea_d (ev_ixL (el_d (ev_var rfl)) ev_int rfl (r1 _ _ _)) (ea_d (aft _ t ht rfl rfl rfl) ea_nil))) rfl ⟨_, _, after way ring t, rfl, rfl, rfl, fun k hk => by rw [hrl, hrl]; exact ⟨after_lt hk, after_lt hk⟩⟩
  exact key 6
def R_marks : List Sl → Dat → List Sl → Prop := fun as d as' => ∃ (ns : List Int) (k : Nat) (nm : List Str) (least : Nat), as = [.dat (.scr ns), .par 0 [.int k], .dat (.lst (nm.map Dat.str)), .dat (.int least)] ∧ d = .lst ((marksM nm ns k least 6).map Dat.str) ∧ as' = [.no, .par 0 [.int (k + 1 + marksN ns k least 6 : Nat)], .no, .no] ∧ nm.length = 3 ∧ least ≤ 100 ∧ ∀ x ∈ nm, x.length ≤ 6
theorem len_marks : ∀ as d as', R_marks as d as' → as.length = 4 := by
  rintro as d as' ⟨_, _, _, _, rfl, _⟩
  rfl
abbrev s_marks : Stmt := topS 15
theorem sc_marks : FnScope ["_law_script", "_law_spot", "_law_names_here", "_law_least", "_law_some", "_law_k"] ["_law_script", "_law_spot", "_law_names_here", "_law_least"] (defScope s_marks) := ⟨rfl, rfl, rfl, by decide +kernel, rfl, by decide +kernel, by decide +kernel⟩
theorem ok_marks {f : Addr} {fd : FuncData} (F : Fun K "_law_marks" "_law_marks" s_marks f fd) (T : Tx K mg) {a_draw : Addr} {fd_draw : FuncData} (c_draw : Cal P w K mg base "_law_draw" 1 ["_law_script", "_law_spot"] (spG K R_draw) a_draw fd_draw) : FnOk P w K mg base CX0 2 f fd ["_law_script", "_law_spot", "_law_names_here", "_law_least"] ((spG K R_marks)) := by
  have nd := sc_marks.nd
  refine F.ok sc_marks (spG_len len_marks) (fun cdv A outer s H vs Q E hr h => ?_)
  have hu := hr.units
  have hu5 := unit5 hr
  refine ⟨_, (pss_cons (ps_set (i := 4) nd rfl (by first | exact Or.inl rfl | exact Or.inr rfl) (pe_op op_cat (pe_op op_cat (pv 2) (pe_lst (pa_cons pe_str (pa_cons (pe_op op_add_str (pe_slice sl_str (pe_ix (kIxL K) (pv 2) pe_int (fun _ _ => rfl)) po_none (po_some pe_int)) pe_str) pa_nil)))) (pv 2)))
      (pss_one (ps_ret (pe_lc (own := [("_law_k", 5)]) (g := gName 5) (tt := tYes) (by rfl) nd (pi_range1 (by rfl) T.b_range (pa_cons (pe_op op_add (pv 3) (pe_op op_mod (pe_call c_draw.ok (hr.mono (by omega)) (by rfl) c_draw.g c_draw.kp c_draw.b .nil pass0 (pa_cons (pv 0) (pa_cons (pv 1) pa_nil))) pe_int)) pa_nil)) (blkOk_by (own := [("_law_k", 5)]) (N := ["_law_script", "_law_spot", "_law_names_here", "_law_least", "_law_some", "_law_k"]) (sc := defScope s_marks) (by decide +kernel)) (fun _ _ _ _ _ => pg_name (i := 5) nd rfl (Or.inl rfl)) (fun _ _ _ _ _ => pts_nil) (fun _ _ _ _ _ => (pe_ix (kIxL K) (pv 4) (pe_op op_mod (pe_call c_draw.ok (hr.mono (by omega)) (by rfl) c_draw.g c_draw.kp c_draw.b .nil pass0 (pa_cons (pv 0) (pa_cons (pv 1) pa_nil))) pe_int) (fun _ _ => rfl))))))), ?_⟩
  refine body_ok h len_marks fun as d as' hR => ?_
  obtain ⟨ns, k, nm, least, rfl, rfl, rfl, hl, hb, hx⟩ := hR
  walk_at "body"
  have hN := marksN_le ns k least (md := 6) (by decide)
  have h2 : atI (nm.map Dat.str) 2 = some (.str (nm.getD 2 "")) := at_map (k := 2) (by rw [List.getD_eq_getElem?_getD, List.getElem?_eq_getElem (by omega)]; rfl)
  have hx2 : (nm.getD 2 "").length ≤ 6 := by
    rw [List.getD_eq_getElem?_getD, List.getElem?_eq_getElem (by omega)]
    exact hx _ (List.getElem_mem _)
  have hcl := cut_len (nm.getD 2 "") none (some 1)
  have e8 : some8 nm = nm ++ two8 nm ++ nm := rfl
  have lz : ("zq" : Str).length = 2 := by decide +kernel
  refine ex_seq (ex_set (d := .lst ((some8 nm).map Dat.str)) (Ev.to (ev_cat (el_d (ev_cat (es := (two8 nm).map Dat.str) (el_d (ev_var rfl)) (el_d (ev_lstA (ea_d ev_str (ea_d (ev_cats rfl (ev_slS (ev_ixL (el_d (ev_var rfl)) ev_int rfl h2) eo_no (eo_some ev_int) (by omega)) ev_str (by rw [lz]; omega)) ea_nil)) rfl (by show 2 ≤ 100000; decide))) rfl rfl (by rw [List.length_map]; show _ + 2 ≤ _; omega))) (el_d (ev_var rfl)) rfl rfl (by rw [List.length_append, List.length_map]; show _ + 2 + _ ≤ _; omega)) (by rw [e8, List.map_append, List.map_append])) rfl) ?_
  walk_at "nrm"
  have h8 := some8_len hl
  show Ex K _ _ (.rt (.lst ((marksM nm ns k least 6).map Dat.str)) _)
  unfold marksM
  generalize some8 nm = s8 at *
  generalize hn : marksN ns k least 6 = n at *
  refine ex_retW (ev_of_fresh (ef_lcS (fun i => [.dat (.scr ns), .par 0 [.int (k + 1 + i : Nat)], .dat (.lst (nm.map Dat.str)), .dat (.int least), .dat (.lst (s8.map Dat.str)), .no]) (((List.range n).map fun j => s8.getD (drawv ns (k + 1 + j) % 8).toNat "").map Dat.str) (ds := rngD 0 n) ?_ (fun _ => rfl) (by rw [rngD_len, List.length_map, List.length_map, List.length_range]) (by rw [rngD_len]; omega) fun i d e hi he => ?_)) rfl (by rw [rngD_len]; walk_at "le")
  · have hd : (0 : Int) ≤ drawv ns k % (6 : Nat) := Int.emod_nonneg _ (by decide)
    have : Src K (iRng1 (tCons (tOp (rI0 fun i j => V.int (i + j)) (tVar 3) (tOp (rI (fun x j => 0 < j) fun i j => V.int (i % j)) (tCall (spG K R_draw) [] E0 (tCons (tVar 0) (tCons (tVar 1) tNil))) (tC (V.int 6)))) tNil)) [.dat (.scr ns), .par 0 [.int k], .dat (.lst (nm.map Dat.str)), .dat (.int least), .dat (.lst (s8.map Dat.str)), .no] (rngD 0 ((n : Nat) : Int).toNat) [.dat (.scr ns), .par 0 [.int (k + 1 : Nat)], .dat (.lst (nm.map Dat.str)), .dat (.int least), .dat (.lst (s8.map Dat.str)), .no] := by
      refine src_rng1 (n := (n : Nat)) (Ev.to (ev_i0 (ev_var rfl) (ev_i (ev_call1 (i := 1) (k := 1) (s := .par 0 [.int k]) (ea_d (ev_var rfl) (ea_s ⟨_, rfl, rfl⟩ ea_nil)) ?_ rfl ⟨ns, k, rfl, rfl, rfl⟩ rfl rfl rfl) ev_int (by decide))) ?_) (by omega) (by omega)
      · exact ⟨rfl, rfl⟩
      · refine congrArg Dat.int ?_
        rw [← hn]
        unfold marksN
        omega
    rw [Int.toNat_natCast] at this
    exact this
  · obtain ⟨hi2, rfl⟩ := rngD_get hi
    rw [List.getElem?_map, List.getElem?_map, List.getElem?_range hi2] at he
    cases he
    walk_at "nrm"
    have hat := at_mod8 h8 (drawv ns (k + 1 + i))
    rw [show k + 1 + (i + 1) = k + 1 + i + 1 by omega]
    refine ev_ixL (el_d (ev_var rfl)) (ev_i (ev_call1 (i := 1) (k := 1) (s := .par 0 [.int (k + 1 + i : Nat)]) (ea_d (ev_var rfl) (ea_s ⟨_, rfl, rfl⟩ ea_nil)) ?_ rfl ⟨ns, k + 1 + i, rfl, rfl, rfl⟩ rfl rfl rfl) ev_int (by decide)) rfl hat
    exact ⟨rfl, rfl⟩
def Rn_made (n : Nat) : List Sl → Dat → List Sl → Prop := fun as d as' => ∃ (ns : List Int) (k : Nat) (nm : List Str) (dp : Nat), as = [.dat (.scr ns), .par 0 [.int k], .dat (.lst (nm.map Dat.str)), .dat (.int dp)] ∧ d = (madeS nm ns dp k).1.d ∧ as' = [.no, .par 0 [.int ((madeS nm ns dp k).2 : Nat)], .no, .no] ∧ 1 ≤ dp ∧ dp ≤ n ∧ nm.length = 3
theorem lenn_made {n : Nat} : ∀ as d as', Rn_made n as d as' → as.length = 4 := by
  rintro as d as' ⟨_, _, _, _, rfl, _⟩
  rfl
def R_made := Rn_made 6
theorem len_made : ∀ as d as', R_made as d as' → as.length = 4 := lenn_made
abbrev s_made : Stmt := topS 11
theorem sc_made : FnScope ["_law_script", "_law_spot", "_law_names_here", "_law_deep", "_law_cell", "_law_more", "_law_kinds", "_law_kind", "_law_one"] ["_law_script", "_law_spot", "_law_names_here", "_law_deep"] (defScope s_made) := ⟨rfl, rfl, rfl, by decide +kernel, rfl, by decide +kernel, by decide +kernel⟩
theorem ok_made {f : Addr} {fd : FuncData} (F : Fun K "_law_made" "_law_made" s_made f fd) (T : Tx K mg) (g_self : mg "_law_made" = some (.ref f)) (k_self : PySem.W.keepIn K (.ref f) = true) (b_self : Binds K fd ["_law_script", "_law_spot", "_law_names_here", "_law_deep"] []) {a_draw : Addr} {fd_draw : FuncData} (c_draw : Cal P w K mg base "_law_draw" 1 ["_law_script", "_law_spot"] (spG K R_draw) a_draw fd_draw) : FnOk P w K mg base CX0 8 f fd ["_law_script", "_law_spot", "_law_names_here", "_law_deep"] ((spG K R_made)) := by
  have nd := sc_made.nd
  have key : ∀ n : Nat, FnOk P w K mg base CX0 (2 + n) f fd ["_law_script", "_law_spot", "_law_names_here", "_law_deep"] (spG K (Rn_made n)) := by
    intro n
    induction n with
    | zero =>
      have no : ∀ as d as', Rn_made 0 as d as' → False := by
          rintro as d as' ⟨ns, k, nm, dp, rfl, rfl, rfl, h1, h2, _⟩
          omega
      exact F.ok sc_made (spG_len lenn_made) (fun cdv A outer s H vs Q E hr h => by obtain ⟨_, _, _, _, _, r, _⟩ := h; exact (no _ _ _ r).elim)
    | succ n ih =>
      have c_made : Cal P w K mg base "_law_made" (2 + n) ["_law_script", "_law_spot", "_law_names_here", "_law_deep"] (spG K (Rn_made n)) f fd := ⟨g_self, k_self, b_self, ih⟩
      refine F.ok (k := 2 + n) sc_made (spG_len lenn_made) (fun cdv A outer s H vs Q E hr h => ?_)
      have hu := hr.units
      have hu5 := unit5 hr
      refine ⟨_, (pss_cons (ps_set (i := 4) nd rfl (by first | exact Or.inl rfl | exact Or.inr rfl) (pe_call c_draw.ok (hr.mono (by omega)) (by rfl) c_draw.g c_draw.kp c_draw.b .nil pass0 (pa_cons (pv 0) (pa_cons (pv 1) pa_nil))))
      (pss_cons (ps_set (i := 5) nd rfl (by first | exact Or.inl rfl | exact Or.inr rfl) (pe_op op_fdiv (pv 4) pe_int))
      (pss_cons (ps_if (PW.pt (pw_or (pt_cmpR op_lt (pv 3) pe_int (nomark _)) (pw_or1 (pt_cmpR op_lt (pe_op op_mod (pv 4) pe_int) pe_int (nomark _))))) (pss_cons (ps_if (pt_cmpR (kEqD K hu) (pe_op op_mod (pv 5) pe_int) pe_int (nomark _)) (pss_one (ps_ret (pe_tup (pa_cons pe_str pa_nil)))) pss_nil)
      (pss_one (ps_ret (pe_tup (pa_cons pe_str (pa_cons (pe_ix (kIxL K) (pv 2) (pe_op op_mod (pv 5) pe_int) (fun _ _ => rfl)) pa_nil)))))) pss_nil)
      (pss_cons (ps_set (i := 6) nd rfl (by first | exact Or.inl rfl | exact Or.inr rfl) pe_str)
      (pss_cons (ps_set (i := 7) nd rfl (by first | exact Or.inl rfl | exact Or.inr rfl) (pe_ix (kIxL K) (pe_split (pv 6) pe_str) (pe_op op_sub (pe_op op_mod (pv 4) pe_int) pe_int) (fun _ _ => rfl)))
      (pss_cons (ps_set (i := 8) nd rfl (by first | exact Or.inl rfl | exact Or.inr rfl) (pe_call c_made.ok (hr.mono (by omega)) (by rfl) c_made.g c_made.kp c_made.b .nil pass0 (pa_cons (pv 0) (pa_cons (pv 1) (pa_cons (pv 2) (pa_cons (pe_op op_sub (pv 3) pe_int) pa_nil))))))
      (pss_cons (ps_if (pt_cmpR (kIn K) (pv 7) (pe_tup (pa_cons pe_str (pa_cons pe_str (pa_cons pe_str (pa_cons pe_str pa_nil))))) (by with_unfolding_all rfl)) (pss_one (ps_ret (pe_tup (pa_cons (pv 7) (pa_cons (pv 8) pa_nil))))) pss_nil)
      (pss_one (ps_ret (pe_tup (pa_cons (pv 7) (pa_cons (pv 8) (pa_cons (pe_call c_made.ok (hr.mono (by omega)) (by rfl) c_made.g c_made.kp c_made.b .nil pass0 (pa_cons (pv 0) (pa_cons (pv 1) (pa_cons (pv 2) (pa_cons (pe_op op_sub (pv 3) pe_int) pa_nil))))) pa_nil))))))))))))), ?_⟩
      refine body_ok h lenn_made fun as d as' hR => ?_
      obtain ⟨ns, k, nm, dp, rfl, rfl, rfl, h1, hn, hl⟩ := hR
      walk_at "body"
      obtain ⟨d, rfl⟩ : ∃ d, dp = d + 1 := ⟨dp - 1, by omega⟩
      have ev : ∀ x, madeS nm ns (d + 1) x = if d + 1 < 2 ∨ drawv ns x % 13 < 2 then (leafS nm (drawv ns x / 13), x + 1)
        else if isBin (kindJ (drawv ns x)) then (mkSay (kindJ (drawv ns x)) (madeS nm ns d (x + 1)).1 (madeS nm ns d (madeS nm ns d (x + 1)).2).1, (madeS nm ns d (madeS nm ns d (x + 1)).2).2)
        else (mkSay (kindJ (drawv ns x)) (madeS nm ns d (x + 1)).1 .yes, (madeS nm ns d (x + 1)).2) := fun _ => rfl
      rw [ev k]
      clear ev
      walk_at "set"
      walk_at "nrm"
      generalize hc : drawv ns k = c
      walk_at "set"
      walk_at "nrm"
      have n1 : 0 ≤ c % 13 := Int.emod_nonneg _ (by decide)
      have n2 : c % 13 < 13 := Int.emod_lt_of_pos _ (by decide)
      by_cases hq : d + 1 < 2 ∨ c % 13 < 2
      · rw [if_pos hq]
        refine' ex_yes (EvT.to (et_or (a := decide (((d + 1 : Nat) : Int) < 2)) (b := decide (c % 13 < 2)) ?a1 fun _ => ?a2) ?a3) ?a4 rfl
        case' a1 => walk_at "et"
        case' a2 => walk_at "et"
        case a3 =>
          rw [Bool.or_eq_true, decide_eq_true_eq, decide_eq_true_eq]
          omega
        case a4 =>
          have e9 : eqd (.int (c / 13 % 9)) (.int 4) = decide (c / 13 % 9 = 4) := by rw [eqd_int]; rfl
          walk_at "ifl"
          · intro h
            rw [e9, decide_eq_true_eq] at h
            have : leafS nm (c / 13) = .yes := if_pos h
            rw [this]
            exact ex_retW (ev_tupA (ea_d ev_str ea_nil) rfl (by decide : 1 ≤ 100000)) rfl (by walk_at "le")
          · intro h
            rw [e9, decide_eq_false_iff_not] at h
            have : leafS nm (c / 13) = .mark (nm.getD (c / 13 % 3).toNat "") := if_neg h
            rw [this]
            have m1 : 0 ≤ c / 13 % 3 := Int.emod_nonneg _ (by decide)
            have m2 : c / 13 % 3 < 3 := Int.emod_lt_of_pos _ (by decide)
            have hat : atI (nm.map Dat.str) (c / 13 % 3) = some (.str (nm.getD (c / 13 % 3).toNat "")) := by
              have hh := at_map (f := Dat.str) (xs := nm) (k := (c / 13 % 3).toNat) (x := nm.getD (c / 13 % 3).toNat "") (by rw [List.getD_eq_getElem?_getD, List.getElem?_eq_getElem (by omega)]; rfl)
              rwa [Int.toNat_of_nonneg m1] at hh
            exact ex_retW (ev_tupA (ea_d ev_str (ea_d (ev_ixL (el_d (ev_var rfl)) (ev_i (ev_var rfl) ev_int (by decide)) rfl hat) ea_nil)) rfl (by show 2 ≤ 100000; decide)) rfl (by walk_at "le")
      · rw [if_neg hq]
        refine' ex_no (EvT.to (et_or (a := decide (((d + 1 : Nat) : Int) < 2)) (b := decide (c % 13 < 2)) ?b1 fun _ => ?b2) ?b3) ?b4
        case' b1 => walk_at "et"
        case' b2 => walk_at "et"
        case b3 =>
          rw [Bool.or_eq_false_iff, decide_eq_false_iff_not, decide_eq_false_iff_not]
          omega
        case b4 =>
          have hj : kindJ c < 11 := by unfold kindJ; omega
          have hat : atI ((Txt.split "not and or next till always again till always next not" " ").map Dat.str) (c % 13 - 2) = some (.str (kindsL.getD (kindJ c) "")) := by
            rw [kinds_split]
            have hh := at_map (f := Dat.str) (xs := kindsL) (k := kindJ c) (x := kindsL.getD (kindJ c) "") (by rw [List.getD_eq_getElem?_getD, List.getElem?_eq_getElem (by exact hj)]; rfl)
            rwa [show ((kindJ c : Nat) : Int) = c % 13 - 2 by unfold kindJ; omega] at hh
          walk_at "set"
          walk_at "nrm"
          refine' ex_seq (ex_set (ev_ixL (el_d (ev_of_fresh (ef_split rfl (ev_var rfl) ev_str rfl (by decide +kernel)))) ?c1 rfl hat) ?c0) ?c2
          case' c1 => walk_at "ev"
          case' c0 => exact rfl
          walk_at "nrm"
          have hun := un_in hj
          have hmu := mk_un hj
          have hmb := mk_bin hj
          generalize kindJ c = j at *
          generalize kindsL.getD j "" = kind at *
          refine' ex_seq (ex_set (ev_call1 (i := 1) (k := 1) (s := .par 0 [.int (k + 1 : Nat)]) (ea_d (ev_var rfl) (ea_s ⟨_, rfl, rfl⟩ (ea_d (ev_var rfl) (ea_d (Ev.to (d := .int ((d + 1 : Nat) - 1 : Int)) (ev_i0 (ev_var rfl) ev_int) (congrArg Dat.int (by omega))) ea_nil)))) ?d2 rfl ⟨ns, k + 1, nm, d, rfl, rfl, rfl, by omega, by omega, hl⟩ rfl rfl rfl) rfl) ?d3
          case' d2 => exact ⟨rfl, rfl⟩
          walk_at "nrm"
          cases hb : isBin j with
          | false =>
            rw [if_neg (by decide)]
            rw [hb] at hun
            refine ex_yes (EvT.to (et_test (ev_inT (ds := unL) (ev_var rfl) (ev_tupA (ea_d ev_str (ea_d ev_str (ea_d ev_str (ea_d ev_str ea_nil)))) rfl (by show 4 ≤ 100000; decide)) rfl rfl)) hun) ?_ rfl
            refine ex_retW (ev_tupA (ea_d (ev_var rfl) (ea_d (ev_var rfl) ea_nil)) rfl (by show 2 ≤ 100000; decide)) ?_ (by walk_at "le")
            exact (hmu hb _ _).symm
          | true =>
            rw [if_pos rfl]
            rw [hb] at hun
            refine ex_no (EvT.to (et_test (ev_inT (ds := unL) (ev_var rfl) (ev_tupA (ea_d ev_str (ea_d ev_str (ea_d ev_str (ea_d ev_str ea_nil)))) rfl (by show 4 ≤ 100000; decide)) rfl rfl)) hun) ?_
            refine' ex_retW (ev_tupA (ea_d (ev_var rfl) (ea_d (ev_var rfl) (ea_d (ev_call1 (i := 1) (k := 1) (s := .par 0 [.int ((madeS nm ns d (k + 1)).2 : Nat)]) (ea_d (ev_var rfl) (ea_s ⟨_, rfl, rfl⟩ (ea_d (ev_var rfl) (ea_d (Ev.to (d := .int ((d + 1 : Nat) - 1 : Int)) (ev_i0 (ev_var rfl) ev_int) (congrArg Dat.int (by omega))) ea_nil)))) ?e2 rfl ⟨ns, (madeS nm ns d (k + 1)).2, nm, d, rfl, rfl, rfl, by omega, by omega, hl⟩ rfl rfl rfl) ea_nil))) rfl (by show 3 ≤ 100000; decide)) ?e3 (by walk_at "le")
            case' e2 => exact ⟨rfl, rfl⟩
            case e3 => exact (hmb hb _ _).symm
  exact key 6
def R_cell_at : List Sl → Dat → List Sl → Prop := fun as d as' => ∃ (ns : List Int) (k : Nat), as = [.dat (.scr ns), .dat (.int k)] ∧ d = .int (ns.getD k 0) ∧ as' = [.no, .no]
theorem len_cell_at : ∀ as d as', R_cell_at as d as' → as.length = 2 := by
  rintro as d as' ⟨_, _, rfl, _⟩
  rfl
abbrev s_cell_at : Stmt := topS 8
theorem sc_cell_at : FnScope ["_law_script", "_law_k"] ["_law_script", "_law_k"] (defScope s_cell_at) := ⟨rfl, rfl, rfl, by decide +kernel, rfl, by decide +kernel, by decide +kernel⟩
theorem ok_cell_at {f : Addr} {fd : FuncData} (F : Fun K "_law_cell_at" "_law_cell_at" s_cell_at f fd) (T : Tx K mg)  : FnOk P w K mg base CX0 1 f fd ["_law_script", "_law_k"] ((spG K R_cell_at)) := by
  have nd := sc_cell_at.nd
  refine F.ok sc_cell_at (spG_len len_cell_at) (fun cdv A outer s H vs Q E hr h => ?_)
  have hu := hr.units
  have hu5 := unit5 hr
  refine ⟨_, (pss_cons (ps_if (pt_cmpR op_lt (pv 1) (pe_callB (kLen K) (by rfl) T.b_len PySem.boot_len (pa_cons (pv 0) pa_nil)) (nomark _)) (pss_one (ps_ret (pe_ix (kIxL K) (pv 0) (pv 1) (fun _ _ => rfl)))) pss_nil)
      (pss_one (ps_ret pe_int))), ?_⟩
  refine body_ok h len_cell_at fun as d as' hR => ?_
  obtain ⟨ns, k, rfl, rfl, rfl⟩ := hR
  walk_at "body"
  walk_at "ifl"
  · intro h
    have h : k < ns.length := by simpa using h
    walk_at "ret"
    exact at_ints h
  · intro h
    have h : ¬ k < ns.length := by simpa using h
    walk_at "ret"
    rw [List.getD_eq_getElem?_getD, List.getElem?_eq_none (by omega)]
    rfl
def R_law : List Sl → Dat → List Sl → Prop := fun as d as' => ∃ (ns : List Int), as = [.dat (.scr ns)] ∧ d = .bl true ∧ as' = [.no]
theorem len_law : ∀ as d as', R_law as d as' → as.length = 1 := by
  rintro as d as' ⟨_, rfl, _⟩
  rfl
abbrev s_law : Stmt := topS 16
theorem sc_law : FnScope ["_law_script", "_law_spot", "_law_names_here", "_law_saying", "_law_way", "_law_ring", "_law_due", "_law_handed", "_law_found", "_law_told", "_law_one"] ["_law_script"] (defScope s_law) := ⟨rfl, rfl, rfl, by decide +kernel, rfl, by decide +kernel, by decide +kernel⟩
theorem ok_law {f : Addr} {fd : FuncData} (F : Fun K "law" "law" s_law f fd) (T : Tx K mg) {a_names : Addr} {fd_names : FuncData} (c_names : Cal P w K mg base "_law_names" 1 ["_law_cell"] (spG K R_names) a_names fd_names) {a_cell_at : Addr} {fd_cell_at : FuncData} (c_cell_at : Cal P w K mg base "_law_cell_at" 1 ["_law_script", "_law_k"] (spG K R_cell_at) a_cell_at fd_cell_at) {a_made : Addr} {fd_made : FuncData} (c_made : Cal P w K mg base "_law_made" 8 ["_law_script", "_law_spot", "_law_names_here", "_law_deep"] (spG K R_made) a_made fd_made) {a_marks : Addr} {fd_marks : FuncData} (c_marks : Cal P w K mg base "_law_marks" 2 ["_law_script", "_law_spot", "_law_names_here", "_law_least"] (spG K R_marks) a_marks fd_marks) {a_means : Addr} {fd_means : FuncData} (c_means : Cal P w K mg base "_law_means" 8 ["_law_saying", "_law_way", "_law_ring"] (spF K R_means) a_means fd_means) {a_row_of : Addr} {fd_row_of : FuncData} (c_row_of : Cal P w K mg base "row_of" 10 ["saying", "way", "ring"] (spF K R_row_of) a_row_of fd_row_of) {a_holds : Addr} {fd_holds : FuncData} (c_holds : Cal P w K mg base "holds" 11 ["saying", "way", "ring"] (spG K R_holds) a_holds fd_holds) : FnOk P w K mg base CX0 12 f fd ["_law_script"] ((spG K R_law)) := by
  have nd := sc_law.nd
  refine F.ok sc_law (spG_len len_law) (fun cdv A outer s H vs Q E hr h => ?_)
  have hu := hr.units
  have hu5 := unit5 hr
  refine ⟨_, (pss_cons (ps_set (i := 1) nd rfl (by first | exact Or.inl rfl | exact Or.inr rfl) (pe_lst (pa_cons pe_int pa_nil)))
      (pss_cons (ps_set (i := 2) nd rfl (by first | exact Or.inl rfl | exact Or.inr rfl) (pe_call c_names.ok (hr.mono (by omega)) (by rfl) c_names.g c_names.kp c_names.b .nil pass0 (pa_cons (pe_call c_cell_at.ok (hr.mono (by omega)) (by rfl) c_cell_at.g c_cell_at.kp c_cell_at.b .nil pass0 (pa_cons (pv 0) (pa_cons pe_int pa_nil))) pa_nil)))
      (pss_cons (ps_set (i := 3) nd rfl (by first | exact Or.inl rfl | exact Or.inr rfl) (pe_call c_made.ok (hr.mono (by omega)) (by rfl) c_made.g c_made.kp c_made.b .nil pass0 (pa_cons (pv 0) (pa_cons (pv 1) (pa_cons (pv 2) (pa_cons pe_int pa_nil))))))
      (pss_cons (ps_set (i := 4) nd rfl (by first | exact Or.inl rfl | exact Or.inr rfl) (pe_call c_marks.ok (hr.mono (by omega)) (by rfl) c_marks.g c_marks.kp c_marks.b .nil pass0 (pa_cons (pv 0) (pa_cons (pv 1) (pa_cons (pv 2) (pa_cons pe_int pa_nil))))))
      (pss_cons (ps_set (i := 5) nd rfl (by first | exact Or.inl rfl | exact Or.inr rfl) (pe_call c_marks.ok (hr.mono (by omega)) (by rfl) c_marks.g c_marks.kp c_marks.b .nil pass0 (pa_cons (pv 0) (pa_cons (pv 1) (pa_cons (pv 2) (pa_cons pe_int pa_nil))))))
      (pss_cons (ps_set (i := 6) nd rfl (by first | exact Or.inl rfl | exact Or.inr rfl) (pe_call c_means.ok (hr.mono (by omega)) (by rfl) c_means.g c_means.kp c_means.b .nil pass0 (pa_cons (pv 3) (pa_cons (pv 4) (pa_cons (pv 5) pa_nil)))))
      (pss_cons (ps_set (i := 7) nd rfl (by first | exact Or.inl rfl | exact Or.inr rfl) (pe_lst (pa_cons (pe_callTy (kList K) (by rfl) T.b_list (by decide +kernel) (pa_cons (pv 4) pa_nil)) (pa_cons (pe_callTy (kList K) (by rfl) T.b_list (by decide +kernel) (pa_cons (pv 5) pa_nil)) pa_nil))))
      (pss_cons (ps_set (i := 8) nd rfl (by first | exact Or.inl rfl | exact Or.inr rfl) (pe_call c_row_of.ok (hr.mono (by omega)) (by rfl) c_row_of.g c_row_of.kp c_row_of.b .nil pass0 (pa_cons (pv 3) (pa_cons (pe_ix (kIxL K) (pv 7) pe_int (fun _ _ => rfl)) (pa_cons (pe_ix (kIxL K) (pv 7) pe_int (fun _ _ => rfl)) pa_nil)))))
      (pss_cons (ps_if (PW.pt (pw_or (pt_not (pt_val (pe_callB (kIsi K) (by rfl) T.b_isinstance (by decide +kernel) (pa_cons (pv 8) (pa_cons (pe_bltn (v := .ty "list") (by rfl) T.b_list (by decide +kernel) rfl) pa_nil))))) (pw_or (pt_cmpR (kNeD K hu) (pv 8) (pv 6) (nomark _)) (pw_or1 (pt_cmpR (kInD K hu5) pe_bl (pe_lc (own := [("_law_one", 10)]) (g := gName 10) (tt := tYes) (by rfl) nd (kiList K (pi_list (pv 8))) (blkOk_by (own := [("_law_one", 10)]) (N := ["_law_script", "_law_spot", "_law_names_here", "_law_saying", "_law_way", "_law_ring", "_law_due", "_law_handed", "_law_found", "_law_told", "_law_one"]) (sc := defScope s_law) (by decide +kernel)) (fun _ _ _ _ _ => pg_name (i := 10) nd rfl (Or.inl rfl)) (fun _ _ _ _ _ => pts_nil) (fun _ _ _ _ _ => (pe_callB (kIsi K) (by rfl) T.b_isinstance (by decide +kernel) (pa_cons (pv 10) (pa_cons (pe_bltn (v := .ty "bool") (by rfl) T.b_bool (by decide +kernel) rfl) pa_nil))))) (by with_unfolding_all rfl)))))) (pss_one (ps_ret pe_bl)) pss_nil)
      (pss_cons (ps_expr (kBM K (pe_bm PySem.F.plainAttrs_list PySem.F.slot_list_append PySem.F.type_list_append mt_append (pv 8) (pa_cons pe_non pa_nil))))
      (pss_cons (ps_set (i := 9) nd rfl (by first | exact Or.inl rfl | exact Or.inr rfl) (pe_call c_holds.ok (hr.mono (by omega)) (by rfl) c_holds.g c_holds.kp c_holds.b .nil pass0 (pa_cons (pv 3) (pa_cons (pe_ix (kIxL K) (pv 7) pe_int (fun _ _ => rfl)) (pa_cons (pe_ix (kIxL K) (pv 7) pe_int (fun _ _ => rfl)) pa_nil)))))
      (pss_cons (ps_if (PW.pt (pw_or (pt_not (pt_val (pe_callB (kIsi K) (by rfl) T.b_isinstance (by decide +kernel) (pa_cons (pv 9) (pa_cons (pe_bltn (v := .ty "bool") (by rfl) T.b_bool (by decide +kernel) rfl) pa_nil))))) (pw_or (pt_cmpR (kNeD K hu) (pv 9) (pe_ix (kIxL K) (pv 6) pe_int (fun _ _ => rfl)) (nomark _)) (pw_or1 (pt_cmpR (kNeD K hu) (pv 7) (pe_lst (pa_cons (pv 4) (pa_cons (pv 5) pa_nil))) (nomark _)))))) (pss_one (ps_ret pe_bl)) pss_nil)
      (pss_cons (ps_if (pt_cmpR (kNeD K hu) (pe_call c_row_of.ok (hr.mono (by omega)) (by rfl) c_row_of.g c_row_of.kp c_row_of.b .nil pass0 (pa_cons (pv 3) (pa_cons (pv 4) (pa_cons (pe_op op_cat (pv 5) (pv 5)) pa_nil)))) (pe_op op_cat (pv 6) (pe_slice (kSlL K) (pv 6) (po_some (pe_callB (kLen K) (by rfl) T.b_len PySem.boot_len (pa_cons (pv 4) pa_nil))) po_none)) (nomark _)) (pss_one (ps_ret pe_bl)) pss_nil)
      (pss_cons (ps_if (pt_cmpR (kNeD K hu) (pe_call c_row_of.ok (hr.mono (by omega)) (by rfl) c_row_of.g c_row_of.kp c_row_of.b .nil pass0 (pa_cons (pv 3) (pa_cons (pe_op op_cat (pv 4) (pe_slice (kSlL K) (pv 5) po_none (po_some pe_int))) (pa_cons (pe_op op_cat (pe_slice (kSlL K) (pv 5) (po_some pe_int) po_none) (pe_slice (kSlL K) (pv 5) po_none (po_some pe_int))) pa_nil)))) (pe_op op_cat (pv 6) (pe_slice (kSlL K) (pv 6) (po_some (pe_callB (kLen K) (by rfl) T.b_len PySem.boot_len (pa_cons (pv 4) pa_nil))) (po_some (pe_op op_add (pe_callB (kLen K) (by rfl) T.b_len PySem.boot_len (pa_cons (pv 4) pa_nil)) pe_int)))) (nomark _)) (pss_one (ps_ret pe_bl)) pss_nil)
      (pss_one (ps_ret (pe_and (pe_cmpR (kEqD K hu) (pe_call c_row_of.ok (hr.mono (by omega)) (by rfl) c_row_of.g c_row_of.kp c_row_of.b .nil pass0 (pa_cons (pv 3) (pa_cons (pv 4) (pa_cons (pv 5) pa_nil)))) (pv 6) (nomark _)) (pe_one (pe_cmpR (kEqD K hu) (pv 8) (pe_op op_cat (pv 6) (pe_lst (pa_cons pe_non pa_nil))) (nomark _)))))))))))))))))))), ?_⟩
  refine body_ok h len_law fun as d as' hR => ?_
  obtain ⟨ns, rfl, rfl, rfl⟩ := hR
  walk_at "body"
  walk_at "setF"
  walk_at "nrm"
  have nmk := names_mark (ns.getD 0 0)
  have nml := names_len (ns.getD 0 0)
  refine' ex_seq (ex_set (ev_callA (ea_d (ev_callA (ea_d (ev_var rfl) (ea_d ev_int ea_nil)) rfl ⟨_, 0, rfl, rfl, rfl⟩) ea_nil) rfl ⟨_, rfl, rfl, rfl⟩) rfl) ?_
  walk_at "nrm"
  generalize namesS (ns.getD 0 0) = nm at *
  have nx6 : ∀ x ∈ nm, x.length ≤ 6 := fun x hx => (mark_ok (nmk x hx).1).1
  have sok := made_ok nmk nml ns 5 1
  have sdp := made_dep nm ns 5 1 (by decide)
  refine' ex_seq (ex_set (d := (madeS nm ns 5 1).1.d) (ev_call1 (i := 1) (k := 1) (s := .own [.int 1]) (ea_d (ev_var rfl) (ea_s ⟨_, rfl, rfl⟩ (ea_d (ev_var rfl) (ea_d ev_int ea_nil)))) ?a1 rfl ⟨ns, 1, nm, 5, rfl, rfl, rfl, by decide, by decide, nml⟩ rfl rfl rfl) rfl) ?_
  case' a1 => exact ⟨rfl, rfl⟩
  walk_at "nrm"
  generalize (madeS nm ns 5 1).1 = s at *
  generalize (madeS nm ns 5 1).2 = k1
  have wok := marksM_ok nmk nml ns k1 0 6
  have wle := marksN_le ns k1 0 (md := 6) (by decide)
  rw [← marksM_len nm] at wle
  refine' ex_seq (ex_set (d := .lst ((marksM nm ns k1 0 6).map Dat.str)) (ev_call1 (i := 1) (k := 1) (s := .own [.int k1]) (ea_d (ev_var rfl) (ea_s ⟨_, rfl, rfl⟩ (ea_d (ev_var rfl) (ea_d ev_int ea_nil)))) ?a2 rfl ⟨ns, k1, nm, 0, rfl, rfl, rfl, nml, by decide, nx6⟩ rfl rfl rfl) rfl) ?_
  case' a2 => exact ⟨rfl, rfl⟩
  walk_at "nrm"
  generalize marksM nm ns k1 0 6 = way at *
  generalize k1 + 1 + marksN ns k1 0 6 = k2
  have rok := marksM_ok nmk nml ns k2 1 6
  have rle := marksN_le ns k2 1 (md := 6) (by decide)
  rw [← marksM_len nm] at rle
  refine' ex_seq (ex_set (d := .lst ((marksM nm ns k2 1 6).map Dat.str)) (ev_call1 (i := 1) (k := 1) (s := .own [.int k2]) (ea_d (ev_var rfl) (ea_s ⟨_, rfl, rfl⟩ (ea_d (ev_var rfl) (ea_d ev_int ea_nil)))) ?a3 rfl ⟨ns, k2, nm, 1, rfl, rfl, rfl, nml, by decide, nx6⟩ rfl rfl rfl) rfl) ?_
  case' a3 => exact ⟨rfl, rfl⟩
  walk_at "nrm"
  generalize marksM nm ns k2 1 6 = ring at *
  generalize k2 + 1 + marksN ns k2 1 6 = k3
  have hrl := rowB_len s way ring
  have sWR : ∀ x ∈ way ++ ring, PyData.strOk x = true := fun x hx => (List.mem_append.mp hx).elim (strs_of wok x) (strs_of rok x)
  refine ex_seq (ex_set (ev_of_fresh (ef_call (ds := bls (rowB s way ring)) (ea_d (ev_var rfl) (ea_d (ev_var rfl) (ea_d (ev_var rfl) ea_nil))) rfl ⟨s, way, ring, rfl, rfl, by omega, sok, by omega, by omega, sWR⟩)) rfl) ?_
  walk_at "nrm"
  refine ex_seq (ex_set (d := .lst [.lst (way.map Dat.str), .lst (ring.map Dat.str)]) (ev_lstA (ea_d (ev_list rfl (el_d (ev_var rfl)) rfl) (ea_d (ev_list rfl (el_d (ev_var rfl)) rfl) ea_nil)) rfl (by show 2 ≤ 100000; decide)) rfl) ?_
  walk_at "nrm"
  refine' Ex.pre (ρ1 := [.no, .no, .no, .dat s.d, .dat (.lst (way.map Dat.str)), .dat (.lst (ring.map Dat.str)), .dat (.lst (bls (rowB s way ring))), .dat (.lst [.lst (way.map Dat.str), .lst (ring.map Dat.str)]), .no, .no, .no]) ?_ (by walk_at "le")
  have ssh : Shp 60 s.d := shp_le (say_shp s sok) (by omega)
  have shw : Shp 60 (.lst [.lst (way.map Dat.str), .lst (ring.map Dat.str)]) := by
    rw [shp_lst]
    refine shpAll_of fun d hd => ?_
    simp only [List.mem_cons, List.not_mem_nil, or_false] at hd
    rcases hd with rfl | rfl <;> (rw [shp_lst]; refine shpAll_of fun d hd => ?_; obtain ⟨x, hx, rfl⟩ := List.mem_map.mp hd)
    · exact shp_lit _ (strs_of wok x hx)
    · exact shp_lit _ (strs_of rok x hx)
  have h0 : atI ([.lst (way.map Dat.str), .lst (ring.map Dat.str)] : List Dat) 0 = some (.lst (way.map Dat.str)) := rfl
  have h1 : atI ([.lst (way.map Dat.str), .lst (ring.map Dat.str)] : List Dat) 1 = some (.lst (ring.map Dat.str)) := rfl
  have hdue0 : atI (bls (rowB s way ring)) 0 = some (.bl (hb (wd way ring) s 0)) := by
    have := at_bls (bs := rowB s way ring) (k := 0) (by omega)
    rw [List.getD_eq_getElem?_getD, rowB_get s way ring (by omega)] at this
    exact this
  have blsh : ∀ bs : List Bool, Shp 60 (.lst (bls bs)) := fun bs => by rw [shp_lst]; exact shp_bls _ _
  refine fun Z G H0 σ c D q => ?_
  obtain ⟨v3, e3, r3⟩ := c.dat (i := 3) rfl
  obtain ⟨v4, e4, r4⟩ := c.dat (i := 4) rfl
  obtain ⟨v5, e5, r5⟩ := c.dat (i := 5) rfl
  obtain ⟨v6, e6, r6⟩ := c.dat (i := 6) rfl
  obtain ⟨v7, e7, r7⟩ := c.dat (i := 7) rfl
  have lσ := c.len
  have gH := c.gh
  have cfin : ∀ {H' : Hp} {σ' : L2.St}, Same H0 H' → σ'.length = 11 → Ct K Z G H' σ' (List.replicate 11 .no) := fun s l => c.fin s l
  clear c
  obtain ⟨a0, a1, a2, a3, a4, a5, a6, a7, a8, a9, a10, rfl⟩ : ∃ a0 a1 a2 a3 a4 a5 a6 a7 a8 a9 a10, σ = [a0, a1, a2, a3, a4, a5, a6, a7, a8, a9, a10] := by
    match σ, lσ with
    | [a0, a1, a2, a3, a4, a5, a6, a7, a8, a9, a10], _ => exact ⟨a0, a1, a2, a3, a4, a5, a6, a7, a8, a9, a10, rfl⟩
  cases e3
  cases e4
  cases e5
  cases e6
  cases e7
  have r3 := r3.to gH
  have r4 := r4.to gH
  have r5 := r5.to gH
  have r6 := r6.to gH
  have r7 := r7.to gH
  refine raw_setN (d := .lst (bls (rowB s way ring))) (ρ := [.no, .no, .no, .dat s.d, .no, .no, .no, .dat (.lst [.lst (way.map Dat.str), .lst (ring.map Dat.str)]), .no, .no, .no])
    (evn_callF (ea_d (ev_var rfl) (ea_d (ev_ixL (el_d (ev_var rfl)) ev_int rfl h0) (ea_d (ev_ixL (el_d (ev_var rfl)) ev_int rfl h1) ea_nil))) rfl ⟨s, way, ring, rfl, rfl, by omega, sok, by omega, by omega, sWR⟩ (atoms_bls _))
    (.no (.no (.no (.dat r3 (.no (.no (.no (.dat r7 (.no (.no (.no .nil))))))))))) fun vf X1 H1 s1 g1 z1 rf => ?_
  show tSeq _ _ D [a0, a1, a2, some v3, some v4, some v5, some v6, some v7, some vf, a9, a10] H1
  refine raw_ifF (ρ := [.no, .no, .no, .no, .no, .no, .dat (.lst (bls (rowB s way ring))), .no, .dat (.lst (bls (rowB s way ring))), .no, .no])
    (EvT.to (et_or (et_not (et_B (ev_isi (T := "list") (ev_var rfl) rfl rfl))) fun _ => et_or (et_test (ev_ne (ev_var rfl) (ev_var rfl) (blsh _) (blsh _))) fun _ => et_test (ev_in (ds := (bls (rowB s way ring)).map fun _ => .bl true) ev_bl (el_d (ev_of_fresh (ef_lcMap (fun _ => .bl true) (src_list (ev_var rfl) rfl) (by exact rfl) (by rw [bls_len, hrl]; omega) fun d hd => ?A1))) rfl (by simp only [Shp]) (shpAll_of fun d hd => ?A2))) ?A3)
    (.no (.no (.no (.no (.no (.no (.dat (r6.to s1) (.no (.dat (rf.to g1) (.no (.no .nil))))))))))) fun H2 s2 => ?_
  case A1 =>
    obtain ⟨b, _, rfl⟩ := List.mem_map.mp hd
    walk_at "nrm"
    exact ev_isi (T := "bool") (ev_var rfl) rfl rfl
  case A2 =>
    obtain ⟨b, _, rfl⟩ := List.mem_map.mp hd
    simp only [Shp]
  case A3 =>
    rw [eqd_refl (blsh _)]
    show (false || (!true || ((bls (rowB s way ring)).map fun _ => Dat.bl true).any fun e => eqd e (.bl false))) = false
    have : (((bls (rowB s way ring)).map fun _ => Dat.bl true).any fun e => eqd e (.bl false)) = false := by
      rw [List.any_map, List.any_eq_false]
      intro d _
      show ¬ eqd (.bl true) (.bl false) = true
      rw [eqd_bl]
      decide
    rw [this]
    rfl
  cases rf with
  | @lst p xs _ hp rx =>
  have s02 := s1.trans s2
  have gX : Same X1 H2 := g1.trans s2
  have np : H0 p = none := z1 _ _ hp
  have lx : xs.length = way.length + ring.length := by rw [rx.length, bls_len, hrl]
  refine raw_app (at_var rfl) (gX _ _ hp) (by omega) ?_
  have t0 : Same H0 (upd H2 p (.lst (xs ++ [.non]))) := same_upd s02 np
  have rnew : Rp K (upd H2 p (.lst (xs ++ [.non]))) (.ref p) (.lst (bls (rowB s way ring) ++ [.non])) := by
    refine .lst upd_same (RpAll.app (rpAll_atoms (atoms_bls _) rx) (.cons .non .nil))
  generalize upd H2 p (.lst (xs ++ [.non])) = H3 at t0 rnew ⊢
  have snon : ∀ bs : List Bool, Shp 60 (.lst (bls bs ++ [.non])) := fun bs => by
    rw [shp_lst]
    refine shpAll_of fun d hd => ?_
    rcases List.mem_append.mp hd with h | h
    · exact shpAll_mem (shp_bls 59 bs) d h
    · rw [List.mem_singleton] at h
      subst h
      simp only [Shp]
  have cat1 : Shp 60 (.lst (bls (rowB s way (ring ++ ring)))) := blsh _
  obtain ⟨r0, rs, hr0⟩ : ∃ a t, ring = a :: t := by
    cases ring with
    | nil => simp at rle
    | cons a t => exact ⟨a, t, rfl⟩
  refine raw_ex (d := .bl true) (ρ := [.no, .no, .no, .dat s.d, .dat (.lst (way.map Dat.str)), .dat (.lst (ring.map Dat.str)), .dat (.lst (bls (rowB s way ring))), .dat (.lst [.lst (way.map Dat.str), .lst (ring.map Dat.str)]), .dat (.lst (bls (rowB s way ring) ++ [.non])), .no, .no]) (ρ' := List.replicate 11 .no) ?G1
    (.no (.no (.no (.dat (r3.to t0) (.dat (r4.to t0) (.dat (r5.to t0) (.dat (r6.to t0) (.dat (r7.to t0) (.dat rnew (.no (.no .nil))))))))))) fun σ' v H' s' l' r' => ?_
  case G1 =>
    refine ex_seq (ex_set (ev_callA (ea_d (ev_var rfl) (ea_d (ev_ixL (el_d (ev_var rfl)) ev_int rfl h0) (ea_d (ev_ixL (el_d (ev_var rfl)) ev_int rfl h1) ea_nil))) rfl ⟨s, way, ring, rfl, rfl, rfl, by omega, sok, by omega, by omega, sWR⟩) rfl) ?_
    walk_at "nrm"
    refine ex_no (EvT.to (et_or (et_not (et_B (ev_isi (T := "bool") (ev_var rfl) rfl rfl))) fun _ => et_or (et_test (ev_ne (ev_var rfl) (ev_ixL (el_d (ev_var rfl)) ev_int rfl hdue0) (by simp only [Shp]) (by simp only [Shp]))) fun _ => et_test (ev_ne (ev_var rfl) (ev_lstA (ds := [.lst (way.map Dat.str), .lst (ring.map Dat.str)]) (ea_d (ev_var rfl) (ea_d (ev_var rfl) ea_nil)) rfl (by show 2 ≤ 100000; decide)) shw shw)) (by rw [eqd_refl shw, eqd_bl]; simp)) ?_
    have lway : ∀ (ρ : List Sl), ρ[4]? = some (.dat (.lst (way.map Dat.str))) → Ev K (tCB (rLenQ K) (tCons (tVar 4) tNil)) ρ (.int way.length) ρ := fun ρ h => Ev.to (ev_lenL (ds := way.map Dat.str) rfl (el_d (ev_var h)) rfl) (by rw [List.length_map])
    have swr2 : ∀ x ∈ way ++ (ring ++ ring), PyData.strOk x = true := fun x hx => by
      rcases List.mem_append.mp hx with h | h
      · exact strs_of wok x h
      · rcases List.mem_append.mp h with h | h <;> exact strs_of rok x h
    have e1 : bls (rowB s way ring) ++ cutD (bls (rowB s way ring)) (some (way.length : Int)) none = bls (rowB s way (ring ++ ring)) := by
      rw [cutD_from, bls_drop, bls_app, ← row_double s way ring (by omega)]
    refine ex_no (EvT.to (et_test (ev_ne (ev_of_fresh (ef_call (es := [s.d, .lst (way.map Dat.str), .lst ((ring ++ ring).map Dat.str)]) (ea_d (ev_var rfl) (ea_d (ev_var rfl) (ea_d (Ev.to (ev_cat (el_d (ev_var rfl)) (el_d (ev_var rfl)) rfl rfl (by rw [List.length_map]; omega)) (by rw [List.map_append])) ea_nil))) rfl ⟨s, way, ring ++ ring, rfl, rfl, by omega, sok, by rw [List.length_append]; omega, by rw [List.length_append]; omega, swr2⟩))
      (Ev.to (ev_cat (el_d (ev_var rfl)) (el_d (ev_slL (el_d (ev_var rfl)) (eo_some (lway _ rfl)) eo_no rfl)) rfl rfl (by have := cutD_len (bls (rowB s way ring)) (some (way.length : Int)) none; rw [bls_len, hrl] at *; omega)) (congrArg Dat.lst e1)) (blsh _) (blsh _))) (by rw [eqd_refl (blsh _)]; rfl)) ?_
    have c1 : cutD (ring.map Dat.str) none (some 1) = [.str r0] := by
      rw [show (1 : Int) = ((1 : Nat) : Int) from rfl, cutD_to, hr0]
      rfl
    have c2 : cutD (ring.map Dat.str) (some 1) none = rs.map Dat.str := by
      rw [show (1 : Int) = ((1 : Nat) : Int) from rfl, cutD_from, hr0]
      rfl
    have cw : cutD (bls (rowB s way ring)) (some (way.length : Int)) (some ((way.length : Int) + 1)) = bls (((rowB s way ring).drop way.length).take 1) := by
      unfold cutD
      rw [show (way.length : Int) + 1 = ((way.length + 1 : Nat) : Int) from rfl, sIx_nat, sIx_nat, bls_len, hrl, Nat.min_eq_left (by omega), Nat.min_eq_left (by omega), show way.length + 1 - way.length = 1 by omega, bls_drop]
      unfold bls
      rw [List.map_take]
    have e2 : bls (rowB s way ring) ++ cutD (bls (rowB s way ring)) (some (way.length : Int)) (some ((way.length : Int) + 1)) = bls (rowB s (way ++ [r0]) (rs ++ [r0])) := by
      rw [cw, bls_app, row_turn s way rs r0, ← hr0]
    have hrs : rs.length + 1 = ring.length := by rw [hr0, List.length_cons]
    have swr3 : ∀ x ∈ (way ++ [r0]) ++ (rs ++ [r0]), PyData.strOk x = true := fun x hx => by
      have m0 : ∀ y ∈ r0 :: rs, PyData.strOk y = true := fun y hy => strs_of rok y (hr0 ▸ hy)
      rcases List.mem_append.mp hx with h | h
      · rcases List.mem_append.mp h with h | h
        · exact strs_of wok x h
        · rw [List.mem_singleton] at h
          exact h ▸ m0 r0 List.mem_cons_self
      · rcases List.mem_append.mp h with h | h
        · exact m0 x (List.mem_cons_of_mem _ h)
        · rw [List.mem_singleton] at h
          exact h ▸ m0 r0 List.mem_cons_self
    refine ex_no (EvT.to (et_test (ev_ne (ev_of_fresh (ef_call (es := [s.d, .lst ((way ++ [r0]).map Dat.str), .lst ((rs ++ [r0]).map Dat.str)]) (ea_d (ev_var rfl) (ea_d (Ev.to (ev_cat (el_d (ev_var rfl)) (el_d (ev_slL (el_d (ev_var rfl)) eo_no (eo_some ev_int) rfl)) rfl rfl (by rw [c1, List.length_map]; show _ + 1 ≤ _; omega)) (by rw [c1, List.map_append]; rfl)) (ea_d (Ev.to (ev_cat (el_d (ev_slL (el_d (ev_var rfl)) (eo_some ev_int) eo_no rfl)) (el_d (ev_slL (el_d (ev_var rfl)) eo_no (eo_some ev_int) rfl)) rfl rfl (by rw [c1, c2, List.length_map]; show _ + 1 ≤ _; omega)) (by rw [c1, c2, List.map_append]; rfl)) ea_nil))) rfl ⟨s, way ++ [r0], rs ++ [r0], rfl, rfl, by omega, sok, by rw [List.length_append]; simp, by rw [List.length_append, List.length_append]; show _ + 1 + (_ + 1) ≤ _; omega, swr3⟩))
      (Ev.to (ev_cat (el_d (ev_var rfl)) (el_d (ev_slL (el_d (ev_var rfl)) (eo_some (lway _ rfl)) (eo_some (ev_i0 (lway _ rfl) ev_int)) rfl)) rfl rfl (by have := cutD_len (bls (rowB s way ring)) (some (way.length : Int)) (some ((way.length : Int) + 1)); rw [bls_len, hrl] at *; omega)) (congrArg Dat.lst e2)) (blsh _) (blsh _))) (by rw [eqd_refl (blsh _)]; rfl)) ?_
    refine ex_retW (ev_and (a := eqd (.lst (bls (rowB s way ring))) (.lst (bls (rowB s way ring)))) (ev_eq (ev_of_fresh (ef_call (ea_d (ev_var rfl) (ea_d (ev_var rfl) (ea_d (ev_var rfl) ea_nil))) rfl ⟨s, way, ring, rfl, rfl, by omega, sok, by omega, by omega, sWR⟩)) (ev_var rfl) (blsh _) (blsh _)) fun _ => ev_eq (ev_var rfl) (ev_cat (es := [.non]) (el_d (ev_var rfl)) (el_d (ev_lstA (ea_d ev_non ea_nil) rfl (by show 1 ≤ 100000; decide))) rfl rfl (by rw [bls_len, hrl]; show _ + 1 ≤ _; omega)) (snon _) (snon _)) (by rw [eqd_refl (blsh _), eqd_refl (snon _)]; rfl) (ρ2 := [.no, .no, .no, .no, .no, .no, .no, .no, .no, .no, .no]) (by walk_at "le")
  exact q σ' v G H' (Same.refl G) (cfin (t0.trans s') l') (rp_atom rfl r')
end
theorem all_mk {l : PySem.W.OpenLaw} {w : World} {K : PySem.W.Frag} {h : Heap} {mg : Str → Option Value} {fa : Addr} {f_names : Addr} {od_names an_names : Option Addr} {sl_names : Array (Option Value)} {oc_names kV_names dc_names pm_names cd_names ct_names : Value} {f_cell_at : Addr} {od_cell_at an_cell_at : Option Addr} {sl_cell_at : Array (Option Value)} {oc_cell_at kV_cell_at dc_cell_at pm_cell_at cd_cell_at ct_cell_at : Value} {f_draw : Addr} {od_draw an_draw : Option Addr} {sl_draw : Array (Option Value)} {oc_draw kV_draw dc_draw pm_draw cd_draw ct_draw : Value} {f_made : Addr} {od_made an_made : Option Addr} {sl_made : Array (Option Value)} {oc_made kV_made dc_made pm_made cd_made ct_made : Value} {f_marks : Addr} {od_marks an_marks : Option Addr} {sl_marks : Array (Option Value)} {oc_marks kV_marks dc_marks pm_marks cd_marks ct_marks : Value} {f_after : Addr} {od_after an_after : Option Addr} {sl_after : Array (Option Value)} {oc_after kV_after dc_after pm_after cd_after ct_after : Value} {f_till : Addr} {od_till an_till : Option Addr} {sl_till : Array (Option Value)} {oc_till kV_till dc_till pm_till cd_till ct_till : Value} {f_means : Addr} {od_means an_means : Option Addr} {sl_means : Array (Option Value)} {oc_means kV_means dc_means pm_means cd_means ct_means : Value} {f_not_row : Addr} {od_not_row an_not_row : Option Addr} {sl_not_row : Array (Option Value)} {oc_not_row kV_not_row dc_not_row pm_not_row cd_not_row ct_not_row : Value} {f_till_row : Addr} {od_till_row an_till_row : Option Addr} {sl_till_row : Array (Option Value)} {oc_till_row kV_till_row dc_till_row pm_till_row cd_till_row ct_till_row : Value} {f_always_row : Addr} {od_always_row an_always_row : Option Addr} {sl_always_row : Array (Option Value)} {oc_always_row kV_always_row dc_always_row pm_always_row cd_always_row ct_always_row : Value} {f_row : Addr} {od_row an_row : Option Addr} {sl_row : Array (Option Value)} {oc_row kV_row dc_row pm_row cd_row ct_row : Value} {f_row_of : Addr} {od_row_of an_row_of : Option Addr} {sl_row_of : Array (Option Value)} {oc_row_of kV_row_of dc_row_of pm_row_of cd_row_of ct_row_of : Value} {f_holds : Addr} {od_holds an_holds : Option Addr} {sl_holds : Array (Option Value)} {oc_holds kV_holds dc_holds pm_holds cd_holds ct_holds : Value} {f_law : Addr} {od_law an_law : Option Addr} {sl_law : Array (Option Value)} {oc_law kV_law dc_law pm_law cd_law ct_law : Value} (X : K.In h) (G : h.Ns mainGlobals mg) (hfa : mg "law" = some (.ref fa))
    (a_names : PySem.W.nsIn K mainGlobals "_law_names" = some (some (.ref f_names)))
    (l_names : K.lookup f_names = some ⟨oc_names, od_names, .func (PySem.W.fnOf "_law_names" "_law_names" (defArgs s_names) (defBody s_names) (defScope s_names) .none kV_names dc_names pm_names an_names cd_names ct_names), sl_names⟩)
    (cc_names : PySem.W.codeIn K cd_names "_law_names" = true)
    (k_names : PySem.W.keepIn K (.ref f_names) = true)
    (a_cell_at : PySem.W.nsIn K mainGlobals "_law_cell_at" = some (some (.ref f_cell_at)))
    (l_cell_at : K.lookup f_cell_at = some ⟨oc_cell_at, od_cell_at, .func (PySem.W.fnOf "_law_cell_at" "_law_cell_at" (defArgs s_cell_at) (defBody s_cell_at) (defScope s_cell_at) .none kV_cell_at dc_cell_at pm_cell_at an_cell_at cd_cell_at ct_cell_at), sl_cell_at⟩)
    (cc_cell_at : PySem.W.codeIn K cd_cell_at "_law_cell_at" = true)
    (k_cell_at : PySem.W.keepIn K (.ref f_cell_at) = true)
    (a_draw : PySem.W.nsIn K mainGlobals "_law_draw" = some (some (.ref f_draw)))
    (l_draw : K.lookup f_draw = some ⟨oc_draw, od_draw, .func (PySem.W.fnOf "_law_draw" "_law_draw" (defArgs s_draw) (defBody s_draw) (defScope s_draw) .none kV_draw dc_draw pm_draw an_draw cd_draw ct_draw), sl_draw⟩)
    (cc_draw : PySem.W.codeIn K cd_draw "_law_draw" = true)
    (k_draw : PySem.W.keepIn K (.ref f_draw) = true)
    (a_made : PySem.W.nsIn K mainGlobals "_law_made" = some (some (.ref f_made)))
    (l_made : K.lookup f_made = some ⟨oc_made, od_made, .func (PySem.W.fnOf "_law_made" "_law_made" (defArgs s_made) (defBody s_made) (defScope s_made) .none kV_made dc_made pm_made an_made cd_made ct_made), sl_made⟩)
    (cc_made : PySem.W.codeIn K cd_made "_law_made" = true)
    (k_made : PySem.W.keepIn K (.ref f_made) = true)
    (a_marks : PySem.W.nsIn K mainGlobals "_law_marks" = some (some (.ref f_marks)))
    (l_marks : K.lookup f_marks = some ⟨oc_marks, od_marks, .func (PySem.W.fnOf "_law_marks" "_law_marks" (defArgs s_marks) (defBody s_marks) (defScope s_marks) .none kV_marks dc_marks pm_marks an_marks cd_marks ct_marks), sl_marks⟩)
    (cc_marks : PySem.W.codeIn K cd_marks "_law_marks" = true)
    (k_marks : PySem.W.keepIn K (.ref f_marks) = true)
    (a_after : PySem.W.nsIn K mainGlobals "_law_after" = some (some (.ref f_after)))
    (l_after : K.lookup f_after = some ⟨oc_after, od_after, .func (PySem.W.fnOf "_law_after" "_law_after" (defArgs s_after) (defBody s_after) (defScope s_after) .none kV_after dc_after pm_after an_after cd_after ct_after), sl_after⟩)
    (cc_after : PySem.W.codeIn K cd_after "_law_after" = true)
    (k_after : PySem.W.keepIn K (.ref f_after) = true)
    (a_till : PySem.W.nsIn K mainGlobals "_law_till" = some (some (.ref f_till)))
    (l_till : K.lookup f_till = some ⟨oc_till, od_till, .func (PySem.W.fnOf "_law_till" "_law_till" (defArgs s_till) (defBody s_till) (defScope s_till) .none kV_till dc_till pm_till an_till cd_till ct_till), sl_till⟩)
    (cc_till : PySem.W.codeIn K cd_till "_law_till" = true)
    (k_till : PySem.W.keepIn K (.ref f_till) = true)
    (a_means : PySem.W.nsIn K mainGlobals "_law_means" = some (some (.ref f_means)))
    (l_means : K.lookup f_means = some ⟨oc_means, od_means, .func (PySem.W.fnOf "_law_means" "_law_means" (defArgs s_means) (defBody s_means) (defScope s_means) .none kV_means dc_means pm_means an_means cd_means ct_means), sl_means⟩)
    (cc_means : PySem.W.codeIn K cd_means "_law_means" = true)
    (k_means : PySem.W.keepIn K (.ref f_means) = true)
    (a_not_row : PySem.W.nsIn K mainGlobals "_not_row" = some (some (.ref f_not_row)))
    (l_not_row : K.lookup f_not_row = some ⟨oc_not_row, od_not_row, .func (PySem.W.fnOf "_not_row" "_not_row" (defArgs s_not_row) (defBody s_not_row) (defScope s_not_row) .none kV_not_row dc_not_row pm_not_row an_not_row cd_not_row ct_not_row), sl_not_row⟩)
    (cc_not_row : PySem.W.codeIn K cd_not_row "_not_row" = true)
    (k_not_row : PySem.W.keepIn K (.ref f_not_row) = true)
    (a_till_row : PySem.W.nsIn K mainGlobals "_till_row" = some (some (.ref f_till_row)))
    (l_till_row : K.lookup f_till_row = some ⟨oc_till_row, od_till_row, .func (PySem.W.fnOf "_till_row" "_till_row" (defArgs s_till_row) (defBody s_till_row) (defScope s_till_row) .none kV_till_row dc_till_row pm_till_row an_till_row cd_till_row ct_till_row), sl_till_row⟩)
    (cc_till_row : PySem.W.codeIn K cd_till_row "_till_row" = true)
    (k_till_row : PySem.W.keepIn K (.ref f_till_row) = true)
    (a_always_row : PySem.W.nsIn K mainGlobals "_always_row" = some (some (.ref f_always_row)))
    (l_always_row : K.lookup f_always_row = some ⟨oc_always_row, od_always_row, .func (PySem.W.fnOf "_always_row" "_always_row" (defArgs s_always_row) (defBody s_always_row) (defScope s_always_row) .none kV_always_row dc_always_row pm_always_row an_always_row cd_always_row ct_always_row), sl_always_row⟩)
    (cc_always_row : PySem.W.codeIn K cd_always_row "_always_row" = true)
    (k_always_row : PySem.W.keepIn K (.ref f_always_row) = true)
    (a_row : PySem.W.nsIn K mainGlobals "_row" = some (some (.ref f_row)))
    (l_row : K.lookup f_row = some ⟨oc_row, od_row, .func (PySem.W.fnOf "_row" "_row" (defArgs s_row) (defBody s_row) (defScope s_row) .none kV_row dc_row pm_row an_row cd_row ct_row), sl_row⟩)
    (cc_row : PySem.W.codeIn K cd_row "_row" = true)
    (k_row : PySem.W.keepIn K (.ref f_row) = true)
    (a_row_of : PySem.W.nsIn K mainGlobals "row_of" = some (some (.ref f_row_of)))
    (l_row_of : K.lookup f_row_of = some ⟨oc_row_of, od_row_of, .func (PySem.W.fnOf "row_of" "row_of" (defArgs s_row_of) (defBody s_row_of) (defScope s_row_of) .none kV_row_of dc_row_of pm_row_of an_row_of cd_row_of ct_row_of), sl_row_of⟩)
    (cc_row_of : PySem.W.codeIn K cd_row_of "row_of" = true)
    (k_row_of : PySem.W.keepIn K (.ref f_row_of) = true)
    (a_holds : PySem.W.nsIn K mainGlobals "holds" = some (some (.ref f_holds)))
    (l_holds : K.lookup f_holds = some ⟨oc_holds, od_holds, .func (PySem.W.fnOf "holds" "holds" (defArgs s_holds) (defBody s_holds) (defScope s_holds) .none kV_holds dc_holds pm_holds an_holds cd_holds ct_holds), sl_holds⟩)
    (cc_holds : PySem.W.codeIn K cd_holds "holds" = true)
    (k_holds : PySem.W.keepIn K (.ref f_holds) = true)
    (a_law : PySem.W.nsIn K mainGlobals "law" = some (some (.ref f_law)))
    (l_law : K.lookup f_law = some ⟨oc_law, od_law, .func (PySem.W.fnOf "law" "law" (defArgs s_law) (defBody s_law) (defScope s_law) .none kV_law dc_law pm_law an_law cd_law ct_law), sl_law⟩)
    (cc_law : PySem.W.codeIn K cd_law "law" = true)
    (k_law : PySem.W.keepIn K (.ref f_law) = true)
    (b_any : PySem.W.nsIn K mainGlobals "any" = some none)
    (b_bool : PySem.W.nsIn K mainGlobals "bool" = some none)
    (b_isinstance : PySem.W.nsIn K mainGlobals "isinstance" = some none)
    (b_len : PySem.W.nsIn K mainGlobals "len" = some none)
    (b_list : PySem.W.nsIn K mainGlobals "list" = some none)
    (b_range : PySem.W.nsIn K mainGlobals "range" = some none)
    (b_zip : PySem.W.nsIn K mainGlobals "zip" = some none)
    : ∃ fd : FuncData, (∀ (s : Shared) (v : Value), BindsTo s fd ⟨[v], []⟩ [("_law_script", v)]) ∧ ∀ base : Heap, K.In base → base.Ns mainGlobals mg → FnOk l.prog w K mg base CX0 12 fa fd ["_law_script"] (spG K R_law) := by
  have e := hfa.symm.trans (PySem.W.mg_of X G a_law)
  cases e
  have T : Tx K mg := { b_any := PySem.W.mg_none_of X G b_any, b_bool := PySem.W.mg_none_of X G b_bool, b_isinstance := PySem.W.mg_none_of X G b_isinstance, b_len := PySem.W.mg_none_of X G b_len, b_list := PySem.W.mg_none_of X G b_list, b_range := PySem.W.mg_none_of X G b_range, b_zip := PySem.W.mg_none_of X G b_zip }
  have F_names := fun_mk (st := s_names) l_names cc_names k_names
  have B_names := F_names.binds (ps := ["_law_cell"]) fun _ _ _ _ _ _ us hl => match us, hl with | [_], _ => rfl
  have F_cell_at := fun_mk (st := s_cell_at) l_cell_at cc_cell_at k_cell_at
  have B_cell_at := F_cell_at.binds (ps := ["_law_script", "_law_k"]) fun _ _ _ _ _ _ us hl => match us, hl with | [_, _], _ => rfl
  have F_draw := fun_mk (st := s_draw) l_draw cc_draw k_draw
  have B_draw := F_draw.binds (ps := ["_law_script", "_law_spot"]) fun _ _ _ _ _ _ us hl => match us, hl with | [_, _], _ => rfl
  have F_made := fun_mk (st := s_made) l_made cc_made k_made
  have B_made := F_made.binds (ps := ["_law_script", "_law_spot", "_law_names_here", "_law_deep"]) fun _ _ _ _ _ _ us hl => match us, hl with | [_, _, _, _], _ => rfl
  have F_marks := fun_mk (st := s_marks) l_marks cc_marks k_marks
  have B_marks := F_marks.binds (ps := ["_law_script", "_law_spot", "_law_names_here", "_law_least"]) fun _ _ _ _ _ _ us hl => match us, hl with | [_, _, _, _], _ => rfl
  have F_after := fun_mk (st := s_after) l_after cc_after k_after
  have B_after := F_after.binds (ps := ["_law_way", "_law_ring", "_law_at"]) fun _ _ _ _ _ _ us hl => match us, hl with | [_, _, _], _ => rfl
  have F_till := fun_mk (st := s_till) l_till cc_till k_till
  have B_till := F_till.binds (ps := ["_law_ones", "_law_others", "_law_moments"]) fun _ _ _ _ _ _ us hl => match us, hl with | [_, _, _], _ => rfl
  have F_means := fun_mk (st := s_means) l_means cc_means k_means
  have B_means := F_means.binds (ps := ["_law_saying", "_law_way", "_law_ring"]) fun _ _ _ _ _ _ us hl => match us, hl with | [_, _, _], _ => rfl
  have F_not_row := fun_mk (st := s_not_row) l_not_row cc_not_row k_not_row
  have B_not_row := F_not_row.binds (ps := ["row"]) fun _ _ _ _ _ _ us hl => match us, hl with | [_], _ => rfl
  have F_till_row := fun_mk (st := s_till_row) l_till_row cc_till_row k_till_row
  have B_till_row := F_till_row.binds (ps := ["ahead", "goal", "back"]) fun _ _ _ _ _ _ us hl => match us, hl with | [_, _, _], _ => rfl
  have F_always_row := fun_mk (st := s_always_row) l_always_row cc_always_row k_always_row
  have B_always_row := F_always_row.binds (ps := ["row", "back"]) fun _ _ _ _ _ _ us hl => match us, hl with | [_, _], _ => rfl
  have F_row := fun_mk (st := s_row) l_row cc_row k_row
  have B_row := F_row.binds (ps := ["saying", "marks", "back"]) fun _ _ _ _ _ _ us hl => match us, hl with | [_, _, _], _ => rfl
  have F_row_of := fun_mk (st := s_row_of) l_row_of cc_row_of k_row_of
  have B_row_of := F_row_of.binds (ps := ["saying", "way", "ring"]) fun _ _ _ _ _ _ us hl => match us, hl with | [_, _, _], _ => rfl
  have F_holds := fun_mk (st := s_holds) l_holds cc_holds k_holds
  have B_holds := F_holds.binds (ps := ["saying", "way", "ring"]) fun _ _ _ _ _ _ us hl => match us, hl with | [_, _, _], _ => rfl
  have F_law := fun_mk (st := s_law) l_law cc_law k_law
  have B_law := F_law.binds (ps := ["_law_script"]) fun _ _ _ _ _ _ us hl => match us, hl with | [_], _ => rfl
  refine ⟨PySem.W.fnOf "law" "law" (defArgs s_law) (defBody s_law) (defScope s_law) .none kV_law dc_law pm_law an_law cd_law ct_law, fun s v => .of_eq rfl, fun base _ _ => ?_⟩
  have M_names : Cal l.prog w K mg base "_law_names" 1 ["_law_cell"] (spG K R_names) f_names _ := ⟨PySem.W.mg_of X G a_names, k_names, B_names, ok_names F_names T ⟩
  have M_cell_at : Cal l.prog w K mg base "_law_cell_at" 1 ["_law_script", "_law_k"] (spG K R_cell_at) f_cell_at _ := ⟨PySem.W.mg_of X G a_cell_at, k_cell_at, B_cell_at, ok_cell_at F_cell_at T ⟩
  have M_draw : Cal l.prog w K mg base "_law_draw" 1 ["_law_script", "_law_spot"] (spG K R_draw) f_draw _ := ⟨PySem.W.mg_of X G a_draw, k_draw, B_draw, ok_draw F_draw T ⟩
  have M_made : Cal l.prog w K mg base "_law_made" 8 ["_law_script", "_law_spot", "_law_names_here", "_law_deep"] (spG K R_made) f_made _ := ⟨PySem.W.mg_of X G a_made, k_made, B_made, ok_made F_made T (PySem.W.mg_of X G a_made) k_made B_made M_draw⟩
  have M_marks : Cal l.prog w K mg base "_law_marks" 2 ["_law_script", "_law_spot", "_law_names_here", "_law_least"] (spG K R_marks) f_marks _ := ⟨PySem.W.mg_of X G a_marks, k_marks, B_marks, ok_marks F_marks T M_draw⟩
  have M_after : Cal l.prog w K mg base "_law_after" 1 ["_law_way", "_law_ring", "_law_at"] (spG K R_after) f_after _ := ⟨PySem.W.mg_of X G a_after, k_after, B_after, ok_after F_after T ⟩
  have M_till : Cal l.prog w K mg base "_law_till" 1 ["_law_ones", "_law_others", "_law_moments"] (spG K R_till) f_till _ := ⟨PySem.W.mg_of X G a_till, k_till, B_till, ok_till F_till T ⟩
  have M_means : Cal l.prog w K mg base "_law_means" 8 ["_law_saying", "_law_way", "_law_ring"] (spF K R_means) f_means _ := ⟨PySem.W.mg_of X G a_means, k_means, B_means, ok_means F_means T (PySem.W.mg_of X G a_means) k_means B_means M_after M_till⟩
  have M_not_row : Cal l.prog w K mg base "_not_row" 1 ["row"] (spF K R_not_row) f_not_row _ := ⟨PySem.W.mg_of X G a_not_row, k_not_row, B_not_row, ok_not_row F_not_row T ⟩
  have M_till_row : Cal l.prog w K mg base "_till_row" 1 ["ahead", "goal", "back"] (spF K R_till_row) f_till_row _ := ⟨PySem.W.mg_of X G a_till_row, k_till_row, B_till_row, ok_till_row F_till_row T ⟩
  have M_always_row : Cal l.prog w K mg base "_always_row" 2 ["row", "back"] (spF K R_always_row) f_always_row _ := ⟨PySem.W.mg_of X G a_always_row, k_always_row, B_always_row, ok_always_row F_always_row T M_not_row M_till_row⟩
  have M_row : Cal l.prog w K mg base "_row" 9 ["saying", "marks", "back"] (spF K R_row) f_row _ := ⟨PySem.W.mg_of X G a_row, k_row, B_row, ok_row F_row T (PySem.W.mg_of X G a_row) k_row B_row M_not_row M_till_row M_always_row⟩
  have M_row_of : Cal l.prog w K mg base "row_of" 10 ["saying", "way", "ring"] (spF K R_row_of) f_row_of _ := ⟨PySem.W.mg_of X G a_row_of, k_row_of, B_row_of, ok_row_of F_row_of T M_row⟩
  have M_holds : Cal l.prog w K mg base "holds" 11 ["saying", "way", "ring"] (spG K R_holds) f_holds _ := ⟨PySem.W.mg_of X G a_holds, k_holds, B_holds, ok_holds F_holds T M_row_of⟩
  exact ok_law F_law T M_names M_cell_at M_made M_marks M_means M_row_of M_holds
theorem walk {l : PySem.W.OpenLaw} {q : Program} {loose : List Str} {XP : (Str → Option Value) → Heap → Prop} {YP : World → Heap → Prop} {d : DefRec} {K : Params → PySem.W.Frag} (hn : l.most = some 63) (hdf : d.params.defaults = [])
    (hY : ∀ (w : World) (h : Heap), YP w h → (K w.params).In h)
    (F : ∀ (w : World) (mg : Str → Option Value) (fa : Addr) (h : Heap), (K w.params).In h → h.Ns mainGlobals mg → mg d.name = some (.ref fa) →
      ∃ fd : FuncData, (∀ (s : Shared) (u : Value), BindsTo s fd ⟨[u], []⟩ [("_law_script", u)]) ∧ ∀ base : Heap, (K w.params).In base → base.Ns mainGlobals mg → FnOk l.prog w (K w.params) mg base CX0 12 fa fd ["_law_script"] (spG (K w.params) R_law)) :
    PySem.W.WalkO q loose XP YP l.row.toRowW d [] (fun f vs => PySem.call f vs) :=
  L2.walk_of (n := 63) (k := 12) (x := "_law_script") (CX := fun _ => CX0) (sp := fun w => spG (K w.params) R_law) hn (by decide) hdf ⟨rfl, by decide, by decide⟩ hY F
    (fun _ H a ns hl _ hS => ⟨H, [], [.dat (.scr ns)], .bl true, [.no], ⟨ns, rfl, rfl, rfl⟩, start_all (Same.refl H) (.cons (.scr hS) .nil), fun v G' H' _ r => by cases r; rfl⟩) fun _ _ _ _ _ z => z
end My
open PySem PySem.W PyProof.Rows
set_option maxRecDepth 100000 in
set_option maxHeartbeats 0 in
theorem PySem.Challenge.cw_everafter_k04_what_it_means_holds : PySem.Challenge.rw_everafter_k04_what_it_means.Holds := by
  w_on; o_law; k_head; (case hw => w_witness2)
  k_fill
  refine My.walk (l := PySem.Challenge.rw_everafter_k04_what_it_means) rfl rfl (fun w h Y => PySem.W.kIn_of Y) ?F
  case F =>
    intro w mg fa h KX G hmg
    refine' My.all_mk KX G hmg ?a_names ?l_names ?cc_names ?k_names ?a_cell_at ?l_cell_at ?cc_cell_at ?k_cell_at ?a_draw ?l_draw ?cc_draw ?k_draw ?a_made ?l_made ?cc_made ?k_made ?a_marks ?l_marks ?cc_marks ?k_marks ?a_after ?l_after ?cc_after ?k_after ?a_till ?l_till ?cc_till ?k_till ?a_means ?l_means ?cc_means ?k_means ?a_not_row ?l_not_row ?cc_not_row ?k_not_row ?a_till_row ?l_till_row ?cc_till_row ?k_till_row ?a_always_row ?l_always_row ?cc_always_row ?k_always_row ?a_row ?l_row ?cc_row ?k_row ?a_row_of ?l_row_of ?cc_row_of ?k_row_of ?a_holds ?l_holds ?cc_holds ?k_holds ?a_law ?l_law ?cc_law ?k_law ?b_any ?b_bool ?b_isinstance ?b_len ?b_list ?b_range ?b_zip
    (case a_names => k_is)
    (case l_names => k_is)
    (case cc_names => k_is)
    (case k_names => k_is)
    (case a_cell_at => k_is)
    (case l_cell_at => k_is)
    (case cc_cell_at => k_is)
    (case k_cell_at => k_is)
    (case a_draw => k_is)
    (case l_draw => k_is)
    (case cc_draw => k_is)
    (case k_draw => k_is)
    (case a_made => k_is)
    (case l_made => k_is)
    (case cc_made => k_is)
    (case k_made => k_is)
    (case a_marks => k_is)
    (case l_marks => k_is)
    (case cc_marks => k_is)
    (case k_marks => k_is)
    (case a_after => k_is)
    (case l_after => k_is)
    (case cc_after => k_is)
    (case k_after => k_is)
    (case a_till => k_is)
    (case l_till => k_is)
    (case cc_till => k_is)
    (case k_till => k_is)
    (case a_means => k_is)
    (case l_means => k_is)
    (case cc_means => k_is)
    (case k_means => k_is)
    (case a_not_row => k_is)
    (case l_not_row => k_is)
    (case cc_not_row => k_is)
    (case k_not_row => k_is)
    (case a_till_row => k_is)
    (case l_till_row => k_is)
    (case cc_till_row => k_is)
    (case k_till_row => k_is)
    (case a_always_row => k_is)
    (case l_always_row => k_is)
    (case cc_always_row => k_is)
    (case k_always_row => k_is)
    (case a_row => k_is)
    (case l_row => k_is)
    (case cc_row => k_is)
    (case k_row => k_is)
    (case a_row_of => k_is)
    (case l_row_of => k_is)
    (case cc_row_of => k_is)
    (case k_row_of => k_is)
    (case a_holds => k_is)
    (case l_holds => k_is)
    (case cc_holds => k_is)
    (case k_holds => k_is)
    (case a_law => k_is)
    (case l_law => k_is)
    (case cc_law => k_is)
    (case k_law => k_is)
    (case b_any => k_is)
    (case b_bool => k_is)
    (case b_isinstance => k_is)
    (case b_len => k_is)
    (case b_list => k_is)
    (case b_range => k_is)
    (case b_zip => k_is)

