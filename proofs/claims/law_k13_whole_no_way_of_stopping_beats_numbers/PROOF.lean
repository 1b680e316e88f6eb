import PyProof.Rows.All
import Wide.All
import OpenK.AllK
import Wide.FinOn
import HandS.ForExc
import HandS.ForMost
import HandS.IsInst
import HandS.Gcd
import HandS.Wide
import HandS.TupAny
import HandS.TupMul
import HandS.Style
import HandS.Zip
import HandS.SortInts
import HandS.Deep
import HandS.CallSlots
import HandS.Strs
import HandS.ExcIs
import PyProof.GenCompD
import PyProof.GenArm
import HandS.GenList
import HandS.AnyAll
import KE.KNestM
import HandS.SetFor
import KE.KSetDisp
import HandS.Conv
import HandS.SetIn
import KE.KDictZip
import KE.KMathGC
import KE.GoesZip
import KE.GoesMore
import PyProof.Rows.ReprOcc
import PySem.Challenge.RW_nextwork_k13_whole_no_way_of_stopping_be
set_option Elab.async false
set_option linter.all false
set_option maxRecDepth 100000
set_option maxHeartbeats 4000000
set_option exponentiation.threshold 70000
namespace Ev
open PySem PySem.Spec PyProof.Rows L2

/-! ## data, store, results: no Python here -/
inductive D where
  | non | bl (b : Bool) | int (i : Int) | str (s : Str) | tup (ds : List D) | lst (ds : List D) | ref (n : Nat) | fro (ds : List D) | sref (n : Nat)
inductive Cell where
  | lst (ds : List D) | set (S : List Int)
def Cell.isS : Cell → Bool
  | .lst _ => false
  | .set _ => true
abbrev Sto := List Cell
abbrev En := List (Option D)
abbrev Pay := Option (Str × D)
inductive R (α : Type) where
  | ok (a : α) (st : Sto) | ex (c : Nat) (p : Pay) (st : Sto) | bad
def R.bind {α β : Type} (r : R α) (k : α → Sto → R β) : R β := match r with
  | .ok a st => k a st
  | .ex c p st => .ex c p st
  | .bad => .bad
@[simp] theorem bind_ok {α β : Type} (a : α) (st : Sto) (k : α → Sto → R β) : (R.ok a st).bind k = k a st := rfl
@[simp] theorem bind_ex {α β : Type} (c : Nat) (p : Pay) (st : Sto) (k : α → Sto → R β) : (R.ex c p st : R α).bind k = .ex c p st := rfl
@[simp] theorem bind_bad {α β : Type} (k : α → Sto → R β) : (R.bad : R α).bind k = .bad := rfl
def R.ofO {α : Type} (o : Option (α × Sto)) : R α := match o with
  | some (a, st) => .ok a st
  | none => .bad
@[simp] theorem ofO_some {α : Type} (a : α) (st : Sto) : R.ofO (some (a, st)) = .ok a st := rfl
@[simp] theorem ofO_none {α : Type} : (R.ofO none : R α) = .bad := rfl
def R.wp {α : Type} (r : R α) (Q : α → Sto → Prop) (E : Nat → Pay → Sto → Prop) : Prop := match r with
  | .ok a st => Q a st
  | .ex c p st => E c p st
  | .bad => False
theorem wp_bind {α β : Type} {r : R α} {k : α → Sto → R β} {Q : β → Sto → Prop} {E : Nat → Pay → Sto → Prop} : (r.bind k).wp Q E ↔ r.wp (fun a st => (k a st).wp Q E) E := by
  cases r <;> exact Iff.rfl
theorem wp_mono {α : Type} {r : R α} {Q Q' : α → Sto → Prop} {E E' : Nat → Pay → Sto → Prop} (h : r.wp Q E) (hq : ∀ a st, Q a st → Q' a st) (he : ∀ c p st, E c p st → E' c p st) : r.wp Q' E' := by
  cases r with
  | ok a st => exact hq _ _ h
  | ex c p st => exact he _ _ _ h
  | bad => exact h
theorem wp_ofO {α : Type} {o : Option (α × Sto)} {Q : α → Sto → Prop} {E : Nat → Pay → Sto → Prop} (h : (R.ofO o).wp Q E) : ∃ a st, o = some (a, st) ∧ Q a st := by
  cases o with
  | none => exact h.elim
  | some x => exact ⟨x.1, x.2, rfl, h⟩
inductive SR where
  | nx (en : En) (st : Sto) | rt (d : D) (st : Sto) | bk (en : En) (st : Sto) | ct (en : En) (st : Sto) | ex (c : Nat) (p : Pay) (en : En) (st : Sto) | bad
abbrev EF := En → Sto → R D
abbrev TF := En → Sto → R Bool
abbrev AF := En → Sto → R (List D)
abbrev SF := En → Sto → SR

/-! ## how data lies in the heap -/
/-- the tables that are tracked -/
class Tabs where
  tb : List Addr
  wd : Option World
structure Z where
  mu : List Addr
  fz : Addr → Prop
  /-- the tables of code objects: they may grow -/
  tb : List Addr
  /-- which of the cells are sets -/
  kd : Nat → Bool
/-- a code object's table stands at P -/
def TabH (H : Hp) (P : Addr) : Prop := ∃ ps : Array Value, H P = some (.tbl ps) ∧ TriplesOk ps.toList
section
variable (K : PySem.W.Frag)
def TupZ (z : Z) (H : Hp) (a : Addr) (xs : List V) : Prop :=
  (z.fz a ∧ Rd H a (.tup xs)) ∨ ∃ (o : Obj) (its : Array Value) (n : Nat), K.lookup a = some o ∧ o.cls = .type "tuple" ∧ o.data = .seq its n ∧ its.size ≤ sizeLine ∧ Vals xs its.toList
def LstZ (z : Z) (H : Hp) (a : Addr) (xs : List V) : Prop :=
  (z.fz a ∧ Rd H a (.lst xs)) ∨ ∃ (o : Obj) (its : Array Value) (n : Nat), K.lookup a = some o ∧ o.cls = .type "list" ∧ o.dict = none ∧ o.data = .seq its n ∧ its.size ≤ sizeLine ∧ Vals xs its.toList
mutual
inductive Rep (z : Z) (H : Hp) : V → D → Prop
  | non : Rep z H .non .non
  | bl (b : Bool) : Rep z H (.bl b) (.bl b)
  | int (i : Int) : Rep z H (.int i) (.int i)
  | str (x : Str) : Rep z H (.str x) (.str x)
  | tup {a : Addr} {xs : List V} {ds : List D} : TupZ K z H a xs → Reps z H xs ds → Rep z H (.ref a) (.tup ds)
  | lst {a : Addr} {xs : List V} {ds : List D} : z.fz a → H a = some (.lst xs) → Reps z H xs ds → Rep z H (.ref a) (.lst ds)
  | ref {a : Addr} {n : Nat} : z.mu[n]? = some a → z.kd n = false → Rep z H (.ref a) (.ref n)
  | fro {a : Addr} {xs : List V} {ds : List D} : LstZ K z H a xs → Reps z H xs ds → Rep z H (.ref a) (.fro ds)
  | sref {a : Addr} {n : Nat} : z.mu[n]? = some a → z.kd n = true → Rep z H (.ref a) (.sref n)
inductive Reps (z : Z) (H : Hp) : List V → List D → Prop
  | nil : Reps z H [] []
  | cons {v : V} {vs : List V} {d : D} {ds : List D} : Rep z H v d → Reps z H vs ds → Reps z H (v :: vs) (d :: ds)
end
variable [Tabs]
def CellR (z : Z) (H : Hp) (a : Addr) : Cell → Prop
  | .lst ds => ∃ xs, H a = some (.lst xs) ∧ Reps K z H xs ds
  | .set S => ∃ w, Tabs.wd = some w ∧ H a = some (SetO w a (fun j => decide (j ∈ S)) S.length)
structure RelH (z : Z) (H : Hp) (st : Sto) : Prop where
  len : z.mu.length = st.length
  nd : z.mu.Nodup
  nfz : ∀ a ∈ z.mu, ¬ z.fz a
  fz : ∀ a, z.fz a → H a ≠ none
  cells : ∀ (n : Nat) a c, z.mu[n]? = some a → st[n]? = some c → CellR K z H a c
  tb : ∀ P ∈ z.tb, TabH H P ∧ P ∉ z.mu ∧ ¬ z.fz P
  tbk : ∀ P ∈ Tabs.tb, P ∈ z.tb
  knd : ∀ (n : Nat) c, st[n]? = some c → c.isS = z.kd n
def RelE (z : Z) (H : Hp) (σ : L2.St) (en : En) : Prop := σ.length = en.length ∧ ∀ (i : Nat) d, en[i]? = some (some d) → ∃ v, σ[i]? = some (some v) ∧ Rep K z H v d
end
/-- what data leans on stays; all that was tracked stays but for the cells -/
structure Ex0 (z : Z) (H : Hp) (z' : Z) (H' : Hp) : Prop where
  mu : ∀ (n : Nat) a, z.mu[n]? = some a → z'.mu[n]? = some a
  fz : ∀ a, z.fz a → z'.fz a ∧ H' a = H a
  kd : ∀ (n : Nat) a, z.mu[n]? = some a → z'.kd n = z.kd n
structure Ext (z : Z) (H : Hp) (z' : Z) (H' : Hp) : Prop extends Ex0 z H z' H' where
  fr : ∀ a, H a ≠ none → a ∉ z.mu → a ∉ z.tb → H' a = H a
  nw : ∀ a, a ∈ z'.mu → a ∈ z.mu ∨ H a = none
  nf : ∀ a, z'.fz a → z.fz a ∨ H a = none
  lv : ∀ a, H a ≠ none → H' a ≠ none
  tb : z'.tb = z.tb
section
variable {K : PySem.W.Frag} {z z1 z2 : Z} {H H1 H2 : Hp} {v : V} {d : D} {vs : List V} {ds : List D} {st : Sto}
theorem Ext.refl : Ext z H z H := ⟨⟨fun _ _ h => h, fun _ h => ⟨h, rfl⟩, fun _ _ _ => rfl⟩, fun _ _ _ _ => rfl, fun _ h => .inl h, fun _ h => .inl h, fun _ h => h, rfl⟩
theorem Ex0.trans (a : Ex0 z H z1 H1) (b : Ex0 z1 H1 z2 H2) : Ex0 z H z2 H2 :=
  ⟨fun n x h => b.mu n x (a.mu n x h), fun x h => ⟨(b.fz x (a.fz x h).1).1, ((b.fz x (a.fz x h).1).2).trans (a.fz x h).2⟩, fun n x h => (b.kd n x (a.mu n x h)).trans (a.kd n x h)⟩
theorem Ext.trans (a : Ext z H z1 H1) (b : Ext z1 H1 z2 H2) : Ext z H z2 H2 := by
  have back : ∀ x, H1 x = none → H x = none := fun x h => by
    cases q : H x with
    | none => rfl
    | some o => exact absurd h (a.lv x (by rw [q]; simp))
  refine ⟨a.toEx0.trans b.toEx0, fun x h n m => ?_, fun x h => ?_, fun x h => ?_, fun x h => b.lv x (a.lv x h), b.tb.trans a.tb⟩
  · have e := a.fr x h n m
    have n1 : x ∉ z1.mu := fun q => (a.nw x q).elim n h
    exact (b.fr x (by rw [e]; exact h) n1 (by rw [a.tb]; exact m)).trans e
  · exact (b.nw x h).elim (a.nw x) fun q => .inr (back x q)
  · exact (b.nf x h).elim (a.nf x) fun q => .inr (back x q)
theorem TupZ.ext0 {a : Addr} {xs : List V} (h : TupZ K z H a xs) (e : Ex0 z H z1 H1) : TupZ K z1 H1 a xs := by
  rcases h with ⟨h, r⟩ | h
  · refine .inl ⟨(e.fz a h).1, ?_⟩
    unfold Rd
    rw [(e.fz a h).2]
    exact r
  · exact .inr h
theorem LstZ.ext0 {a : Addr} {xs : List V} (h : LstZ K z H a xs) (e : Ex0 z H z1 H1) : LstZ K z1 H1 a xs := by
  rcases h with ⟨h, r⟩ | h
  · refine .inl ⟨(e.fz a h).1, ?_⟩
    unfold Rd
    rw [(e.fz a h).2]
    exact r
  · exact .inr h
theorem LstZ.seq {a : Addr} {xs : List V} (h : LstZ K z H a xs) : SqL K H a xs := h.elim (fun h => .inl h.2) .inr
theorem TupZ.seq {a : Addr} {xs : List V} (h : TupZ K z H a xs) : SqT K H a xs := h.elim (fun h => .inl h.2) .inr
mutual
theorem Rep.ext0 (e : Ex0 z H z1 H1) : ∀ {v : V} {d : D}, Rep K z H v d → Rep K z1 H1 v d
  | _, _, .non => .non
  | _, _, .bl b => .bl b
  | _, _, .int i => .int i
  | _, _, .str x => .str x
  | _, _, .tup h r => .tup (h.ext0 e) (Reps.ext0 e r)
  | _, _, .lst f h r => .lst (e.fz _ f).1 ((e.fz _ f).2.trans h) (Reps.ext0 e r)
  | _, _, .ref h k => .ref (e.mu _ _ h) ((e.kd _ _ h).trans k)
  | _, _, .sref h k => .sref (e.mu _ _ h) ((e.kd _ _ h).trans k)
  | _, _, .fro h r => .fro (h.ext0 e) (Reps.ext0 e r)
theorem Reps.ext0 (e : Ex0 z H z1 H1) : ∀ {vs : List V} {ds : List D}, Reps K z H vs ds → Reps K z1 H1 vs ds
  | _, _, .nil => .nil
  | _, _, .cons r t => .cons (Rep.ext0 e r) (Reps.ext0 e t)
end
theorem Rep.ext (e : Ext z H z1 H1) (h : Rep K z H v d) : Rep K z1 H1 v d := Rep.ext0 e.toEx0 h
theorem Reps.ext (e : Ext z H z1 H1) (h : Reps K z H vs ds) : Reps K z1 H1 vs ds := Reps.ext0 e.toEx0 h
theorem RelE.ext0 {σ : L2.St} {en : En} (h : RelE K z H σ en) (e : Ex0 z H z1 H1) : RelE K z1 H1 σ en :=
  ⟨h.1, fun i d q => let ⟨v, a, b⟩ := h.2 i d q; ⟨v, a, b.ext0 e⟩⟩
theorem RelE.ext {σ : L2.St} {en : En} (h : RelE K z H σ en) (e : Ext z H z1 H1) : RelE K z1 H1 σ en := h.ext0 e.toEx0
theorem Reps.length : ∀ {vs : List V} {ds : List D}, Reps K z H vs ds → vs.length = ds.length
  | _, _, .nil => rfl
  | _, _, .cons _ t => congrArg (· + 1) t.length
theorem Reps.get : ∀ {vs : List V} {ds : List D} {i : Nat} {v : V}, Reps K z H vs ds → vs[i]? = some v → ∃ d, ds[i]? = some d ∧ Rep K z H v d
  | _, _, _, _, .nil, h => by simp at h
  | _, _, 0, _, .cons r _, h => by
    have e := Option.some.inj h
    exact ⟨_, rfl, e ▸ r⟩
  | _, _, i + 1, v, .cons _ t, h => t.get (i := i) (v := v) h
theorem Reps.getD : ∀ {vs : List V} {ds : List D} {i : Nat} {d : D}, Reps K z H vs ds → ds[i]? = some d → ∃ v, vs[i]? = some v ∧ Rep K z H v d
  | _, _, _, _, .nil, h => by simp at h
  | _, _, 0, _, .cons r _, h => by
    have e := Option.some.inj h
    exact ⟨_, rfl, e ▸ r⟩
  | _, _, i + 1, v, .cons _ t, h => t.getD (i := i) (d := v) h
theorem Reps.append : ∀ {vs ws : List V} {ds es : List D}, Reps K z H vs ds → Reps K z H ws es → Reps K z H (vs ++ ws) (ds ++ es)
  | _, _, _, _, .nil, s => s
  | _, _, _, _, .cons r t, s => .cons r (t.append s)
theorem Reps.take : ∀ (n : Nat) {vs : List V} {ds : List D}, Reps K z H vs ds → Reps K z H (vs.take n) (ds.take n)
  | 0, _, _, _ => .nil
  | _ + 1, _, _, .nil => .nil
  | n + 1, _, _, .cons r t => .cons r (t.take n)
theorem Reps.drop : ∀ (n : Nat) {vs : List V} {ds : List D}, Reps K z H vs ds → Reps K z H (vs.drop n) (ds.drop n)
  | 0, _, _, r => r
  | _ + 1, _, _, .nil => .nil
  | n + 1, _, _, .cons _ t => t.drop n
theorem Reps.set {x : V} {y : D} (r : Rep K z H x y) : ∀ (i : Nat) {vs : List V} {ds : List D}, Reps K z H vs ds → Reps K z H (vs.set i x) (ds.set i y)
  | _, _, _, .nil => .nil
  | 0, _, _, .cons _ t => .cons r t
  | i + 1, _, _, .cons q t => .cons q (Reps.set r i t)
theorem Reps.reverse : ∀ {vs : List V} {ds : List D}, Reps K z H vs ds → Reps K z H vs.reverse ds.reverse
  | _, _, .nil => .nil
  | _, _, .cons r t => by
    rw [List.reverse_cons, List.reverse_cons]
    exact t.reverse.append (.cons r .nil)
theorem Reps.flat : ∀ (n : Nat) {vs : List V} {ds : List D}, Reps K z H vs ds → Reps K z H (List.replicate n vs).flatten (List.replicate n ds).flatten
  | 0, _, _, _ => .nil
  | n + 1, _, _, r => by
    rw [List.replicate_succ, List.replicate_succ, List.flatten_cons, List.flatten_cons]
    exact r.append (r.flat n)

variable [Tabs]
/-! a new immutable object; a new cell; a cell written -/
def Z.add (z : Z) (p : Addr) : Z := ⟨z.mu, fun a => z.fz a ∨ a = p, z.tb, z.kd⟩
def Z.pushK (z : Z) (p : Addr) (b : Bool) : Z := ⟨z.mu ++ [p], z.fz, z.tb, fun i => if i = z.mu.length then b else z.kd i⟩
abbrev Z.push (z : Z) (p : Addr) : Z := z.pushK p false
theorem TabH.live {P : Addr} (h : TabH H P) : H P ≠ none := by
  obtain ⟨ps, e, _⟩ := h
  rw [e]
  simp
theorem TabH.no {P : Addr} {xs : List V} (h : TabH H P) (e : H P = some (.lst xs)) : False := by
  obtain ⟨ps, q, _⟩ := h
  rw [e] at q
  cases q
theorem TabH.upd {P p : Addr} {o : HO} (h : TabH H P) (n : P ≠ p) : TabH (upd H p o) P := by
  obtain ⟨ps, e, t⟩ := h
  exact ⟨ps, (upd_ne n).trans e, t⟩
theorem RelH.nin (h : RelH K z H st) {p : Addr} (n : H p = none) : p ∉ z.mu := fun hp => by
  obtain ⟨i, hi⟩ := List.mem_iff_getElem?.mp hp
  have hl : i < st.length := h.len ▸ (List.getElem?_eq_some_iff.mp hi).1
  have q := h.cells i p _ hi (List.getElem?_eq_getElem hl)
  cases e : st[i] with
  | lst ds =>
    rw [e] at q
    obtain ⟨xs, x, _⟩ := q
    rw [n] at x
    cases x
  | set S =>
    rw [e] at q
    obtain ⟨w, _, x⟩ := q
    rw [n] at x
    cases x
theorem upd_live {p : Addr} {o : HO} {a : Addr} (h : H a ≠ none) : upd H p o a ≠ none := by
  by_cases e : a = p
  · rw [e, upd_same]
    simp
  · rw [upd_ne e]
    exact h
theorem ne_new {p a : Addr} (n : H p = none) (h : H a ≠ none) : a ≠ p := fun e => h (e ▸ n)
theorem ext_add (h : RelH K z H st) {p : Addr} {o : HO} (n : H p = none) : Ext z H (z.add p) (upd H p o) :=
  ⟨⟨fun _ _ q => q, fun a q => ⟨.inl q, upd_ne fun e => h.fz a q (e ▸ n)⟩, fun _ _ _ => rfl⟩, fun a q _ _ => upd_ne (ne_new n q), fun a q => .inl q, fun a q => q.elim .inl fun e => .inr (e ▸ n), fun a q => upd_live q, rfl⟩
theorem ext_push {b : Bool} (h : RelH K z H st) {p : Addr} {o : HO} (n : H p = none) : Ext z H (z.pushK p b) (upd H p o) :=
  ⟨⟨fun i a q => by
    show (z.mu ++ [p])[i]? = some a
    rw [List.getElem?_append_left (List.getElem?_eq_some_iff.mp q).1]
    exact q, fun a q => ⟨q, upd_ne fun e => h.fz a q (e ▸ n)⟩, fun i a q => if_neg (Nat.ne_of_lt (List.getElem?_eq_some_iff.mp q).1)⟩, fun a q _ _ => upd_ne (ne_new n q), fun a q => (List.mem_append.mp q).elim .inl fun e => .inr ((List.mem_singleton.mp e) ▸ n), fun a q => .inl q, fun a q => upd_live q, rfl⟩
/-- a new object that the relation does not speak of -/
theorem ext_by (h : RelH K z H st) {p : Addr} {o : HO} (n : H p = none) : Ext z H z (upd H p o) :=
  ⟨⟨fun _ _ q => q, fun a q => ⟨q, upd_ne fun e => h.fz a q (e ▸ n)⟩, fun _ _ _ => rfl⟩, fun a q _ _ => upd_ne (ne_new n q), fun a q => .inl q, fun a q => .inl q, fun a q => upd_live q, rfl⟩
theorem CellR.ext0 {a : Addr} {c : Cell} (h : CellR K z H a c) (e : Ex0 z H z1 H1) (k : H1 a = H a) : CellR K z1 H1 a c := by
  cases c with
  | lst ds =>
    obtain ⟨xs, x, r⟩ := h
    exact ⟨xs, k.trans x, r.ext0 e⟩
  | set S =>
    obtain ⟨w, hw, x⟩ := h
    exact ⟨w, hw, k.trans x⟩
theorem CellR.ext {a : Addr} {c : Cell} (h : CellR K z H a c) (e : Ext z H z1 H1) (k : H1 a = H a) : CellR K z1 H1 a c := h.ext0 e.toEx0 k
theorem RelH.add (h : RelH K z H st) {p : Addr} {o : HO} (n : H p = none) : RelH K (z.add p) (upd H p o) st := by
  have hp := h.nin n
  refine ⟨h.len, h.nd, fun a ha q => ?_, fun a q => ?_, fun i a c hi hc => ?_, fun P hP => ⟨(h.tb P hP).1.upd (ne_new n (h.tb P hP).1.live), (h.tb P hP).2.1, fun w => w.elim (h.tb P hP).2.2 (ne_new n (h.tb P hP).1.live)⟩, h.tbk, h.knd⟩
  · rcases q with q | q
    · exact h.nfz a ha q
    · exact hp (q ▸ ha)
  · by_cases e : a = p
    · rw [e, upd_same]
      simp
    · rw [upd_ne e]
      exact h.fz a (q.resolve_right e)
  · exact (h.cells i a c hi hc).ext (ext_add h n) (upd_ne fun e => hp (e ▸ List.mem_of_getElem? hi))
theorem RelH.pushC (h : RelH K z H st) {p : Addr} {o : HO} {cl : Cell} (n : H p = none) (r : CellR K (z.pushK p cl.isS) (upd H p o) p cl) : RelH K (z.pushK p cl.isS) (upd H p o) (st ++ [cl]) := by
  have hp := h.nin n
  have e := ext_push (b := cl.isS) (o := o) h n
  refine ⟨by show (z.mu ++ [p]).length = _; rw [List.length_append, List.length_append, h.len]; rfl, ?_, fun a ha q => ?_, fun a q => ?_, fun i a c hi hc => ?_, fun P hP => ⟨(h.tb P hP).1.upd (ne_new n (h.tb P hP).1.live), fun w => (List.mem_append.mp w).elim (h.tb P hP).2.1 fun e => ne_new n (h.tb P hP).1.live (List.mem_singleton.mp e), (h.tb P hP).2.2⟩, h.tbk, fun i c q => ?_⟩
  · exact List.nodup_append.mpr ⟨h.nd, List.nodup_cons.mpr ⟨by simp, List.nodup_nil⟩, fun a ha b hb q => hp (by
      rw [List.mem_singleton] at hb
      rw [← hb, ← q]
      exact ha)⟩
  · rcases List.mem_append.mp ha with ha | ha
    · exact h.nfz a ha q
    · rw [List.mem_singleton] at ha
      exact h.fz a q (ha ▸ n)
  · rw [(e.fz a q).2]
    exact h.fz a q
  · have hi' : (z.mu ++ [p])[i]? = some a := hi
    by_cases l : i < z.mu.length
    · rw [List.getElem?_append_left l] at hi'
      rw [List.getElem?_append_left (h.len ▸ l)] at hc
      exact (h.cells i a c hi' hc).ext e (upd_ne fun e => hp (e ▸ List.mem_of_getElem? hi'))
    · rw [List.getElem?_append_right (by omega)] at hi'
      rw [List.getElem?_append_right (by rw [← h.len]; omega), ← h.len] at hc
      cases k : i - z.mu.length with
      | zero =>
        rw [k] at hi' hc
        have e1 := Option.some.inj hi'
        have e2 := Option.some.inj hc
        subst e1
        subst e2
        exact r
      | succ j =>
        rw [k] at hi'
        simp at hi'
  · show c.isS = if i = z.mu.length then cl.isS else z.kd i
    by_cases l : i < z.mu.length
    · rw [if_neg (Nat.ne_of_lt l)]
      rw [List.getElem?_append_left (h.len ▸ l)] at q
      exact h.knd i c q
    · rw [List.getElem?_append_right (by rw [← h.len]; omega), ← h.len] at q
      cases k : i - z.mu.length with
      | zero =>
        rw [k] at q
        rw [if_pos (by omega)]
        exact congrArg Cell.isS (Option.some.inj q).symm
      | succ j =>
        rw [k] at q
        simp at q
theorem RelH.push (h : RelH K z H st) {p : Addr} {xs : List V} (n : H p = none) (r : Reps K z H xs ds) : RelH K (z.push p) (upd H p (.lst xs)) (st ++ [.lst ds]) :=
  h.pushC (cl := .lst ds) n ⟨xs, upd_same, r.ext (ext_push h n)⟩
theorem ext_write (h : RelH K z H st) {i : Nat} {p : Addr} {o : HO} (hi : z.mu[i]? = some p) : Ext z H z (upd H p o) :=
  ⟨⟨fun _ _ q => q, fun a q => ⟨q, upd_ne fun e => h.nfz p (List.mem_of_getElem? hi) (e ▸ q)⟩, fun _ _ _ => rfl⟩, fun a _ q _ => upd_ne fun e => q (e ▸ List.mem_of_getElem? hi), fun a q => .inl q, fun a q => .inl q, fun a q => upd_live q, rfl⟩
/-- something that the relation does not speak of is written -/
theorem ex0_off {p : Addr} {o : HO} (nf : ¬ z.fz p) : Ex0 z H z (upd H p o) := ⟨fun _ _ q => q, fun a q => ⟨q, upd_ne fun e => nf (e ▸ q)⟩, fun _ _ _ => rfl⟩
theorem RelH.off (h : RelH K z H st) {p : Addr} {o : HO} (nf : ¬ z.fz p) (nm : p ∉ z.mu) (nt : p ∉ z.tb) : RelH K z (upd H p o) st :=
  ⟨h.len, h.nd, h.nfz, fun a q => upd_live (h.fz a q), fun i a c hi hc => (h.cells i a c hi hc).ext0 (ex0_off nf) (upd_ne fun e => nm (e ▸ List.mem_of_getElem? hi)), fun P hP => ⟨(h.tb P hP).1.upd fun e => nt (e ▸ hP), (h.tb P hP).2⟩, h.tbk, h.knd⟩
/-- .. that was not there at the base -/
theorem Ext.off {z0 : Z} {H0 : Hp} (e : Ext z0 H0 z H) {p : Addr} {o : HO} (n : H0 p = none) (nf : ¬ z.fz p) : Ext z0 H0 z (upd H p o) :=
  ⟨⟨e.mu, fun a q => ⟨(e.fz a q).1, (upd_ne fun w => nf (by rw [← w]; exact (e.fz a q).1)).trans (e.fz a q).2⟩, e.kd⟩, fun a q w m => (upd_ne (ne_new n q)).trans (e.fr a q w m), e.nw, e.nf, fun a q => upd_live (e.lv a q), e.tb⟩
theorem RelH.writeC (h : RelH K z H st) {i : Nat} {p : Addr} {o : HO} {cl : Cell} (hi : z.mu[i]? = some p) (hk : z.kd i = cl.isS) (r : CellR K z (upd H p o) p cl) : RelH K z (upd H p o) (st.set i cl) := by
  have e := ext_write (o := o) h hi
  refine ⟨by rw [List.length_set]; exact h.len, h.nd, h.nfz, fun a q => ?_, fun j a c hj hc => ?_, fun P hP => ⟨(h.tb P hP).1.upd fun w => (h.tb P hP).2.1 (w ▸ List.mem_of_getElem? hi), (h.tb P hP).2⟩, h.tbk, fun j c q => ?_⟩
  · rw [(e.fz a q).2]
    exact h.fz a q
  · by_cases l : j = i
    · subst l
      rw [hi] at hj
      have e1 := Option.some.inj hj
      subst e1
      rw [List.getElem?_set_self (by rw [← h.len]; exact (List.getElem?_eq_some_iff.mp hi).1)] at hc
      have e2 := Option.some.inj hc
      subst e2
      exact r
    · rw [List.getElem?_set_ne (Ne.symm l)] at hc
      exact (h.cells j a c hj hc).ext e (upd_ne fun q => l (nd_ix h.nd hj (q ▸ hi)))
  · by_cases l : j = i
    · subst l
      rw [List.getElem?_set_self (by rw [← h.len]; exact (List.getElem?_eq_some_iff.mp hi).1)] at q
      rw [← Option.some.inj q]
      exact hk.symm
    · rw [List.getElem?_set_ne (Ne.symm l)] at q
      exact h.knd j c q
theorem RelH.write (h : RelH K z H st) {i : Nat} {p : Addr} {xs : List V} (hi : z.mu[i]? = some p) (hk : z.kd i = false) (r : Reps K z H xs ds) : RelH K z (upd H p (.lst xs)) (st.set i (.lst ds)) :=
  h.writeC (cl := .lst ds) hi hk ⟨xs, upd_same, r.ext (ext_write h hi)⟩
/-- a list's cell; a set's -/
theorem RelH.isL (h : RelH K z H st) {n : Nat} {a : Addr} (r : z.mu[n]? = some a) (k : z.kd n = false) : ∃ ds xs, st[n]? = some (.lst ds) ∧ H a = some (.lst xs) ∧ Reps K z H xs ds := by
  have hl : n < st.length := h.len ▸ (List.getElem?_eq_some_iff.mp r).1
  have q := List.getElem?_eq_getElem hl
  have c := h.cells n a _ r q
  have e := h.knd n _ q
  generalize st[n] = cl at q c e
  cases cl with
  | lst ds =>
    obtain ⟨xs, x, rs⟩ := c
    exact ⟨ds, xs, q, x, rs⟩
  | set S =>
    rw [k] at e
    cases e
theorem RelH.isS (h : RelH K z H st) {n : Nat} {a : Addr} (r : z.mu[n]? = some a) (k : z.kd n = true) : ∃ S w, st[n]? = some (.set S) ∧ Tabs.wd = some w ∧ H a = some (SetO w a (fun j => decide (j ∈ S)) S.length) := by
  have hl : n < st.length := h.len ▸ (List.getElem?_eq_some_iff.mp r).1
  have q := List.getElem?_eq_getElem hl
  have c := h.cells n a _ r q
  have e := h.knd n _ q
  generalize st[n] = cl at q c e
  cases cl with
  | set S =>
    obtain ⟨w, hw, x⟩ := c
    exact ⟨S, w, q, hw, x⟩
  | lst ds =>
    rw [k] at e
    cases e
theorem RelH.cell (h : RelH K z H st) {n : Nat} {a : Addr} (r : z.mu[n]? = some a) {c : Cell} (hc : st[n]? = some c) : CellR K z H a c := h.cells n a c r hc
end
end Ev

namespace Ev
open PySem PySem.Spec PyProof.Rows L2
variable [Tabs]

/-! ## readings by functions -/
def XR (K : PySem.W.Frag) (xm : List Addr) (z : Z) (H : Hp) (c : Nat) (p : Pay) (cls : Value) (dd : Option Addr) : Prop :=
  (∃ C, xm[c]? = some C ∧ cls = .ref C) ∧ match p with
    | none => dd = none
    | some (f, d) => ∃ a v, dd = some a ∧ H a = some (.xd [(f, v)]) ∧ Rep K z H v d
section
variable (K : PySem.W.Frag) (xm : List Addr)
def okD (z : Z) (H : Hp) (Q : VK) : D → Sto → Prop := fun d st' => ∀ v z' H', Ext z H z' H' → RelH K z' H' st' → Rep K z' H' v d → Q v H'
def okB (z : Z) (H : Hp) (Q : Bool → Hp → Prop) : Bool → Sto → Prop := fun b st' => ∀ z' H', Ext z H z' H' → RelH K z' H' st' → Q b H'
def okL (z : Z) (H : Hp) (Q : List V → Hp → Prop) : List D → Sto → Prop := fun ds st' => ∀ vs z' H', Ext z H z' H' → RelH K z' H' st' → Reps K z' H' vs ds → Q vs H'
def exW (z : Z) (H : Hp) (W : WX) (σ : L2.St) : Nat → Pay → Sto → Prop := fun c p st' => ∀ cls dd z' H', Ext z H z' H' → RelH K z' H' st' → XR K xm z' H' c p cls dd → W cls dd σ H'
def TEf (W : WX) (f : EF) : TE := fun σ H Q => ∃ z en st, RelH K z H st ∧ RelE K z H σ en ∧ (f en st).wp (okD K z H Q) (exW K xm z H W σ)
def TTf (W : WX) (f : TF) : TT := fun σ H Q => ∃ z en st, RelH K z H st ∧ RelE K z H σ en ∧ (f en st).wp (okB K z H Q) (exW K xm z H W σ)
def TAf (W : WX) (f : AF) : TA := fun σ H Q => ∃ z en st, RelH K z H st ∧ RelE K z H σ en ∧ (f en st).wp (okL K z H Q) (exW K xm z H W σ)
/-- an operation on two values -/
abbrev O2 := D → D → Sto → Option (D × Sto)
abbrev O1 := D → Sto → Option (D × Sto)
abbrev OL := List D → Sto → Option (D × Sto)
def R2f (op : O2) : R2 := fun x y H Q => ∃ z st da db d st', RelH K z H st ∧ Rep K z H x da ∧ Rep K z H y db ∧ op da db st = some (d, st') ∧ okD K z H Q d st'
def R1f (op : O1) : V → Hp → VK → Prop := fun x H Q => ∃ z st da d st', RelH K z H st ∧ Rep K z H x da ∧ op da st = some (d, st') ∧ okD K z H Q d st'
def RLf (op : OL) : List V → Hp → VK → Prop := fun xs H Q => ∃ z st ds d st', RelH K z H st ∧ Reps K z H xs ds ∧ op ds st = some (d, st') ∧ okD K z H Q d st'
end
/-- what a body's context has -/
structure GX (X : Cx) (xm : List Addr) (W : WX) (k : Nat) : Prop where
  tk : Takes X W
  po : PassesOwn (model X.prog X.w) X.A X.env X.xe
  rm : Room k X.A
  gd : X.A.guards = some []
  nd : X.N.Nodup
  cm : X.calm = true
  wd : Tabs.wd = some X.w
theorem GX.mono {X : Cx} {xm : List Addr} {W : WX} {j k : Nat} (G : GX X xm W k) (h : j ≤ k) : GX X xm W j := ⟨G.tk, G.po, G.rm.mono h, G.gd, G.nd, G.cm, G.wd⟩
theorem _root_.L2.PE.imp {X : Cx} {e : Expr} {t t' : TE} (h : PE X e t) (w : ∀ σ H Q, t' σ H Q → t σ H Q) : PE X e t' := ⟨fun pins s σ H Q I q => h.run pins s σ H Q I (w σ H Q q)⟩
theorem _root_.L2.PT.imp {X : Cx} {e : Expr} {t t' : TT} (h : PT X e t) (w : ∀ σ H Q, t' σ H Q → t σ H Q) : PT X e t' := ⟨fun pins s σ H Q I q => h.run pins s σ H Q I (w σ H Q q)⟩
theorem _root_.L2.PW.imp {X : Cx} {e : Expr} {t t' : TT} (h : PW X e t) (w : ∀ σ H Q, t' σ H Q → t σ H Q) : PW X e t' := ⟨fun wh pins s σ H Q I q => h.run wh pins s σ H Q I (w σ H Q q)⟩
theorem _root_.L2.PA.imp {X : Cx} {e : List Expr} {t t' : TA} (h : PA X e t) (w : ∀ σ H Q, t' σ H Q → t σ H Q) : PA X e t' := ⟨fun pos pins s σ H Q I q => h.run pos pins s σ H Q I (w σ H Q q)⟩
section
variable {K : PySem.W.Frag} {xm : List Addr} {W : WX} {σ : L2.St} {z z1 : Z} {H H1 : Hp} {st : Sto}
theorem exW.ext (e : Ext z H z1 H1) {c : Nat} {p : Pay} {st' : Sto} (h : exW K xm z H W σ c p st') : exW K xm z1 H1 W σ c p st' := fun cls dd z' H' e' r x => h cls dd z' H' (e.trans e') r x
theorem okD.ext {Q : VK} (e : Ext z H z1 H1) {d : D} {st' : Sto} (h : okD K z H Q d st') : okD K z1 H1 Q d st' := fun v z' H' e' r x => h v z' H' (e.trans e') r x
theorem okB.ext {Q : Bool → Hp → Prop} (e : Ext z H z1 H1) {d : Bool} {st' : Sto} (h : okB K z H Q d st') : okB K z1 H1 Q d st' := fun z' H' e' r => h z' H' (e.trans e') r
theorem okL.ext {Q : List V → Hp → Prop} (e : Ext z H z1 H1) {d : List D} {st' : Sto} (h : okL K z H Q d st') : okL K z1 H1 Q d st' := fun v z' H' e' r x => h v z' H' (e.trans e') r x
theorem okD.here {Q : VK} {v : V} {d : D} (h : okD K z H Q d st) (r : RelH K z H st) (p : Rep K z H v d) : Q v H := h v z H .refl r p
/-- a new tuple, a new frozen list, a new cell -/
theorem okD.newT {Q : VK} {ds : List D} {xs : List V} {p : Addr} (h : okD K z H Q (.tup ds) st) (r : RelH K z H st) (rs : Reps K z H xs ds) (n : H p = none) : Q (.ref p) (upd H p (.tup xs)) :=
  h _ (z.add p) _ (ext_add r n) (r.add n) (.tup (.inl ⟨.inr rfl, .inl upd_same⟩) (rs.ext (ext_add r n)))
theorem okD.newF {Q : VK} {ds : List D} {xs : List V} {p : Addr} (h : okD K z H Q (.lst ds) st) (r : RelH K z H st) (rs : Reps K z H xs ds) (n : H p = none) : Q (.ref p) (upd H p (.lst xs)) :=
  h _ (z.add p) _ (ext_add r n) (r.add n) (.lst (.inr rfl) upd_same (rs.ext (ext_add r n)))
theorem okD.newC {Q : VK} {ds : List D} {xs : List V} {p : Addr} (h : okD K z H Q (.ref st.length) (st ++ [.lst ds])) (r : RelH K z H st) (rs : Reps K z H xs ds) (n : H p = none) : Q (.ref p) (upd H p (.lst xs)) :=
  h _ (z.push p) _ (ext_push r n) (r.push n rs) (.ref (by
    show (z.mu ++ [p])[st.length]? = some p
    rw [← r.len, List.getElem?_append_right (Nat.le_refl _), Nat.sub_self]
    rfl) (if_pos r.len.symm))
theorem okD.write {Q : VK} {d : D} {ds : List D} {xs : List V} {i : Nat} {p : Addr} {v : V} (h : okD K z H Q d (st.set i (.lst ds))) (r : RelH K z H st) (hi : z.mu[i]? = some p) (hk : z.kd i = false) (rs : Reps K z H xs ds) (rv : Rep K z H v d) : Q v (upd H p (.lst xs)) :=
  h v z _ (ext_write r hi) (r.write hi hk rs) (rv.ext (ext_write r hi))
end

/-! ## names, constants, operations -/
def varF (i : Nat) : EF := fun en st => match en[i]? with
  | some (some d) => .ok d st
  | _ => .bad
def litF (d : D) : EF := fun _ st => .ok d st
def op2F (op : O2) (f g : EF) : EF := fun en st => (f en st).bind fun a st1 => (g en st1).bind fun b st2 => R.ofO (op a b st2)
def op1F (op : O1) (f : EF) : EF := fun en st => (f en st).bind fun a st1 => R.ofO (op a st1)
def nilA : AF := fun _ st => .ok [] st
def consA (f : EF) (g : AF) : AF := fun en st => (f en st).bind fun a st1 => (g en st1).bind fun b st2 => .ok (a :: b) st2
def opLF (op : OL) (f : AF) : EF := fun en st => (f en st).bind fun a st1 => R.ofO (op a st1)
def isT : O1 := fun d st => match d with
  | .bl b => some (.bl b, st)
  | _ => none
/-- an expression whose value is a bool, as a test -/
def boolF (f : EF) : TF := fun en st => (f en st).bind fun a st1 => match a with
  | .bl b => .ok b st1
  | _ => .bad
def notT (f : TF) : TF := fun en st => (f en st).bind fun a st1 => .ok (!a) st1
def andT (f g : TF) : TF := fun en st => (f en st).bind fun a st1 => if a = true then g en st1 else .ok false st1
def orT (f g : TF) : TF := fun en st => (f en st).bind fun a st1 => if a = true then .ok true st1 else g en st1
def ifeF (c : TF) (f g : EF) : EF := fun en st => (c en st).bind fun a st1 => if a = true then f en st1 else g en st1
def asV (f : TF) : EF := fun en st => (f en st).bind fun a st1 => .ok (.bl a) st1
/-- truth -/
def truD : D → Sto → Option Bool
  | .non, _ => some false
  | .bl b, _ => some b
  | .int i, _ => some (i != 0)
  | .str y, _ => if y.length ≤ sizeLine then some ((y.length : Int) != 0) else none
  | .tup ds, _ => some (!ds.isEmpty)
  | .lst ds, _ => some (!ds.isEmpty)
  | .fro ds, _ => some (!ds.isEmpty)
  | .sref _, _ => none
  | .ref n, st => match st[n]? with
    | some (.lst ds) => some (!ds.isEmpty)
    | _ => none
def truF (f : EF) : TF := fun en st => (f en st).bind fun a st1 => match truD a st1 with
  | some b => .ok b st1
  | none => .bad
section
variable {X : Cx} {xm : List Addr} {W : WX} {k : Nat} {a b c : Expr} {f g : EF} {pos : Pos}
theorem seqE {K : PySem.W.Frag} {σ : L2.St} {z : Z} {H : Hp} {en : En} {st : Sto} {Q : VK} (rh : RelH K z H st) (re : RelE K z H σ en) (h : (f en st).wp (okD K z H Q) (exW K xm z H W σ)) : TEf K xm W f σ H Q := ⟨z, en, st, rh, re, h⟩
theorem seqE' {K : PySem.W.Frag} {σ : L2.St} {z : Z} {H : Hp} {en : En} {st : Sto} {Q : VK} {k : D → Sto → Prop} (rh : RelH K z H st) (re : RelE K z H σ en) (h : (f en st).wp k (exW K xm z H W σ))
    (hk : ∀ d st1 v z1 H1, k d st1 → Ext z H z1 H1 → RelH K z1 H1 st1 → RelE K z1 H1 σ en → Rep K z1 H1 v d → Q v H1) : TEf K xm W f σ H Q :=
  ⟨z, en, st, rh, re, wp_mono h (fun d st1 q v z1 H1 e r p => hk d st1 v z1 H1 q e r (re.ext e) p) fun _ _ _ q => q⟩
theorem seqT' {f : TF} {K : PySem.W.Frag} {σ : L2.St} {z : Z} {H : Hp} {en : En} {st : Sto} {Q : Bool → Hp → Prop} {k : Bool → Sto → Prop} (rh : RelH K z H st) (re : RelE K z H σ en) (h : (f en st).wp k (exW K xm z H W σ))
    (hk : ∀ d st1 z1 H1, k d st1 → Ext z H z1 H1 → RelH K z1 H1 st1 → RelE K z1 H1 σ en → Q d H1) : TTf K xm W f σ H Q :=
  ⟨z, en, st, rh, re, wp_mono h (fun d st1 q z1 H1 e r => hk d st1 z1 H1 q e r (re.ext e)) fun _ _ _ q => q⟩
theorem seqA' {f : AF} {K : PySem.W.Frag} {σ : L2.St} {z : Z} {H : Hp} {en : En} {st : Sto} {Q : List V → Hp → Prop} {k : List D → Sto → Prop} (rh : RelH K z H st) (re : RelE K z H σ en) (h : (f en st).wp k (exW K xm z H W σ))
    (hk : ∀ d st1 v z1 H1, k d st1 → Ext z H z1 H1 → RelH K z1 H1 st1 → RelE K z1 H1 σ en → Reps K z1 H1 v d → Q v H1) : TAf K xm W f σ H Q :=
  ⟨z, en, st, rh, re, wp_mono h (fun d st1 q v z1 H1 e r p => hk d st1 v z1 H1 q e r (re.ext e) p) fun _ _ _ q => q⟩
/-- carried over an extension -/
theorem wpD_ext {α : Type} {K : PySem.W.Frag} {σ : L2.St} {z z1 : Z} {H H1 : Hp} {r : R α} {Q Q' : α → Sto → Prop} (e : Ext z H z1 H1) (h : r.wp Q (exW K xm z H W σ)) (hq : ∀ a st, Q a st → Q' a st) : r.wp Q' (exW K xm z1 H1 W σ) :=
  wp_mono h hq fun _ _ _ q => q.ext e

theorem sn_var (i : Nat) {x : Str} (hN : X.N[i]? = some x := by rfl) (hv : Vis X.env.scope x := by first | exact Or.inl rfl | exact Or.inr (Or.inl rfl) | exact Or.inr (Or.inr rfl)) (hd : (x == ("__debug__" : Str)) = false := by decide)
    (hcd : (x == ("__classdict__" : Str)) = false := by decide) : PE X (.Name x pos) (TEf X.K xm W (varF i)) :=
  (pe_var hN hv hd hcd).imp fun σ H Q ⟨z, en, st, rh, re, h⟩ => by
    unfold varF at h
    split at h
    · rename_i d hd
      obtain ⟨v, hv, r⟩ := re.2 i d hd
      exact ⟨v, hv, okD.here h rh r⟩
    · exact h.elim
theorem sn_lit {v : V} {d : D} (hp : PE X a (tC v)) (r : ∀ z H, Rep X.K z H v d) : PE X a (TEf X.K xm W (litF d)) := hp.imp fun σ H Q ⟨z, en, st, rh, re, h⟩ => okD.here h rh (r z H)
theorem sn_int {i : Int} {j : Nat} : PE X (.Constant (.int i) j pos) (TEf X.K xm W (litF (.int i))) := sn_lit pe_int fun _ _ => .int i
theorem sn_bl {b : Bool} {j : Nat} : PE X (.Constant (.bool b) j pos) (TEf X.K xm W (litF (.bl b))) := sn_lit pe_bl fun _ _ => .bl b
theorem sn_non {j : Nat} : PE X (.Constant .none j pos) (TEf X.K xm W (litF .non)) := sn_lit pe_non fun _ _ => .non
theorem sn_str {x : Str} {j : Nat} : PE X (.Constant (.str x) j pos) (TEf X.K xm W (litF (.str x))) := sn_lit pe_str fun _ _ => .str x

theorem op2_read {op : O2} {K : PySem.W.Frag} (σ : L2.St) (H : Hp) (Q : VK) (q : TEf K xm W (op2F op f g) σ H Q) : tOp (R2f K op) (TEf K xm W f) (TEf K xm W g) σ H Q := by
  obtain ⟨z, en, st, rh, re, h⟩ := q
  have h1 := wp_bind.mp h
  refine seqE' rh re h1 fun d1 st1 v1 z1 H1 q1 e1 r1 re1 p1 => ?_
  have h2 := wp_bind.mp q1
  refine seqE' r1 re1 (wpD_ext e1 h2 fun _ _ q => q) fun d2 st2 v2 z2 H2 q2 e2 r2 re2 p2 => ?_
  obtain ⟨d, st3, e3, q3⟩ := wp_ofO q2
  exact ⟨z2, st2, d1, d2, d, st3, r2, p1.ext e2, p2, e3, q3.ext (e1.trans e2)⟩
theorem sn_op2 {op : O2} {o : Operator} (ho : OpR X (binaryOp o) (R2f X.K op)) (ha : PE X a (TEf X.K xm W f)) (hb : PE X b (TEf X.K xm W g)) : PE X (.BinOp a o b pos) (TEf X.K xm W (op2F op f g)) :=
  (pe_op ho ha hb).imp op2_read
theorem sn_cmp {op : O2} {o : CmpOp} (ho : OpR X (compareOp o) (R2f X.K op)) (ha : PE X a (TEf X.K xm W f)) (hb : PE X b (TEf X.K xm W g)) (hm : behindInMarks o b = false := by first | exact nomark _ | rfl) : PE X (.Compare a [o] [b] pos) (TEf X.K xm W (op2F op f g)) :=
  (pe_cmpR ho ha hb hm).imp op2_read
theorem sn_op1 {op : O1} {o : UnaryOp} (ho : UnR X (unaryOp o) (R1f X.K op)) (ha : PE X a (TEf X.K xm W f)) : PE X (.UnaryOp o a pos) (TEf X.K xm W (op1F op f)) :=
  (pe_un ho ha).imp fun σ H Q ⟨z, en, st, rh, re, h⟩ => by
    refine seqE' rh re (wp_bind.mp h) fun d1 st1 v1 z1 H1 q1 e1 r1 re1 p1 => ?_
    obtain ⟨d, st3, e3, q3⟩ := wp_ofO q1
    exact ⟨z1, st1, d1, d, st3, r1, p1, e3, q3.ext e1⟩
/-! tests -/
theorem tt_of {K : PySem.W.Frag} (σ : L2.St) (H : Hp) (Q : Bool → Hp → Prop) (q : TTf K xm W (boolF f) σ H Q) : TEf K xm W f σ H fun x H' => ∃ k, x = .bl k ∧ Q k H' := by
  obtain ⟨z, en, st, rh, re, h⟩ := q
  refine seqE' rh re (wp_bind.mp h) fun d1 st1 v1 z1 H1 q1 e1 r1 re1 p1 => ?_
  cases d1 with
  | bl b =>
    cases p1
    exact ⟨b, rfl, q1 z1 H1 e1 r1⟩
  | _ => exact False.elim q1
theorem st_cmp {op : O2} {o : CmpOp} (ho : OpR X (compareOp o) (R2f X.K op)) (ha : PE X a (TEf X.K xm W f)) (hb : PE X b (TEf X.K xm W g)) (hm : behindInMarks o b = false := by first | exact nomark _ | rfl) : PT X (.Compare a [o] [b] pos) (TTf X.K xm W (boolF (op2F op f g))) :=
  (pt_cmpR ho ha hb hm).imp fun σ H Q q => by
    have w := tt_of σ H Q q
    exact op2_read σ H _ w
theorem st_tru {K : PySem.W.Frag} {xm : List Addr} {W : WX} {z : Z} {H : Hp} {st : Sto} {v : V} {d : D} {b : Bool} (r : RelH K z H st) (p : Rep K z H v d) (h : truD d st = some b) : TruV K v H b := by
  cases p with
  | non => exact (Option.some.inj h).symm
  | bl b => exact (Option.some.inj h).symm
  | int i => exact (Option.some.inj h).symm
  | str x =>
    have h : (if x.length ≤ sizeLine then some ((x.length : Int) != 0) else none) = some b := h
    by_cases q : x.length ≤ sizeLine
    · rw [if_pos q] at h
      exact ⟨q, (Option.some.inj h).symm⟩
    · rw [if_neg q] at h
      cases h
  | @tup a xs ds t rs =>
    refine .inr (.inl ⟨xs, t.seq, ?_⟩)
    rw [← Option.some.inj h]
    cases rs <;> rfl
  | @lst a xs ds t e rs =>
    refine .inl ⟨xs, SqL.of e, ?_⟩
    rw [← Option.some.inj h]
    cases rs <;> rfl
  | @fro a xs ds t rs =>
    refine .inl ⟨xs, t.seq, ?_⟩
    rw [← Option.some.inj h]
    cases rs <;> rfl
  | @ref a n hn =>
    cases hc : st[n]? with
    | none =>
      have h : (match st[n]? with | some (.lst ds) => some (!ds.isEmpty) | _ => none) = some b := h
      rw [hc] at h
      cases h
    | some c =>
      have h : (match st[n]? with | some (.lst ds) => some (!ds.isEmpty) | _ => none) = some b := h
      rw [hc] at h
      cases c with
      | lst ds =>
        obtain ⟨xs, e, rs⟩ := r.cell hn hc
        refine .inl ⟨xs, SqL.of e, ?_⟩
        rw [← Option.some.inj h]
        cases rs <;> rfl
      | set S => cases h
  | sref _ _ => cases h
theorem st_truth (ha : PE X a (TEf X.K xm W f)) (he : ∀ whole, isTrue a X.env whole = (do let v ← whole; standAt a.pos; holding [v] (truthy v)) := by intro _; rfl) : PT X a (TTf X.K xm W (truF f)) :=
  (pt_truth ha he).imp fun σ H Q ⟨z, en, st, rh, re, h⟩ => by
    refine seqE' rh re (wp_bind.mp h) fun d1 st1 v1 z1 H1 q1 e1 r1 re1 p1 => ?_
    cases ht : truD d1 st1 with
    | none =>
      rw [ht] at q1
      exact False.elim q1
    | some b =>
      rw [ht] at q1
      exact ⟨b, st_tru (xm := xm) (W := W) r1 p1 ht, q1 z1 H1 e1 r1⟩
variable {fa fb : TF} {rest : List Expr}
theorem st_not (ha : PT X a (TTf X.K xm W fa)) : PT X (.UnaryOp .Not a pos) (TTf X.K xm W (notT fa)) :=
  (pt_not ha).imp fun σ H Q ⟨z, en, st, rh, re, h⟩ => seqT' rh re (wp_bind.mp h) fun b st1 z1 H1 q1 e1 r1 re1 => q1 z1 H1 e1 r1
theorem sw_and1 (ha : PT X a (TTf X.K xm W fa)) : PW X (.BoolOp .And [a] pos) (TTf X.K xm W fa) := pw_and1 ha
theorem sw_or1 (ha : PT X a (TTf X.K xm W fa)) : PW X (.BoolOp .Or [a] pos) (TTf X.K xm W fa) := pw_or1 ha
theorem sw_and (ha : PT X a (TTf X.K xm W fa)) (hb : PW X (.BoolOp .And (b :: rest) pos) (TTf X.K xm W fb)) : PW X (.BoolOp .And (a :: b :: rest) pos) (TTf X.K xm W (andT fa fb)) :=
  (pw_and ha hb).imp fun σ H Q ⟨z, en, st, rh, re, h⟩ => seqT' rh re (wp_bind.mp h) fun b st1 z1 H1 q1 e1 r1 re1 => by
    cases b with
    | true => exact ⟨z1, en, st1, r1, re1, wpD_ext e1 q1 fun _ _ q => q.ext e1⟩
    | false => exact q1 z1 H1 e1 r1
theorem sw_or (ha : PT X a (TTf X.K xm W fa)) (hb : PW X (.BoolOp .Or (b :: rest) pos) (TTf X.K xm W fb)) : PW X (.BoolOp .Or (a :: b :: rest) pos) (TTf X.K xm W (orT fa fb)) :=
  (pw_or ha hb).imp fun σ H Q ⟨z, en, st, rh, re, h⟩ => seqT' rh re (wp_bind.mp h) fun b st1 z1 H1 q1 e1 r1 re1 => by
    cases b with
    | false => exact ⟨z1, en, st1, r1, re1, wpD_ext e1 q1 fun _ _ q => q.ext e1⟩
    | true => exact q1 z1 H1 e1 r1
/-- and, or, not as values: all but the last are bools -/
def andV (f g : EF) : EF := fun en st => (boolF f en st).bind fun a st1 => if a = true then g en st1 else .ok (.bl false) st1
def orV (f g : EF) : EF := fun en st => (boolF f en st).bind fun a st1 => if a = true then .ok (.bl true) st1 else g en st1
def notV (f : EF) : EF := fun en st => (boolF f en st).bind fun a st1 => .ok (.bl (!a)) st1
theorem bool_read {K : PySem.W.Frag} {σ : L2.St} {z : Z} {H : Hp} {en : En} {st : Sto} {Q : VK} {k : Bool → Sto → Prop} (rh : RelH K z H st) (re : RelE K z H σ en) (h : (boolF f en st).wp k (exW K xm z H W σ))
    (hk : ∀ b st1 z1 H1, k b st1 → Ext z H z1 H1 → RelH K z1 H1 st1 → RelE K z1 H1 σ en → Q (.bl b) H1) : TEf K xm W f σ H Q := by
  refine seqE' rh re (wp_bind.mp h) fun d1 st1 v1 z1 H1 q1 e1 r1 re1 p1 => ?_
  cases d1 with
  | bl b =>
    cases p1
    exact hk b st1 z1 H1 q1 e1 r1 re1
  | _ => exact False.elim q1
theorem sn_and (ha : PE X a (TEf X.K xm W f)) (hb : PE X (.BoolOp .And (b :: rest) pos) (TEf X.K xm W g)) : PE X (.BoolOp .And (a :: b :: rest) pos) (TEf X.K xm W (andV f g)) :=
  (pe_and ha hb).imp fun σ H Q ⟨z, en, st, rh, re, h⟩ => bool_read rh re (wp_bind.mp h) fun b st1 z1 H1 q1 e1 r1 re1 => ⟨b, rfl, by
    cases b with
    | true => exact seqE r1 re1 (wpD_ext e1 q1 fun _ _ q => q.ext e1)
    | false => exact q1 _ z1 H1 e1 r1 (.bl false)⟩
theorem sn_or (ha : PE X a (TEf X.K xm W f)) (hb : PE X (.BoolOp .Or (b :: rest) pos) (TEf X.K xm W g)) : PE X (.BoolOp .Or (a :: b :: rest) pos) (TEf X.K xm W (orV f g)) :=
  (pe_or ha hb).imp fun σ H Q ⟨z, en, st, rh, re, h⟩ => bool_read rh re (wp_bind.mp h) fun b st1 z1 H1 q1 e1 r1 re1 => ⟨b, rfl, by
    cases b with
    | false => exact seqE r1 re1 (wpD_ext e1 q1 fun _ _ q => q.ext e1)
    | true => exact q1 _ z1 H1 e1 r1 (.bl true)⟩
theorem sn_not (ha : PE X a (TEf X.K xm W f)) : PE X (.UnaryOp .Not a pos) (TEf X.K xm W (notV f)) :=
  (pe_not ha).imp fun σ H Q ⟨z, en, st, rh, re, h⟩ => bool_read rh re (wp_bind.mp h) fun b st1 z1 H1 q1 e1 r1 re1 => ⟨b, rfl, q1 _ z1 H1 e1 r1 (.bl _)⟩
theorem sn_one {o : BoolOp} (ha : PE X a (TEf X.K xm W f)) : PE X (.BoolOp o [a] pos) (TEf X.K xm W f) := pe_one ha
theorem sn_ife (hc : PT X c (TTf X.K xm W fa)) (ha : PE X a (TEf X.K xm W f)) (hb : PE X b (TEf X.K xm W g)) : PE X (.IfExp c a b pos) (TEf X.K xm W (ifeF fa f g)) :=
  (pe_ifExp hc ha hb).imp fun σ H Q ⟨z, en, st, rh, re, h⟩ => seqT' rh re (wp_bind.mp h) fun b st1 z1 H1 q1 e1 r1 re1 => by
    cases b with
    | true => exact seqE r1 re1 (wpD_ext e1 q1 fun _ _ q => q.ext e1)
    | false => exact seqE r1 re1 (wpD_ext e1 q1 fun _ _ q => q.ext e1)
/-! a < b < c -/
def chainF (op op' : O2) (f g h : EF) : EF := fun en st => (f en st).bind fun a st1 => (g en st1).bind fun b st2 => (R.ofO (op a b st2)).bind fun r st3 => match r with
  | .bl true => (h en st3).bind fun c st4 => R.ofO (op' b c st4)
  | .bl false => .ok (.bl false) st3
  | _ => .bad
theorem chain_read {op op' : O2} {h : EF} {K : PySem.W.Frag} (σ : L2.St) (H : Hp) (Q : VK) (q : TEf K xm W (chainF op op' f g h) σ H Q) : tChain (R2f K op) (R2f K op') (TEf K xm W f) (TEf K xm W g) (TEf K xm W h) σ H Q := by
  obtain ⟨z, en, st, rh, re, w⟩ := q
  refine seqE' rh re (wp_bind.mp w) fun d1 st1 v1 z1 H1 q1 e1 r1 re1 p1 => ?_
  refine seqE' r1 re1 (wpD_ext e1 (wp_bind.mp q1) fun _ _ q => q) fun d2 st2 v2 z2 H2 q2 e2 r2 re2 p2 => ?_
  obtain ⟨d, st3, e3, q3⟩ := wp_ofO (wp_bind.mp q2)
  refine ⟨z2, st2, d1, d2, d, st3, r2, p1.ext e2, p2, e3, fun v z' H' e' r' p' => ?_⟩
  have e12 := (e1.trans e2).trans e'
  cases d with
  | bl b =>
    cases p'
    refine ⟨b, rfl, ?_⟩
    cases b with
    | false => exact q3 _ z' H' e12 r' (.bl false)
    | true =>
      refine seqE' r' (re2.ext e') (wpD_ext e12 (wp_bind.mp q3) fun _ _ q => q) fun d4 st4 v4 z4 H4 q4 e4 r4 re4 p4 => ?_
      obtain ⟨d5, st5, e5, q5⟩ := wp_ofO q4
      exact ⟨z4, st4, d2, d4, d5, st5, r4, p2.ext (e'.trans e4), p4, e5, q5.ext (e12.trans e4)⟩
  | _ => exact False.elim q3
theorem sn_chain {op op' : O2} {o o' : CmpOp} {h : EF} (ho : OpR X (compareOp o) (R2f X.K op)) (ho' : OpR X (compareOp o') (R2f X.K op')) (ha : PE X a (TEf X.K xm W f)) (hb : PE X b (TEf X.K xm W g)) (hc : PE X c (TEf X.K xm W h)) (hm : lastMarks [o, o'] [b, c] = false := by rfl) :
    PE X (.Compare a [o, o'] [b, c] pos) (TEf X.K xm W (chainF op op' f g h)) := (pe_chain ho ho' ha hb hc hm).imp chain_read
theorem st_chain {op op' : O2} {o o' : CmpOp} {h : EF} (ho : OpR X (compareOp o) (R2f X.K op)) (ho' : OpR X (compareOp o') (R2f X.K op')) (ha : PE X a (TEf X.K xm W f)) (hb : PE X b (TEf X.K xm W g)) (hc : PE X c (TEf X.K xm W h)) (hm : lastMarks [o, o'] [b, c] = false := by rfl) :
    PT X (.Compare a [o, o'] [b, c] pos) (TTf X.K xm W (boolF (chainF op op' f g h))) := (pt_chain ho ho' ha hb hc hm).imp fun σ H Q q => chain_read σ H _ (tt_of σ H Q q)
/-! arguments, displays, calls -/
variable {e : Expr} {es : List Expr} {fs : AF}
theorem sa_nil : PA X [] (TAf X.K xm W nilA) := pa_nil.imp fun σ H Q ⟨z, en, st, rh, re, h⟩ => h _ z H .refl rh .nil
theorem sa_cons (ha : PE X e (TEf X.K xm W f)) (hr : PA X es (TAf X.K xm W fs)) (hs : starEach (e :: es) X.env = (false, eval e X.env) :: starEach es X.env := by rfl) : PA X (e :: es) (TAf X.K xm W (consA f fs)) :=
  (pa_cons ha hr hs).imp fun σ H Q ⟨z, en, st, rh, re, h⟩ => by
    refine seqE' rh re (wp_bind.mp h) fun d1 st1 v1 z1 H1 q1 e1 r1 re1 p1 => ?_
    refine seqA' r1 re1 (wpD_ext e1 (wp_bind.mp q1) fun _ _ q => q) fun d2 st2 v2 z2 H2 q2 e2 r2 re2 p2 => ?_
    exact q2 _ z2 H2 (e1.trans e2) r2 (.cons (p1.ext e2) p2)
def tupL : OL := fun ds st => if ds.length ≤ sizeLine then some (.tup ds, st) else none
def lstL : OL := fun ds st => if ds.length ≤ sizeLine then some (.lst ds, st) else none
def celL : OL := fun ds st => if ds.length ≤ sizeLine then some (.ref st.length, st ++ [.lst ds]) else none
theorem sn_tup {x1} (h : PA X es (TAf X.K xm W fs)) : PE X (.Tuple es x1 pos) (TEf X.K xm W (opLF tupL fs)) :=
  (pe_tup h).imp fun σ H Q ⟨z, en, st, rh, re, h⟩ => by
    refine seqA' rh re (wp_bind.mp h) fun d1 st1 v1 z1 H1 q1 e1 r1 re1 p1 => ?_
    obtain ⟨d, st3, e3, q3⟩ := wp_ofO q1
    unfold tupL at e3
    split at e3
    · rename_i hl
      cases e3
      exact ⟨by rw [p1.length]; exact hl, fun p n => okD.newT (q3.ext e1) r1 p1 n⟩
    · cases e3
theorem sn_lst (h : PA X es (TAf X.K xm W fs)) : PE X (.List es pos) (TEf X.K xm W (opLF lstL fs)) :=
  (pe_lst h).imp fun σ H Q ⟨z, en, st, rh, re, h⟩ => by
    refine seqA' rh re (wp_bind.mp h) fun d1 st1 v1 z1 H1 q1 e1 r1 re1 p1 => ?_
    obtain ⟨d, st3, e3, q3⟩ := wp_ofO q1
    unfold lstL at e3
    split at e3
    · rename_i hl
      cases e3
      exact ⟨by rw [p1.length]; exact hl, fun p n => okD.newF (q3.ext e1) r1 p1 n⟩
    · cases e3
theorem sn_cel (h : PA X es (TAf X.K xm W fs)) : PE X (.List es pos) (TEf X.K xm W (opLF celL fs)) :=
  (pe_lst h).imp fun σ H Q ⟨z, en, st, rh, re, h⟩ => by
    refine seqA' rh re (wp_bind.mp h) fun d1 st1 v1 z1 H1 q1 e1 r1 re1 p1 => ?_
    obtain ⟨d, st3, e3, q3⟩ := wp_ofO q1
    unfold celL at e3
    split at e3
    · rename_i hl
      cases e3
      exact ⟨by rw [p1.length]; exact hl, fun p n => okD.newC (q3.ext e1) r1 p1 n⟩
    · cases e3
theorem opL_read {op : OL} {K : PySem.W.Frag} (σ : L2.St) (H : Hp) (Q : VK) (q : TEf K xm W (opLF op fs) σ H Q) : TAf K xm W fs σ H fun vs H1 => RLf K op vs H1 Q := by
  obtain ⟨z, en, st, rh, re, h⟩ := q
  refine seqA' rh re (wp_bind.mp h) fun d1 st1 v1 z1 H1 q1 e1 r1 re1 p1 => ?_
  obtain ⟨d, st3, e3, q3⟩ := wp_ofO q1
  exact ⟨z1, st1, d1, d, st3, r1, p1, e3, q3.ext e1⟩
variable {id T : String} {x : Str} {p : Pos}
/-- a built-in function, a built-in type -/
theorem sn_bi {op : OL} (hc : CallR X (.builtin id) (RLf X.K op)) (hg : Gl X x) (hm : X.mg x = none) (hv : bootBuiltins x = some (.builtin id)) (ha : PA X (e :: es) (TAf X.K xm W fs)) (hn : x ≠ "__name__" := by decide) (hdb : (x == ("__debug__" : Str)) = false := by decide)
    (he : starEach (e :: es) X.env = (false, eval e X.env) :: starEach es X.env := by rfl) (hpl : (backTo pos (starEach es X.env)).any (·.1) = false := by rfl) : PE X (.Call (.Name x p) (e :: es) [] pos) (TEf X.K xm W (opLF op fs)) :=
  (pe_callB hc hg hm hv ha hn hdb he hpl).imp opL_read
theorem sn_ty {op : OL} (hc : CallR X (.type T) (RLf X.K op)) (hg : Gl X x) (hm : X.mg x = none) (hv : bootBuiltins x = some (.type T)) (ha : PA X (e :: es) (TAf X.K xm W fs)) (hn : x ≠ "__name__" := by decide) (hdb : (x == ("__debug__" : Str)) = false := by decide)
    (he : starEach (e :: es) X.env = (false, eval e X.env) :: starEach es X.env := by rfl) (hpl : (backTo pos (starEach es X.env)).any (·.1) = false := by rfl) : PE X (.Call (.Name x p) (e :: es) [] pos) (TEf X.K xm W (opLF op fs)) :=
  (pe_callTy hc hg hm hv ha hn hdb he hpl).imp opL_read
/-- a module's name for a built-in function -/
theorem sn_bf {op : OL} (hc : CallR X (.builtin id) (RLf X.K op)) (hg : Gl X x) (hm : X.mg x = some (.builtin id)) (ha : PA X (e :: es) (TAf X.K xm W fs)) (hdb : (x == ("__debug__" : Str)) = false := by decide)
    (he : starEach (e :: es) X.env = (false, eval e X.env) :: starEach es X.env := by rfl) (hpl : (backTo pos (starEach es X.env)).any (·.1) = false := by rfl) : PE X (.Call (.Name x p) (e :: es) [] pos) (TEf X.K xm W (opLF op fs)) :=
  (pe_callBfun hc hg hm ha hdb he hpl).imp opL_read
end
end Ev

namespace Ev
open PySem PySem.Spec PyProof.Rows L2
variable [Tabs]

/-! ## statements -/
section
variable (K : PySem.W.Frag) (xm : List Addr)
def nxK (z : Z) (H : Hp) (Q : L2.St → Hp → Prop) (en : En) (st : Sto) : Prop := ∀ σ' z' H', Ext z H z' H' → RelH K z' H' st → RelE K z' H' σ' en → Q σ' H'
def exS (z : Z) (H : Hp) (W : WX) (c : Nat) (p : Pay) (en : En) (st : Sto) : Prop := ∀ cls dd σ' z' H', Ext z H z' H' → RelH K z' H' st → RelE K z' H' σ' en → XR K xm z' H' c p cls dd → W cls dd σ' H'
def SatS (W : WX) (z : Z) (H : Hp) (E : Ends) : SR → Prop
  | .nx en st => nxK K z H E.nx en st
  | .bk en st => nxK K z H E.bk en st
  | .ct en st => nxK K z H E.ct en st
  | .rt d st => okD K z H E.rt d st
  | .ex c p en st => exS K xm z H W c p en st
  | .bad => False
def TSf (W : WX) (f : SF) : TS := fun E σ H => ∃ z en st, RelH K z H st ∧ RelE K z H σ en ∧ SatS K xm W z H E (f en st)
end
theorem _root_.L2.PS.imp {X : Cx} {e : Stmt} {t t' : TS} (h : PS X e t) (w : ∀ D σ H, t' D σ H → t D σ H) : PS X e t' := ⟨fun pins s σ H D I q => h.run pins s σ H D I (w D σ H q)⟩
theorem _root_.L2.PSs.imp {X : Cx} {e : List Stmt} {t t' : TS} (h : PSs X e t) (w : ∀ D σ H, t' D σ H → t D σ H) : PSs X e t' := ⟨fun pins s σ H D I q => h.run pins s σ H D I (w D σ H q)⟩
section
variable {K : PySem.W.Frag} {xm : List Addr} {W : WX} {z z1 : Z} {H H1 : Hp}
theorem nxK.ext {Q : L2.St → Hp → Prop} {en : En} {st : Sto} (e : Ext z H z1 H1) (h : nxK K z H Q en st) : nxK K z1 H1 Q en st := fun σ' z' H' e' r q => h σ' z' H' (e.trans e') r q
theorem SatS.ext {E : Ends} {r : SR} (e : Ext z H z1 H1) (h : SatS K xm W z H E r) : SatS K xm W z1 H1 E r := by
  cases r with
  | nx en st => exact nxK.ext (Q := E.nx) e h
  | bk en st => exact nxK.ext (Q := E.bk) e h
  | ct en st => exact nxK.ext (Q := E.ct) e h
  | rt d st => exact okD.ext (Q := E.rt) e h
  | ex c p en st =>
    have h : exS K xm z H W c p en st := h
    exact fun cls dd σ' z' H' e' r q x => h cls dd σ' z' H' (e.trans e') r q x
  | bad => exact h
/-- behind an expression's exception -/
theorem exS.of {en : En} {st : Sto} {c : Nat} {p : Pay} {σ : L2.St} (h : exS K xm z H W c p en st) (re : RelE K z H σ en) : exW K xm z H W σ c p st := fun cls dd z' H' e r x => h cls dd σ z' H' e r (re.ext e) x
end
def bindS {α : Type} (r : R α) (en : En) (k : α → Sto → SR) : SR := match r with
  | .ok a st => k a st
  | .ex c p st => .ex c p en st
  | .bad => .bad
@[simp] theorem bindS_ok {α : Type} (a : α) (st : Sto) (en : En) (k : α → Sto → SR) : bindS (.ok a st) en k = k a st := rfl
@[simp] theorem bindS_ex {α : Type} (c : Nat) (p : Pay) (st : Sto) (en : En) (k : α → Sto → SR) : bindS (.ex c p st : R α) en k = .ex c p en st := rfl
@[simp] theorem bindS_bad {α : Type} (en : En) (k : α → Sto → SR) : bindS (.bad : R α) en k = .bad := rfl
theorem sat_bind {α : Type} {K : PySem.W.Frag} {xm : List Addr} {W : WX} {z : Z} {H : Hp} {E : Ends} {r : R α} {en : En} {k : α → Sto → SR} {σ : L2.St} (re : RelE K z H σ en) (h : SatS K xm W z H E (bindS r en k)) :
    r.wp (fun a st => SatS K xm W z H E (k a st)) (exW K xm z H W σ) := by
  cases r with
  | ok a st => exact h
  | ex c p st => exact exS.of h re
  | bad => exact h
def passS : SF := fun en st => .nx en st
def brkS : SF := fun en st => .bk en st
def cntS : SF := fun en st => .ct en st
def seqS (f g : SF) : SF := fun en st => match f en st with
  | .nx en' st' => g en' st'
  | r => r
def exprS (f : EF) : SF := fun en st => bindS (f en st) en fun _ st' => .nx en st'
def retS (f : EF) : SF := fun en st => bindS (f en st) en fun d st' => .rt d st'
def retN : SF := fun _ st => .rt .non st
def ifS (c : TF) (f g : SF) : SF := fun en st => bindS (c en st) en fun b st' => if b = true then f en st' else g en st'
/-- a target -/
abbrev GF := D → Sto → En → Option En
abbrev GFs := List D → Sto → En → Option En
def TGf (K : PySem.W.Frag) (S : List Nat) (g : GF) : TG := fun v σ H Q => ∃ z en st d en', RelH K z H st ∧ RelE K z H σ en ∧ Rep K z H v d ∧ g d st en = some en' ∧ ∀ σ', RelE K z H σ' en' → wipe σ' S = wipe σ S → Q σ' H
def TGsf (K : PySem.W.Frag) (S : List Nat) (g : GFs) : TGs := fun vs σ H Q => ∃ z en st ds en', RelH K z H st ∧ RelE K z H σ en ∧ Reps K z H vs ds ∧ g ds st en = some en' ∧ ∀ σ', RelE K z H σ' en' → wipe σ' S = wipe σ S → Q σ' H
theorem wipe_set {σ : L2.St} {i : Nat} {x : Option V} : ∀ {S : List Nat}, i ∈ S → wipe (σ.set i x) S = wipe σ S
  | v :: vs, h => by
    show (wipe (σ.set i x) vs).set v none = (wipe σ vs).set v none
    by_cases q : i ∈ vs
    · rw [wipe_set q]
    · have e : i = v := (List.mem_cons.mp h).resolve_right q
      subst e
      have w : ∀ {S : List Nat}, (wipe (σ.set i x) S).set i none = (wipe σ S).set i none := fun {S} => by
        induction S with
        | nil =>
          show (σ.set i x).set i none = σ.set i none
          rw [List.set_set]
        | cons u us ih =>
          show ((wipe (σ.set i x) us).set u none).set i none = ((wipe σ us).set u none).set i none
          by_cases e : u = i
          · subst e
            rw [List.set_set, List.set_set]
            exact ih
          · rw [List.set_comm _ _ e, List.set_comm _ _ e, ih]
      exact w
def nameG (i : Nat) : GF := fun d _ en => if i < en.length then some (en.set i (some d)) else none
def nilG : GFs := fun ds _ en => match ds with
  | [] => some en
  | _ => none
def consG (g : GF) (h : GFs) : GFs := fun ds st en => match ds with
  | d :: r => (g d st en).bind fun en' => h r st en'
  | [] => none
def tupG (n : Nat) (g : GFs) : GF := fun d st en => match d with
  | .tup ds => if ds.length = n then g ds st en else none
  | _ => none
def asgS (f : EF) (g : GF) : SF := fun en st => bindS (f en st) en fun d st' => match g d st' en with
  | some en' => .nx en' st'
  | none => .bad
def setS (i : Nat) (f : EF) : SF := asgS f (nameG i)
def augS (i : Nat) (op : O2) (f : EF) : SF := fun en st => match en[i]? with
  | some (some x) => bindS (f en st) en fun y st' => bindS (R.ofO (op x y st')) en fun d st2 => .nx (en.set i (some d)) st2
  | _ => .bad
theorem RelE.set {K : PySem.W.Frag} {z : Z} {H : Hp} {σ : L2.St} {en : En} {i : Nat} {v : V} {d : D} (h : RelE K z H σ en) (r : Rep K z H v d) (hi : i < en.length) : RelE K z H (σ.set i (some v)) (en.set i (some d)) := by
  refine ⟨by rw [List.length_set, List.length_set, h.1], fun j e q => ?_⟩
  by_cases l : i = j
  · subst l
    rw [List.getElem?_set_self hi] at q
    have e1 := Option.some.inj (Option.some.inj q)
    subst e1
    exact ⟨v, List.getElem?_set_self (by rw [h.1]; exact hi), r⟩
  · rw [List.getElem?_set_ne l] at q
    obtain ⟨w, a, b⟩ := h.2 j e q
    exact ⟨w, by rw [List.getElem?_set_ne l]; exact a, b⟩
section
variable {X : Cx} {xm : List Addr} {W : WX} {k : Nat} {a b c e : Expr} {f g : EF} {pos : Pos} {st : Stmt} {rest body orl : List Stmt} {u v : SF} {fa : TF}
theorem ss_pass : PS X (.Pass pos) (TSf X.K xm W passS) := ps_pass.imp fun E σ H ⟨z, en, st, rh, re, h⟩ => h σ z H .refl rh re
theorem ss_break : PS X (.Break pos) (TSf X.K xm W brkS) := ps_break.imp fun E σ H ⟨z, en, st, rh, re, h⟩ => h σ z H .refl rh re
theorem ss_cont : PS X (.Continue pos) (TSf X.K xm W cntS) := ps_continue.imp fun E σ H ⟨z, en, st, rh, re, h⟩ => h σ z H .refl rh re
theorem ss_doc {x : Str} {j : Nat} {p q : Pos} : PS X (.Expr (.Constant (.str x) j p) q) (TSf X.K xm W passS) := ps_doc.imp fun E σ H ⟨z, en, st, rh, re, h⟩ => h σ z H .refl rh re
theorem sl_nil : PSs X [] (TSf X.K xm W passS) := pss_nil.imp fun E σ H ⟨z, en, st, rh, re, h⟩ => h σ z H .refl rh re
theorem sl_cons (h1 : PS X st (TSf X.K xm W u)) (h2 : PSs X rest (TSf X.K xm W v)) : PSs X (st :: rest) (TSf X.K xm W (seqS u v)) :=
  (pss_cons h1 h2).imp fun E σ H ⟨z, en, st, rh, re, h⟩ => ⟨z, en, st, rh, re, by
    unfold seqS at h
    cases q : u en st with
    | nx en' st' =>
      rw [q] at h
      exact fun σ' z' H' e r p => ⟨z', en', st', r, p, SatS.ext e h⟩
    | bk en' st' =>
      rw [q] at h
      exact h
    | ct en' st' =>
      rw [q] at h
      exact h
    | rt d st' =>
      rw [q] at h
      exact h
    | ex c p en' st' =>
      rw [q] at h
      exact h
    | bad =>
      rw [q] at h
      exact h⟩
theorem sl_one (h1 : PS X st (TSf X.K xm W u)) : PSs X [st] (TSf X.K xm W u) := pss_one h1
theorem ss_expr (he : PE X e (TEf X.K xm W f)) (hs : swapsWith e none pos.line X.env = pure false := by rfl) : PS X (.Expr e pos) (TSf X.K xm W (exprS f)) :=
  (ps_expr he hs).imp fun E σ H ⟨z, en, st, rh, re, h⟩ => seqE' rh re (sat_bind re h) fun d1 st1 v1 z1 H1 q1 e1 r1 re1 p1 => q1 σ z1 H1 e1 r1 re1
theorem ss_ret (he : PE X e (TEf X.K xm W f)) : PS X (.Return (some e) pos) (TSf X.K xm W (retS f)) :=
  (ps_ret he).imp fun E σ H ⟨z, en, st, rh, re, h⟩ => seqE rh re (wp_mono (sat_bind re h) (fun _ _ q => q) fun _ _ _ q => q)
theorem ss_retN : PS X (.Return none pos) (TSf X.K xm W retN) := ps_retN.imp fun E σ H ⟨z, en, st, rh, re, h⟩ => okD.here h rh .non
theorem ss_if (hc : PT X c (TTf X.K xm W fa)) (ha : PSs X body (TSf X.K xm W u)) (hb : PSs X orl (TSf X.K xm W v)) : PS X (.If c body orl pos) (TSf X.K xm W (ifS fa u v)) :=
  (ps_if hc ha hb).imp fun E σ H ⟨z, en, st, rh, re, h⟩ => seqT' rh re (sat_bind re h) fun b st1 z1 H1 q1 e1 r1 re1 => by
    cases b with
    | true => exact ⟨z1, en, st1, r1, re1, SatS.ext e1 q1⟩
    | false => exact ⟨z1, en, st1, r1, re1, SatS.ext e1 q1⟩
/-! targets -/
variable {i : Nat} {x : Str} {es : List Expr} {gf : GF} {gs : GFs} {S : List Nat}
theorem sg_name (nd : X.N.Nodup) (i : Nat) (hi : X.N[i]? = some x := by rfl) (hx : Loc X.env.scope x := by first | exact .inl rfl | exact .inr rfl) (hf : X.fn x = true ∨ X.env.scope.names.lookup x = some .local := by first | exact .inl rfl | exact .inr rfl) (hS : i ∈ S := by decide) : PG X (.Name x pos) (TGf X.K S (nameG i)) :=
  ⟨fun pins s σ H v u Q I r ⟨z, en, st, d, en', rh, re, rv, h, q⟩ => by
    unfold nameG at h
    split at h
    · rename_i hl
      cases h
      exact (pg_name nd hi hx hf).run pins s σ H v u Q I r (q _ (re.set rv hl) (wipe_set hS))
    · cases h⟩
theorem sg_nil : PGs X [] (TGsf X.K S nilG) :=
  ⟨fun pins s σ H v u Q I r ⟨z, en, st, d, en', rh, re, rv, h, q⟩ => by
    cases rv with
    | nil =>
      have h : some en = some en' := h
      cases h
      exact pgs_nil.run pins s σ H [] u Q I r ⟨rfl, q _ re rfl⟩
    | cons _ _ => cases h⟩
theorem sg_cons (h1 : PG X e (TGf X.K S gf)) (h2 : PGs X es (TGsf X.K S gs)) (hs : (assignEach (e :: es) X.env).map (·.2) = assign e X.env :: (assignEach es X.env).map (·.2) := by rfl) : PGs X (e :: es) (TGsf X.K S (consG gf gs)) :=
  ⟨fun pins s σ H v u Q I r ⟨z, en, st, d, en', rh, re, rv, h, q⟩ => by
    cases rv with
    | nil => cases h
    | @cons v1 vr d1 dr p1 pr =>
      have h : (gf d1 st en).bind (fun en' => gs dr st en') = some en' := h
      cases w : gf d1 st en with
      | none =>
        rw [w] at h
        cases h
      | some en1 =>
        rw [w] at h
        exact (pgs_cons h1 h2 hs).run pins s σ H _ u Q I r ⟨v1, vr, rfl, z, en, st, d1, en1, rh, re, p1, w, fun σ' re' wp => ⟨z, en1, st, dr, en', rh, re', pr, h, fun σ2 re2 wp2 => q σ2 re2 (wp2.trans wp)⟩⟩⟩
theorem sg_tup {k2 n : Nat} (G : GX X xm W k) (h : PGs X es (TGsf X.K S gs)) (hn : (assignEach es X.env).length = n := by rfl) (hst : (assignEach es X.env).findIdx? (·.1) = none := by rfl) : PG X (.Tuple es k2 pos) (TGf X.K S (tupG n gs)) :=
  ⟨fun pins s σ H v u Q I r ⟨z, en, st, d, en', rh, re, rv, h', q⟩ => by
    cases rv with
    | @tup a xs ds t rs =>
      have h' : (if ds.length = n then gs ds st en else none) = some en' := h'
      by_cases l : ds.length = n
      · rw [if_pos l] at h'
        exact (pg_tup G.cm h hn hst).run pins s σ H _ u Q I r ⟨a, xs, rfl, t.seq, rs.length.trans l, z, en, st, ds, en', rh, re, rs, h', q⟩
      · rw [if_neg l] at h'
        cases h'
    | _ => cases h'⟩
theorem ss_asg {tg : Expr} (he : PE X e (TEf X.K xm W f)) (hg : PG X tg (TGf X.K S gf)) (hs : swapsWithSole [tg] e pos.line X.env = pure false := by rfl) (hw : swappedStores [tg] e X.env = pure none := by rfl) (h1 : (assignEach [tg] X.env).map (·.2) = [assign tg X.env] := by rfl) :
    PS X (.Assign [tg] e pos) (TSf X.K xm W (asgS f gf)) :=
  (ps_asg he hg hs hw h1).imp fun E σ H ⟨z, en, st, rh, re, h⟩ => seqE' rh re (sat_bind re h) fun d1 st1 v1 z1 H1 q1 e1 r1 re1 p1 => by
    cases w : gf d1 st1 en with
    | none =>
      rw [w] at q1
      exact False.elim q1
    | some en' =>
      rw [w] at q1
      exact ⟨z1, en, st1, d1, en', r1, re1, p1, w, fun σ' re' _ => q1 σ' z1 H1 e1 r1 re'⟩
theorem ss_set (nd : X.N.Nodup) (i : Nat) {pos' : Pos} (he : PE X e (TEf X.K xm W f)) (hi : X.N[i]? = some x := by rfl) (hx : Loc X.env.scope x := by first | exact .inl rfl | exact .inr rfl) (hs : swapsWith e (some (.Name x pos')) pos.line X.env = pure false := by rfl) (hf : X.fn x = true ∨ X.env.scope.names.lookup x = some .local := by first | exact .inl rfl | exact .inr rfl) :
    PS X (.Assign [.Name x pos'] e pos) (TSf X.K xm W (setS i f)) :=
  (ps_set nd hi hx he hs hf).imp fun E σ H ⟨z, en, st, rh, re, h⟩ => seqE' rh re (sat_bind re h) fun d1 st1 v1 z1 H1 q1 e1 r1 re1 p1 => by
    unfold nameG at q1
    by_cases l : i < en.length
    · rw [if_pos l] at q1
      exact q1 _ z1 H1 e1 r1 (re1.set p1 l)
    · rw [if_neg l] at q1
      exact False.elim q1
theorem ss_aug {o : Operator} {op : O2} (nd : X.N.Nodup) (i : Nat) {pos' : Pos} (he : PE X e (TEf X.K xm W f)) (ho : OpR X (inplaceOp o) (R2f X.K op)) (hi : X.N[i]? = some x := by rfl) (hx : Loc X.env.scope x := by first | exact .inl rfl | exact .inr rfl) (hf : X.fn x = true ∨ X.env.scope.names.lookup x = some .local := by first | exact .inl rfl | exact .inr rfl) :
    PS X (.AugAssign (.Name x pos') o e pos) (TSf X.K xm W (augS i op f)) :=
  (ps_aug nd hi hx he (ti := R2f X.K op) ho hf).imp fun E σ H ⟨z, en, st, rh, re, h⟩ => by
    unfold augS at h
    split at h
    · rename_i d hd
      obtain ⟨v, hv, rv⟩ := re.2 i d hd
      refine ⟨v, hv, seqE' rh re (sat_bind re h) fun d1 st1 v1 z1 H1 q1 e1 r1 re1 p1 => ?_⟩
      cases w : op d d1 st1 with
      | none =>
        rw [w] at q1
        exact False.elim q1
      | some y =>
        rw [w] at q1
        refine ⟨z1, st1, d, d1, y.1, y.2, r1, rv.ext e1, p1, by rw [w], fun v2 z2 H2 e2 r2 p2 => ?_⟩
        exact q1 _ z2 H2 (e1.trans e2) r2 ((re1.ext e2).set p2 (List.getElem?_eq_some_iff.mp hd).1)
    · exact False.elim h
end
/-! ## loops -/
inductive ItD where
  | items (ds : List D) | cell (n : Nat)
  /-- what is walked while it may change: what stands at a turn, or that it is at its end -/
  | dyn (fuel : Nat) (nx : Nat → Sto → Option (Option D))
abbrev IF := En → Sto → R ItD
def ItI (K : PySem.W.Frag) (z : Z) (H : Hp) (ds : List D) (J : It) : Prop := ∀ z1 H1 st, Ex0 z H z1 H1 → RelH K z1 H1 st → (∀ i, ds.length ≤ i → J.stop i H1) ∧
  ∀ (i : Nat) d, ds[i]? = some d → J.go i H1 ∧ ∀ x H2, J.yld i H1 x H2 → ∃ z2, Ext z1 H1 z2 H2 ∧ RelH K z2 H2 st ∧ Rep K z2 H2 x d
def ItC (K : PySem.W.Frag) (z : Z) (H : Hp) (n : Nat) (J : It) : Prop := ∀ z1 H1 st ds, Ex0 z H z1 H1 → RelH K z1 H1 st → st[n]? = some (.lst ds) → (∀ i, ds.length ≤ i → J.stop i H1) ∧
  ∀ (i : Nat) d, ds[i]? = some d → J.go i H1 ∧ ∀ x H2, J.yld i H1 x H2 → H2 = H1 ∧ Rep K z1 H1 x d
def ItY (K : PySem.W.Frag) (z : Z) (H : Hp) (nx : Nat → Sto → Option (Option D)) (J : It) : Prop := ∀ z1 H1 st (i : Nat), Ex0 z H z1 H1 → RelH K z1 H1 st → match nx i st with
  | none => True
  | some none => J.stop i H1
  | some (some d) => J.go i H1 ∧ ∀ x H2, J.yld i H1 x H2 → ∃ z2, Ext z1 H1 z2 H2 ∧ RelH K z2 H2 st ∧ Rep K z2 H2 x d
def ItR (K : PySem.W.Frag) (z : Z) (H : Hp) (J : It) : ItD → Prop
  | .items ds => ItI K z H ds J
  | .cell n => ItC K z H n J
  | .dyn _ nx => ItY K z H nx J
def TIf (K : PySem.W.Frag) (xm : List Addr) (W : WX) (f : IF) : TI := fun σ H Rq => ∃ z en st, RelH K z H st ∧ RelE K z H σ en ∧ (f en st).wp (fun it st' => ∀ J z' H', Ext z H z' H' → RelH K z' H' st' → ItR K z' H' J it → Rq J H') (exW K xm z H W σ)
def loopI (g : GF) (body : SF) : List D → SF
  | [] => fun en st => .nx en st
  | d :: r => fun en st => match g d st en with
    | none => .bad
    | some en1 => match body en1 st with
      | .nx en2 st2 => loopI g body r en2 st2
      | .ct en2 st2 => loopI g body r en2 st2
      | .bk en2 st2 => .nx en2 st2
      | q => q
def loopC (g : GF) (body : SF) (n : Nat) : Nat → Nat → SF
  | 0, _ => fun _ _ => .bad
  | m + 1, i => fun en st => match st[n]? with
    | some (.lst ds) => match ds[i]? with
      | none => .nx en st
      | some d => match g d st en with
        | none => .bad
        | some en1 => match body en1 st with
          | .nx en2 st2 => loopC g body n m (i + 1) en2 st2
          | .ct en2 st2 => loopC g body n m (i + 1) en2 st2
          | .bk en2 st2 => .nx en2 st2
          | q => q
    | _ => .bad
def loopY (g : GF) (body : SF) (nx : Nat → Sto → Option (Option D)) : Nat → Nat → SF
  | 0, _ => fun _ _ => .bad
  | m + 1, i => fun en st => match nx i st with
    | none => .bad
    | some none => .nx en st
    | some (some d) => match g d st en with
      | none => .bad
      | some en1 => match body en1 st with
        | .nx en2 st2 => loopY g body nx m (i + 1) en2 st2
        | .ct en2 st2 => loopY g body nx m (i + 1) en2 st2
        | .bk en2 st2 => .nx en2 st2
        | q => q
def cellLen (n : Nat) (st : Sto) : Nat := match st[n]? with
  | some (.lst ds) => ds.length
  | _ => 0
def forS (f : IF) (g : GF) (body : SF) : SF := fun en st => bindS (f en st) en fun it st1 => match it with
  | .items ds => loopI g body ds en st1
  | .cell n => loopC g body n (cellLen n st1 + 1) 0 en st1
  | .dyn fuel nx => loopY g body nx fuel 0 en st1
def loopW (c : TF) (body : SF) : Nat → SF
  | 0 => fun _ _ => .bad
  | m + 1 => fun en st => bindS (c en st) en fun b st1 => if b = true then (match body en st1 with
      | .nx en2 st2 => loopW c body m en2 st2
      | .ct en2 st2 => loopW c body m en2 st2
      | .bk en2 st2 => .nx en2 st2
      | q => q) else .nx en st1
def whileS (fuel : Nat) (c : TF) (body : SF) : SF := loopW c body fuel
section
variable {X : Cx} {xm : List Addr} {W : WX} {k : Nat} {c iter tg : Expr} {pos : Pos} {body : List Stmt} {u : SF} {fa : TF} {itf : IF} {gf : GF} {S : List Nat}
/-- a body's end within a loop -/
theorem sat_turn {K : PySem.W.Frag} {z : Z} {H : Hp} {E : Ends} {r : SR} {next : En → Sto → SR} {Nx : L2.St → Hp → Prop}
    (h : SatS K xm W z H E (match r with
      | .nx en2 st2 => next en2 st2
      | .ct en2 st2 => next en2 st2
      | .bk en2 st2 => .nx en2 st2
      | q => q)) (hN : ∀ σ' z' H' en2 st2, Ext z H z' H' → RelH K z' H' st2 → RelE K z' H' σ' en2 → SatS K xm W z' H' E (next en2 st2) → Nx σ' H') :
    SatS K xm W z H { E with nx := Nx, ct := Nx, bk := E.nx } r := by
  cases r with
  | nx en2 st2 => exact fun σ' z' H' e r p => hN σ' z' H' en2 st2 e r p (SatS.ext e h)
  | ct en2 st2 => exact fun σ' z' H' e r p => hN σ' z' H' en2 st2 e r p (SatS.ext e h)
  | bk en2 st2 => exact h
  | rt d st2 => exact h
  | ex c p en2 st2 => exact h
  | bad => exact h
theorem ss_while (G : GX X xm W k) (fuel : Nat) (hc : PT X c (TTf X.K xm W fa)) (hb : PSs X body (TSf X.K xm W u)) : PS X (.While c body [] pos) (TSf X.K xm W (whileS fuel fa u)) :=
  (ps_while G.po hc hb).imp fun E σ H ⟨z, en, st, rh, re, h⟩ => by
    refine ⟨fun m σ H => ∃ z en st, RelH X.K z H st ∧ RelE X.K z H σ en ∧ SatS X.K xm W z H E (loopW fa u m en st), ⟨fuel, z, en, st, rh, re, h⟩, ?_⟩
    rintro m σ H ⟨z, en, st, rh, re, h⟩
    cases m with
    | zero => exact False.elim h
    | succ m =>
      refine seqT' rh re (sat_bind re h) fun b st1 z1 H1 q1 e1 r1 re1 => ?_
      cases b with
      | false => exact q1 σ z1 H1 e1 r1 re1
      | true =>
        refine ⟨fun σ' H' => ∃ z en st, RelH X.K z H' st ∧ RelE X.K z H' σ' en ∧ SatS X.K xm W z H' E (loopW fa u m en st), fun σ' H' q => ⟨m, Nat.lt_succ_self m, q⟩, z1, en, st1, r1, re1, ?_⟩
        exact sat_turn (SatS.ext e1 q1) fun σ' z' H' en2 st2 e r p s => ⟨z', en2, st2, r, p, s⟩
theorem ss_for (G : GX X xm W k) (hi : PI X tg iter (TIf X.K xm W itf)) (hg : PG X tg (TGf X.K S gf)) (hb : PSs X body (TSf X.K xm W u)) (hs : ∀ x, foldedSetIterable iter X.env x = pure x := by intro _; rfl) :
    PS X (.For tg iter body [] pos) (TSf X.K xm W (forS itf gf u)) :=
  (ps_for G.po G.cm hi hg hb hs).imp fun E σ H ⟨z, en, st, rh, re, h⟩ => by
    refine ⟨z, en, st, rh, re, wp_mono (sat_bind re h) (fun it st1 q J z1 H1 e1 r1 hJ => ?_) fun _ _ _ q => q⟩
    have re1 := re.ext e1
    cases it with
    | items ds =>
      have hJ : ItI X.K z1 H1 ds J := hJ
      refine ⟨fun i m σ H => m = ds.length - i ∧ i ≤ ds.length ∧ ∃ z en st, Ext z1 H1 z H ∧ RelH X.K z H st ∧ RelE X.K z H σ en ∧ SatS X.K xm W z H E (loopI gf u (ds.drop i) en st), ⟨ds.length, rfl, Nat.zero_le _, z1, en, st1, .refl, r1, re1, SatS.ext e1 q⟩, ?_⟩
      rintro i m σ H ⟨rfl, hi, z2, en2, st2, e2, r2, re2, h2⟩
      obtain ⟨js, jg⟩ := hJ z2 H st2 e2.toEx0 r2
      by_cases hl : i < ds.length
      · have hd : ds[i]? = some ds[i] := List.getElem?_eq_getElem hl
        obtain ⟨go, yl⟩ := jg i _ hd
        refine .inr ⟨go, fun σ' H' => ∃ z en st, Ext z1 H1 z H' ∧ RelH X.K z H' st ∧ RelE X.K z H' σ' en ∧ SatS X.K xm W z H' E (loopI gf u (ds.drop (i + 1)) en st), fun σ' H' q => ⟨ds.length - (i + 1), by omega, rfl, hl, q⟩, fun x H3 y => ?_⟩
        obtain ⟨z3, e3, r3, p3⟩ := yl x H3 y
        rw [List.drop_eq_getElem_cons hl] at h2
        unfold loopI at h2
        cases w : gf ds[i] st2 en2 with
        | none =>
          rw [w] at h2
          exact False.elim h2
        | some en3 =>
          rw [w] at h2
          refine ⟨z3, en2, st2, ds[i], en3, r3, re2.ext e3, p3, w, fun σ' re' _ => ⟨z3, en3, st2, r3, re', ?_⟩⟩
          exact sat_turn (SatS.ext e3 h2) fun σ' z' H' en4 st4 e r p s => ⟨z', en4, st4, (e2.trans e3).trans e, r, p, s⟩
      · have e : i = ds.length := by omega
        subst e
        rw [List.drop_length] at h2
        exact .inl ⟨js _ (Nat.le_refl _), h2 σ z2 H .refl r2 re2⟩
    | cell n =>
      have hJ : ItC X.K z1 H1 n J := hJ
      refine ⟨fun i m σ H => ∃ z en st, Ext z1 H1 z H ∧ RelH X.K z H st ∧ RelE X.K z H σ en ∧ SatS X.K xm W z H E (loopC gf u n m i en st), ⟨cellLen n st1 + 1, z1, en, st1, .refl, r1, re1, SatS.ext e1 q⟩, ?_⟩
      rintro i m σ H ⟨z2, en2, st2, e2, r2, re2, h2⟩
      cases m with
      | zero => exact False.elim h2
      | succ m =>
        unfold loopC at h2
        cases hc : st2[n]? with
        | none =>
          rw [hc] at h2
          exact False.elim h2
        | some cl =>
          cases cl with
          | set S =>
            rw [hc] at h2
            exact False.elim h2
          | lst ds =>
            rw [hc] at h2
            obtain ⟨js, jg⟩ := hJ z2 H st2 ds e2.toEx0 r2 hc
            cases hd : ds[i]? with
            | none =>
              simp only [hd] at h2
              exact .inl ⟨js _ (List.getElem?_eq_none_iff.mp hd), h2 σ z2 H .refl r2 re2⟩
            | some d =>
              simp only [hd] at h2
              obtain ⟨go, yl⟩ := jg i d hd
              refine .inr ⟨go, fun σ' H' => ∃ z en st, Ext z1 H1 z H' ∧ RelH X.K z H' st ∧ RelE X.K z H' σ' en ∧ SatS X.K xm W z H' E (loopC gf u n m (i + 1) en st), fun σ' H' q => ⟨m, Nat.lt_succ_self m, q⟩, fun x H3 y => ?_⟩
              obtain ⟨rfl, p3⟩ := yl x H3 y
              cases w : gf d st2 en2 with
              | none =>
                simp only [w] at h2
                exact False.elim h2
              | some en3 =>
                simp only [w] at h2
                refine ⟨z2, en2, st2, d, en3, r2, re2, p3, w, fun σ' re' _ => ⟨z2, en3, st2, r2, re', ?_⟩⟩
                exact sat_turn h2 fun σ' z' H' en4 st4 e r p s => ⟨z', en4, st4, e2.trans e, r, p, s⟩
    | dyn fuel nx =>
      have hJ : ItY X.K z1 H1 nx J := hJ
      refine ⟨fun i m σ H => ∃ z en st, Ext z1 H1 z H ∧ RelH X.K z H st ∧ RelE X.K z H σ en ∧ SatS X.K xm W z H E (loopY gf u nx m i en st), ⟨fuel, z1, en, st1, .refl, r1, re1, SatS.ext e1 q⟩, ?_⟩
      rintro i m σ H ⟨z2, en2, st2, e2, r2, re2, h2⟩
      cases m with
      | zero => exact False.elim h2
      | succ m =>
        unfold loopY at h2
        have hn := hJ z2 H st2 i e2.toEx0 r2
        cases hx : nx i st2 with
        | none =>
          rw [hx] at h2
          exact False.elim h2
        | some o =>
          cases o with
          | none =>
            simp only [hx] at h2 hn
            exact .inl ⟨hn, h2 σ z2 H .refl r2 re2⟩
          | some d =>
            simp only [hx] at h2 hn
            obtain ⟨go, yl⟩ := hn
            refine .inr ⟨go, fun σ' H' => ∃ z en st, Ext z1 H1 z H' ∧ RelH X.K z H' st ∧ RelE X.K z H' σ' en ∧ SatS X.K xm W z H' E (loopY gf u nx m (i + 1) en st), fun σ' H' q => ⟨m, Nat.lt_succ_self m, q⟩, fun x H3 y => ?_⟩
            obtain ⟨z3, e3, r3, p3⟩ := yl x H3 y
            cases w : gf d st2 en2 with
            | none =>
              simp only [w] at h2
              exact False.elim h2
            | some en3 =>
              simp only [w] at h2
              refine ⟨z3, en2, st2, d, en3, r3, re2.ext e3, p3, w, fun σ' re' _ => ⟨z3, en3, st2, r3, re', ?_⟩⟩
              exact sat_turn (SatS.ext e3 h2) fun σ' z' H' en4 st4 e r p s => ⟨z', en4, st4, (e2.trans e3).trans e, r, p, s⟩
end
end Ev

namespace Ev
open PySem PySem.Spec PyProof.Rows L2
variable [Tabs]

/-! ## defs: as the layer's FnOk, where no guard of repr stands around -/
structure FnG (P : Program) (w : World) (K : PySem.W.Frag) (mg : Str → Option Value) (base : Heap) (k : Nat) (f : Addr) (fd : FuncData) (ps : List Str) (sp : Sp) : Prop where
  len : ∀ vs H Q E, sp vs H Q E → vs.length = ps.length
  run : ∀ (A : Around) (outer : List Env) (s : Shared) (H : Hp) (args : Args) (us : List Value) (vs : List V) (Q : VK) (E : XK), Room k A → A.guards = some [] → Env0 P w K mg base A outer s H →
    BindsTo s fd args (ps.zip us) → Vals vs us → sp vs H Q E → codeAny (model P w) A (.call (.ref f) args) (CR (L2.CX P w) outer P w H s Q E) s
/-- a promise by a function on data -/
def spF (K : PySem.W.Frag) (xm : List Addr) (F : List D → Sto → R D) (n : Nat) : Sp := fun vs H Q E => ∃ z ds st, RelH K z H st ∧ Reps K z H vs ds ∧ ds.length = n ∧
  (F ds st).wp (okD K z H Q) fun c p st' => ∀ cls dd z' H', Ext z H z' H' → RelH K z' H' st' → XR K xm z' H' c p cls dd → E cls dd H'
/-- a body as a function -/
def fnF (n : Nat) (g : SF) : List D → Sto → R D := fun ds st => match g (ds.map some ++ List.replicate (n - ds.length) none) st with
  | .nx _ st' => .ok .non st'
  | .rt d st' => .ok d st'
  | .ex c p _ st' => .ex c p st'
  | _ => .bad
section
variable {P : Program} {w : World} {K : PySem.W.Frag} {mg : Str → Option Value} {base : Heap} {xm : List Addr}
theorem relE_start {z : Z} {H : Hp} {vs : List V} {ds : List D} {n : Nat} (N : List Str) (hn : N.length = n) (h : Reps K z H vs ds) : RelE K z H (L2.start N vs) (ds.map some ++ List.replicate (n - ds.length) none) := by
  have hl := h.length
  unfold L2.start
  refine ⟨by rw [List.length_append, List.length_append, List.length_map, List.length_map, List.length_replicate, List.length_replicate, hl, hn], fun i d q => ?_⟩
  by_cases l : i < ds.length
  · rw [List.getElem?_append_left (by rw [List.length_map]; exact l), List.getElem?_map] at q
    cases e : ds[i]? with
    | none =>
      rw [e] at q
      cases q
    | some d' =>
      rw [e] at q
      have e' := Option.some.inj (Option.some.inj q)
      subst e'
      obtain ⟨v, hv, r⟩ := h.getD e
      exact ⟨v, by rw [List.getElem?_append_left (by rw [List.length_map, hl]; exact l), List.getElem?_map, hv]; rfl, r⟩
  · rw [List.getElem?_append_right (by rw [List.length_map]; omega), List.getElem?_replicate] at q
    split at q <;> cases q
/-- the body runs -/
theorem FnG.bodyC {x qual : Str} {st : Stmt} {f : Addr} {fd : FuncData} {N ps : List Str} {k : Nat} {sp : Sp} {oc : Value} {od : Option Addr} {kV doc pm : Value} {an : Option Addr} {cdv ct : Value} {osl : Array (Option Value)}
    (efd : fd = PySem.W.fnOf x qual (defArgs st) (defBody st) (defScope st) .none kV doc pm an cdv ct) (lk : K.lookup f = some ⟨oc, od, .func fd, osl⟩) (hcd : PySem.W.codeIn K cdv qual = true)
    (S : FnScope N ps (defScope st)) (len : ∀ vs H Q E, sp vs H Q E → vs.length = ps.length)
    (hb : ∀ (A : Around) (outer : List Env) (s : Shared) (H : Hp) (vs : List V) (Q : VK) (E : XK), Room k (A.deeper (envOfC qual (defScope st) s.heap.objs.size f cdv)) → A.guards = some [] → sp vs H Q E →
      ∃ t, PSs (cxOf (L2.CX P w) P w K mg base N qual (defScope st) f cdv A outer s H E) (defBody st) t ∧ t { nx := fun _ H' => Q .non H', rt := Q } (L2.start N vs) H) : FnG P w K mg base (k + 1) f fd ps sp := by
  subst efd
  refine ⟨len, fun A outer s H args us vs Q E room gd e0 bt rv prom => ?_⟩
  have keepB : ∀ b o, base.get? b = some o → s.heap.get? b = some o := fun b o e => (e0.bs b o e).1
  have KX : K.In s.heap := e0.mod.kin.keeps keepB
  have kinds : ∀ y ∈ ps.zip us, (defScope st).names.lookup y.1 = some .local ∨ ((defScope st).names.lookup y.1 = some .cell ∧ ((cellsFrom (s.heap.objs.size + 1) (defScope st).names []).lookup y.1).isSome = true) := by
    rintro ⟨n, v⟩ hy
    exact (S.par n (List.of_mem_zip hy).1).elim .inl fun q => .inr ⟨q, PySem.W.cellsFrom_some _ _ _ (.inl q)⟩
  refine codeAny_call_function room.depth (KX _ _ lk) rfl S.co S.gen rfl (PySem.W.codeRec_of KX hcd) (bt _ _ _ _ (wpAny_newFunctionEnv_cells S.kind kinds fun env he s1 x => ?_))
  subst he
  refine ⟨(e0.mod.nolimit.keeps keepB).keeps x.toInCall.keep, codeAny_func ?_⟩
  obtain ⟨t, ht, hq⟩ := hb A outer s H vs Q E (room.deeper _) gd prom
  have J := inv_start (CX := L2.CX P w) (E := E) (mg := mg) S room.hd e0 (len _ _ _ _ prom) rv x
  refine wpAny_mono (ht.run [] s1 (L2.start N vs) H _ J hq) (fun fl s' hs => ?_) fun _ _ hs => hs
  match fl, hs with
  | .ret u, ⟨v, σ', H', I', rr, q⟩ => exact ⟨v, H', I'.os, I'.bare, I'.base, I'.hok, rr, q⟩
  | .next, ⟨σ', H', I', q⟩ => exact ⟨V.non, H', I'.os, I'.bare, I'.base, I'.hok, rfl, q⟩
  | .brk, ⟨_, _, _, q⟩ => exact q.elim
  | .cont, ⟨_, _, _, q⟩ => exact q.elim
theorem FnG.body {x qual : Str} {st : Stmt} {f : Addr} {fd : FuncData} {N ps : List Str} {k : Nat} {sp : Sp} (F : Fun K x qual st f fd) (S : FnScope N ps (defScope st)) (len : ∀ vs H Q E, sp vs H Q E → vs.length = ps.length)
    (hb : ∀ (cdv : Value) (A : Around) (outer : List Env) (s : Shared) (H : Hp) (vs : List V) (Q : VK) (E : XK), Room k (A.deeper (envOfC qual (defScope st) s.heap.objs.size f cdv)) → A.guards = some [] → sp vs H Q E →
      ∃ t, PSs (cxOf (L2.CX P w) P w K mg base N qual (defScope st) f cdv A outer s H E) (defBody st) t ∧ t { nx := fun _ H' => Q .non H', rt := Q } (L2.start N vs) H) : FnG P w K mg base (k + 1) f fd ps sp := by
  obtain ⟨oc, od, kV, doc, pm, an, cdv, ct, osl, efd, lk, hcd⟩ := F.ex
  exact FnG.bodyC efd lk hcd S len (hb cdv)
/-- .. as a function on data -/
theorem FnG.by (hw : Tabs.wd = some w) {x qual : Str} {st : Stmt} {f : Addr} {fd : FuncData} {N ps : List Str} {k n m : Nat} {g : SF} (F : Fun K x qual st f fd) (S : FnScope N ps (defScope st)) (hn : N.length = n) (hm : ps.length = m)
    (hb : ∀ (cdv : Value) (A : Around) (outer : List Env) (s : Shared) (H : Hp) (E : XK), GX (cxOf (L2.CX P w) P w K mg base N qual (defScope st) f cdv A outer s H E) xm (fun cls d _ H => E cls d H) k →
      PSs (cxOf (L2.CX P w) P w K mg base N qual (defScope st) f cdv A outer s H E) (defBody st) (TSf K xm (fun cls d _ H => E cls d H) g)) : FnG P w K mg base (k + 1) f fd ps (spF K xm (fnF n g) m) := by
  subst hn hm
  refine FnG.body F S (fun vs H Q E ⟨z, ds, st, _, rs, hl, _⟩ => rs.length.trans hl) fun cdv A outer s H vs Q E room gd h => ?_
  obtain ⟨z, ds, sto, rh, rs, hl, h⟩ := h
  refine ⟨_, hb cdv A outer s H E ⟨takes_of rfl rfl rfl rfl, passes_of rfl, room, gd, S.nd, rfl, hw⟩, z, _, sto, rh, relE_start N rfl rs, ?_⟩
  unfold fnF at h
  generalize g (ds.map some ++ List.replicate (N.length - ds.length) none) sto = r at h ⊢
  cases r with
  | nx en st' => exact fun σ' z' H' e r' _ => h _ z' H' e r' .non
  | rt d st' => exact h
  | ex c p en st' => exact fun cls dd σ' z' H' e r' _ x => h cls dd z' H' e r' x
  | bk en st' => exact h.elim
  | ct en st' => exact h.elim
  | bad => exact h.elim
theorem FnG.nil {f : Addr} {fd : FuncData} {ps : List Str} {k n : Nat} (hn : ps.length = n) : FnG P w K mg base k f fd ps (spF K xm (fun _ _ => .bad) n) :=
  ⟨fun vs H Q E ⟨z, ds, st, _, rs, hl, _⟩ => rs.length.trans (hl.trans hn.symm), fun A outer s H args us vs Q E _ _ _ _ _ ⟨_, _, _, _, _, _, h⟩ => False.elim h⟩
theorem FnG.mono {j k : Nat} {f : Addr} {fd : FuncData} {ps : List Str} {sp : Sp} (F : FnG P w K mg base j f fd ps sp) (h : j ≤ k) : FnG P w K mg base k f fd ps sp :=
  ⟨F.len, fun A outer s H args us vs Q E hr => F.run A outer s H args us vs Q E (hr.mono h)⟩
/-- another function with the same values -/
theorem FnG.eq {k n : Nat} {f : Addr} {fd : FuncData} {ps : List Str} {F F' : List D → Sto → R D} (h : FnG P w K mg base k f fd ps (spF K xm F n)) (e : ∀ ds st, ds.length = n → F' ds st ≠ .bad → F ds st = F' ds st) : FnG P w K mg base k f fd ps (spF K xm F' n) := by
  have im : ∀ vs H Q E, spF K xm F' n vs H Q E → spF K xm F n vs H Q E := fun vs H Q E ⟨z, ds, st, a, b, c, d⟩ => ⟨z, ds, st, a, b, c, by
    rw [e ds st c fun q => by rw [q] at d; exact d]
    exact d⟩
  exact ⟨fun vs H Q E q => h.len vs H Q E (im _ _ _ _ q), fun A outer s H args us vs Q E a b c d e' q => h.run A outer s H args us vs Q E a b c d e' (im _ _ _ _ q)⟩
end
/-- where a def stands -/
structure DefAt (P : Program) (w : World) (K : PySem.W.Frag) (mg : Str → Option Value) (base : Heap) (xm : List Addr) (k : Nat) (x : Str) (ps : List Str) (F : List D → Sto → R D) : Prop where
  ex : ∃ f fd, FnG P w K mg base k f fd ps (spF K xm F ps.length) ∧ mg x = some (.ref f) ∧ PySem.W.keepIn K (.ref f) = true ∧ Binds K fd ps []
def callF (n : Nat) (F : List D → Sto → R D) (fs : AF) : EF := fun en st => (fs en st).bind fun ds st1 => if ds.length = n then F ds st1 else .bad
section
variable {X : Cx} {xm : List Addr} {W : WX} {k j : Nat} {x : Str} {ps : List Str} {F : List D → Sto → R D} {e : Expr} {es : List Expr} {fs : AF} {p pos : Pos}
theorem sn_call (Da : DefAt X.prog X.w X.K X.mg X.base xm j x ps F) (G : GX X xm W k) (ha : PA X (e :: es) (TAf X.K xm W fs)) (hjk : j ≤ k := by decide) (hg : Gl X x := by rfl)
    (hdb : (x == ("__debug__" : Str)) = false := by decide) (he : starEach (e :: es) X.env = (false, eval e X.env) :: starEach es X.env := by rfl) (hpl : (backTo pos (starEach es X.env)).any (·.1) = false := by rfl) :
    PE X (.Call (.Name x p) (e :: es) [] pos) (TEf X.K xm W (callF ps.length F fs)) := by
  obtain ⟨f, fd, Fo, hm, hk, hb⟩ := Da.ex
  refine ⟨fun pins s σ H Q J ⟨z, en, st, rh, re, h⟩ => wpAny_Call_Name_kw (ld_glob J hg hm ?_ hdb)⟩
  have ta : TAf X.K xm W fs σ H fun vs H1 => spF X.K xm F ps.length vs H1 Q (WE W σ) :=
    seqA' rh re (wp_bind.mp h) fun ds st1 vs z1 H1 q1 e1 r1 re1 p1 => by
      by_cases hl : ds.length = ps.length
      · rw [if_pos hl] at q1
        exact ⟨z1, ds, st1, r1, p1, hl, wp_mono q1 (fun _ _ q => q.ext e1) fun c p' st2 q cls dd z' H' e' r' x' => q cls dd z' H' (e1.trans e') r' x'⟩
      · rw [if_neg hl] at q1
        exact q1.elim
  refine PySem.W.callWith_K (h₀ := X.base) J.ok.mod.kin hk (thn (ha.run pos pins s σ H _ J ta) fun us s1 ⟨vs, H1, J1, rv, pr⟩ => ⟨J1.kIn, ?_⟩) he hpl
  have hl2 : us.length = ps.length := rv.length.symm.trans (Fo.len _ _ _ _ pr)
  have bd := hb s1 us J1.kIn (by rw [List.append_nil]; exact hl2)
  rw [List.append_nil] at bd
  refine wpAny_call (codeAny_mono (Fo.run X.A X.stack s1 H1 ⟨us, []⟩ us vs Q _ (G.rm.mono hjk) G.gd J1.env0 bd rv pr) fun r s' hq => ?_)
  match r, hq with
  | .ok (.ret u), hq => exact J1.after hq
  | .error er, hq => exact passAt G.tk σ pins H1 s1 er s' J1 hq
end
end Ev

namespace Ev
open PySem PySem.Spec PyProof.Rows L2
variable [Tabs]

/-! ## operations -/
/-- what may be read as a list whose address is tracked: its items -/
def asL : D → Sto → Option (List D)
  | .lst ds, _ => some ds
  | .ref n, st => match st[n]? with
    | some (.lst ds) => some ds
    | _ => none
  | _, _ => none
def asLF : D → Sto → Option (List D)
  | .fro ds, _ => some ds
  | d, st => asL d st
section
variable {K : PySem.W.Frag} {z : Z} {H : Hp} {st : Sto} {v : V} {d : D} {ds : List D}
theorem asL_at (r : RelH K z H st) (p : Rep K z H v d) (h : asL d st = some ds) : ∃ a xs, v = .ref a ∧ H a = some (.lst xs) ∧ Reps K z H xs ds := by
  cases p with
  | @lst a xs es f e rs =>
    cases h
    exact ⟨a, xs, rfl, e, rs⟩
  | @ref a n hn =>
    cases hc : st[n]? with
    | none =>
      have h : (match st[n]? with | some (.lst ds) => some ds | _ => none) = some ds := h
      rw [hc] at h
      cases h
    | some c =>
      have h : (match st[n]? with | some (.lst ds) => some ds | _ => none) = some ds := h
      rw [hc] at h
      cases c with
      | lst es =>
        cases h
        obtain ⟨xs, e, rs⟩ := r.cell hn hc
        exact ⟨a, xs, rfl, e, rs⟩
      | set S => cases h
  | _ => cases h
theorem asLF_at (r : RelH K z H st) (p : Rep K z H v d) (h : asLF d st = some ds) : ∃ a xs, v = .ref a ∧ SqL K H a xs ∧ Reps K z H xs ds := by
  cases p with
  | @fro a xs es t rs =>
    cases h
    exact ⟨a, xs, rfl, t.seq, rs⟩
  | @lst a xs es f e rs =>
    cases h
    exact ⟨a, xs, rfl, SqL.of e, rs⟩
  | @ref a n hn hk =>
    obtain ⟨a', xs, e, e2, rs⟩ := asL_at r (Rep.ref hn hk) h
    cases e
    exact ⟨a, xs, rfl, SqL.of e2, rs⟩
  | _ => cases h
end
def addD : O2
  | .int i, .int j, st => some (.int (i + j), st)
  | .tup a, .tup b, st => if a.length + b.length ≤ sizeLine then some (.tup (a ++ b), st) else none
  | .str a, .str b, st => if a.length + b.length ≤ sizeLine then some (.str (a ++ b), st) else none
  | a, b, st => match asL a st, asL b st with
    | some x, some y => if x.length + y.length ≤ sizeLine then some (.lst (x ++ y), st) else none
    | _, _ => none
def subD : O2
  | .int i, .int j, st => some (.int (i - j), st)
  | _, _, _ => none
def mulOk (i j : Int) : Bool := decide (-(2 ^ 64) < i ∧ i < 2 ^ 64) || decide (-(2 ^ 64) < j ∧ j < 2 ^ 64) || decide (i.natAbs.log2 + j.natAbs.log2 < 1000000)
def mulD : O2
  | .int i, .int j, st => if mulOk i j then some (.int (i * j), st) else none
  | .tup a, .int k, st => if decide (a ≠ []) && decide (2 ≤ k) && decide (k ≤ 1000) && decide (a.length ≤ 1000) then some (.tup (List.replicate k.toNat a).flatten, st) else none
  | a, .int k, st => match asL a st with
    | some x => if decide (-(2 ^ 63) ≤ k) && decide (k < 2 ^ 63) && decide (x.length * k.toNat ≤ sizeLine) then some (.lst (List.replicate k.toNat x).flatten, st) else none
    | none => none
  | _, _, _ => none
def fdivD : O2
  | .int i, .int j, st => if decide (j ≠ 0) && decide (j.natAbs.log2 < 9000) then some (.int (i.fdiv j), st) else none
  | _, _, _ => none
def modD : O2
  | .int i, .int j, st => if j ≠ 0 then some (.int (i.fmod j), st) else none
  | _, _, _ => none
def powD : O2
  | .int i, .int j, st => if decide (0 ≤ j) && decide (j ≤ 1000000) && decide (i.natAbs < 2 ^ 64) then some (.int (i ^ j.toNat), st) else none
  | _, _, _ => none
def cmpI (p : Int → Int → Bool) : O2
  | .int i, .int j, st => some (.bl (p i j), st)
  | _, _, _ => none
def negD : O1
  | .int i, st => some (.int (-i), st)
  | _, _ => none
section
variable {X : Cx}
/-- ints in, an int out -/
theorem opII {f : Value → Value → Sem Value} {C : Int → Int → Prop} {g : Int → Int → V} (op : O2) (h : OpR X f (rI C g))
    (hop : ∀ a b st d st', op a b st = some (d, st') → ∃ i j, a = .int i ∧ b = .int j ∧ C i j ∧ st' = st ∧ ∀ z H, Rep X.K z H (g i j) d) : OpR X f (R2f X.K op) := by
  intro pins s σ H x y v u Q I rx ry ⟨z, st, da, db, d, st', rh, px, py, e, q⟩
  obtain ⟨i, j, rfl, rfl, hc, rfl, hg⟩ := hop _ _ _ _ _ e
  cases px
  cases py
  exact h pins s σ H _ _ v u Q I rx ry ⟨i, j, rfl, rfl, hc, okD.here q rh (hg z H)⟩
theorem opII0 {f : Value → Value → Sem Value} {g : Int → Int → V} (op : O2) (h : OpR X f (rI0 g))
    (hop : ∀ a b st d st', op a b st = some (d, st') → ∃ i j, a = .int i ∧ b = .int j ∧ st' = st ∧ ∀ z H, Rep X.K z H (g i j) d) : OpR X f (R2f X.K op) := by
  intro pins s σ H x y v u Q I rx ry ⟨z, st, da, db, d, st', rh, px, py, e, q⟩
  obtain ⟨i, j, rfl, rfl, rfl, hg⟩ := hop _ _ _ _ _ e
  cases px
  cases py
  exact h pins s σ H _ _ v u Q I rx ry ⟨i, j, rfl, rfl, okD.here q rh (hg z H)⟩
theorem or_sub : OpR X (binaryOp .Sub) (R2f X.K subD) := opII0 subD op_sub fun a b st d st' e => by
  cases a <;> cases b <;> first | cases e; done | (cases e; exact ⟨_, _, rfl, rfl, rfl, fun _ _ => .int _⟩)
theorem ints2 {op : O2} {a b : D} {st : Sto} {r : D × Sto} (h : ∀ a b, (∀ i j, ¬ (a = .int i ∧ b = .int j)) → op a b st = none) (e : op a b st = some r) : ∃ i j, a = .int i ∧ b = .int j := by
  cases a with
  | int i =>
    cases b with
    | int j => exact ⟨i, j, rfl, rfl⟩
    | _ =>
      rw [h _ _ (fun _ _ q => by cases q.2)] at e
      cases e
  | _ =>
    rw [h _ _ (fun _ _ q => by cases q.1)] at e
    cases e
theorem or_mod : OpR X (binaryOp .Mod) (R2f X.K modD) := opII modD op_modN fun a b st d st' e => by
  obtain ⟨i, j, rfl, rfl⟩ := ints2 (op := modD) (fun a b h => by cases a <;> cases b <;> first | rfl | exact absurd ⟨rfl, rfl⟩ (h _ _)) e
  have e : (if j ≠ 0 then some (D.int (i.fmod j), st) else none) = some (d, st') := e
  by_cases h : j ≠ 0
  · rw [if_pos h] at e
    cases e
    exact ⟨_, _, rfl, rfl, h, rfl, fun _ _ => .int _⟩
  · rw [if_neg h] at e
    cases e
theorem or_pow : OpR X (binaryOp .Pow) (R2f X.K powD) := opII powD op_pow fun a b st d st' e => by
  obtain ⟨i, j, rfl, rfl⟩ := ints2 (op := powD) (fun a b h => by cases a <;> cases b <;> first | rfl | exact absurd ⟨rfl, rfl⟩ (h _ _)) e
  have e : (if (decide (0 ≤ j) && decide (j ≤ 1000000) && decide (i.natAbs < 2 ^ 64)) = true then some (D.int (i ^ j.toNat), st) else none) = some (d, st') := e
  by_cases h : (decide (0 ≤ j) && decide (j ≤ 1000000) && decide (i.natAbs < 2 ^ 64)) = true
  · rw [if_pos h] at e
    cases e
    simp only [Bool.and_eq_true, decide_eq_true_eq] at h
    exact ⟨_, _, rfl, rfl, ⟨h.1.1, h.1.2, h.2⟩, rfl, fun _ _ => .int _⟩
  · rw [if_neg h] at e
    cases e
theorem or_fdiv : OpR X (binaryOp .FloorDiv) (R2f X.K fdivD) := opII fdivD (C := fun _ j => j ≠ 0 ∧ j.natAbs.log2 < 9000) (opI fun _ _ _ _ _ _ _ hc q => floordiv_int hc.1 q (.inl (PyProof.noPylong_of_log2 hc.2))) fun a b st d st' e => by
  obtain ⟨i, j, rfl, rfl⟩ := ints2 (op := fdivD) (fun a b h => by cases a <;> cases b <;> first | rfl | exact absurd ⟨rfl, rfl⟩ (h _ _)) e
  have e : (if (decide (j ≠ 0) && decide (j.natAbs.log2 < 9000)) = true then some (D.int (i.fdiv j), st) else none) = some (d, st') := e
  by_cases h : (decide (j ≠ 0) && decide (j.natAbs.log2 < 9000)) = true
  · rw [if_pos h] at e
    cases e
    simp only [Bool.and_eq_true, decide_eq_true_eq] at h
    exact ⟨_, _, rfl, rfl, h, rfl, fun _ _ => .int _⟩
  · rw [if_neg h] at e
    cases e
theorem or_lt : OpR X (compareOp .Lt) (R2f X.K (cmpI fun i j => decide (i < j))) := opII0 _ op_lt fun a b st d st' e => by
  cases a <;> cases b <;> first | cases e; done | (cases e; exact ⟨_, _, rfl, rfl, rfl, fun _ _ => .bl _⟩)
theorem or_le : OpR X (compareOp .LtE) (R2f X.K (cmpI fun i j => decide (i ≤ j))) := opII0 _ op_le fun a b st d st' e => by
  cases a <;> cases b <;> first | cases e; done | (cases e; exact ⟨_, _, rfl, rfl, rfl, fun _ _ => .bl _⟩)
theorem or_gt : OpR X (compareOp .Gt) (R2f X.K (cmpI fun i j => decide (j < i))) := opII0 _ op_gt fun a b st d st' e => by
  cases a <;> cases b <;> first | cases e; done | (cases e; exact ⟨_, _, rfl, rfl, rfl, fun _ _ => .bl _⟩)
theorem or_ge : OpR X (compareOp .GtE) (R2f X.K (cmpI fun i j => decide (j ≤ i))) := opII0 _ op_ge fun a b st d st' e => by
  cases a <;> cases b <;> first | cases e; done | (cases e; exact ⟨_, _, rfl, rfl, rfl, fun _ _ => .bl _⟩)
theorem un_negD : UnR X (unaryOp .USub) (R1f X.K negD) := by
  intro pins s σ H x v Q I rx ⟨z, st, da, d, st', rh, px, e, q⟩
  cases px <;> first | cases e; done | (
    cases e
    exact un_neg pins s σ H _ v Q I rx ⟨_, rfl, okD.here q rh (.int _)⟩)
theorem or_add : OpR X (binaryOp .Add) (R2f X.K addD) := by
  intro pins s σ H x y v u Q I rx ry ⟨z, st, da, db, d, st', rh, px, py, e, q⟩
  have lists : (∃ xs ys, asL da st = some xs ∧ asL db st = some ys ∧ xs.length + ys.length ≤ sizeLine ∧ d = .lst (xs ++ ys) ∧ st' = st) → wpAny (model X.prog X.w) X.A (binaryOp .Add v u) (EP X pins σ Q) X.xe s := by
    rintro ⟨xs, ys, h1, h2, hl, rfl, rfl⟩
    obtain ⟨a, vs, rfl, e1, r1⟩ := asL_at rh px h1
    obtain ⟨b, ws, rfl, e2, r2⟩ := asL_at rh py h2
    exact op_cat pins s σ H _ _ v u Q I rx ry ⟨a, b, vs, ws, rfl, rfl, e1, e2, by rw [r1.length, r2.length]; exact hl, fun p n => okD.newF q rh (r1.append r2) n⟩
  have rest : (match asL da st, asL db st with
    | some x, some y => if x.length + y.length ≤ sizeLine then some (D.lst (x ++ y), st) else none
    | _, _ => none) = some (d, st') → ∃ xs ys, asL da st = some xs ∧ asL db st = some ys ∧ xs.length + ys.length ≤ sizeLine ∧ d = .lst (xs ++ ys) ∧ st' = st := fun e => by
    split at e
    · rename_i xs ys h1 h2
      split at e
      · rename_i hl
        cases e
        exact ⟨xs, ys, h1, h2, hl, rfl, rfl⟩
      · cases e
    · cases e
  cases da with
  | int i =>
    cases db with
    | int j =>
      cases e
      cases px
      cases py
      exact op_add pins s σ H _ _ v u Q I rx ry ⟨i, j, rfl, rfl, okD.here q rh (.int _)⟩
    | _ => exact lists (rest e)
  | str i =>
    cases db with
    | str j =>
      have e : (if i.length + j.length ≤ sizeLine then some (D.str (i ++ j), st) else none) = some (d, st') := e
      split at e
      · rename_i hl
        cases e
        cases px
        cases py
        exact op_add_str pins s σ H _ _ v u Q I rx ry ⟨i, j, rfl, rfl, hl, okD.here q rh (.str _)⟩
      · cases e
    | _ => exact lists (rest e)
  | tup a =>
    cases db with
    | tup b =>
      have e : (if a.length + b.length ≤ sizeLine then some (D.tup (a ++ b), st) else none) = some (d, st') := e
      split at e
      · rename_i hl
        cases e
        cases px with
        | @tup p xs _ t1 r1 =>
          cases py with
          | @tup p2 ys _ t2 r2 =>
            refine op_catA pins s σ H _ _ v u Q I rx ry ⟨p, p2, xs, ys, rfl, rfl, t1.seq, t2.seq, by rw [r1.length, r2.length]; exact hl, fun w => ?_, fun _ w => ?_, fun _ _ p n => okD.newT q rh (r1.append r2) n⟩
            · subst w
              cases r1
              exact okD.here q rh (.tup t2 r2)
            · subst w
              cases r2
              rw [List.append_nil] at q
              exact okD.here q rh (.tup t1 r1)
      · cases e
    | _ => exact lists (rest e)
  | _ => cases db <;> exact lists (rest e)
theorem or_mul : OpR X (binaryOp .Mult) (R2f X.K mulD) := by
  intro pins s σ H x y v u Q I rx ry ⟨z, st, da, db, d, st', rh, px, py, e, q⟩
  cases db with
  | int k =>
    cases py
    have lists : (match asL da st with
      | some x => if decide (-(2 ^ 63) ≤ k) && decide (k < 2 ^ 63) && decide (x.length * k.toNat ≤ sizeLine) then some (D.lst (List.replicate k.toNat x).flatten, st) else none
      | none => none) = some (d, st') → wpAny (model X.prog X.w) X.A (binaryOp .Mult v u) (EP X pins σ Q) X.xe s := fun e => by
      split at e
      · rename_i xs h1
        split at e
        · rename_i hl
          cases e
          simp only [Bool.and_eq_true, decide_eq_true_eq] at hl
          obtain ⟨a, vs, rfl, e1, r1⟩ := asL_at rh px h1
          exact op_rep pins s σ H _ _ v u Q I rx ry ⟨a, k, vs, rfl, rfl, e1, hl.1.1, hl.1.2, by rw [r1.length]; exact hl.2, fun p n => okD.newF q rh (r1.flat _) n⟩
        · cases e
      · cases e
    cases da with
    | int i =>
      have e : (if mulOk i k then some (D.int (i * k), st) else none) = some (d, st') := e
      split at e
      · rename_i hm
        cases e
        cases px
        unfold mulOk at hm
        simp only [Bool.or_eq_true, decide_eq_true_eq] at hm
        rcases hm with (hm | hm) | hm
        · exact op_mul pins s σ H _ _ v u Q I rx ry ⟨i, k, rfl, rfl, .inl hm, okD.here q rh (.int _)⟩
        · exact op_mul pins s σ H _ _ v u Q I rx ry ⟨i, k, rfl, rfl, .inr hm, okD.here q rh (.int _)⟩
        · exact op_mulW pins s σ H _ _ v u Q I rx ry ⟨i, k, rfl, rfl, hm, okD.here q rh (.int _)⟩
      · cases e
    | tup a =>
      have e : (if decide (a ≠ []) && decide (2 ≤ k) && decide (k ≤ 1000) && decide (a.length ≤ 1000) then some (D.tup (List.replicate k.toNat a).flatten, st) else none) = some (d, st') := e
      split at e
      · rename_i hl
        cases e
        simp only [Bool.and_eq_true, decide_eq_true_eq] at hl
        cases px with
        | @tup p xs _ t1 r1 =>
          refine op_repT pins s σ H _ _ v u Q I rx ry ⟨p, k, xs, rfl, rfl, t1.seq, fun w => ?_, hl.1.1.2, hl.1.2, by rw [r1.length]; exact hl.2, fun p n => okD.newT q rh (r1.flat _) n⟩
          subst w
          cases r1
          exact hl.1.1.1 rfl
      · cases e
    | _ => exact lists e
  | _ => cases da <;> cases e
end
/-! ## data as a whole: ==, repr -/
def mapO {α β : Type} (f : α → Option β) : List α → Option (List β)
  | [] => some []
  | a :: r => (f a).bind fun b => (mapO f r).bind fun bs => some (b :: bs)
def toP : Nat → Sto → D → Option PyData
  | 0, _, _ => none
  | n + 1, st, d => match d with
    | .non => some .none
    | .bl b => some (.bool b)
    | .int i => some (.int i)
    | .str s => some (.str s)
    | .tup ds => (mapO (toP n st) ds).map .tuple
    | .lst ds => (mapO (toP n st) ds).map .list
    | .fro ds => (mapO (toP n st) ds).map .list
    | .ref k => match st[k]? with
      | some (.lst ds) => (mapO (toP n st) ds).map .list
      | _ => none
    | .sref _ => none
section
variable {K : PySem.W.Frag} {z : Z} {H : Hp} {st : Sto}
theorem mapO_dp {f : D → Option PyData} (hf : ∀ v d p, Rep K z H v d → f d = some p → Dp K H v p) : ∀ {vs : List V} {ds : List D} {ps : List PyData}, Reps K z H vs ds → mapO f ds = some ps → DpAll K H vs ps
  | _, _, _, .nil, h => by
    cases h
    exact .nil
  | _, d :: r, ps, .cons p t, h => by
    have h : (f d).bind (fun b => (mapO f r).bind fun bs => some (b :: bs)) = some ps := h
    obtain ⟨b, hb, h⟩ := Option.bind_eq_some_iff.mp h
    obtain ⟨bs, hbs, h⟩ := Option.bind_eq_some_iff.mp h
    cases h
    exact .cons (hf _ _ _ p hb) (mapO_dp hf t hbs)
theorem toP_dp (r : RelH K z H st) : ∀ (n : Nat) (v : V) (d : D) (p : PyData), Rep K z H v d → toP n st d = some p → Dp K H v p
  | 0, _, _, _, _, h => nomatch h
  | n + 1, v, d, p, q, h => by
    have ih := toP_dp r n
    cases q with
    | non => cases h; exact .non
    | bl b => cases h; exact .bl b
    | int i => cases h; exact .int i
    | str x => cases h; exact .str x
    | @tup a xs ds t rs =>
      obtain ⟨ps, hp, h⟩ := Option.map_eq_some_iff.mp (show (mapO (toP n st) ds).map PyData.tuple = some p from h)
      subst h
      exact .tup t.seq (mapO_dp ih rs hp)
    | @lst a xs ds f e rs =>
      obtain ⟨ps, hp, h⟩ := Option.map_eq_some_iff.mp (show (mapO (toP n st) ds).map PyData.list = some p from h)
      subst h
      exact .lst (SqL.of e) (mapO_dp ih rs hp)
    | @fro a xs ds t rs =>
      obtain ⟨ps, hp, h⟩ := Option.map_eq_some_iff.mp (show (mapO (toP n st) ds).map PyData.list = some p from h)
      subst h
      exact .lst t.seq (mapO_dp ih rs hp)
    | @ref a m hm =>
      have h : (match st[m]? with | some (.lst ds) => (mapO (toP n st) ds).map PyData.list | _ => none) = some p := h
      split at h
      · rename_i ds hc
        obtain ⟨ps, hp, h⟩ := Option.map_eq_some_iff.mp h
        subst h
        obtain ⟨xs, e, rs⟩ := r.cell hm hc
        exact .lst (SqL.of e) (mapO_dp ih rs hp)
      · cases h
    | sref _ _ => cases h
end
def eqB (a b : D) (st : Sto) : Option Bool := match toP 16 st a, toP 16 st b with
  | some p, some q => if SeqAt.shaped p && SeqAt.shaped q then some (PyData.eqv p q) else none
  | _, _ => none
def eqD : O2 := fun a b st => (eqB a b st).bind fun r => some (.bl r, st)
def neD : O2 := fun a b st => (eqB a b st).bind fun r => some (.bl (!r), st)
theorem eqB_some {a b : D} {st : Sto} {r : Bool} (h : eqB a b st = some r) : ∃ p q, toP 16 st a = some p ∧ toP 16 st b = some q ∧ SeqAt.shaped p = true ∧ SeqAt.shaped q = true ∧ r = PyData.eqv p q := by
  unfold eqB at h
  split at h
  · rename_i p q h1 h2
    split at h
    · rename_i hs
      rw [Bool.and_eq_true] at hs
      exact ⟨p, q, h1, h2, hs.1, hs.2, (Option.some.inj h).symm⟩
    · cases h
  · cases h
section
variable {X : Cx}
theorem or_eq {k : Nat} (hr : Room k X.A) : OpR X (compareOp .Eq) (R2f X.K eqD) := by
  intro pins s σ H x y v u Q I rx ry ⟨z, st, da, db, d, st', rh, px, py, e, q⟩
  obtain ⟨r, hr', e⟩ := Option.bind_eq_some_iff.mp (show (eqB da db st).bind (fun r => some (D.bl r, st)) = some (d, st') from e)
  cases e
  obtain ⟨p1, p2, h1, h2, s1, s2, rfl⟩ := eqB_some hr'
  exact op_eqD hr.units pins s σ H _ _ v u Q I rx ry ⟨p1, p2, toP_dp rh _ _ _ _ px h1, toP_dp rh _ _ _ _ py h2, s1, s2, okD.here q rh (.bl _)⟩
theorem or_ne {k : Nat} (hr : Room k X.A) : OpR X (compareOp .NotEq) (R2f X.K neD) := by
  intro pins s σ H x y v u Q I rx ry ⟨z, st, da, db, d, st', rh, px, py, e, q⟩
  obtain ⟨r, hr', e⟩ := Option.bind_eq_some_iff.mp (show (eqB da db st).bind (fun r => some (D.bl (!r), st)) = some (d, st') from e)
  cases e
  obtain ⟨p1, p2, h1, h2, s1, s2, rfl⟩ := eqB_some hr'
  exact op_neD hr.units pins s σ H _ _ v u Q I rx ry ⟨p1, p2, toP_dp rh _ _ _ _ px h1, toP_dp rh _ _ _ _ py h2, s1, s2, okD.here q rh (.bl _)⟩
/-! is, is not -/
def isNB : D → Bool
  | .non => true
  | _ => false
/-- x is None, True, False: the right one written -/
def isD (neg : Bool) : O2
  | .bl a, .bl b, st => some (.bl (if neg then !decide (a = b) else decide (a = b)), st)
  | a, .non, st => some (.bl (if neg then !isNB a else isNB a), st)
  | _, _, _ => none
theorem isNB_at {K : PySem.W.Frag} {z : Z} {H : Hp} {v : V} {d : D} (p : Rep K z H v d) : decide (v = .non) = isNB d := by
  cases p <;> first | rfl | exact decide_eq_false (fun q => nomatch q) | exact decide_eq_true rfl
theorem or_is : OpR X (compareOp .Is) (R2f X.K (isD false)) := by
  intro pins s σ H x y v u Q I rx ry ⟨z, st, da, db, d, st', rh, px, py, e, q⟩
  cases db with
  | non =>
    cases py
    have e' : d = .bl (isNB da) ∧ st' = st := by
      cases da <;> (cases e; exact ⟨rfl, rfl⟩)
    obtain ⟨rfl, rfl⟩ := e'
    exact op_isN pins s σ H _ _ v u Q I rx ry ⟨rfl, by rw [isNB_at px]; exact okD.here q rh (.bl _)⟩
  | bl b =>
    cases da with
    | bl a =>
      cases e
      cases px
      cases py
      exact op_isBl pins s σ H _ _ v u Q I rx ry ⟨a, b, rfl, rfl, okD.here q rh (.bl _)⟩
    | _ => cases e
  | _ => cases da <;> cases e
theorem or_isnot : OpR X (compareOp .IsNot) (R2f X.K (isD true)) := by
  intro pins s σ H x y v u Q I rx ry ⟨z, st, da, db, d, st', rh, px, py, e, q⟩
  cases db with
  | non =>
    cases py
    have e' : d = .bl (!isNB da) ∧ st' = st := by
      cases da <;> (cases e; exact ⟨rfl, rfl⟩)
    obtain ⟨rfl, rfl⟩ := e'
    exact op_notN pins s σ H _ _ v u Q I rx ry ⟨rfl, by rw [isNB_at px]; exact okD.here q rh (.bl _)⟩
  | bl b =>
    cases da with
    | bl a =>
      cases e
      cases px
      cases py
      exact op_notBl pins s σ H _ _ v u Q I rx ry ⟨a, b, rfl, rfl, okD.here q rh (.bl _)⟩
    | _ => cases e
  | _ => cases da <;> cases e
/-! repr -/
def reprOk (p : PyData) : Bool := p.showable && !p.hasDict && decide (p.depth ≤ 60) && decide (p.shown.length ≤ sizeLine)
def reprL : OL := fun ds st => match ds with
  | [d] => (toP 16 st d).bind fun p => if reprOk p then some (.str p.shown, st) else none
  | _ => none
theorem cr_repr {k : Nat} (hr : Room k X.A) (hg : X.A.guards = some []) : CallR X (.builtin "repr") (RLf X.K reprL) := by
  intro pins s σ H xs us Q I rv ⟨z, st, ds, d, st', rh, ps, e, q⟩
  match ds, ps, e with
  | [d0], .cons (v := v0) p0 .nil, e =>
    obtain ⟨p, hp, e⟩ := Option.bind_eq_some_iff.mp (show (toP 16 st d0).bind (fun p => if reprOk p then some (D.str p.shown, st) else none) = some (d, st') from e)
    split at e
    · rename_i ok
      cases e
      unfold reprOk at ok
      simp only [Bool.and_eq_true, decide_eq_true_eq, Bool.not_eq_true'] at ok
      obtain ⟨⟨⟨hs, hd⟩, hdep⟩, hlen⟩ := ok
      obtain ⟨u, rfl, ru⟩ := rv.one
      have dp := toP_dp rh _ _ _ _ p0 hp
      have fin : ∀ tk t, EP X pins σ Q (.str p.shown t) { s with toks := tk } := fun tk t => ⟨.str p.shown, H, I.tok tk, ⟨t, rfl⟩, okD.here q rh (.str _)⟩
      have un : X.A.units + (p.depth + 1) < cLine := by
        have := hr.units
        have := hr.un
        omega
      have displays : ∀ a, u = .ref a → wpAny (model X.prog X.w) X.A (call (.builtin "repr") [u]) (EP X pins σ Q) X.xe s := by
        rintro a rfl
        obtain ⟨as, rd⟩ := Dp.reads I _ _ _ dp ru
        exact PySem.repr_of_reads' rd hs (PyData.noDict_hsm hd) hg un (fun _ _ q => q) (fun h' t tk kk => ⟨.str p.shown, H, I.kept (t' := tk) kk, ⟨t, rfl⟩, okD.here q rh (.str _)⟩) hlen
      cases dp with
      | non =>
        cases ru
        exact PySem.P.repr_of_none (fin _ _)
      | bl b =>
        cases ru
        exact PySem.P.repr_of_bool (fin _ _)
      | int i =>
        obtain ⟨t, rfl⟩ := ru
        exact PySem.P.repr_of_int (of_decide_eq_true hs) (fin _ _)
      | str x =>
        obtain ⟨t, rfl⟩ := ru
        exact PySem.P.repr_of_str (fin _ _) hlen
      | lst _ _ => exact displays _ ru
      | tup _ _ => exact displays _ ru
    · cases e
end
end Ev

namespace Ev
open PySem PySem.Spec PyProof.Rows L2
variable [Tabs]

/-! ## subscripts, slices -/
def atD (ds : List D) (i : Int) : Option D := (ixN ds.length i).bind fun j => ds[j]?
def ixD : O2 := fun a b st => match b with
  | .int i => match a with
    | .tup ds => (atD ds i).bind fun d => some (d, st)
    | _ => (asLF a st).bind fun ds => (atD ds i).bind fun d => some (d, st)
  | _ => none
theorem atI_at {K : PySem.W.Frag} {z : Z} {H : Hp} {vs : List V} {ds : List D} {i : Int} {d : D} (r : Reps K z H vs ds) (h : atD ds i = some d) : ∃ v, atI vs i = some v ∧ Rep K z H v d := by
  obtain ⟨j, hj, hd⟩ := Option.bind_eq_some_iff.mp h
  obtain ⟨v, hv, rv⟩ := r.getD hd
  exact ⟨v, by unfold atI; rw [r.length, hj]; exact hv, rv⟩
def cutD (ds : List D) (lo hi : Option Int) : List D := (ds.drop (HT.sIx ds.length 0 lo)).take (HT.sIx ds.length ds.length hi - HT.sIx ds.length 0 lo)
theorem cut_at {K : PySem.W.Frag} {z : Z} {H : Hp} {vs : List V} {ds : List D} (r : Reps K z H vs ds) (lo hi : Option Int) : Reps K z H (cutV vs lo hi) (cutD ds lo hi) := by
  unfold cutV cutD
  rw [r.length]
  exact (r.drop _).take _
abbrev PF := En → Sto → R (Option Int)
def noP : PF := fun _ st => .ok none st
def someP (f : EF) : PF := fun en st => (f en st).bind fun d st1 => match d with
  | .int i => .ok (some i) st1
  | _ => .bad
def slD (a : D) (lo hi : Option Int) (st : Sto) : Option (D × Sto) := match a with
  | .tup ds => some (.tup (cutD ds lo hi), st)
  | _ => (asLF a st).bind fun ds => some (.lst (cutD ds lo hi), st)
def slF (f : EF) (l h : PF) : EF := fun en st => (f en st).bind fun a st1 => (l en st1).bind fun lo st2 => (h en st2).bind fun hi st3 => R.ofO (slD a lo hi st3)
section
variable {X : Cx} {xm : List Addr} {W : WX} {k : Nat} {a b c e : Expr} {f g : EF} {pos : Pos}
theorem ir_ix : IxR X (R2f X.K ixD) := by
  intro value slice pins s σ H x y v u Q I rx ry ⟨z, st, da, db, d, st', rh, px, py, e, q⟩ hs
  cases db with
  | int i =>
    cases py
    have lists : (asLF da st).bind (fun ds => (atD ds i).bind fun d => some (d, st)) = some (d, st') → wpAny (model X.prog X.w) X.A (subscriptTail value slice v u) (EP X pins σ Q) X.xe s := fun e => by
      obtain ⟨ds, h1, e⟩ := Option.bind_eq_some_iff.mp e
      obtain ⟨d', h2, e⟩ := Option.bind_eq_some_iff.mp e
      cases e
      obtain ⟨p, xs, rfl, hq, rs⟩ := asLF_at rh px h1
      obtain ⟨w, hw, rw'⟩ := atI_at rs h2
      exact ix_list value slice pins s σ H _ _ v u Q I rx ry ⟨p, xs, i, w, rfl, rfl, hq, hw, okD.here q rh rw'⟩ hs
    cases da with
    | tup ds =>
      obtain ⟨d', h2, e⟩ := Option.bind_eq_some_iff.mp (show (atD ds i).bind (fun d => some (d, st)) = some (d, st') from e)
      cases e
      cases px with
      | @tup p xs _ t rs =>
        obtain ⟨w, hw, rw'⟩ := atI_at rs h2
        exact ix_tup value slice pins s σ H _ _ v u Q I rx ry ⟨p, xs, i, w, rfl, rfl, t.seq, hw, okD.here q rh rw'⟩ hs
    | _ => exact lists e
  | _ => cases da <;> cases e
theorem sn_ix (ha : PE X a (TEf X.K xm W f)) (hb : PE X b (TEf X.K xm W g)) (hs : PlainIx b := by exact fun _ _ => rfl) : PE X (.Subscript a b pos) (TEf X.K xm W (op2F ixD f g)) := (pe_ix ir_ix ha hb hs).imp op2_read
/-! parts of a slice -/
def TPf (K : PySem.W.Frag) (xm : List Addr) (W : WX) (f : PF) : TO := fun σ H Q => ∃ z en st, RelH K z H st ∧ RelE K z H σ en ∧ (f en st).wp (fun o st' => ∀ z' H', Ext z H z' H' → RelH K z' H' st' → Q o H') (exW K xm z H W σ)
theorem _root_.L2.PO.imp {X : Cx} {e : Option Expr} {t t' : TO} (h : PO X e t) (w : ∀ σ H Q, t' σ H Q → t σ H Q) : PO X e t' := ⟨fun pins s σ H Q I q => h.run pins s σ H Q I (w σ H Q q)⟩
theorem sp_no : PO X none (TPf X.K xm W noP) := po_none.imp fun σ H Q ⟨z, en, st, rh, re, h⟩ => h z H .refl rh
theorem sp_so (ha : PE X a (TEf X.K xm W f)) : PO X (some a) (TPf X.K xm W (someP f)) := (po_some ha).imp fun σ H Q ⟨z, en, st, rh, re, h⟩ => by
  refine seqE' rh re (wp_bind.mp h) fun d1 st1 v1 z1 H1 q1 e1 r1 re1 p1 => ?_
  cases d1 with
  | int i =>
    cases p1
    exact ⟨i, rfl, q1 z1 H1 e1 r1⟩
  | _ => exact False.elim q1
theorem sr_sl : SlR X (fun x lo hi H Q => ∃ z st da d st', RelH X.K z H st ∧ Rep X.K z H x da ∧ slD da lo hi st = some (d, st') ∧ okD X.K z H Q d st') := by
  intro pins s σ H x v vl vu lo hi sl Q I rx hs pl pu ⟨z, st, da, d, st', rh, px, e, q⟩
  have lists : (asLF da st).bind (fun ds => some (D.lst (cutD ds lo hi), st)) = some (d, st') → ∃ T id, typeLookup (.type T) "__getitem__" = pure (some (.builtin id)) ∧ s.TypeIs v T ∧ wpAny (model X.prog X.w) X.A (getItem v (.ref sl)) (EP X pins σ Q) X.xe s := fun e => by
    obtain ⟨ds, h1, e⟩ := Option.bind_eq_some_iff.mp e
    cases e
    obtain ⟨p, xs, rfl, hq, rs⟩ := asLF_at rh px h1
    exact sl_list pins s σ H _ v vl vu lo hi sl Q I rx hs pl pu ⟨p, xs, rfl, hq, fun p n => okD.newF q rh (cut_at rs lo hi) n⟩
  cases da with
  | tup ds =>
    cases (show some (D.tup (cutD ds lo hi), st) = some (d, st') from e)
    cases px with
    | @tup p xs _ t rs =>
      refine sl_tupA pins s σ H _ v vl vu lo hi sl Q I rx hs pl pu ⟨p, xs, rfl, t.seq, fun w => ?_, fun _ p n => okD.newT q rh (cut_at rs lo hi) n⟩
      have e2 : cutD ds lo hi = ds := by
        unfold cutD
        rw [← rs.length, w.1, w.2, rs.length]
        simp
      rw [e2] at q
      exact okD.here q rh (.tup t rs)
  | _ => exact lists e
variable {lo hi : Option Expr} {p2 : Pos} {fl fh : PF}
theorem sn_sl (ha : PE X a (TEf X.K xm W f)) (hl : PO X lo (TPf X.K xm W fl)) (hh : PO X hi (TPf X.K xm W fh)) : PE X (.Subscript a (.Slice lo hi none p2) pos) (TEf X.K xm W (slF f fl fh)) :=
  (pe_slice sr_sl ha hl hh).imp fun σ H Q ⟨z, en, st, rh, re, h⟩ => by
    refine seqE' rh re (wp_bind.mp h) fun d1 st1 v1 z1 H1 q1 e1 r1 re1 p1 => ?_
    refine ⟨z1, en, st1, r1, re1, wpD_ext e1 (wp_bind.mp q1) fun o2 st2 q2 z2 H2 e2 r2 => ?_⟩
    refine ⟨z2, en, st2, r2, re1.ext e2, wpD_ext (e1.trans e2) (wp_bind.mp q2) fun o3 st3 q3 z3 H3 e3 r3 => ?_⟩
    obtain ⟨d, st4, e4, q4⟩ := wp_ofO q3
    exact ⟨z3, st3, d1, d, st4, r3, (p1.ext e2).ext e3, e4, q4.ext ((e1.trans e2).trans e3)⟩
/-! a cell's item stored -/
def subS (f o i : EF) : SF := fun en st => bindS (f en st) en fun d st1 => bindS (o en st1) en fun l st2 => bindS (i en st2) en fun j st3 => match l, j with
  | .ref n, .int m => match st3[n]? with
    | some (.lst ds) => match ixN ds.length m with
      | some q => .nx en (st3.set n (.lst (ds.set q d)))
      | none => .bad
    | _ => .bad
  | _, _ => .bad
theorem ss_sub {spos : Pos} (he : PE X e (TEf X.K xm W f)) (ho : PE X a (TEf X.K xm W g)) {h : EF} (hi : PE X b (TEf X.K xm W h)) (hs : swapsWithSole [.Subscript a b pos] e spos.line X.env = pure false := by rfl) (hw : swappedStores [.Subscript a b pos] e X.env = pure none := by rfl)
    (h1 : (assignEach [.Subscript a b pos] X.env).map (·.2) = [assign (.Subscript a b pos) X.env] := by rfl)
    (ha : ∀ v, assign (.Subscript a b pos) X.env v = (do
      let ov ← holding [v] (eval a X.env)
      let iv ← holding [v, ov] (eval b X.env)
      standAt pos
      holding [v, ov, iv] (setItem ov iv v)
      release [v, ov, iv] []) := by intro _; rfl) : PS X (.Assign [.Subscript a b pos] e spos) (TSf X.K xm W (subS f g h)) :=
  (ps_asg he (pg_sub ho hi set_list ha) hs hw h1).imp fun E σ H ⟨z, en, st, rh, re, hh⟩ => by
    refine seqE' rh re (sat_bind re hh) fun d1 st1 v1 z1 H1 q1 e1 r1 re1 p1 => ?_
    refine seqE' r1 re1 (wpD_ext e1 (sat_bind re q1) fun _ _ q => q) fun d2 st2 v2 z2 H2 q2 e2 r2 re2 p2 => ?_
    refine seqE' r2 re2 (wpD_ext (e1.trans e2) (sat_bind re q2) fun _ _ q => q) fun d3 st3 v3 z3 H3 q3 e3 r3 re3 p3 => ?_
    cases d2 with
    | ref n =>
      cases p2 with
      | @ref p _ hn hk =>
        cases d3 with
        | int m =>
          cases p3
          have hn3 := e3.mu _ _ hn
          have hk3 := (e3.kd _ _ hn).trans hk
          cases hc : st3[n]? with
          | none =>
            simp only [hc] at q3
            exact False.elim q3
          | some cl =>
            cases cl with
            | set S =>
              simp only [hc] at q3
              exact False.elim q3
            | lst ds =>
              simp only [hc] at q3
              obtain ⟨xs, hx, rs⟩ := r3.cell hn3 hc
              cases hj : ixN ds.length m with
              | none =>
                simp only [hj] at q3
                exact False.elim q3
              | some j =>
                simp only [hj] at q3
                have rv := (p1.ext e2).ext e3
                refine ⟨p, xs, m, j, rfl, rfl, hx, by rw [rs.length]; exact hj, ?_⟩
                have e4 := ext_write (o := .lst (xs.set j v1)) r3 hn3
                exact q3 σ z3 _ (((e1.trans e2).trans e3).trans e4) (r3.write hn3 hk3 (Reps.set rv j rs)) (re3.ext e4)
        | _ => exact False.elim q3
    | _ => cases d3 <;> exact False.elim q3
/-! methods of lists -/
abbrev OM := D → List D → Sto → Option (D × Sto)
def RMf (K : PySem.W.Frag) (op : OM) : V → List V → Hp → VK → Prop := fun x xs H Q => ∃ z st da ds d st', RelH K z H st ∧ Rep K z H x da ∧ Reps K z H xs ds ∧ op da ds st = some (d, st') ∧ okD K z H Q d st'
/-- a list's method -/
def methF (op : OM) (f : EF) (fs : AF) : EF := fun en st => (f en st).bind fun a st1 => match asLF a st1 with
  | some _ => (fs en st1).bind fun ds st2 => R.ofO (op a ds st2)
  | none => .bad
def appM : OM := fun a ds st => match a, ds with
  | .ref n, [d] => match st[n]? with
    | some (.lst es) => if es.length < sizeLine then some (.non, st.set n (.lst (es ++ [d]))) else none
    | _ => none
  | _, _ => none
def popM : OM := fun a ds st => match a, ds with
  | .ref n, [] => match st[n]? with
    | some (.lst es) => (es[es.length - 1]?).bind fun d => some (d, st.set n (.lst es.dropLast))
    | _ => none
  | _, _ => none
variable {es : List Expr} {fs : AF} {name : Str} {apos cpos : Pos} {id : String}
theorem sn_meth {op : OM} (pa : PlainAttrs "list") (slot : Slot "list" name id) (hty : typeOf (.builtin id) = pure (.type "method_descriptor")) (hm : MtR X id (RMf X.K op)) (ho : PE X a (TEf X.K xm W f)) (ha : PA X (e :: es) (TAf X.K xm W fs))
    (hbase : attributeBase a name X.env (eval a X.env) = eval a X.env := by rfl)
    (hfew : ((backTo cpos (starEach (e :: es) X.env)).all (fun x => !x.1) && (backToKw cpos (keywordEach [] X.env)).all (fun x => x.1.isSome)
      && decide ((e :: es).length + ([] : List Keyword).length + (if ([] : List Keyword).isEmpty then 0 else 1) < 30)) = true := by rfl)
    (hline : (apos.endLine == cpos.line) = true := by rfl) (hs : starEach (e :: es) X.env = (false, eval e X.env) :: starEach es X.env := by rfl) (hplain : (backTo cpos (starEach es X.env)).any (·.1) = false := by rfl) :
    PE X (.Call (.Attribute a name apos) (e :: es) [] cpos) (TEf X.K xm W (methF op f fs)) :=
  (pe_bm pa slot hty hm ho ha hbase hfew hline hs hplain).imp fun σ H Q ⟨z, en, st, rh, re, h⟩ => by
    refine seqE' rh re (wp_bind.mp h) fun d1 st1 v1 z1 H1 q1 e1 r1 re1 p1 => ?_
    cases hl : asLF d1 st1 with
    | none =>
      simp only [hl] at q1
      exact False.elim q1
    | some ds0 =>
      simp only [hl] at q1
      obtain ⟨p, xs, rfl, hq, rs⟩ := asLF_at r1 p1 hl
      refine ⟨.inl ⟨rfl, xs, hq⟩, seqA' r1 re1 (wpD_ext e1 (wp_bind.mp q1) fun _ _ q => q) fun d2 st2 v2 z2 H2 q2 e2 r2 re2 p2 => ?_⟩
      obtain ⟨d, st3, e3, q3⟩ := wp_ofO q2
      exact ⟨z2, st2, d1, d2, d, st3, r2, p1.ext e2, p2, e3, q3.ext (e1.trans e2)⟩
def meth0F (op : OM) (f : EF) : EF := fun en st => (f en st).bind fun a st1 => match asLF a st1 with
  | some _ => R.ofO (op a [] st1)
  | none => .bad
theorem sn_meth0 {op : OM} (pa : PlainAttrs "list") (slot : Slot "list" name id) (hty : typeOf (.builtin id) = pure (.type "method_descriptor")) (hm : MtR X id (RMf X.K op)) (ho : PE X a (TEf X.K xm W f))
    (hbase : attributeBase a name X.env (eval a X.env) = eval a X.env := by rfl) (hline : (apos.endLine == cpos.line) = true := by rfl) :
    PE X (.Call (.Attribute a name apos) [] [] cpos) (TEf X.K xm W (meth0F op f)) :=
  (pe_bm0 pa slot hty hm ho hbase hline).imp fun σ H Q ⟨z, en, st, rh, re, h⟩ => by
    refine seqE' rh re (wp_bind.mp h) fun d1 st1 v1 z1 H1 q1 e1 r1 re1 p1 => ?_
    cases hl : asLF d1 st1 with
    | none =>
      simp only [hl] at q1
      exact False.elim q1
    | some ds0 =>
      simp only [hl] at q1
      obtain ⟨p, xs, rfl, hq, rs⟩ := asLF_at r1 p1 hl
      obtain ⟨d, st3, e3, q3⟩ := wp_ofO q1
      exact ⟨.inl ⟨rfl, xs, hq⟩, z1, st1, d1, [], d, st3, r1, p1, .nil, e3, q3.ext e1⟩
theorem Reps.dropLast {K : PySem.W.Frag} {z : Z} {H : Hp} {vs : List V} {ds : List D} (r : Reps K z H vs ds) : Reps K z H vs.dropLast ds.dropLast := by
  rw [List.dropLast_eq_take, List.dropLast_eq_take, r.length]
  exact r.take _
theorem mr_append : MtR X "list.append" (RMf X.K appM) := by
  intro pins s σ H x xs v us Q I rx rv ⟨z, st, da, ds, d, st', rh, px, ps, e, q⟩
  cases da with
  | ref n =>
    cases px with
    | @ref p _ hn hk =>
      match ds, ps, e with
      | [y], .cons (v := w) py .nil, e =>
        cases hc : st[n]? with
        | none =>
          simp only [appM, hc] at e
          cases e
        | some cl =>
          cases cl with
          | set S =>
            simp only [appM, hc] at e
            cases e
          | lst es =>
            simp only [appM, hc] at e
            split at e
            · rename_i hl
              cases e
              obtain ⟨xs, hx, rs⟩ := rh.cell hn hc
              exact mt_append pins s σ H _ _ v us Q I rx rv ⟨p, xs, w, rfl, rfl, hx, by rw [rs.length]; exact hl, okD.write q rh hn hk (rs.append (.cons py .nil)) .non⟩
            · cases e
      | [], _, e => cases e
      | _ :: _ :: _, _, e => cases e
  | _ => cases e
theorem mr_pop : MtR X "list.pop" (RMf X.K popM) := by
  intro pins s σ H x xs v us Q I rx rv ⟨z, st, da, ds, d, st', rh, px, ps, e, q⟩
  cases da with
  | ref n =>
    cases px with
    | @ref p _ hn hk =>
      match ds, ps, e with
      | [], .nil, e =>
        cases hc : st[n]? with
        | none =>
          simp only [popM, hc] at e
          cases e
        | some cl =>
          cases cl with
          | set S =>
            simp only [popM, hc] at e
            cases e
          | lst es =>
            simp only [popM, hc] at e
            obtain ⟨y, hy, e⟩ := Option.bind_eq_some_iff.mp e
            cases e
            obtain ⟨xs, hx, rs⟩ := rh.cell hn hc
            obtain ⟨w, hw, rw'⟩ := rs.getD hy
            exact mt_pop pins s σ H _ _ v us Q I rx rv ⟨p, xs, w, rfl, rfl, hx, by rw [rs.length]; exact hw, okD.write q rh hn hk rs.dropLast rw'⟩
      | _ :: _, _, e => cases e
  | _ => cases e
end
/-! ## built-ins by values -/
def lenL : OL := fun ds st => match ds with
  | [.tup es] => some (.int es.length, st)
  | [d] => (asLF d st).bind fun es => some (.int es.length, st)
  | _ => none
def absL : OL := fun ds st => match ds with
  | [.int i] => some (.int (if i < 0 then -i else i), st)
  | _ => none
def minL : OL := fun ds st => match ds with
  | [.int i, .int j] => some (.int (if j < i then j else i), st)
  | _ => none
def maxL : OL := fun ds st => match ds with
  | [.int i, .int j] => some (.int (if j > i then j else i), st)
  | _ => none
def intL : OL := fun ds st => match ds with
  | [.int i] => some (.int i, st)
  | [.bl b] => some (.int (if b then 1 else 0), st)
  | _ => none
/-- list(x): a frozen one, a cell; tuple(x) -/
def listFL : OL := fun ds st => match ds with
  | [.tup es] => some (.lst es, st)
  | [d] => (asLF d st).bind fun es => some (.lst es, st)
  | _ => none
def listCL : OL := fun ds st => match ds with
  | [.tup es] => some (.ref st.length, st ++ [.lst es])
  | [d] => (asLF d st).bind fun es => some (.ref st.length, st ++ [.lst es])
  | _ => none
def tupleL : OL := fun ds st => match ds with
  | [.tup es] => some (.tup es, st)
  | [d] => (asLF d st).bind fun es => some (.tup es, st)
  | _ => none
def gcdL : OL := fun ds st => match ds with
  | [.int i, .int j] => some (.int ((Nat.gcd i.natAbs j.natAbs : Nat) : Int), st)
  | _ => none
def intsO : List D → Option (List Int)
  | [] => some []
  | .int i :: r => (intsO r).bind fun is => some (i :: is)
  | _ :: _ => none
def sumL : OL := fun ds st => match ds with
  | [d] => (asLF d st).bind fun es => (intsO es).bind fun is => some (.int is.sum, st)
  | _ => none
/-- sorted of ints, as insertion does it -/
def insI (x : Int) : List Int → List Int
  | [] => [x]
  | y :: r => if x ≤ y then x :: y :: r else y :: insI x r
def sortI : List Int → List Int
  | [] => []
  | x :: r => insI x (sortI r)
def sortFL : OL := fun ds st => match ds with
  | [d] => (asLF d st).bind fun es => (intsO es).bind fun is => some (.lst ((sortI is).map .int), st)
  | _ => none
def sortCL : OL := fun ds st => match ds with
  | [d] => (asLF d st).bind fun es => (intsO es).bind fun is => some (.ref st.length, st ++ [.lst ((sortI is).map .int)])
  | _ => none
theorem insI_perm (x : Int) : ∀ l, (insI x l).Perm (x :: l)
  | [] => .refl _
  | y :: r => by
    unfold insI
    split
    · exact .refl _
    · exact ((insI_perm x r).cons y).trans (.swap x y r)
theorem sortI_perm : ∀ l, (sortI l).Perm l
  | [] => .refl _
  | x :: r => (insI_perm x _).trans ((sortI_perm r).cons x)
theorem insI_sorted (x : Int) : ∀ l, l.Pairwise (· ≤ ·) → (insI x l).Pairwise (· ≤ ·)
  | [], _ => by simp [insI]
  | y :: r, h => by
    unfold insI
    have hy := List.pairwise_cons.mp h
    split
    · rename_i hxy
      refine List.pairwise_cons.mpr ⟨fun a ha => ?_, h⟩
      rcases List.mem_cons.mp ha with rfl | ha
      · exact hxy
      · exact Int.le_trans hxy (hy.1 a ha)
    · rename_i hxy
      refine List.pairwise_cons.mpr ⟨fun a ha => ?_, insI_sorted x r hy.2⟩
      rcases List.mem_cons.mp ((insI_perm x r).mem_iff.mp ha) with rfl | ha
      · omega
      · exact hy.1 a ha
theorem sortI_sorted : ∀ l, (sortI l).Pairwise (· ≤ ·)
  | [] => .nil
  | x :: r => insI_sorted x _ (sortI_sorted r)
theorem sorted_one : ∀ {l m : List Int}, l.Perm m → l.Pairwise (· ≤ ·) → m.Pairwise (· ≤ ·) → l = m
  | [], m, p, _, _ => p.nil_eq
  | x :: l, [], p, _, _ => absurd p.length_eq (by simp)
  | x :: l, y :: m, p, hl, hm => by
    have h1 := List.pairwise_cons.mp hl
    have h2 := List.pairwise_cons.mp hm
    have e : x = y := by
      have a : x ≤ y := by
        rcases List.mem_cons.mp (p.mem_iff.mpr List.mem_cons_self : y ∈ x :: l) with q | q
        · omega
        · exact h1.1 y q
      have b : y ≤ x := by
        rcases List.mem_cons.mp (p.mem_iff.mp List.mem_cons_self : x ∈ y :: m) with q | q
        · omega
        · exact h2.1 x q
      omega
    subst e
    rw [sorted_one ((List.perm_cons x).mp p) h1.2 h2.2]
section
variable {X : Cx} {K : PySem.W.Frag} {z : Z} {H : Hp} {st : Sto}
theorem ints_at : ∀ {vs : List V} {ds : List D} {is : List Int}, Reps K z H vs ds → intsO ds = some is → vs = is.map V.int
  | _, _, _, .nil, h => by cases h; rfl
  | _, _, is, .cons (d := d) (ds := r) p t, h => by
    cases d with
    | int i =>
      obtain ⟨js, hj, h⟩ := Option.bind_eq_some_iff.mp (show (intsO r).bind (fun is => some (i :: is)) = some is from h)
      cases h
      cases p
      rw [ints_at t hj]
      rfl
    | _ => cases h
theorem reps_ints (is : List Int) : Reps K z H (is.map V.int) (is.map D.int) := by
  induction is with
  | nil => exact .nil
  | cons i r ih => exact .cons (.int i) ih
/-- one argument, a list or a tuple -/
theorem one_seq {op : OL} {ds : List D} {r : D × Sto} (h : op ds st = some r) (g : List D → Option (D × Sto)) (ht : ∀ es, op [.tup es] st = g es) (hl : ∀ d, (∀ es, d ≠ .tup es) → op [d] st = (asLF d st).bind g) (h0 : ∀ ds, ds.length ≠ 1 → op ds st = none) :
    ∃ d es, ds = [d] ∧ g es = some r ∧ (d = .tup es ∨ asLF d st = some es) := by
  match ds, h with
  | [d], h =>
    by_cases q : ∃ es, d = .tup es
    · obtain ⟨es, rfl⟩ := q
      rw [ht] at h
      exact ⟨_, es, rfl, h, .inl rfl⟩
    · rw [hl d fun es e => q ⟨es, e⟩] at h
      obtain ⟨es, h1, h2⟩ := Option.bind_eq_some_iff.mp h
      exact ⟨d, es, rfl, h2, .inr h1⟩
  | [], h => rw [h0 _ (by simp)] at h; cases h
  | _ :: _ :: _, h => rw [h0 _ (by simp)] at h; cases h
theorem seq_at {v : V} {d : D} {es : List D} (r : RelH K z H st) (p : Rep K z H v d) (h : d = .tup es ∨ asLF d st = some es) : ∃ a xs, v = .ref a ∧ (SqL K H a xs ∨ SqT K H a xs) ∧ Reps K z H xs es ∧ (d = .tup es → SqT K H a xs) := by
  rcases h with rfl | h
  · cases p with
    | @tup a xs _ t rs => exact ⟨a, xs, rfl, .inr t.seq, rs, fun _ => t.seq⟩
  · obtain ⟨a, xs, rfl, hq, rs⟩ := asLF_at r p h
    refine ⟨a, xs, rfl, .inl hq, rs, fun e => ?_⟩
    rw [e] at h
    exact nomatch (show (none : Option (List D)) = some es from h)
theorem len_ok {d : D} (h : ∀ es, d ≠ .tup es) : lenL [d] st = (asLF d st).bind fun es => some (.int es.length, st) := by
  cases d <;> first | rfl | exact absurd rfl (h _)
theorem cl_len : CallR X (.builtin "len") (RLf X.K lenL) := by
  intro pins s σ H xs us Q I rv ⟨z, st, ds, d, st', rh, ps, e, q⟩
  obtain ⟨d0, es, rfl, hg, hd⟩ := one_seq (op := lenL) e (fun es => some (.int es.length, st)) (fun _ => rfl) (fun d h => len_ok h) (fun ds h => by
    match ds, h with
    | [], _ => rfl
    | [_], h => exact absurd rfl h
    | a :: b :: c, _ => cases a <;> rfl)
  cases hg
  match ps with
  | .cons (v := v0) p0 .nil =>
    obtain ⟨a, ys, rfl, hs, rs, _⟩ := seq_at rh p0 hd
    exact call_len_seq pins s σ H _ us Q I rv ⟨a, ys, rfl, hs, by rw [rs.length]; exact okD.here q rh (.int _)⟩
theorem cl_tuple : CallR X (.type "tuple") (RLf X.K tupleL) := by
  intro pins s σ H xs us Q I rv ⟨z, st, ds, d, st', rh, ps, e, q⟩
  obtain ⟨d0, es, rfl, hg, hd⟩ := one_seq (op := tupleL) e (fun es => some (.tup es, st)) (fun _ => rfl) (fun d h => by cases d <;> first | rfl | exact absurd rfl (h _)) (fun ds h => by
    match ds, h with
    | [], _ => rfl
    | [_], h => exact absurd rfl h
    | a :: b :: c, _ => cases a <;> rfl)
  cases hg
  match ps with
  | .cons (v := v0) p0 .nil =>
    rcases hd with rfl | hd
    · cases p0 with
      | @tup a ys _ t rs => exact call_tuple_of pins s σ H _ us Q I rv ⟨a, ys, rfl, .inr ⟨t.seq, okD.here q rh (.tup t rs)⟩⟩
    · obtain ⟨a, ys, rfl, hs, rs⟩ := asLF_at rh p0 hd
      exact call_tuple_of pins s σ H _ us Q I rv ⟨a, ys, rfl, .inl ⟨hs, fun p n => okD.newT q rh rs n⟩⟩
theorem cl_listF : CallR X (.type "list") (RLf X.K listFL) := by
  intro pins s σ H xs us Q I rv ⟨z, st, ds, d, st', rh, ps, e, q⟩
  obtain ⟨d0, es, rfl, hg, hd⟩ := one_seq (op := listFL) e (fun es => some (.lst es, st)) (fun _ => rfl) (fun d h => by cases d <;> first | rfl | exact absurd rfl (h _)) (fun ds h => by
    match ds, h with
    | [], _ => rfl
    | [_], h => exact absurd rfl h
    | a :: b :: c, _ => cases a <;> rfl)
  cases hg
  match ps with
  | .cons (v := v0) p0 .nil =>
    obtain ⟨a, ys, rfl, hs, rs, _⟩ := seq_at rh p0 hd
    exact call_list_of pins s σ H _ us Q I rv ⟨a, ys, rfl, hs, fun p n => okD.newF q rh rs n⟩
theorem cl_listC : CallR X (.type "list") (RLf X.K listCL) := by
  intro pins s σ H xs us Q I rv ⟨z, st, ds, d, st', rh, ps, e, q⟩
  obtain ⟨d0, es, rfl, hg, hd⟩ := one_seq (op := listCL) e (fun es => some (.ref st.length, st ++ [.lst es])) (fun _ => rfl) (fun d h => by cases d <;> first | rfl | exact absurd rfl (h _)) (fun ds h => by
    match ds, h with
    | [], _ => rfl
    | [_], h => exact absurd rfl h
    | a :: b :: c, _ => cases a <;> rfl)
  cases hg
  match ps with
  | .cons (v := v0) p0 .nil =>
    obtain ⟨a, ys, rfl, hs, rs, _⟩ := seq_at rh p0 hd
    exact call_list_of pins s σ H _ us Q I rv ⟨a, ys, rfl, hs, fun p n => okD.newC q rh rs n⟩
/-- one int, two ints -/
theorem cl_abs : CallR X (.builtin "abs") (RLf X.K absL) := by
  intro pins s σ H xs us Q I rv ⟨z, st, ds, d, st', rh, ps, e, q⟩
  match ds, ps, e with
  | [.int i], .cons (.int _) .nil, e =>
    cases e
    exact call_abs pins s σ H _ us Q I rv ⟨i, rfl, okD.here q rh (.int _)⟩
theorem cl_int : CallR X (.type "int") (RLf X.K intL) := by
  intro pins s σ H xs us Q I rv ⟨z, st, ds, d, st', rh, ps, e, q⟩
  match ds, ps, e with
  | [.int i], .cons (.int _) .nil, e =>
    cases e
    exact call_int1 pins s σ H _ us Q I rv (.inl ⟨i, rfl, okD.here q rh (.int _)⟩)
  | [.bl b], .cons (.bl _) .nil, e =>
    cases e
    exact call_int1 pins s σ H _ us Q I rv (.inr ⟨b, rfl, okD.here q rh (.int _)⟩)
theorem cl_min (hc : X.calm = true) : CallR X (.builtin "min") (RLf X.K minL) := by
  intro pins s σ H xs us Q I rv ⟨z, st, ds, d, st', rh, ps, e, q⟩
  match ds, ps, e with
  | [.int i, .int j], .cons (.int _) (.cons (.int _) .nil), e =>
    cases e
    exact call_min2 hc pins s σ H _ us Q I rv ⟨i, j, rfl, okD.here q rh (.int _)⟩
theorem cl_max (hc : X.calm = true) : CallR X (.builtin "max") (RLf X.K maxL) := by
  intro pins s σ H xs us Q I rv ⟨z, st, ds, d, st', rh, ps, e, q⟩
  match ds, ps, e with
  | [.int i, .int j], .cons (.int _) (.cons (.int _) .nil), e =>
    cases e
    exact call_max2 hc pins s σ H _ us Q I rv ⟨i, j, rfl, okD.here q rh (.int _)⟩
theorem cl_gcd : CallR X (.builtin "math.gcd") (RLf X.K gcdL) := by
  intro pins s σ H xs us Q I rv ⟨z, st, ds, d, st', rh, ps, e, q⟩
  match ds, ps, e with
  | [.int i, .int j], .cons (.int _) (.cons (.int _) .nil), e =>
    cases e
    exact cr_gcd pins s σ H _ us Q I rv ⟨i, j, rfl, okD.here q rh (.int _)⟩
theorem one_ints {ds : List D} {r : D × Sto} {g : List Int → Option (D × Sto)} (h : (match ds with
  | [d] => (asLF d st).bind fun es => (intsO es).bind g
  | _ => none) = some r) : ∃ d es is, ds = [d] ∧ asLF d st = some es ∧ intsO es = some is ∧ g is = some r := by
  match ds, h with
  | [d], h =>
    obtain ⟨es, h1, h⟩ := Option.bind_eq_some_iff.mp h
    obtain ⟨is, h2, h⟩ := Option.bind_eq_some_iff.mp h
    exact ⟨d, es, is, rfl, h1, h2, h⟩
theorem cl_sum (hc : X.calm = true) : CallR X (.builtin "sum") (RLf X.K sumL) := by
  intro pins s σ H xs us Q I rv ⟨z, st, ds, d, st', rh, ps, e, q⟩
  obtain ⟨d0, es, is, rfl, h1, h2, h3⟩ := one_ints e
  cases h3
  match ps with
  | .cons (v := v0) p0 .nil =>
    obtain ⟨a, ys, rfl, hs, rs⟩ := asLF_at rh p0 h1
    rw [ints_at rs h2] at hs
    exact cr_sum hc pins s σ H _ us Q I rv ⟨a, is, rfl, hs, okD.here q rh (.int _)⟩
theorem cl_sortF : CallR X (.builtin "sorted") (RLf X.K sortFL) := by
  intro pins s σ H xs us Q I rv ⟨z, st, ds, d, st', rh, ps, e, q⟩
  obtain ⟨d0, es, is, rfl, h1, h2, h3⟩ := one_ints e
  cases h3
  match ps with
  | .cons (v := v0) p0 .nil =>
    obtain ⟨a, ys, rfl, hs, rs⟩ := asLF_at rh p0 h1
    rw [ints_at rs h2] at hs
    refine cr_sortedI pins s σ H _ us Q I rv ⟨a, is, rfl, hs, fun ns p pm so n => ?_⟩
    rw [sorted_one (pm.trans (sortI_perm is).symm) so (sortI_sorted is)]
    exact okD.newF q rh (reps_ints _) n
theorem cl_sortC : CallR X (.builtin "sorted") (RLf X.K sortCL) := by
  intro pins s σ H xs us Q I rv ⟨z, st, ds, d, st', rh, ps, e, q⟩
  obtain ⟨d0, es, is, rfl, h1, h2, h3⟩ := one_ints e
  cases h3
  match ps with
  | .cons (v := v0) p0 .nil =>
    obtain ⟨a, ys, rfl, hs, rs⟩ := asLF_at rh p0 h1
    rw [ints_at rs h2] at hs
    refine cr_sortedI pins s σ H _ us Q I rv ⟨a, is, rfl, hs, fun ns p pm so n => ?_⟩
    rw [sorted_one (pm.trans (sortI_perm is).symm) so (sortI_sorted is)]
    exact okD.newC q rh (reps_ints _) n
end
/-! isinstance with a built-in type -/
def tyN : D → String
  | .non => "NoneType" | .bl _ => "bool" | .int _ => "int" | .str _ => "str" | .tup _ => "tuple" | .lst _ => "list" | .ref _ => "list" | .fro _ => "list" | .sref _ => "set"
def isiB (T : String) (d : D) : Bool := (kitB (tyN d) T).getD false
def isInt : D → Bool | .int _ => true | .bl _ => true | _ => false
def isBool : D → Bool | .bl _ => true | _ => false
def isTup : D → Bool | .tup _ => true | _ => false
def isStr : D → Bool | .str _ => true | _ => false
def isLst : D → Bool | .lst _ => true | .ref _ => true | .fro _ => true | _ => false
def isiF (p : D → Bool) (f : EF) : EF := fun en st => (f en st).bind fun d st1 => .ok (.bl (p d)) st1
theorem kit_int (d : D) : kitB (tyN d) "int" = some (isInt d) := by cases d <;> (dsimp only [tyN, isInt]; decide +kernel)
theorem kit_bool (d : D) : kitB (tyN d) "bool" = some (isBool d) := by cases d <;> (dsimp only [tyN, isBool]; decide +kernel)
theorem kit_tup (d : D) : kitB (tyN d) "tuple" = some (isTup d) := by cases d <;> (dsimp only [tyN, isTup]; decide +kernel)
theorem kit_str (d : D) : kitB (tyN d) "str" = some (isStr d) := by cases d <;> (dsimp only [tyN, isStr]; decide +kernel)
theorem kit_lst (d : D) : kitB (tyN d) "list" = some (isLst d) := by cases d <;> (dsimp only [tyN, isLst]; decide +kernel)
/-- .. of sets too -/
def TyY (K : PySem.W.Frag) (w : World) (H : Hp) (v : V) (t : Value) : Prop := TyX K H v t ∨ ∃ a S n, v = .ref a ∧ H a = some (SetO w a S n) ∧ t = .type "set"
def rIsiY (K : PySem.W.Frag) (w : World) : List V → Hp → VK → Prop := fun xs H Q => ∃ (x c : V) (t u : Value) (b : Bool), xs = [x, c] ∧ ClsV c u ∧ TyY K w H x t ∧ PySem.W.kitOne K t u = some b ∧ Q (.bl b) H
theorem call_isiY {X : Cx} : CallR X (.builtin "isinstance") (rIsiY X.K X.w) := by
  intro pins s σ H xs us Q I r ⟨x, c, t, u, b, e1, k, ty, e, q⟩
  rcases ty with ty | ⟨a, S, n, rfl, ha, rfl⟩
  · exact call_isi pins s σ H xs us Q I r ⟨x, c, t, u, b, e1, k, ty, e, q⟩
  · subst e1
    obtain ⟨u1, u2, rfl, r1, r2⟩ := vals2 r
    obtain rfl : u1 = Value.ref a := r1
    obtain rfl := k.eq r2
    obtain ⟨o, es, ep, tb, ho, ex, _⟩ := setO_get I ha
    exact PySem.W.kia_one PySem.W.kitx_set I.kIn ⟨o, ho, ex.1⟩ e (fun z => nomatch z) fun tk => ⟨.bl b, H, I.tok tk, rfl, q⟩
theorem tyX_at {K : PySem.W.Frag} {w : World} {z : Z} {H : Hp} {st : Sto} {v : V} {d : D} (hw : Tabs.wd = some w) (r : RelH K z H st) (p : Rep K z H v d) : TyY K w H v (.type (tyN d)) := by
  cases p with
  | non => exact .inl <| .base .non
  | bl b => exact .inl <| .base (.bl b)
  | int i => exact .inl <| .base (.int i)
  | str x => exact .inl <| .base (.str x)
  | tup t rs =>
    rcases t with ⟨_, t | ⟨o, t⟩⟩ | ⟨o, its, n, h1, h2, _⟩
    · exact .inl <| .base (.tup t)
    · exact .inl <| .fTuple t
    · exact .inl <| .kTuple h1 h2
  | lst f e rs => exact .inl <| .base (.lst e)
  | fro t rs =>
    rcases t with ⟨_, t | ⟨o, t⟩⟩ | ⟨o, its, n, h1, h2, _⟩
    · exact .inl <| .base (.lst t)
    · exact .inl <| .base (.frz t)
    · exact .inl <| .kList h1 h2
  | @ref a n hn hk =>
    obtain ⟨ds, xs, _, h, _⟩ := r.isL hn hk
    exact .inl <| .base (.lst h)
  | @sref a n hn hk =>
    obtain ⟨S, w', _, h1, h2⟩ := r.isS hn hk
    rw [hw] at h1
    cases h1
    exact .inr ⟨a, _, _, rfl, h2, rfl⟩
section
variable {X : Cx} {xm : List Addr} {W : WX} {k : Nat} {a : Expr} {f : EF} {p p2 pos : Pos} {T : String} {x : Str}
theorem sn_isi {pr : D → Bool} (G : GX X xm W k) (hk : ∀ d, kitB (tyN d) T = some (pr d)) (ha : PE X a (TEf X.K xm W f)) (hg : Gl X "isinstance") (hm : X.mg "isinstance" = none) (hg2 : Gl X x) (hm2 : X.mg x = none) (hv2 : bootBuiltins x = some (.type T))
    (hn2 : x ≠ "__name__" := by decide) (hdb2 : (x == ("__debug__" : Str)) = false := by decide)
    (he : starEach [a, .Name x p2] X.env = (false, eval a X.env) :: starEach [.Name x p2] X.env := by rfl) (hpl : (backTo pos (starEach [.Name x p2] X.env)).any (·.1) = false := by rfl) (he2 : starEach [.Name x p2] X.env = (false, eval (.Name x p2) X.env) :: starEach [] X.env := by rfl) :
    PE X (.Call (.Name "isinstance" p) [a, .Name x p2] [] pos) (TEf X.K xm W (isiF pr f)) :=
  (pe_callB call_isiY hg hm (by decide +kernel) (pa_cons ha (pa_cons (pe_bltn (v := .ty T) hg2 hm2 hv2 rfl hn2 hdb2) pa_nil he2) he) (by decide) (by decide) he hpl).imp fun σ H Q ⟨z, en, st, rh, re, h⟩ => by
    refine seqE' rh re (wp_bind.mp h) fun d1 st1 v1 z1 H1 q1 e1 r1 re1 p1 => ?_
    exact ⟨v1, .ty T, .type (tyN d1), .type T, pr d1, rfl, .ty T, tyX_at G.wd r1 p1, kit_ty (hk d1), q1 _ z1 H1 e1 r1 (.bl _)⟩
end
end Ev

namespace Ev
open PySem PySem.Spec PyProof.Rows L2 RZ
variable [Tabs]

/-! ## what is walked -/
def seqI (f : EF) : IF := fun en st => (f en st).bind fun d st1 => match d with
  | .tup ds => .ok (.items ds) st1
  | .lst ds => .ok (.items ds) st1
  | .fro ds => .ok (.items ds) st1
  | .ref n => .ok (.cell n) st1
  | _ => .bad
def rangeD (lo : Int) (n : Nat) : List D := (List.range n).map fun i => .int (lo + (i : Nat))
def bnd (j : Int) : Bool := decide (-(2 ^ 62) ≤ j) && decide (j < 2 ^ 62)
def rng1I (fs : AF) : IF := fun en st => (fs en st).bind fun ds st1 => match ds with
  | [.int j] => if bnd j then .ok (.items (rangeD 0 j.toNat)) st1 else .bad
  | _ => .bad
def rng2I (fs : AF) : IF := fun en st => (fs en st).bind fun ds st1 => match ds with
  | [.int i, .int j] => if bnd i && bnd j then .ok (.items (rangeD i (j - i).toNat)) st1 else .bad
  | _ => .bad
def frz : D → Option (List D)
  | .lst ds => some ds
  | .fro ds => some ds
  | _ => none
def enumF (n : Nat) : List D → List D
  | [] => []
  | d :: r => .tup [.int (n : Nat), d] :: enumF (n + 1) r
def enumI (fs : AF) : IF := fun en st => (fs en st).bind fun ds st1 => match ds with
  | [d] => match frz d with
    | some es => .ok (.items (enumF 0 es)) st1
    | none => .bad
  | _ => .bad
def zipF : List D → List D → List D
  | a :: r, b :: s => .tup [a, b] :: zipF r s
  | _, _ => []
def zipI (fs : AF) : IF := fun en st => (fs en st).bind fun ds st1 => match ds with
  | [.tup a, .tup b] => .ok (.items (zipF a b)) st1
  | [a, b] => match frz a, frz b with
    | some x, some y => .ok (.items (zipF x y)) st1
    | _, _ => .bad
  | _ => .bad
theorem enumF_get : ∀ (n i : Nat) (ds : List D) (d : D), (enumF n ds)[i]? = some d → ∃ e, ds[i]? = some e ∧ d = .tup [.int ((n + i : Nat)), e]
  | n, 0, a :: r, d, h => ⟨a, rfl, (Option.some.inj h).symm⟩
  | n, i + 1, a :: r, d, h => by
    obtain ⟨e, h1, h2⟩ := enumF_get (n + 1) i r d h
    exact ⟨e, h1, by rw [h2]; congr 3; omega⟩
  | n, i, [], d, h => by simp [enumF] at h
theorem enumF_length : ∀ (n : Nat) (ds : List D), (enumF n ds).length = ds.length
  | _, [] => rfl
  | n, _ :: r => congrArg (· + 1) (enumF_length (n + 1) r)
theorem zipF_get : ∀ (i : Nat) (as bs : List D) (d : D), (zipF as bs)[i]? = some d → ∃ a b, as[i]? = some a ∧ bs[i]? = some b ∧ d = .tup [a, b]
  | 0, a :: r, b :: s, d, h => ⟨a, b, rfl, rfl, (Option.some.inj h).symm⟩
  | i + 1, a :: r, b :: s, d, h => zipF_get i r s d h
  | i, [], _, d, h => by simp [zipF] at h
  | i, _ :: _, [], d, h => by simp [zipF] at h
theorem zipF_length : ∀ (as bs : List D), (zipF as bs).length = min as.length bs.length
  | a :: r, b :: s => by
    show (zipF r s).length + 1 = min (r.length + 1) (s.length + 1)
    rw [zipF_length r s]
    omega
  | [], _ => by simp [zipF]
  | _ :: _, [] => by simp [zipF]
theorem PI.orr {X : Cx} {tg l : Expr} {t t' : TI} (h : PI X tg l t) (h' : PI X tg l t') : PI X tg l (fun σ H R => t σ H R ∨ t' σ H R) := ⟨fun pins s σ H R I q => q.elim (h.run pins s σ H R I) (h'.run pins s σ H R I)⟩
theorem _root_.L2.PI.imp {X : Cx} {tg l : Expr} {t t' : TI} (h : PI X tg l t) (w : ∀ σ H R, t' σ H R → t σ H R) : PI X tg l t' := ⟨fun pins s σ H R I q => h.run pins s σ H R I (w σ H R q)⟩
section
variable {K : PySem.W.Frag} {z : Z} {H : Hp} {a : Addr} {xs : List V} {ds : List D}
theorem itI_tup (t : TupZ K z H a xs) (rs : Reps K z H xs ds) : ItI K z H ds (Itt K a) := fun z1 H1 st e rh => by
  have s := (t.ext0 e).seq
  have r := rs.ext0 e
  refine ⟨fun i hi => ⟨xs, s, by rw [r.length]; exact hi⟩, fun i d hd => ?_⟩
  obtain ⟨v, hv, rv⟩ := r.getD hd
  refine ⟨⟨xs, v, s, hv⟩, fun x H2 y => ⟨z1, ?_⟩⟩
  obtain ⟨rfl, y⟩ := y
  have e2 := y xs s
  rw [hv] at e2
  cases e2
  exact ⟨.refl, rh, rv⟩
theorem itI_lst (t : ∀ z1 H1, Ex0 z H z1 H1 → SqL K H1 a xs) (rs : Reps K z H xs ds) : ItI K z H ds (Itl K a) := fun z1 H1 st e rh => by
  have s := t z1 H1 e
  have r := rs.ext0 e
  refine ⟨fun i hi => ⟨xs, s, by rw [r.length]; exact hi⟩, fun i d hd => ?_⟩
  obtain ⟨v, hv, rv⟩ := r.getD hd
  refine ⟨⟨xs, v, s, hv⟩, fun x H2 y => ⟨z1, ?_⟩⟩
  obtain ⟨rfl, y⟩ := y
  have e2 := y xs s
  rw [hv] at e2
  cases e2
  exact ⟨.refl, rh, rv⟩
theorem frz_at {v : V} {d : D} (p : Rep K z H v d) (h : frz d = some ds) : ∃ a xs, v = .ref a ∧ (∀ z1 H1, Ex0 z H z1 H1 → SqL K H1 a xs) ∧ Reps K z H xs ds := by
  cases p with
  | @lst a xs es f e rs =>
    cases h
    exact ⟨a, xs, rfl, fun z1 H1 x => SqL.of ((x.fz a f).2.trans e), rs⟩
  | @fro a xs es t rs =>
    cases h
    exact ⟨a, xs, rfl, fun z1 H1 x => (t.ext0 x).seq, rs⟩
  | _ => cases h
theorem itC {n : Nat} (hn : z.mu[n]? = some a) : ItC K z H n (Itl K a) := fun z1 H1 st ds e r hc => by
  obtain ⟨xs, hx, rs⟩ := r.cell (e.mu _ _ hn) hc
  refine ⟨fun i hi => ⟨xs, SqL.of hx, by rw [rs.length]; exact hi⟩, fun i d hd => ?_⟩
  obtain ⟨v, hv, rv⟩ := rs.getD hd
  refine ⟨⟨xs, v, SqL.of hx, hv⟩, fun x H2 y => ?_⟩
  obtain ⟨rfl, y⟩ := y
  have e2 := y xs (SqL.of hx)
  rw [hv] at e2
  cases e2
  exact ⟨rfl, rv⟩
theorem itI_rng (lo : Int) (n : Nat) : ItI K z H (rangeD lo n) (Itr lo n) := fun z1 H1 st e rh => by
  have hl : (rangeD lo n).length = n := by simp [rangeD]
  refine ⟨fun i hi => by rw [hl] at hi; exact hi, fun i d hd => ?_⟩
  have hi : i < n := by
    have := (List.getElem?_eq_some_iff.mp hd).1
    omega
  have hd : ((List.range n).map fun i => D.int (lo + (i : Nat)))[i]? = some d := hd
  rw [List.getElem?_map, List.getElem?_range hi] at hd
  have e2 := Option.some.inj hd
  subst e2
  refine ⟨hi, fun x H2 y => ?_⟩
  obtain ⟨rfl, rfl⟩ := y
  exact ⟨z1, .refl, rh, .int _⟩
theorem itI_enum (t : ∀ z1 H1, Ex0 z H z1 H1 → SqL K H1 a xs) (rs : Reps K z H xs ds) : ItI K z H (enumF 0 ds) (Ite K a) := fun z1 H1 st e rh => by
  have s := t z1 H1 e
  have r := rs.ext0 e
  refine ⟨fun i hi => ⟨xs, s, by rw [enumF_length] at hi; rw [r.length]; exact hi⟩, fun i d hd => ?_⟩
  obtain ⟨w, hw, rfl⟩ := enumF_get 0 i ds d hd
  obtain ⟨v, hv, rv⟩ := r.getD hw
  refine ⟨⟨xs, v, s, hv⟩, fun x H2 y => ?_⟩
  obtain ⟨T, x', rfl, nT, rfl, y⟩ := y
  have e2 := y xs s
  rw [hv] at e2
  cases e2
  have x2 := ext_add (o := .tup [.int (i : Nat), v]) rh nT
  refine ⟨z1.add T, x2, rh.add nT, .tup (.inl ⟨.inr rfl, .inl upd_same⟩) ?_⟩
  rw [Nat.zero_add]
  exact .cons (.int _) (.cons (rv.ext x2) .nil)
theorem itI_zip {b : Addr} {ys : List V} {es : List D} {J : It} (hJ : (J = Itz K a b ∧ (∀ z1 H1, Ex0 z H z1 H1 → SqL K H1 a xs) ∧ ∀ z1 H1, Ex0 z H z1 H1 → SqL K H1 b ys) ∨ (J = ItzT K a b ∧ (∀ z1 H1, Ex0 z H z1 H1 → SqT K H1 a xs) ∧ ∀ z1 H1, Ex0 z H z1 H1 → SqT K H1 b ys))
    (rx : Reps K z H xs ds) (ry : Reps K z H ys es) : ItI K z H (zipF ds es) J := fun z1 H1 st e rh => by
  have r1 := rx.ext0 e
  have r2 := ry.ext0 e
  have fin : ∀ (i : Nat) (v w : V) T H2 d, (zipF ds es)[i]? = some d → xs[i]? = some v → ys[i]? = some w → H1 T = none → H2 = upd H1 T (.tup [v, w]) → ∃ z2, Ext z1 H1 z2 H2 ∧ RelH K z2 H2 st ∧ Rep K z2 H2 (.ref T) d := fun i v w T H2 d hd hv hw nT e2 => by
    obtain ⟨p, q, hp, hq, rfl⟩ := zipF_get i ds es d hd
    obtain ⟨v', hv', rv⟩ := r1.getD hp
    obtain ⟨w', hw', rw'⟩ := r2.getD hq
    rw [hv] at hv'
    rw [hw] at hw'
    cases hv'
    cases hw'
    subst e2
    have x2 := ext_add (o := .tup [v, w]) rh nT
    exact ⟨z1.add T, x2, rh.add nT, .tup (.inl ⟨.inr rfl, .inl upd_same⟩) (.cons (rv.ext x2) (.cons (rw'.ext x2) .nil))⟩
  have stop : ∀ i, (zipF ds es).length ≤ i → xs.length ≤ i ∨ ys.length ≤ i := fun i hi => by
    rw [zipF_length] at hi
    rw [r1.length, r2.length]
    omega
  rcases hJ with ⟨rfl, s1, s2⟩ | ⟨rfl, s1, s2⟩
  · have s1 := s1 z1 H1 e
    have s2 := s2 z1 H1 e
    refine ⟨fun i hi => ⟨xs, ys, s1, s2, stop i hi⟩, fun i d hd => ?_⟩
    obtain ⟨p, q, hp, hq, e3⟩ := zipF_get i ds es d hd
    obtain ⟨v, hv, _⟩ := r1.getD hp
    obtain ⟨w, hw, _⟩ := r2.getD hq
    refine ⟨⟨xs, ys, v, w, s1, s2, hv, hw⟩, fun x H2 y => ?_⟩
    obtain ⟨T, x', y', rfl, nT, e2, f1, f2⟩ := y
    exact fin i x' y' T H2 d hd (f1 xs s1) (f2 ys s2) nT e2
  · have s1 := s1 z1 H1 e
    have s2 := s2 z1 H1 e
    refine ⟨fun i hi => ⟨xs, ys, s1, s2, stop i hi⟩, fun i d hd => ?_⟩
    obtain ⟨p, q, hp, hq, e3⟩ := zipF_get i ds es d hd
    obtain ⟨v, hv, _⟩ := r1.getD hp
    obtain ⟨w, hw, _⟩ := r2.getD hq
    refine ⟨⟨xs, ys, v, w, s1, s2, hv, hw⟩, fun x H2 y => ?_⟩
    obtain ⟨T, x', y', rfl, nT, e2, f1, f2⟩ := y
    exact fin i x' y' T H2 d hd (f1 xs s1) (f2 ys s2) nT e2
end
section
variable {X : Cx} {xm : List Addr} {W : WX} {k : Nat} {a b c e e2 l tg : Expr} {es elts : List Expr} {f g : EF} {fs : AF} {p pos tpos : Pos} {kk : Nat}
theorem si_seq (hl : PE X l (TEf X.K xm W f)) : PI X tg l (TIf X.K xm W (seqI f)) :=
  (PI.orr (pi_tup hl) (pi_list hl)).imp fun σ H Rq ⟨z, en, st, rh, re, h⟩ => by
    have h := wp_bind.mp h
    cases q : f en st with
    | bad =>
      rw [q] at h
      exact h.elim
    | ex c p st1 =>
      rw [q] at h
      exact .inl (seqE' (k := fun _ _ => False) rh re (by rw [q]; exact h) fun _ _ _ _ _ w => w.elim)
    | ok d st1 =>
      rw [q] at h
      have go : ∀ (t : TE → TI), True := fun _ => trivial
      cases d with
      | tup ds =>
        refine .inl (seqE' (k := fun d' st' => d' = .tup ds ∧ st' = st1) rh re (by rw [q]; exact ⟨rfl, rfl⟩) fun d' st' v z1 H1 w e1 r1 re1 p1 => ?_)
        obtain ⟨rfl, rfl⟩ := w
        cases p1 with
        | @tup a xs _ t rs => exact ⟨a, rfl, ⟨xs, t.seq⟩, h _ z1 H1 e1 r1 (itI_tup t rs)⟩
      | lst ds =>
        refine .inr (seqE' (k := fun d' st' => d' = .lst ds ∧ st' = st1) rh re (by rw [q]; exact ⟨rfl, rfl⟩) fun d' st' v z1 H1 w e1 r1 re1 p1 => ?_)
        obtain ⟨rfl, rfl⟩ := w
        obtain ⟨a, xs, rfl, t, rs⟩ := frz_at p1 rfl
        exact ⟨a, rfl, ⟨xs, t z1 H1 Ext.refl.toEx0⟩, h _ z1 H1 e1 r1 (itI_lst t rs)⟩
      | fro ds =>
        refine .inr (seqE' (k := fun d' st' => d' = .fro ds ∧ st' = st1) rh re (by rw [q]; exact ⟨rfl, rfl⟩) fun d' st' v z1 H1 w e1 r1 re1 p1 => ?_)
        obtain ⟨rfl, rfl⟩ := w
        obtain ⟨a, xs, rfl, t, rs⟩ := frz_at p1 rfl
        exact ⟨a, rfl, ⟨xs, t z1 H1 Ext.refl.toEx0⟩, h _ z1 H1 e1 r1 (itI_lst t rs)⟩
      | ref n =>
        refine .inr (seqE' (k := fun d' st' => d' = .ref n ∧ st' = st1) rh re (by rw [q]; exact ⟨rfl, rfl⟩) fun d' st' v z1 H1 w e1 r1 re1 p1 => ?_)
        obtain ⟨rfl, rfl⟩ := w
        cases p1 with
        | @ref a _ hn hk =>
          have hl : n < st'.length := r1.len ▸ (List.getElem?_eq_some_iff.mp hn).1
          have hc : st'[n]? = some st'[n] := List.getElem?_eq_getElem hl
          cases w : st'[n] with
          | set S =>
            have kk := r1.knd n _ hc
            rw [w, hk] at kk
            cases kk
          | lst ds =>
            rw [w] at hc
            obtain ⟨xs, hx, _⟩ := r1.cell hn hc
            exact ⟨a, rfl, ⟨xs, SqL.of hx⟩, h _ z1 H1 e1 r1 (itC hn)⟩
      | _ => exact h.elim
theorem bnd_ok {j : Int} (h : bnd j = true) : -(2 ^ 62) ≤ j ∧ j < 2 ^ 62 := by
  unfold bnd at h
  simp only [Bool.and_eq_true, decide_eq_true_eq] at h
  exact h
theorem si_rng1 (hg : Gl X "range") (hm : X.mg "range" = none) (ha : PA X [a] (TAf X.K xm W fs)) (hs : starEach [a] X.env = [(false, eval a X.env)] := by rfl) : PI X tg (.Call (.Name "range" p) [a] [] pos) (TIf X.K xm W (rng1I fs)) :=
  (pi_range1 hg hm ha hs).imp fun σ H Rq ⟨z, en, st, rh, re, h⟩ => by
    refine seqA' rh re (wp_bind.mp h) fun d1 st1 v1 z1 H1 q1 e1 r1 re1 p1 => ?_
    match d1, p1, q1 with
    | [.int j], .cons (.int _) .nil, q1 =>
      by_cases hb : bnd j = true
      · simp only [if_pos hb] at q1
        obtain ⟨b1, b2⟩ := bnd_ok hb
        exact ⟨j, rfl, b1, b2, q1 _ z1 H1 e1 r1 (itI_rng 0 _)⟩
      · simp only [if_neg hb] at q1
        exact q1.elim
theorem si_rng2 (hg : Gl X "range") (hm : X.mg "range" = none) (ha : PA X [a, b] (TAf X.K xm W fs)) (hs : starEach [a, b] X.env = [(false, eval a X.env), (false, eval b X.env)] := by rfl) (hs2 : starEach [b] X.env = [(false, eval b X.env)] := by rfl) :
    PI X tg (.Call (.Name "range" p) [a, b] [] pos) (TIf X.K xm W (rng2I fs)) :=
  (pi_range2 hg hm ha hs hs2).imp fun σ H Rq ⟨z, en, st, rh, re, h⟩ => by
    refine seqA' rh re (wp_bind.mp h) fun d1 st1 v1 z1 H1 q1 e1 r1 re1 p1 => ?_
    match d1, p1, q1 with
    | [.int i, .int j], .cons (.int _) (.cons (.int _) .nil), q1 =>
      by_cases hb : (bnd i && bnd j) = true
      · simp only [if_pos hb] at q1
        rw [Bool.and_eq_true] at hb
        obtain ⟨b1, b2⟩ := bnd_ok hb.1
        obtain ⟨b3, b4⟩ := bnd_ok hb.2
        exact ⟨i, j, rfl, ⟨b1, b2, b3, b4⟩, q1 _ z1 H1 e1 r1 (itI_rng i _)⟩
      · simp only [if_neg hb] at q1
        exact q1.elim
theorem si_enum (hg : Gl X "enumerate") (hm : X.mg "enumerate" = none) (ha : PA X [e] (TAf X.K xm W fs)) (hs : starEach [e] X.env = [(false, eval e X.env)] := by rfl) : PI X (.Tuple elts kk tpos) (.Call (.Name "enumerate" p) [e] [] pos) (TIf X.K xm W (enumI fs)) :=
  (pi_enum hg hm ha hs).imp fun σ H Rq ⟨z, en, st, rh, re, h⟩ => by
    refine seqA' rh re (wp_bind.mp h) fun d1 st1 v1 z1 H1 q1 e1 r1 re1 p1 => ?_
    match d1, p1, q1 with
    | [d], .cons p1 .nil, q1 =>
      cases hf : frz d with
      | none =>
        simp only [hf] at q1
        exact q1.elim
      | some ds =>
        simp only [hf] at q1
        obtain ⟨a, xs, rfl, t, rs⟩ := frz_at p1 hf
        exact ⟨a, xs, rfl, t z1 H1 Ext.refl.toEx0, q1 _ z1 H1 e1 r1 (itI_enum t rs)⟩
theorem si_zip (hg : Gl X "zip") (hm : X.mg "zip" = none) (ha : PA X [e, e2] (TAf X.K xm W fs)) (hs : starEach [e, e2] X.env = (false, eval e X.env) :: starEach [e2] X.env := by rfl) (hpl : (backTo pos (starEach [e2] X.env)).any (·.1) = false := by rfl) :
    PI X (.Tuple elts kk tpos) (.Call (.Name "zip" p) [e, e2] [] pos) (TIf X.K xm W (zipI fs)) :=
  (pi_zipA hg hm ha hs hpl).imp fun σ H Rq ⟨z, en, st, rh, re, h⟩ => by
    refine seqA' rh re (wp_bind.mp h) fun d1 st1 v1 z1 H1 q1 e1 r1 re1 p1 => ?_
    have tups : ∀ a b, d1 = [.tup a, .tup b] → (∀ J z' H', Ext z H z' H' → RelH X.K z' H' st1 → ItR X.K z' H' J (.items (zipF a b)) → Rq J H') → ∃ (a b : Addr) (xs ys : List V), v1 = [V.ref a, V.ref b] ∧ ((SqL X.K H1 a xs ∧ SqL X.K H1 b ys ∧ Rq (Itz X.K a b) H1) ∨ (SqT X.K H1 a xs ∧ SqT X.K H1 b ys ∧ Rq (ItzT X.K a b) H1)) := by
      rintro a b rfl q
      match p1 with
      | .cons (.tup t1 r1') (.cons (.tup t2 r2') .nil) =>
        exact ⟨_, _, _, _, rfl, .inr ⟨t1.seq, t2.seq, q _ z1 H1 e1 r1 (itI_zip (.inr ⟨rfl, fun _ _ x => (t1.ext0 x).seq, fun _ _ x => (t2.ext0 x).seq⟩) r1' r2')⟩⟩
    have lsts : ∀ a b x y, d1 = [a, b] → frz a = some x → frz b = some y → (∀ J z' H', Ext z H z' H' → RelH X.K z' H' st1 → ItR X.K z' H' J (.items (zipF x y)) → Rq J H') → ∃ (a b : Addr) (xs ys : List V), v1 = [V.ref a, V.ref b] ∧ ((SqL X.K H1 a xs ∧ SqL X.K H1 b ys ∧ Rq (Itz X.K a b) H1) ∨ (SqT X.K H1 a xs ∧ SqT X.K H1 b ys ∧ Rq (ItzT X.K a b) H1)) := by
      rintro a b x y rfl f1 f2 q
      match p1 with
      | .cons p1 (.cons p2 .nil) =>
        obtain ⟨a, xs, rfl, t1, r1'⟩ := frz_at p1 f1
        obtain ⟨b, ys, rfl, t2, r2'⟩ := frz_at p2 f2
        exact ⟨a, b, xs, ys, rfl, .inl ⟨t1 z1 H1 Ext.refl.toEx0, t2 z1 H1 Ext.refl.toEx0, q _ z1 H1 e1 r1 (itI_zip (.inl ⟨rfl, t1, t2⟩) r1' r2')⟩⟩
    match d1, q1, tups, lsts with
    | [], q1, _, _ => exact q1.elim
    | [a], q1, _, _ => cases a <;> exact q1.elim
    | [a, b], q1, tups, lsts =>
      cases a <;> cases b <;> first
        | exact q1.elim
        | exact tups _ _ rfl q1
        | exact lsts _ _ _ _ rfl rfl rfl q1
    | a :: b :: c :: r, q1, _, _ => cases a <;> cases b <;> exact q1.elim
end
end Ev

namespace Ev
open PySem PySem.Spec PyProof.Rows L2 RZ
variable [Tabs]

/-! ## comprehensions: a frozen list; nothing may be raised within -/
def W0 : WX := fun _ _ _ _ => False
def wipeE (en : En) : List Nat → En
  | [] => en
  | v :: vs => (wipeE en vs).set v none
def lcI (own : List Nat) (g : GF) (t : TF) (elt : EF) : List D → En → Sto → R (List D)
  | [], _, st => .ok [] st
  | d :: r, en, st => match g d st (wipeE en own) with
    | none => .bad
    | some en1 => match t en1 st with
      | .ok true st1 => match elt en1 st1 with
        | .ok y st2 => (lcI own g t elt r en st2).bind fun ys st3 => .ok (y :: ys) st3
        | _ => .bad
      | .ok false st1 => lcI own g t elt r en st1
      | _ => .bad
def lcC (own : List Nat) (g : GF) (t : TF) (elt : EF) (n : Nat) : Nat → Nat → En → Sto → R (List D)
  | 0, _, _, _ => .bad
  | m + 1, i, en, st => match st[n]? with
    | none => .bad
    | some (.set _) => .bad
    | some (.lst ds) => match ds[i]? with
      | none => .ok [] st
      | some d => match g d st (wipeE en own) with
        | none => .bad
        | some en1 => match t en1 st with
          | .ok true st1 => match elt en1 st1 with
            | .ok y st2 => (lcC own g t elt n m (i + 1) en st2).bind fun ys st3 => .ok (y :: ys) st3
            | _ => .bad
          | .ok false st1 => lcC own g t elt n m (i + 1) en st1
          | _ => .bad
def lcY (own : List Nat) (g : GF) (t : TF) (elt : EF) (nx : Nat → Sto → Option (Option D)) : Nat → Nat → En → Sto → R (List D)
  | 0, _, _, _ => .bad
  | m + 1, i, en, st => match nx i st with
    | none => .bad
    | some none => .ok [] st
    | some (some d) => match g d st (wipeE en own) with
      | none => .bad
      | some en1 => match t en1 st with
        | .ok true st1 => match elt en1 st1 with
          | .ok y st2 => (lcY own g t elt nx m (i + 1) en st2).bind fun ys st3 => .ok (y :: ys) st3
          | _ => .bad
        | .ok false st1 => lcY own g t elt nx m (i + 1) en st1
        | _ => .bad
def yesT : TF := fun _ st => .ok true st
def lcG (own : List Nat) (g : GF) (t : TF) (elt : EF) (itf : IF) : AF := fun en st => (itf en st).bind fun it st1 => match it with
  | .items ds => if ds.length ≤ sizeLine then lcI own g t elt ds en st1 else .bad
  | .cell n => if cellLen n st1 < 1000000 then lcC own g t elt n (cellLen n st1 + 1) 0 en st1 else .bad
  | .dyn fuel nx => if fuel < 1000000 then lcY own g t elt nx fuel 0 en st1 else .bad
def lcF (own : List Nat) (g : GF) (t : TF) (elt : EF) (itf : IF) : EF := fun en st => (lcG own g t elt itf en st).bind fun ds st1 => .ok (.lst ds) st1
theorem wipeE_get {en : En} {i : Nat} {d : D} : ∀ {vs : List Nat}, (wipeE en vs)[i]? = some (some d) → en[i]? = some (some d) ∧ i ∉ vs
  | [], h => ⟨h, by simp⟩
  | v :: vs, h => by
    have h : ((wipeE en vs).set v none)[i]? = some (some d) := h
    by_cases e : v = i
    · subst e
      by_cases l : v < (wipeE en vs).length
      · rw [List.getElem?_set_self l] at h
        cases h
      · rw [List.getElem?_eq_none (by rw [List.length_set]; omega)] at h
        cases h
    · rw [List.getElem?_set_ne e] at h
      obtain ⟨a, b⟩ := wipeE_get h
      exact ⟨a, by rw [List.mem_cons, not_or]; exact ⟨fun q => e q.symm, b⟩⟩
theorem wipe_keep {σ : L2.St} {i : Nat} {x : V} (h : σ[i]? = some (some x)) : ∀ {vs : List Nat}, i ∉ vs → (wipe σ vs)[i]? = some (some x)
  | [], _ => h
  | v :: vs, n => by
    rw [List.mem_cons, not_or] at n
    show ((wipe σ vs).set v none)[i]? = some (some x)
    rw [List.getElem?_set_ne (fun e => n.1 e.symm)]
    exact wipe_keep h n.2
theorem wipeE_length (en : En) : ∀ vs : List Nat, (wipeE en vs).length = en.length
  | [] => rfl
  | v :: vs => by
    show ((wipeE en vs).set v none).length = _
    rw [List.length_set, wipeE_length en vs]
theorem RelE.wipe {K : PySem.W.Frag} {z : Z} {H : Hp} {σ : L2.St} {en : En} (h : RelE K z H σ en) (vs : List Nat) : RelE K z H (L2.wipe σ vs) (wipeE en vs) := by
  refine ⟨by rw [wipe_length, wipeE_length, h.1], fun i d q => ?_⟩
  obtain ⟨a, b⟩ := wipeE_get q
  obtain ⟨v, hv, r⟩ := h.2 i d a
  exact ⟨v, wipe_keep hv b, r⟩
theorem wipe_idem (σ : L2.St) (vs : List Nat) : L2.wipe (L2.wipe σ vs) vs = L2.wipe σ vs := by
  have one : ∀ (us : List Nat) (τ : L2.St), (∀ v ∈ us, v ∈ vs) → L2.wipe (L2.wipe τ us) vs = L2.wipe τ vs := by
    intro us
    induction us with
    | nil => intro τ _; rfl
    | cons u us ih =>
      intro τ h
      show L2.wipe ((L2.wipe τ us).set u none) vs = _
      rw [wipe_set (h u List.mem_cons_self)]
      exact ih τ fun v hv => h v (List.mem_cons_of_mem _ hv)
  exact one vs σ fun _ h => h
def TTs (K : PySem.W.Frag) (xm : List Addr) (t : TF) : TT := TTf K xm W0 t
section
variable {X : Cx} {xm : List Addr} {W : WX} {k : Nat} {elt tg iter c : Expr} {ifs : List Expr} {scope : Scope} {own : List (Str × Nat)} {pos : Pos} {f : EF} {t : TF} {gf : GF} {itf : IF}
theorem GX.blk (G : GX X xm W k) (s : Shared) (H : Hp) (scope : Scope) (cenv : Env) (fp : List Addr) : GX (X.blk s H scope cenv fp) xm W0 k := ⟨takes0, PassesOwn.never, G.rm, G.gd, G.nd, G.cm, G.wd⟩
theorem st_yes : PTs X [] (TTf X.K xm W yesT) := ⟨fun pins s σ H Q I ⟨z, en, st, rh, re, h⟩ => pts_nil.run pins s σ H Q I (h z H .refl rh)⟩
theorem st_one (h : PT X c (TTf X.K xm W t)) : PTs X [c] (TTf X.K xm W t) := pts_one h
theorem lc_read {K : PySem.W.Frag} {vs : List Nat} (σ : L2.St) (H : Hp) (Q : VK) (q : TEf K xm W (lcF vs gf t f itf) σ H Q) : tLc (TIf K xm W itf) (TGf K vs gf) (TTf K xm W0 t) (TEf K xm W0 f) vs σ H Q := by
  obtain ⟨z, en, st, rh, re, h⟩ := q
  have h := wp_bind.mp (wp_bind.mp h)
  refine ⟨z, en, st, rh, re, wp_mono h (fun it st1 q J z1 H1 e1 r1 hJ dA nD => ?_) fun _ _ _ q => q⟩
  have re1 := re.ext e1
  -- what holds between two turns
  let Pv : List D → Z → Hp → Sto → Prop := fun acc z2 H2 st2 => Ext z1 H1 z2 H2 ∧ RelH K z2 H2 st2 ∧ dA ∉ z2.mu ∧ ¬ z2.fz dA ∧ ∃ xs, H2 dA = some (.lst xs) ∧ Reps K z2 H2 xs acc
  have nD1 : dA ∉ z1.mu := r1.nin nD
  have fD1 : ¬ z1.fz dA := fun w => r1.fz dA w nD
  have start : Pv [] z1 (upd H1 dA (.lst [])) st1 := ⟨ext_by r1 nD, r1.off fD1 nD1 (fun w => (r1.tb dA w).1.live nD), nD1, fD1, [], upd_same, .nil⟩
  -- within a turn, the data of the block's own is laid; then D is as it was
  have move : ∀ {acc z2 H2 st2 z3 H3 st3}, Pv acc z2 H2 st2 → Ext z2 H2 z3 H3 → RelH K z3 H3 st3 → Pv acc z3 H3 st3 := by
    rintro acc z2 H2 st2 z3 H3 st3 ⟨a, b, c, d, xs, hx, rs⟩ e r
    have l : H2 dA ≠ none := by rw [hx]; simp
    refine ⟨a.trans e, r, fun w => (e.nw dA w).elim c l, fun w => (e.nf dA w).elim d l, xs, (e.fr dA l c (fun w => (b.tb dA w).1.no hx)).trans hx, rs.ext e⟩
  have grow : ∀ {acc z2 H2 st2 v d}, Pv acc z2 H2 st2 → Rep K z2 H2 v d → ∃ xs, H2 dA = some (.lst xs) ∧ xs.length = acc.length ∧ Pv (acc ++ [d]) z2 (upd H2 dA (.lst (xs ++ [v]))) st2 := by
    rintro acc z2 H2 st2 v d ⟨a, b, c, d', xs, hx, rs⟩ rv
    have x0 : Ex0 z2 H2 z2 (upd H2 dA (.lst (xs ++ [v]))) := ex0_off d'
    exact ⟨xs, hx, rs.length, a.off nD d', b.off d' c (fun w => (b.tb dA w).1.no hx), c, d', xs ++ [v], upd_same, (rs.ext0 x0).append (.cons (rv.ext0 x0) .nil)⟩
  have done : ∀ {acc z2 H2 st2}, Pv acc z2 H2 st2 → okD K z H Q (.lst acc) st2 → Q (.ref dA) H2 := by
    rintro acc z2 H2 st2 ⟨a, b, c, d, xs, hx, rs⟩ ok
    have l : H2 dA ≠ none := by rw [hx]; simp
    have x0 : Ex0 z2 H2 (z2.add dA) H2 := ⟨fun _ _ q => q, fun _ q => ⟨.inl q, rfl⟩, fun _ _ _ => rfl⟩
    have b1 : Ext z1 H1 (z2.add dA) H2 := ⟨⟨a.mu, fun x w => ⟨.inl (a.fz x w).1, (a.fz x w).2⟩, a.kd⟩, a.fr, a.nw, fun x w => w.elim (a.nf x) fun e => .inr (e ▸ nD), a.lv, a.tb⟩
    have b2 : RelH K (z2.add dA) H2 st2 := ⟨b.len, b.nd, fun x hx w => w.elim (b.nfz x hx) fun e => c (e ▸ hx), fun x w => w.elim (b.fz x) fun e => e ▸ l, fun i x cl hi hc => (b.cells i x cl hi hc).ext0 x0 rfl, fun P hP => ⟨(b.tb P hP).1, (b.tb P hP).2.1, fun w => w.elim (b.tb P hP).2.2 fun e => TabH.no (e ▸ (b.tb P hP).1) hx⟩, b.tbk, b.knd⟩
    exact ok _ (z2.add dA) H2 (e1.trans b1) b2 (.lst (.inr rfl) hx (rs.ext0 x0))
  cases it with
  | items ds =>
    have hJ : ItI K z1 H1 ds J := hJ
    by_cases hl : ds.length ≤ sizeLine
    · simp only [if_pos hl] at q
      refine ⟨fun i m H2 => m = ds.length - i ∧ i ≤ ds.length ∧ ∃ acc z2 st2, acc.length ≤ i ∧ Pv acc z2 H2 st2 ∧ (lcI vs gf t f (ds.drop i) en st2).wp (fun ys st3 => okD K z H Q (.lst (acc ++ ys)) st3) (fun _ _ _ => True), ⟨ds.length, rfl, Nat.zero_le _, [], z1, st1, Nat.le_refl _, start, wp_mono q (fun ys st3 q => q) fun _ _ _ _ => trivial⟩, ?_⟩
      rintro i m H2 ⟨rfl, hi, acc, z2, st2, la, pv, w⟩
      obtain ⟨js, jg⟩ := hJ z2 H2 st2 pv.1.toEx0 pv.2.1
      by_cases hlt : i < ds.length
      · have hd : ds[i]? = some ds[i] := List.getElem?_eq_getElem hlt
        obtain ⟨go, yl⟩ := jg i _ hd
        rw [List.drop_eq_getElem_cons hlt] at w
        unfold lcI at w
        refine .inr ⟨go, fun H' => ∃ acc z2 st2, acc.length ≤ i + 1 ∧ Pv acc z2 H' st2 ∧ (lcI vs gf t f (ds.drop (i + 1)) en st2).wp (fun ys st3 => okD K z H Q (.lst (acc ++ ys)) st3) (fun _ _ _ => True), fun H' q => ⟨ds.length - (i + 1), by omega, rfl, hlt, q⟩, fun x H3 y => ?_⟩
        obtain ⟨z3, e3, r3, p3⟩ := yl x H3 y
        have pv3 := move pv e3 r3
        cases wg : gf ds[i] st2 (wipeE en vs) with
        | none =>
          simp only [wg] at w
          exact w.elim
        | some en1 =>
          simp only [wg] at w
          refine ⟨z3, wipeE en vs, st2, ds[i], en1, r3, ((re1.ext pv.1).ext e3).wipe vs, p3, wg, fun σ2 re2 hw => ⟨hw.trans (wipe_idem _ _), ?_⟩⟩
          cases wt : t en1 st2 with
          | bad =>
            simp only [wt] at w
            exact w.elim
          | ex c p st3 =>
            simp only [wt] at w
            exact w.elim
          | ok b st3 =>
            simp only [wt] at w
            refine seqT' (k := fun b' st' => b' = b ∧ st' = st3) r3 re2 (by rw [wt]; exact ⟨rfl, rfl⟩) fun b' st' z4 H4 hb e4 r4 re4 => ?_
            obtain ⟨rfl, rfl⟩ := hb
            have pv4 := move pv3 e4 r4
            cases b' with
            | false =>
              exact ⟨acc, z4, st', by omega, pv4, w⟩
            | true =>
              cases wf : f en1 st' with
              | bad =>
                simp only [wf] at w
                exact w.elim
              | ex c p st5 =>
                simp only [wf] at w
                exact w.elim
              | ok y st5 =>
                simp only [wf] at w
                refine seqE' (k := fun y' st' => y' = y ∧ st' = st5) r4 re4 (by rw [wf]; exact ⟨rfl, rfl⟩) fun y' st6 v z5 H5 hb e5 r5 re5 p5 => ?_
                obtain ⟨rfl, rfl⟩ := hb
                obtain ⟨xs, hx, hxl, pv6⟩ := grow (move pv4 e5 r5) p5
                refine ⟨xs, hx, by omega, acc ++ [y'], z5, st6, by rw [List.length_append]; simp; omega, pv6, ?_⟩
                refine wp_mono (wp_bind.mp w) (fun ys st7 q => ?_) fun _ _ _ q => q
                rw [List.append_assoc]
                exact q
      · have e : i = ds.length := by omega
        subst e
        rw [List.drop_length] at w
        have w : okD K z H Q (.lst (acc ++ [])) st2 := w
        rw [List.append_nil] at w
        exact .inl ⟨js _ (Nat.le_refl _), done pv w⟩
    · simp only [if_neg hl] at q
      exact q.elim
  | cell n =>
    have hJ : ItC K z1 H1 n J := hJ
    by_cases hl : cellLen n st1 < 1000000
    · simp only [if_pos hl] at q
      refine ⟨fun i m H2 => i + m ≤ 1000000 ∧ ∃ acc z2 st2, acc.length ≤ i ∧ Pv acc z2 H2 st2 ∧ (lcC vs gf t f n m i en st2).wp (fun ys st3 => okD K z H Q (.lst (acc ++ ys)) st3) (fun _ _ _ => True), ⟨cellLen n st1 + 1, by omega, [], z1, st1, Nat.le_refl _, start, wp_mono q (fun ys st3 q => q) fun _ _ _ _ => trivial⟩, ?_⟩
      rintro i m H2 ⟨hm, acc, z2, st2, la, pv, w⟩
      cases m with
      | zero => exact w.elim
      | succ m =>
        unfold lcC at w
        cases hc : st2[n]? with
        | none =>
          simp only [hc] at w
          exact w.elim
        | some cl =>
          cases cl with
          | set S =>
            simp only [hc] at w
            exact w.elim
          | lst ds =>
            simp only [hc] at w
            obtain ⟨js, jg⟩ := hJ z2 H2 st2 ds pv.1.toEx0 pv.2.1 hc
            cases hd : ds[i]? with
            | none =>
              simp only [hd] at w
              have w : okD K z H Q (.lst (acc ++ [])) st2 := w
              rw [List.append_nil] at w
              exact .inl ⟨js _ (List.getElem?_eq_none_iff.mp hd), done pv w⟩
            | some d =>
              simp only [hd] at w
              obtain ⟨go, yl⟩ := jg i d hd
              refine .inr ⟨go, fun H' => i + 1 + m ≤ 1000000 ∧ ∃ acc z2 st2, acc.length ≤ i + 1 ∧ Pv acc z2 H' st2 ∧ (lcC vs gf t f n m (i + 1) en st2).wp (fun ys st3 => okD K z H Q (.lst (acc ++ ys)) st3) (fun _ _ _ => True), fun H' q => ⟨m, Nat.lt_succ_self m, q⟩, fun x H3 y => ?_⟩
              obtain ⟨rfl, p3⟩ := yl x H3 y
              cases wg : gf d st2 (wipeE en vs) with
              | none =>
                simp only [wg] at w
                exact w.elim
              | some en1 =>
                simp only [wg] at w
                refine ⟨z2, wipeE en vs, st2, d, en1, pv.2.1, (re1.ext pv.1).wipe vs, p3, wg, fun σ2 re2 hw => ⟨hw.trans (wipe_idem _ _), ?_⟩⟩
                cases wt : t en1 st2 with
                | bad =>
                  simp only [wt] at w
                  exact w.elim
                | ex c p st3 =>
                  simp only [wt] at w
                  exact w.elim
                | ok b st3 =>
                  simp only [wt] at w
                  refine seqT' (k := fun b' st' => b' = b ∧ st' = st3) pv.2.1 re2 (by rw [wt]; exact ⟨rfl, rfl⟩) fun b' st' z4 H4 hb e4 r4 re4 => ?_
                  obtain ⟨rfl, rfl⟩ := hb
                  have pv4 := move pv e4 r4
                  cases b' with
                  | false => exact ⟨by omega, acc, z4, st', by omega, pv4, w⟩
                  | true =>
                    cases wf : f en1 st' with
                    | bad =>
                      simp only [wf] at w
                      exact w.elim
                    | ex c p st5 =>
                      simp only [wf] at w
                      exact w.elim
                    | ok y st5 =>
                      simp only [wf] at w
                      refine seqE' (k := fun y' st' => y' = y ∧ st' = st5) r4 re4 (by rw [wf]; exact ⟨rfl, rfl⟩) fun y' st6 v z5 H5 hb e5 r5 re5 p5 => ?_
                      obtain ⟨rfl, rfl⟩ := hb
                      obtain ⟨xs, hx, hxl, pv6⟩ := grow (move pv4 e5 r5) p5
                      have hs : sizeLine = 16777216 := sizeLine_eq
                      refine ⟨xs, hx, by omega, by omega, acc ++ [y'], z5, st6, by rw [List.length_append]; simp; omega, pv6, ?_⟩
                      refine wp_mono (wp_bind.mp w) (fun ys st7 q => ?_) fun _ _ _ q => q
                      rw [List.append_assoc]
                      exact q
    · simp only [if_neg hl] at q
      exact q.elim
  | dyn fuel nx =>
    have hJ : ItY K z1 H1 nx J := hJ
    by_cases hl : fuel < 1000000
    · simp only [if_pos hl] at q
      refine ⟨fun i m H2 => i + m ≤ 1000000 ∧ ∃ acc z2 st2, acc.length ≤ i ∧ Pv acc z2 H2 st2 ∧ (lcY vs gf t f nx m i en st2).wp (fun ys st3 => okD K z H Q (.lst (acc ++ ys)) st3) (fun _ _ _ => True), ⟨fuel, by omega, [], z1, st1, Nat.le_refl _, start, wp_mono q (fun ys st3 q => q) fun _ _ _ _ => trivial⟩, ?_⟩
      rintro i m H2 ⟨hm, acc, z2, st2, la, pv, w⟩
      cases m with
      | zero => exact w.elim
      | succ m =>
        unfold lcY at w
        have hn := hJ z2 H2 st2 i pv.1.toEx0 pv.2.1
        cases hx : nx i st2 with
        | none =>
          simp only [hx] at w
          exact w.elim
        | some o =>
          cases o with
          | none =>
            simp only [hx] at w hn
            have w : okD K z H Q (.lst (acc ++ [])) st2 := w
            rw [List.append_nil] at w
            exact .inl ⟨hn, done pv w⟩
          | some d =>
            simp only [hx] at w hn
            obtain ⟨go, yl⟩ := hn
            refine .inr ⟨go, fun H' => i + 1 + m ≤ 1000000 ∧ ∃ acc z2 st2, acc.length ≤ i + 1 ∧ Pv acc z2 H' st2 ∧ (lcY vs gf t f nx m (i + 1) en st2).wp (fun ys st3 => okD K z H Q (.lst (acc ++ ys)) st3) (fun _ _ _ => True), fun H' q => ⟨m, Nat.lt_succ_self m, q⟩, fun x H3 y => ?_⟩
            obtain ⟨z3, e3, r3, p3⟩ := yl x H3 y
            have pv3 := move pv e3 r3
            cases wg : gf d st2 (wipeE en vs) with
            | none =>
              simp only [wg] at w
              exact w.elim
            | some en1 =>
              simp only [wg] at w
              refine ⟨z3, wipeE en vs, st2, d, en1, r3, ((re1.ext pv.1).ext e3).wipe vs, p3, wg, fun σ2 re2 hw => ⟨hw.trans (wipe_idem _ _), ?_⟩⟩
              cases wt : t en1 st2 with
              | bad =>
                simp only [wt] at w
                exact w.elim
              | ex c p st3 =>
                simp only [wt] at w
                exact w.elim
              | ok b st3 =>
                simp only [wt] at w
                refine seqT' (k := fun b' st' => b' = b ∧ st' = st3) r3 re2 (by rw [wt]; exact ⟨rfl, rfl⟩) fun b' st' z4 H4 hb e4 r4 re4 => ?_
                obtain ⟨rfl, rfl⟩ := hb
                have pv4 := move pv3 e4 r4
                cases b' with
                | false => exact ⟨by omega, acc, z4, st', by omega, pv4, w⟩
                | true =>
                  cases wf : f en1 st' with
                  | bad =>
                    simp only [wf] at w
                    exact w.elim
                  | ex c p st5 =>
                    simp only [wf] at w
                    exact w.elim
                  | ok y st5 =>
                    simp only [wf] at w
                    refine seqE' (k := fun y' st' => y' = y ∧ st' = st5) r4 re4 (by rw [wf]; exact ⟨rfl, rfl⟩) fun y' st6 v z5 H5 hb e5 r5 re5 p5 => ?_
                    obtain ⟨rfl, rfl⟩ := hb
                    obtain ⟨xs, hx, hxl, pv6⟩ := grow (move pv4 e5 r5) p5
                    have hs : sizeLine = 16777216 := sizeLine_eq
                    refine ⟨xs, hx, by omega, by omega, acc ++ [y'], z5, st6, by rw [List.length_append]; simp; omega, pv6, ?_⟩
                    refine wp_mono (wp_bind.mp w) (fun ys st7 q => ?_) fun _ _ _ q => q
                    rw [List.append_assoc]
                    exact q
    · simp only [if_neg hl] at q
      exact q.elim
theorem sn_lc (own : List (Str × Nat)) (G : GX X xm W k) (hi : PI X tg iter (TIf X.K xm W itf)) (ok : BlkOk X.N X.env.scope scope own)
    (hg : ∀ (s : Shared) (H : Hp) (C : Addr) (cl : List (Str × Addr)) (fp : List Addr), GX (X.blk s H scope (compEnvC scope cl C X.env) fp) xm W0 k → PG (X.blk s H scope (compEnvC scope cl C X.env) fp) tg (TGf X.K (own.map (·.2)) gf))
    (ht : ∀ (s : Shared) (H : Hp) (C : Addr) (cl : List (Str × Addr)) (fp : List Addr), GX (X.blk s H scope (compEnvC scope cl C X.env) fp) xm W0 k → PTs (X.blk s H scope (compEnvC scope cl C X.env) fp) ifs (TTf X.K xm W0 t))
    (he : ∀ (s : Shared) (H : Hp) (C : Addr) (cl : List (Str × Addr)) (fp : List Addr), GX (X.blk s H scope (compEnvC scope cl C X.env) fp) xm W0 k → PE (X.blk s H scope (compEnvC scope cl C X.env) fp) elt (TEf X.K xm W0 f))
    (hs : ∀ x, foldedSetIterable iter X.env x = pure x := by intro _; rfl) : PE X (.ListComp elt [⟨tg, iter, ifs, 0⟩] scope pos) (TEf X.K xm W (lcF (own.map (·.2)) gf t f itf)) :=
  (pe_lc G.cm G.nd hi ok (fun s H C cl fp => hg s H C cl fp (G.blk ..)) (fun s H C cl fp => ht s H C cl fp (G.blk ..)) (fun s H C cl fp => he s H C cl fp (G.blk ..)) hs).imp lc_read
theorem ss_setLc (own : List (Str × Nat)) (G : GX X xm W k) (i : Nat) {y : Str} {py spos : Pos} (hi : PI X tg iter (TIf X.K xm W itf)) (ok : BlkOk X.N X.env.scope scope own)
    (hg : ∀ (s : Shared) (H : Hp) (C : Addr) (cl : List (Str × Addr)) (fp : List Addr), GX (X.blk s H scope (compEnvC scope cl C X.env) fp) xm W0 k → PG (X.blk s H scope (compEnvC scope cl C X.env) fp) tg (TGf X.K (own.map (·.2)) gf))
    (ht : ∀ (s : Shared) (H : Hp) (C : Addr) (cl : List (Str × Addr)) (fp : List Addr), GX (X.blk s H scope (compEnvC scope cl C X.env) fp) xm W0 k → PTs (X.blk s H scope (compEnvC scope cl C X.env) fp) ifs (TTf X.K xm W0 t))
    (he : ∀ (s : Shared) (H : Hp) (C : Addr) (cl : List (Str × Addr)) (fp : List Addr), GX (X.blk s H scope (compEnvC scope cl C X.env) fp) xm W0 k → PE (X.blk s H scope (compEnvC scope cl C X.env) fp) elt (TEf X.K xm W0 f))
    (hy : X.N[i]? = some y := by rfl) (hyl : X.env.scope.names.lookup y = some .local := by rfl) (hsw : swapsWith (.ListComp elt [⟨tg, iter, ifs, 0⟩] scope pos) (some (.Name y py)) spos.line X.env = pure true := by exact sw_true rfl rfl rfl (by decide +kernel))
    (hs : ∀ x, foldedSetIterable iter X.env x = pure x := by intro _; rfl) : PS X (.Assign [.Name y py] (.ListComp elt [⟨tg, iter, ifs, 0⟩] scope pos) spos) (TSf X.K xm W (setS i (lcF (own.map (·.2)) gf t f itf))) :=
  (ps_setLc G.cm G.nd hy hyl hsw hi ok (fun s H C cl fp => hg s H C cl fp (G.blk ..)) (fun s H C cl fp => ht s H C cl fp (G.blk ..)) (fun s H C cl fp => he s H C cl fp (G.blk ..)) hs).imp fun E σ H ⟨z, en, st, rh, re, h⟩ => by
    have w : TEf X.K xm W (lcF (own.map (·.2)) gf t f itf) σ H fun x H1 => gName i x σ H1 E.nx := seqE' rh re (sat_bind re h) fun d1 st1 v1 z1 H1 q1 e1 r1 re1 p1 => by
      unfold nameG at q1
      by_cases l : i < en.length
      · rw [if_pos l] at q1
        exact q1 _ z1 H1 e1 r1 (re1.set p1 l)
      · rw [if_neg l] at q1
        exact False.elim q1
    exact lc_read σ H _ w
end

end Ev

namespace Ev
open PySem PySem.Spec PyProof.Rows L2 RZ
variable [Tabs]

/-! ## a comprehension with two sources, no tests -/
def lc2I (own : List Nat) (g : GF) (itf1 : IF) (own1 : List Nat) (g1 : GF) (elt : EF) : List D → En → Sto → R (List D)
  | [], _, st => .ok [] st
  | d :: r, en, st => match g d st (wipeE en own) with
    | none => .bad
    | some en1 => match itf1 en1 st with
      | .ok (.items es) st1 => if es.length ≤ 1000 then (match lcI own1 g1 yesT elt es en1 st1 with
        | .ok ys st2 => (lc2I own g itf1 own1 g1 elt r en st2).bind fun zs st3 => .ok (ys ++ zs) st3
        | _ => .bad) else .bad
      | _ => .bad
/-- .. over a cell, which may be read at each turn -/
def lc2N (own : List Nat) (g : GF) (itf1 : IF) (own1 : List Nat) (g1 : GF) (elt : EF) (n : Nat) : Nat → Nat → En → Sto → R (List D)
  | 0, _, _, _ => .bad
  | m + 1, i, en, st => match st[n]? with
    | some (.lst ds) => match ds[i]? with
      | none => .ok [] st
      | some d => match g d st (wipeE en own) with
        | none => .bad
        | some en1 => match itf1 en1 st with
          | .ok (.items es) st1 => if es.length ≤ 1000 then (match lcI own1 g1 yesT elt es en1 st1 with
            | .ok ys st2 => (lc2N own g itf1 own1 g1 elt n m (i + 1) en st2).bind fun zs st3 => .ok (ys ++ zs) st3
            | _ => .bad) else .bad
          | _ => .bad
    | _ => .bad
def lc2G (own : List Nat) (g : GF) (itf : IF) (own1 : List Nat) (g1 : GF) (itf1 : IF) (elt : EF) : AF := fun en st => (itf en st).bind fun it st1 => match it with
  | .items ds => if ds.length ≤ 1000 then lc2I own g itf1 own1 g1 elt ds en st1 else .bad
  | .cell n => if cellLen n st1 < 1000 then lc2N own g itf1 own1 g1 elt n (cellLen n st1 + 1) 0 en st1 else .bad
  | .dyn _ _ => .bad
/-- a fresh list: frozen, or a cell -/
def freshD (c : Bool) (ys : List D) (st : Sto) : D × Sto := if c = true then (.ref st.length, st ++ [.lst ys]) else (.lst ys, st)
def lc2F (own : List Nat) (g : GF) (itf : IF) (own1 : List Nat) (g1 : GF) (itf1 : IF) (elt : EF) : EF := fun en st => (lc2G own g itf own1 g1 itf1 elt en st).bind fun ys st2 => .ok (.lst ys) st2
def lc2C (own : List Nat) (g : GF) (itf : IF) (own1 : List Nat) (g1 : GF) (itf1 : IF) (elt : EF) : EF := fun en st => (lc2G own g itf own1 g1 itf1 elt en st).bind fun ys st2 => .ok (.ref st2.length) (st2 ++ [.lst ys])
def lc2R (c : Bool) (own : List Nat) (g : GF) (itf : IF) (own1 : List Nat) (g1 : GF) (itf1 : IF) (elt : EF) : EF := fun en st => (lc2G own g itf own1 g1 itf1 elt en st).bind fun ys st2 => .ok (freshD c ys st2).1 (freshD c ys st2).2
section
variable {X : Cx} {xm : List Addr} {W : WX} {k : Nat} {elt tg iter tg1 iter1 : Expr} {scope : Scope} {own : List (Str × Nat)} {pos : Pos} {f : EF} {gf gf1 : GF} {itf itf1 : IF}
theorem ex0_push {K : PySem.W.Frag} {z : Z} {H : Hp} {p : Addr} {b : Bool} : Ex0 z H (z.pushK p b) H := ⟨fun i a q => by
  show (z.mu ++ [p])[i]? = some a
  rw [List.getElem?_append_left (List.getElem?_eq_some_iff.mp q).1]
  exact q, fun _ q => ⟨q, rfl⟩, fun i a q => if_neg (Nat.ne_of_lt (List.getElem?_eq_some_iff.mp q).1)⟩
theorem RelH.adopt {K : PySem.W.Frag} {z : Z} {H : Hp} {st : Sto} (h : RelH K z H st) {p : Addr} {cl : Cell} (nm : p ∉ z.mu) (nf : ¬ z.fz p) (nt : p ∉ z.tb) (r : CellR K (z.pushK p cl.isS) H p cl) : RelH K (z.pushK p cl.isS) H (st ++ [cl]) := by
  refine ⟨by show (z.mu ++ [p]).length = _; rw [List.length_append, List.length_append, h.len]; rfl, ?_, fun a ha q => ?_, h.fz, fun i a c hi hc => ?_, fun P hP => ⟨(h.tb P hP).1, fun w => (List.mem_append.mp w).elim (h.tb P hP).2.1 fun e => nt ((List.mem_singleton.mp e) ▸ hP), (h.tb P hP).2.2⟩, h.tbk, fun i c q => ?_⟩
  · exact List.nodup_append.mpr ⟨h.nd, List.nodup_cons.mpr ⟨by simp, List.nodup_nil⟩, fun a ha b hb q => nm (by
      rw [List.mem_singleton] at hb
      rw [← hb, ← q]
      exact ha)⟩
  · rcases List.mem_append.mp ha with ha | ha
    · exact h.nfz a ha q
    · rw [List.mem_singleton] at ha
      exact nf (ha ▸ q)
  · have hi' : (z.mu ++ [p])[i]? = some a := hi
    by_cases l : i < z.mu.length
    · rw [List.getElem?_append_left l] at hi'
      rw [List.getElem?_append_left (h.len ▸ l)] at hc
      exact (h.cells i a c hi' hc).ext0 (ex0_push (K := K)) rfl
    · rw [List.getElem?_append_right (by omega)] at hi'
      rw [List.getElem?_append_right (by rw [← h.len]; omega), ← h.len] at hc
      cases k : i - z.mu.length with
      | zero =>
        rw [k] at hi' hc
        have e1 := Option.some.inj hi'
        have e2 := Option.some.inj hc
        subst e1
        subst e2
        exact r
      | succ j =>
        rw [k] at hi'
        simp at hi'
  · show c.isS = if i = z.mu.length then cl.isS else z.kd i
    by_cases l : i < z.mu.length
    · rw [if_neg (Nat.ne_of_lt l)]
      rw [List.getElem?_append_left (h.len ▸ l)] at q
      exact h.knd i c q
    · rw [List.getElem?_append_right (by rw [← h.len]; omega), ← h.len] at q
      cases k : i - z.mu.length with
      | zero =>
        rw [k] at q
        rw [if_pos (by omega)]
        exact congrArg Cell.isS (Option.some.inj q).symm
      | succ j =>
        rw [k] at q
        simp at q
theorem lc2_read {K : PySem.W.Frag} {vs vs1 : List Nat} {c : Bool} (σ : L2.St) (H : Hp) (Q : VK) (q : TEf K xm W (lc2R c vs gf itf vs1 gf1 itf1 f) σ H Q) : tLc2 (TIf K xm W itf) (TGf K vs gf) (TTf K xm W0 yesT) (TIf K xm W0 itf1) (TGf K vs1 gf1) (TTf K xm W0 yesT) (TEf K xm W0 f) vs vs1 σ H Q := by
  obtain ⟨z, en, st, rh, re, h⟩ := q
  have h := wp_bind.mp (wp_bind.mp h)
  refine ⟨z, en, st, rh, re, wp_mono h (fun it st1 q J z1 H1 e1 r1 hJ dA nD => ?_) fun _ _ _ q => q⟩
  have re1 := re.ext e1
  have hs : sizeLine = 16777216 := sizeLine_eq
  let Pv : List D → Z → Hp → Sto → Prop := fun acc z2 H2 st2 => Ext z1 H1 z2 H2 ∧ RelH K z2 H2 st2 ∧ dA ∉ z2.mu ∧ ¬ z2.fz dA ∧ ∃ xs, H2 dA = some (.lst xs) ∧ Reps K z2 H2 xs acc
  have nD1 : dA ∉ z1.mu := r1.nin nD
  have fD1 : ¬ z1.fz dA := fun w => r1.fz dA w nD
  have start : Pv [] z1 (upd H1 dA (.lst [])) st1 := ⟨ext_by r1 nD, r1.off fD1 nD1 (fun w => (r1.tb dA w).1.live nD), nD1, fD1, [], upd_same, .nil⟩
  have move : ∀ {acc z2 H2 st2 z3 H3 st3}, Pv acc z2 H2 st2 → Ext z2 H2 z3 H3 → RelH K z3 H3 st3 → Pv acc z3 H3 st3 := by
    rintro acc z2 H2 st2 z3 H3 st3 ⟨a, b, c, d, xs, hx, rs⟩ e r
    have l : H2 dA ≠ none := by rw [hx]; simp
    refine ⟨a.trans e, r, fun w => (e.nw dA w).elim c l, fun w => (e.nf dA w).elim d l, xs, (e.fr dA l c (fun w => (b.tb dA w).1.no hx)).trans hx, rs.ext e⟩
  have grow : ∀ {acc z2 H2 st2 v d}, Pv acc z2 H2 st2 → Rep K z2 H2 v d → ∃ xs, H2 dA = some (.lst xs) ∧ xs.length = acc.length ∧ Ex0 z2 H2 z2 (upd H2 dA (.lst (xs ++ [v]))) ∧ Pv (acc ++ [d]) z2 (upd H2 dA (.lst (xs ++ [v]))) st2 := by
    rintro acc z2 H2 st2 v d ⟨a, b, c, d', xs, hx, rs⟩ rv
    have x0 : Ex0 z2 H2 z2 (upd H2 dA (.lst (xs ++ [v]))) := ex0_off d'
    exact ⟨xs, hx, rs.length, x0, a.off nD d', b.off d' c (fun w => (b.tb dA w).1.no hx), c, d', xs ++ [v], upd_same, (rs.ext0 x0).append (.cons (rv.ext0 x0) .nil)⟩
  have done : ∀ {acc z2 H2 st2}, Pv acc z2 H2 st2 → okD K z H Q (freshD c acc st2).1 (freshD c acc st2).2 → Q (.ref dA) H2 := by
    rintro acc z2 H2 st2 ⟨a, b, d1, d, xs, hx, rs⟩ ok
    have l : H2 dA ≠ none := by rw [hx]; simp
    cases c with
    | false =>
      have ok : okD K z H Q (.lst acc) st2 := ok
      have x0 : Ex0 z2 H2 (z2.add dA) H2 := ⟨fun _ _ q => q, fun _ q => ⟨.inl q, rfl⟩, fun _ _ _ => rfl⟩
      have b1 : Ext z1 H1 (z2.add dA) H2 := ⟨⟨a.mu, fun x w => ⟨.inl (a.fz x w).1, (a.fz x w).2⟩, a.kd⟩, a.fr, a.nw, fun x w => w.elim (a.nf x) fun e => .inr (e ▸ nD), a.lv, a.tb⟩
      have b2 : RelH K (z2.add dA) H2 st2 := ⟨b.len, b.nd, fun x hx w => w.elim (b.nfz x hx) fun e => d1 (e ▸ hx), fun x w => w.elim (b.fz x) fun e => e ▸ l, fun i x cl hi hc => (b.cells i x cl hi hc).ext0 x0 rfl, fun P hP => ⟨(b.tb P hP).1, (b.tb P hP).2.1, fun w => w.elim (b.tb P hP).2.2 fun e => TabH.no (e ▸ (b.tb P hP).1) hx⟩, b.tbk, b.knd⟩
      exact ok _ (z2.add dA) H2 (e1.trans b1) b2 (.lst (.inr rfl) hx (rs.ext0 x0))
    | true =>
      have ok : okD K z H Q (.ref st2.length) (st2 ++ [.lst acc]) := ok
      have x0 : Ex0 z2 H2 (z2.push dA) H2 := ex0_push (K := K)
      have b1 : Ext z1 H1 (z2.push dA) H2 := ⟨⟨fun i x w => x0.mu i x (a.mu i x w), a.fz, fun i x w => (x0.kd i x (a.mu i x w)).trans (a.kd i x w)⟩, a.fr, fun x w => (List.mem_append.mp w).elim (a.nw x) fun e => .inr ((List.mem_singleton.mp e) ▸ nD), a.nf, a.lv, a.tb⟩
      have b2 : RelH K (z2.push dA) H2 (st2 ++ [.lst acc]) := RelH.adopt (cl := .lst acc) b d1 d (fun w => (b.tb dA w).1.no hx) ⟨xs, hx, rs.ext0 x0⟩
      exact ok _ (z2.push dA) H2 (e1.trans b1) b2 (.ref (by
        show (z2.mu ++ [dA])[st2.length]? = some dA
        rw [← b.len, List.getElem?_append_right (Nat.le_refl _), Nat.sub_self]
        rfl) (if_pos b.len.symm))
  have turn : ∀ (rest : Sto → R (List D)) (B : Nat) (acc : List D) (z3 : Z) (H3 : Hp) (st2 : Sto) (en1 : En) (σ2 : L2.St) (Nx : Hp → Prop), Pv acc z3 H3 st2 → RelE K z3 H3 σ2 en1 → acc.length ≤ B → B + 1000 < sizeLine →
      (match itf1 en1 st2 with
        | .ok (.items es) st1 => if es.length ≤ 1000 then (match lcI vs1 gf1 yesT f es en1 st1 with
          | .ok ys st2 => (rest st2).bind fun zs st3 => .ok (ys ++ zs) st3
          | _ => .bad) else .bad
        | _ => (.bad : R (List D))).wp (fun ys st3 => okD K z H Q (freshD c (acc ++ ys) st3).1 (freshD c (acc ++ ys) st3).2) (fun _ _ _ => True) →
      (∀ acc' z' H' st', acc'.length ≤ B + 1000 → Pv acc' z' H' st' → (rest st').wp (fun ys st3 => okD K z H Q (freshD c (acc' ++ ys) st3).1 (freshD c (acc' ++ ys) st3).2) (fun _ _ _ => True) → Nx H') →
      TTf K xm W0 yesT σ2 H3 fun b H3 => if b = true then TIf K xm W0 itf1 σ2 H3 fun J1 H4 => ∃ W1 : Nat → Nat → Hp → Prop, (∃ m, W1 0 m H4) ∧ ∀ j k H, W1 j k H →
        (J1.stop j H ∧ Nx H) ∨ (J1.go j H ∧ ∃ Nx1 : Hp → Prop, (∀ H', Nx1 H' → ∃ k', k' < k ∧ W1 (j + 1) k' H') ∧ ∀ x H', J1.yld j H x H' → TGf K vs1 gf1 x (wipe σ2 vs1) H' fun σ3 H5 => wipe σ3 vs1 = wipe σ2 vs1 ∧ TTf K xm W0 yesT σ3 H5 fun b H6 =>
          if b = true then TEf K xm W0 f σ3 H6 fun y H7 => ∃ acc, H7 dA = some (.lst acc) ∧ acc.length < sizeLine ∧ Nx1 (upd H7 dA (.lst (acc ++ [y]))) else Nx1 H6)
      else Nx H3 := by
    intro rest B acc z3 H3 st2 en1 σ2 Nx pv3 re2 la lB w nxt
    refine ⟨z3, en1, st2, pv3.2.1, re2, fun z4 H4 e4 r4 => ?_⟩
    refine Eq.mpr (if_pos rfl) ?_
    have pv4 := move pv3 e4 r4
    have re4 := re2.ext e4
    cases wi : itf1 en1 st2 with
    | bad =>
      simp only [wi] at w
      exact w.elim
    | ex c p st3 =>
      simp only [wi] at w
      exact w.elim
    | ok it1 st3 =>
      cases it1 with
      | dyn _ _ =>
        simp only [wi] at w
        exact w.elim
      | cell n =>
        simp only [wi] at w
        exact w.elim
      | items es =>
        simp only [wi] at w
        by_cases hl1 : es.length ≤ 1000
        · rw [if_pos hl1] at w
          refine ⟨z4, en1, st2, r4, re4, ?_⟩
          rw [wi]
          intro J1 z5 H5 e5 r5 hJ1
          have hJ1 : ItI K z5 H5 es J1 := hJ1
          have pv5 := move pv4 e5 r5
          have re5 := re4.ext e5
          have w' : (lcI vs1 gf1 yesT f es en1 st3).wp (fun ys st4 => (rest st4).wp (fun zs st5 => okD K z H Q (freshD c (acc ++ (ys ++ zs)) st5).1 (freshD c (acc ++ (ys ++ zs)) st5).2) (fun _ _ _ => True)) (fun _ _ _ => False) := by
            cases wq : lcI vs1 gf1 yesT f es en1 st3 with
            | ok ys st4 =>
              rw [wq] at w
              have w : ((rest st4).bind fun zs st3 => .ok (ys ++ zs) st3).wp (fun ys st3 => okD K z H Q (freshD c (acc ++ ys) st3).1 (freshD c (acc ++ ys) st3).2) (fun _ _ _ => True) := w
              show (rest st4).wp _ _
              exact wp_mono (wp_bind.mp w) (fun zs st5 q => q) fun _ _ _ q => q
            | ex c p st4 =>
              rw [wq] at w
              exact w
            | bad =>
              rw [wq] at w
              exact w
          refine ⟨fun j m H6 => m = es.length - j ∧ j ≤ es.length ∧ ∃ ac1 z6 st6, ac1.length ≤ j ∧ Ex0 z5 H5 z6 H6 ∧ Pv (acc ++ ac1) z6 H6 st6 ∧ RelE K z6 H6 σ2 en1 ∧ (lcI vs1 gf1 yesT f (es.drop j) en1 st6).wp (fun ys st4 => (rest st4).wp (fun zs st5 => okD K z H Q (freshD c (acc ++ (ac1 ++ ys ++ zs)) st5).1 (freshD c (acc ++ (ac1 ++ ys ++ zs)) st5).2) (fun _ _ _ => True)) (fun _ _ _ => False), ⟨es.length, rfl, Nat.zero_le _, [], z5, st3, Nat.le_refl _, Ext.refl.toEx0, by rw [List.append_nil]; exact pv5, re5, w'⟩, ?_⟩
          rintro j m H6 ⟨rfl, hj, ac1, z6, st6, la1, x6, pv6, re6, w6⟩
          obtain ⟨js1, jg1⟩ := hJ1 z6 H6 st6 x6 pv6.2.1
          by_cases hlt1 : j < es.length
          · have hd1 : es[j]? = some es[j] := List.getElem?_eq_getElem hlt1
            obtain ⟨go1, yl1⟩ := jg1 j _ hd1
            rw [List.drop_eq_getElem_cons hlt1] at w6
            unfold lcI at w6
            refine .inr ⟨go1, fun H' => ∃ ac1 z6 st6, ac1.length ≤ j + 1 ∧ Ex0 z5 H5 z6 H' ∧ Pv (acc ++ ac1) z6 H' st6 ∧ RelE K z6 H' σ2 en1 ∧ (lcI vs1 gf1 yesT f (es.drop (j + 1)) en1 st6).wp (fun ys st4 => (rest st4).wp (fun zs st5 => okD K z H Q (freshD c (acc ++ (ac1 ++ ys ++ zs)) st5).1 (freshD c (acc ++ (ac1 ++ ys ++ zs)) st5).2) (fun _ _ _ => True)) (fun _ _ _ => False), fun H' q => ⟨es.length - (j + 1), by omega, rfl, hlt1, q⟩, fun x1 H7 y1 => ?_⟩
            obtain ⟨z7, e7, r7, p7⟩ := yl1 x1 H7 y1
            have pv7 := move pv6 e7 r7
            have re7 := re6.ext e7
            cases wg1 : gf1 es[j] st6 (wipeE en1 vs1) with
            | none =>
              simp only [wg1] at w6
              exact w6.elim
            | some en2 =>
              simp only [wg1] at w6
              refine ⟨z7, wipeE en1 vs1, st6, es[j], en2, r7, re7.wipe vs1, p7, wg1, fun σ3 re8 hw1 => ⟨hw1.trans (wipe_idem _ _), ?_⟩⟩
              refine ⟨z7, en2, st6, r7, re8, fun z8 H8 e8 r8 => ?_⟩
              refine Eq.mpr (if_pos rfl) ?_
              have pv8 := move pv7 e8 r8
              have re8' := re8.ext e8
              have w6 : (match f en2 st6 with
                | .ok y st2 => (lcI vs1 gf1 yesT f (es.drop (j + 1)) en1 st2).bind fun ys st3 => .ok (y :: ys) st3
                | _ => .bad).wp (fun ys st4 => (rest st4).wp (fun zs st5 => okD K z H Q (freshD c (acc ++ (ac1 ++ ys ++ zs)) st5).1 (freshD c (acc ++ (ac1 ++ ys ++ zs)) st5).2) (fun _ _ _ => True)) (fun _ _ _ => False) := w6
              cases wf : f en2 st6 with
              | bad =>
                simp only [wf] at w6
                exact w6.elim
              | ex c p st9 =>
                simp only [wf] at w6
                exact w6.elim
              | ok y st9 =>
                simp only [wf] at w6
                refine seqE' (k := fun y' st' => y' = y ∧ st' = st9) r8 re8' (by rw [wf]; exact ⟨rfl, rfl⟩) fun y' st10 v z9 H9 hb e9 r9 re9 p9 => ?_
                obtain ⟨rfl, rfl⟩ := hb
                obtain ⟨xs, hx, hxl, x9, pv9⟩ := grow (move pv8 e9 r9) p9
                have hxl : xs.length = acc.length + ac1.length := by rw [hxl, List.length_append]
                refine ⟨xs, hx, by omega, ac1 ++ [y'], z9, st10, by rw [List.length_append]; simp; omega, (((x6.trans e7.toEx0).trans e8.toEx0).trans e9.toEx0).trans x9, by rw [← List.append_assoc]; exact pv9, ((re7.ext e8).ext e9).ext0 x9, ?_⟩
                refine wp_mono (wp_bind.mp w6) (fun ys st7 q => ?_) fun _ _ _ q => q
                have e : ac1 ++ [y'] ++ ys = ac1 ++ y' :: ys := by simp
                rw [e]
                exact q
          · have e : j = es.length := by omega
            subst e
            rw [List.drop_length] at w6
            refine .inl ⟨js1 _ (Nat.le_refl _), nxt (acc ++ ac1) z6 H6 st6 (by rw [List.length_append]; omega) pv6 ?_⟩
            have w6 : (rest st6).wp (fun zs st5 => okD K z H Q (freshD c (acc ++ (ac1 ++ [] ++ zs)) st5).1 (freshD c (acc ++ (ac1 ++ [] ++ zs)) st5).2) (fun _ _ _ => True) := w6
            refine wp_mono w6 (fun zs st7 q => ?_) fun _ _ _ q => q
            rw [List.append_nil] at q
            rw [List.append_assoc]
            exact q
        · rw [if_neg hl1] at w
          exact w.elim
  cases it with
  | dyn _ _ => exact q.elim
  | items ds =>
    have hJ : ItI K z1 H1 ds J := hJ
    by_cases hl : ds.length ≤ 1000
    · simp only [if_pos hl] at q
      refine ⟨fun i m H2 => m = ds.length - i ∧ i ≤ ds.length ∧ ∃ acc z2 st2, acc.length ≤ 1000 * i ∧ Pv acc z2 H2 st2 ∧ (lc2I vs gf itf1 vs1 gf1 f (ds.drop i) en st2).wp (fun ys st3 => okD K z H Q (freshD c (acc ++ ys) st3).1 (freshD c (acc ++ ys) st3).2) (fun _ _ _ => True), ⟨ds.length, rfl, Nat.zero_le _, [], z1, st1, Nat.le_refl _, start, wp_mono q (fun ys st3 q => q) fun _ _ _ _ => trivial⟩, ?_⟩
      rintro i m H2 ⟨rfl, hi, acc, z2, st2, la, pv, w⟩
      obtain ⟨js, jg⟩ := hJ z2 H2 st2 pv.1.toEx0 pv.2.1
      by_cases hlt : i < ds.length
      · have hd : ds[i]? = some ds[i] := List.getElem?_eq_getElem hlt
        obtain ⟨go, yl⟩ := jg i _ hd
        rw [List.drop_eq_getElem_cons hlt] at w
        unfold lc2I at w
        refine .inr ⟨go, fun H' => ∃ acc z2 st2, acc.length ≤ 1000 * (i + 1) ∧ Pv acc z2 H' st2 ∧ (lc2I vs gf itf1 vs1 gf1 f (ds.drop (i + 1)) en st2).wp (fun ys st3 => okD K z H Q (freshD c (acc ++ ys) st3).1 (freshD c (acc ++ ys) st3).2) (fun _ _ _ => True), fun H' q => ⟨ds.length - (i + 1), by omega, rfl, hlt, q⟩, fun x H3 y => ?_⟩
        obtain ⟨z3, e3, r3, p3⟩ := yl x H3 y
        have pv3 := move pv e3 r3
        cases wg : gf ds[i] st2 (wipeE en vs) with
        | none =>
          simp only [wg] at w
          exact w.elim
        | some en1 =>
          simp only [wg] at w
          refine ⟨z3, wipeE en vs, st2, ds[i], en1, r3, ((re1.ext pv.1).ext e3).wipe vs, p3, wg, fun σ2 re2 hw => ⟨hw.trans (wipe_idem _ _), ?_⟩⟩
          exact turn (lc2I vs gf itf1 vs1 gf1 f (ds.drop (i + 1)) en) (1000 * i) acc z3 H3 st2 en1 σ2 _ pv3 re2 la (by omega) w fun acc' z' H' st' l p w => ⟨acc', z', st', by omega, p, w⟩
      · have e : i = ds.length := by omega
        subst e
        rw [List.drop_length] at w
        have w : okD K z H Q (freshD c (acc ++ []) st2).1 (freshD c (acc ++ []) st2).2 := w
        rw [List.append_nil] at w
        exact .inl ⟨js _ (Nat.le_refl _), done pv w⟩
    · simp only [if_neg hl] at q
      exact q.elim
  | cell n =>
    have hJ : ItC K z1 H1 n J := hJ
    by_cases hl : cellLen n st1 < 1000
    · simp only [if_pos hl] at q
      refine ⟨fun i m H2 => i + m ≤ 1000 ∧ ∃ acc z2 st2, acc.length ≤ 1000 * i ∧ Pv acc z2 H2 st2 ∧ (lc2N vs gf itf1 vs1 gf1 f n m i en st2).wp (fun ys st3 => okD K z H Q (freshD c (acc ++ ys) st3).1 (freshD c (acc ++ ys) st3).2) (fun _ _ _ => True), ⟨cellLen n st1 + 1, by omega, [], z1, st1, Nat.le_refl _, start, wp_mono q (fun ys st3 q => q) fun _ _ _ _ => trivial⟩, ?_⟩
      rintro i m H2 ⟨hm, acc, z2, st2, la, pv, w⟩
      cases m with
      | zero => exact w.elim
      | succ m =>
        unfold lc2N at w
        cases hc : st2[n]? with
        | none =>
          simp only [hc] at w
          exact w.elim
        | some cl =>
          cases cl with
          | set S =>
            simp only [hc] at w
            exact w.elim
          | lst ds =>
            simp only [hc] at w
            obtain ⟨js, jg⟩ := hJ z2 H2 st2 ds pv.1.toEx0 pv.2.1 hc
            cases hd : ds[i]? with
            | none =>
              simp only [hd] at w
              have w : okD K z H Q (freshD c (acc ++ []) st2).1 (freshD c (acc ++ []) st2).2 := w
              rw [List.append_nil] at w
              exact .inl ⟨js _ (List.getElem?_eq_none_iff.mp hd), done pv w⟩
            | some d =>
              simp only [hd] at w
              obtain ⟨go, yl⟩ := jg i d hd
              refine .inr ⟨go, fun H' => i + 1 + m ≤ 1000 ∧ ∃ acc z2 st2, acc.length ≤ 1000 * (i + 1) ∧ Pv acc z2 H' st2 ∧ (lc2N vs gf itf1 vs1 gf1 f n m (i + 1) en st2).wp (fun ys st3 => okD K z H Q (freshD c (acc ++ ys) st3).1 (freshD c (acc ++ ys) st3).2) (fun _ _ _ => True), fun H' q => ⟨m, Nat.lt_succ_self m, q⟩, fun x H3 y => ?_⟩
              obtain ⟨rfl, p3⟩ := yl x H3 y
              cases wg : gf d st2 (wipeE en vs) with
              | none =>
                simp only [wg] at w
                exact w.elim
              | some en1 =>
                simp only [wg] at w
                refine ⟨z2, wipeE en vs, st2, d, en1, pv.2.1, (re1.ext pv.1).wipe vs, p3, wg, fun σ2 re2 hw => ⟨hw.trans (wipe_idem _ _), ?_⟩⟩
                exact turn (lc2N vs gf itf1 vs1 gf1 f n m (i + 1) en) (1000 * i) acc z2 _ st2 en1 σ2 _ pv re2 la (by omega) w fun acc' z' H' st' l p w => ⟨by omega, acc', z', st', by omega, p, w⟩
    · simp only [if_neg hl] at q
      exact q.elim
theorem sn_lc2r (c : Bool) (own : List (Str × Nat)) (vs1 : List Nat) (G : GX X xm W k) (hi : PI X tg iter (TIf X.K xm W itf)) (ok : BlkOk X.N X.env.scope scope own) (hv : ∀ i ∈ vs1, i ∈ own.map (·.2))
    (hg : ∀ (s : Shared) (H : Hp) (C : Addr) (cl : List (Str × Addr)) (fp : List Addr), GX (X.blk s H scope (compEnvC scope cl C X.env) fp) xm W0 k → PG (X.blk s H scope (compEnvC scope cl C X.env) fp) tg (TGf X.K (own.map (·.2)) gf))
    (hi1 : ∀ (s : Shared) (H : Hp) (C : Addr) (cl : List (Str × Addr)) (fp : List Addr), GX (X.blk s H scope (compEnvC scope cl C X.env) fp) xm W0 k → PI (X.blk s H scope (compEnvC scope cl C X.env) fp) tg1 iter1 (TIf X.K xm W0 itf1))
    (hg1 : ∀ (s : Shared) (H : Hp) (C : Addr) (cl : List (Str × Addr)) (fp : List Addr), GX (X.blk s H scope (compEnvC scope cl C X.env) fp) xm W0 k → PG (X.blk s H scope (compEnvC scope cl C X.env) fp) tg1 (TGf X.K vs1 gf1))
    (he : ∀ (s : Shared) (H : Hp) (C : Addr) (cl : List (Str × Addr)) (fp : List Addr), GX (X.blk s H scope (compEnvC scope cl C X.env) fp) xm W0 k → PE (X.blk s H scope (compEnvC scope cl C X.env) fp) elt (TEf X.K xm W0 f))
    (hs : ∀ x, foldedSetIterable iter X.env x = pure x := by intro _; rfl) (hs1 : ∀ env x, foldedSetIterable iter1 env x = pure x := by intro _ _; rfl) :
    PE X (.ListComp elt [⟨tg, iter, [], 0⟩, ⟨tg1, iter1, [], 0⟩] scope pos) (TEf X.K xm W (lc2R c (own.map (·.2)) gf itf vs1 gf1 itf1 f)) :=
  (pe_lc2 G.cm G.nd hi ok hv (fun s H C cl fp => hg s H C cl fp (G.blk ..)) (fun s H C cl fp => st_yes) (fun s H C cl fp => hi1 s H C cl fp (G.blk ..)) (fun s H C cl fp => hg1 s H C cl fp (G.blk ..)) (fun s H C cl fp => st_yes) (fun s H C cl fp => he s H C cl fp (G.blk ..)) hs hs1).imp lc2_read
theorem ss_setLc2r (c : Bool) (own : List (Str × Nat)) (vs1 : List Nat) (G : GX X xm W k) (i : Nat) {y : Str} {py spos : Pos} (hi : PI X tg iter (TIf X.K xm W itf)) (ok : BlkOk X.N X.env.scope scope own) (hv : ∀ i ∈ vs1, i ∈ own.map (·.2))
    (hg : ∀ (s : Shared) (H : Hp) (C : Addr) (cl : List (Str × Addr)) (fp : List Addr), GX (X.blk s H scope (compEnvC scope cl C X.env) fp) xm W0 k → PG (X.blk s H scope (compEnvC scope cl C X.env) fp) tg (TGf X.K (own.map (·.2)) gf))
    (hi1 : ∀ (s : Shared) (H : Hp) (C : Addr) (cl : List (Str × Addr)) (fp : List Addr), GX (X.blk s H scope (compEnvC scope cl C X.env) fp) xm W0 k → PI (X.blk s H scope (compEnvC scope cl C X.env) fp) tg1 iter1 (TIf X.K xm W0 itf1))
    (hg1 : ∀ (s : Shared) (H : Hp) (C : Addr) (cl : List (Str × Addr)) (fp : List Addr), GX (X.blk s H scope (compEnvC scope cl C X.env) fp) xm W0 k → PG (X.blk s H scope (compEnvC scope cl C X.env) fp) tg1 (TGf X.K vs1 gf1))
    (he : ∀ (s : Shared) (H : Hp) (C : Addr) (cl : List (Str × Addr)) (fp : List Addr), GX (X.blk s H scope (compEnvC scope cl C X.env) fp) xm W0 k → PE (X.blk s H scope (compEnvC scope cl C X.env) fp) elt (TEf X.K xm W0 f))
    (hy : X.N[i]? = some y := by rfl) (hyl : X.env.scope.names.lookup y = some .local := by rfl) (hsw : swapsWith (.ListComp elt [⟨tg, iter, [], 0⟩, ⟨tg1, iter1, [], 0⟩] scope pos) (some (.Name y py)) spos.line X.env = pure true := by exact sw_true rfl rfl rfl (by decide +kernel))
    (hs : ∀ x, foldedSetIterable iter X.env x = pure x := by intro _; rfl) (hs1 : ∀ env x, foldedSetIterable iter1 env x = pure x := by intro _ _; rfl) :
    PS X (.Assign [.Name y py] (.ListComp elt [⟨tg, iter, [], 0⟩, ⟨tg1, iter1, [], 0⟩] scope pos) spos) (TSf X.K xm W (setS i (lc2R c (own.map (·.2)) gf itf vs1 gf1 itf1 f))) :=
  (ps_setLc2 G.cm G.nd hy hyl hsw hi ok hv (fun s H C cl fp => hg s H C cl fp (G.blk ..)) (fun s H C cl fp => st_yes) (fun s H C cl fp => hi1 s H C cl fp (G.blk ..)) (fun s H C cl fp => hg1 s H C cl fp (G.blk ..)) (fun s H C cl fp => st_yes) (fun s H C cl fp => he s H C cl fp (G.blk ..)) hs hs1).imp fun E σ H ⟨z, en, st, rh, re, h⟩ => by
    have w : TEf X.K xm W (lc2R c (own.map (·.2)) gf itf vs1 gf1 itf1 f) σ H fun x H1 => gName i x σ H1 E.nx := seqE' rh re (sat_bind re h) fun d1 st1 v1 z1 H1 q1 e1 r1 re1 p1 => by
      unfold nameG at q1
      by_cases l : i < en.length
      · rw [if_pos l] at q1
        exact q1 _ z1 H1 e1 r1 (re1.set p1 l)
      · rw [if_neg l] at q1
        exact False.elim q1
    exact lc2_read σ H _ w
end
end Ev

namespace Ev
open PySem PySem.Spec PyProof.Rows L2 RZ
variable [Tabs]

/-! ## a def that hands back frozen data and leaves the store as it was: its own cells are dropped -/
mutual
def refB (n : Nat) : D → Bool
  | .ref k => decide (k < n)
  | .sref k => decide (k < n)
  | .tup ds => refBs n ds
  | .lst ds => refBs n ds
  | .fro ds => refBs n ds
  | .non => true
  | .bl _ => true
  | .int _ => true
  | .str _ => true
def refBs (n : Nat) : List D → Bool
  | [] => true
  | d :: r => refB n d && refBs n r
end
mutual
def dEq : D → D → Bool
  | .non, .non => true
  | .bl a, .bl b => a == b
  | .int a, .int b => a == b
  | .str a, .str b => decide (a = b)
  | .tup a, .tup b => dEqs a b
  | .lst a, .lst b => dEqs a b
  | .fro a, .fro b => dEqs a b
  | .ref a, .ref b => a == b
  | .sref a, .sref b => a == b
  | _, _ => false
def dEqs : List D → List D → Bool
  | [], [] => true
  | a :: r, b :: s => dEq a b && dEqs r s
  | _, _ => false
end
mutual
theorem dEq_refl : ∀ d : D, dEq d d = true
  | .non => rfl
  | .bl b => by unfold dEq; exact beq_self_eq_true b
  | .int i => by unfold dEq; exact beq_self_eq_true i
  | .str s => by unfold dEq; exact decide_eq_true rfl
  | .tup ds => by unfold dEq; exact dEqs_refl ds
  | .lst ds => by unfold dEq; exact dEqs_refl ds
  | .fro ds => by unfold dEq; exact dEqs_refl ds
  | .ref n => by unfold dEq; exact beq_self_eq_true n
  | .sref n => by unfold dEq; exact beq_self_eq_true n
theorem dEqs_refl : ∀ ds : List D, dEqs ds ds = true
  | [] => rfl
  | d :: r => by unfold dEqs; rw [dEq_refl d, dEqs_refl r]; rfl
end
mutual
theorem dEq_eq : ∀ a b : D, dEq a b = true → a = b
  | .non, b, h => by cases b <;> first | rfl | (unfold dEq at h; cases h)
  | .bl a, b, h => by cases b <;> first | (unfold dEq at h; exact congrArg D.bl (eq_of_beq h)) | (unfold dEq at h; cases h)
  | .int a, b, h => by cases b <;> first | (unfold dEq at h; exact congrArg D.int (eq_of_beq h)) | (unfold dEq at h; cases h)
  | .str a, b, h => by cases b <;> first | (unfold dEq at h; exact congrArg D.str (of_decide_eq_true h)) | (unfold dEq at h; cases h)
  | .tup a, b, h => by cases b <;> first | (unfold dEq at h; exact congrArg D.tup (dEqs_eq _ _ h)) | (unfold dEq at h; cases h)
  | .lst a, b, h => by cases b <;> first | (unfold dEq at h; exact congrArg D.lst (dEqs_eq _ _ h)) | (unfold dEq at h; cases h)
  | .fro a, b, h => by cases b <;> first | (unfold dEq at h; exact congrArg D.fro (dEqs_eq _ _ h)) | (unfold dEq at h; cases h)
  | .ref a, b, h => by cases b <;> first | (unfold dEq at h; exact congrArg D.ref (eq_of_beq h)) | (unfold dEq at h; cases h)
  | .sref a, b, h => by cases b <;> first | (unfold dEq at h; exact congrArg D.sref (eq_of_beq h)) | (unfold dEq at h; cases h)
theorem dEqs_eq : ∀ a b : List D, dEqs a b = true → a = b
  | [], b, h => by cases b <;> first | rfl | (unfold dEqs at h; cases h)
  | x :: r, b, h => by
    cases b with
    | nil =>
      unfold dEqs at h
      cases h
    | cons y s =>
      unfold dEqs at h
      rw [Bool.and_eq_true] at h
      rw [dEq_eq x y h.1, dEqs_eq r s h.2]
end
def cEq : Cell → Cell → Bool
  | .lst a, .lst b => dEqs a b
  | .set a, .set b => decide (a = b)
  | _, _ => false
theorem cEq_refl : ∀ c : Cell, cEq c c = true
  | .lst a => dEqs_refl a
  | .set a => decide_eq_true rfl
theorem cEq_eq : ∀ a b : Cell, cEq a b = true → a = b
  | .lst a, .lst b, h => congrArg Cell.lst (dEqs_eq a b h)
  | .set a, .set b, h => congrArg Cell.set (of_decide_eq_true h)
/-- the store begins with the other one -/
def begB : Sto → Sto → Bool
  | [], _ => true
  | a :: r, b :: s => cEq a b && begB r s
  | _ :: _, [] => false
theorem begB_app : ∀ (st ex : Sto), begB st (st ++ ex) = true
  | [], _ => rfl
  | c :: r, ex => by
    show (cEq c c && begB r (r ++ ex)) = true
    rw [cEq_refl, begB_app r ex]
    rfl
theorem begB_refl (st : Sto) : begB st st = true := by
  have := begB_app st []
  rwa [List.append_nil] at this
theorem begB_eq : ∀ (st st' : Sto), begB st st' = true → ∃ ex, st' = st ++ ex
  | [], st', _ => ⟨st', rfl⟩
  | c :: r, [], h => by cases h
  | c :: r, d :: s, h => by
    have h : (cEq c d && begB r s) = true := h
    rw [Bool.and_eq_true] at h
    obtain ⟨ex, e⟩ := begB_eq r s h.2
    exact ⟨ex, by rw [← cEq_eq c d h.1, e]; rfl⟩
/-- own cells are frozen -/
def frzD (st : Sto) (n : Nat) : Nat → D → Option D
  | 0, _ => none
  | m + 1, d => if refB n d = true then some d else match d with
    | .ref k => match st[k]? with
      | some (.lst ds) => (mapO (frzD st n m) ds).map .lst
      | _ => none
    | .tup ds => (mapO (frzD st n m) ds).map .tup
    | .lst ds => (mapO (frzD st n m) ds).map .lst
    | _ => none
def frzP (st : Sto) (n : Nat) : Pay → Option Pay
  | none => some none
  | some (f, d) => (frzD st n 12 d).map fun d' => some (f, d')
def fnZ (n : Nat) (g : SF) : List D → Sto → R D := fun ds st => match g (ds.map some ++ List.replicate (n - ds.length) none) st with
  | .nx _ st' => if begB st st' = true then .ok .non st else .bad
  | .rt d st' => if begB st st' = true then (match frzD st' st.length 12 d with
    | some d' => .ok d' st
    | none => .bad) else .bad
  | .ex c p _ st' => if begB st st' = true then (match frzP st' st.length p with
    | some p' => .ex c p' st
    | none => .bad) else .bad
  | _ => .bad
section
variable {K : PySem.W.Frag} {z z' : Z} {H H' : Hp} {st ex : Sto}
mutual
theorem Rep.refB : ∀ {v : V} {d : D}, Rep K z H v d → Ev.refB z.mu.length d = true
  | _, _, .non => by unfold Ev.refB; rfl
  | _, _, .bl b => by unfold Ev.refB; rfl
  | _, _, .int i => by unfold Ev.refB; rfl
  | _, _, .str x => by unfold Ev.refB; rfl
  | _, _, .tup h r => by unfold Ev.refB; exact Reps.refBs r
  | _, _, .lst f h r => by unfold Ev.refB; exact Reps.refBs r
  | _, _, .ref h k => by unfold Ev.refB; exact decide_eq_true (List.getElem?_eq_some_iff.mp h).1
  | _, _, .fro h r => by unfold Ev.refB; exact Reps.refBs r
  | _, _, .sref h k => by unfold Ev.refB; exact decide_eq_true (List.getElem?_eq_some_iff.mp h).1
theorem Reps.refBs : ∀ {vs : List V} {ds : List D}, Reps K z H vs ds → Ev.refBs z.mu.length ds = true
  | _, _, .nil => by unfold Ev.refBs; rfl
  | _, _, .cons r t => by unfold Ev.refBs; rw [Rep.refB r, Reps.refBs t]; rfl
end
/-- what is left when the cells made since are dropped -/
def Z.cut (z z' : Z) (H' : Hp) : Z := ⟨z.mu, fun a => z'.fz a ∨ (a ∈ z'.mu ∧ a ∉ z.mu ∧ ∃ xs, H' a = some (.lst xs)), z.tb, z.kd⟩
theorem ext_cut (e : Ext z H z' H') : Ext z H (z.cut z' H') H' :=
  ⟨⟨fun _ _ h => h, fun a h => ⟨.inl (e.fz a h).1, (e.fz a h).2⟩, fun _ _ _ => rfl⟩, e.fr, fun a h => .inl h, fun a h => h.elim (e.nf a) fun q => (e.nw a q.1).elim (fun w => absurd w q.2.1) .inr, e.lv, rfl⟩
theorem mu_at (e : Ext z H z' H') {k : Nat} {a : Addr} (h : z'.mu[k]? = some a) (hk : k < z.mu.length) : z.mu[k]? = some a := by
  have q := List.getElem?_eq_getElem hk
  rw [q, ← e.mu k _ q, h]
mutual
/-- data that names old cells only -/
theorem Rep.cut (e : Ext z H z' H') : ∀ {v : V} {d : D}, Rep K z' H' v d → Ev.refB z.mu.length d = true → Rep K (z.cut z' H') H' v d
  | _, _, .non, _ => .non
  | _, _, .bl b, _ => .bl b
  | _, _, .int i, _ => .int i
  | _, _, .str x, _ => .str x
  | _, _, .tup h r, q => .tup (h.elim (fun w => .inl ⟨.inl w.1, w.2⟩) .inr) (Reps.cut e r (by unfold Ev.refB at q; exact q))
  | _, _, .lst f h r, q => .lst (.inl f) h (Reps.cut e r (by unfold Ev.refB at q; exact q))
  | _, _, .ref (n := n) h k, q => by
    unfold Ev.refB at q
    have hn := mu_at e h (of_decide_eq_true q)
    exact .ref hn ((e.kd n _ hn).symm.trans k)
  | _, _, .fro h r, q => .fro (h.elim (fun w => .inl ⟨.inl w.1, w.2⟩) .inr) (Reps.cut e r (by unfold Ev.refB at q; exact q))
  | _, _, .sref (n := n) h k, q => by
    unfold Ev.refB at q
    have hn := mu_at e h (of_decide_eq_true q)
    exact .sref hn ((e.kd n _ hn).symm.trans k)
theorem Reps.cut (e : Ext z H z' H') : ∀ {vs : List V} {ds : List D}, Reps K z' H' vs ds → Ev.refBs z.mu.length ds = true → Reps K (z.cut z' H') H' vs ds
  | _, _, .nil, _ => .nil
  | _, _, .cons r t, q => by
    unfold Ev.refBs at q
    rw [Bool.and_eq_true] at q
    exact .cons (Rep.cut e r q.1) (Reps.cut e t q.2)
end
variable [Tabs]
theorem rel_cut (h : RelH K z H st) (e : Ext z H z' H') (h' : RelH K z' H' (st ++ ex)) : RelH K (z.cut z' H') H' st := by
  have sub : ∀ a, a ∈ z.mu → a ∈ z'.mu := fun a ha => by
    obtain ⟨i, hi⟩ := List.mem_iff_getElem?.mp ha
    exact List.mem_of_getElem? (e.mu i a hi)
  refine ⟨h.len, h.nd, fun a ha q => ?_, fun a q => ?_, fun n a c hn hc => ?_, fun P hP => ?_, h.tbk, h.knd⟩
  · rcases q with q | q
    · exact h'.nfz a (sub a ha) q
    · exact q.2.1 ha
  · rcases q with q | ⟨_, _, xs, q⟩
    · exact h'.fz a q
    · rw [q]
      simp
  · have hn : z.mu[n]? = some a := hn
    have hl : n < st.length := h.len ▸ (List.getElem?_eq_some_iff.mp hn).1
    have c' := h'.cells n a c (e.mu n a hn) (by rw [List.getElem?_append_left hl]; exact hc)
    have c0 := h.cells n a c hn hc
    cases c with
    | lst ds =>
      obtain ⟨xs, hx, rs⟩ := c'
      obtain ⟨ys, hy, rs0⟩ := c0
      exact ⟨xs, hx, Reps.cut e rs (Reps.refBs rs0)⟩
    | set S => exact c'
  · have hP' : P ∈ z'.tb := by rw [e.tb]; exact hP
    obtain ⟨a, b, c⟩ := h'.tb P hP'
    exact ⟨a, (h.tb P hP).2.1, fun w => w.elim c fun q => b q.1⟩
theorem mapO_some {α β : Type} {f : α → Option β} : ∀ {xs : List α} {ys : List β}, mapO f xs = some ys → xs = [] ∧ ys = [] ∨ ∃ x r y s, xs = x :: r ∧ ys = y :: s ∧ f x = some y ∧ mapO f r = some s
  | [], ys, h => .inl ⟨rfl, (Option.some.inj h).symm⟩
  | x :: r, ys, h => by
    have h : (f x).bind (fun b => (mapO f r).bind fun bs => some (b :: bs)) = some ys := h
    obtain ⟨y, hy, h⟩ := Option.bind_eq_some_iff.mp h
    obtain ⟨s, hs, h⟩ := Option.bind_eq_some_iff.mp h
    exact .inr ⟨x, r, y, s, rfl, (Option.some.inj h).symm, hy, hs⟩
theorem frz_reps {m : Nat} (f : ∀ {v : V} {d d' : D}, Rep K z' H' v d → frzD (st ++ ex) st.length m d = some d' → Rep K (z.cut z' H') H' v d') : ∀ {vs : List V} {ds ds' : List D}, Reps K z' H' vs ds → mapO (frzD (st ++ ex) st.length m) ds = some ds' → Reps K (z.cut z' H') H' vs ds'
  | _, _, _, .nil, h => by
    cases h
    exact .nil
  | _, _, _, .cons r t, h => by
    rcases mapO_some h with ⟨q, _⟩ | ⟨x, r', y, s, e, rfl, h1, h2⟩
    · cases q
    · cases e
      exact .cons (f r h1) (frz_reps f t h2)
theorem rep_cut (h : RelH K z H st) (e : Ext z H z' H') (h' : RelH K z' H' (st ++ ex)) : ∀ (m : Nat) {v : V} {d d' : D}, Rep K z' H' v d → frzD (st ++ ex) st.length m d = some d' → Rep K (z.cut z' H') H' v d'
  | 0, _, _, _, _, q => by cases q
  | m + 1, v, d, d', r, q => by
    unfold frzD at q
    split at q
    · rename_i hb
      rw [← Option.some.inj q]
      exact Rep.cut e r (by rw [h.len]; exact hb)
    · rename_i hb
      cases r with
      | @tup a xs ds t rs =>
        obtain ⟨es, he, hq⟩ := Option.map_eq_some_iff.mp q
        rw [← hq]
        exact .tup (t.elim (fun w => .inl ⟨.inl w.1, w.2⟩) .inr) (frz_reps (rep_cut h e h' m) rs he)
      | @lst a xs ds f hx rs =>
        obtain ⟨es, he, hq⟩ := Option.map_eq_some_iff.mp q
        rw [← hq]
        exact .lst (.inl f) hx (frz_reps (rep_cut h e h' m) rs he)
      | @ref a k hk kd =>
        have hkn : ¬ k < st.length := fun w => hb (by unfold refB; exact decide_eq_true w)
        have hl : k < (st ++ ex).length := h'.len ▸ (List.getElem?_eq_some_iff.mp hk).1
        have hc := List.getElem?_eq_getElem hl
        generalize (st ++ ex)[k] = c at hc
        cases c with
        | set S =>
          simp only [hc] at q
          cases q
        | lst ds =>
          simp only [hc] at q
          obtain ⟨es, he, hq⟩ := Option.map_eq_some_iff.mp q
          rw [← hq]
          obtain ⟨xs, hx, rs⟩ := h'.cells k a _ hk hc
          refine .lst (.inr ⟨List.mem_of_getElem? hk, fun w => ?_, xs, hx⟩) hx (frz_reps (rep_cut h e h' m) rs he)
          obtain ⟨j, hj⟩ := List.mem_iff_getElem?.mp w
          have := nd_ix h'.nd (e.mu j a hj) hk
          have hj' := (List.getElem?_eq_some_iff.mp hj).1
          rw [h.len] at hj'
          omega
      | _ => cases q
end
section
variable {P : Program} {w : World} {K : PySem.W.Frag} {mg : Str → Option Value} {base : Heap} {xm : List Addr}
theorem FnG.byZ (hw : Tabs.wd = some w) {x qual : Str} {st : Stmt} {f : Addr} {fd : FuncData} {N ps : List Str} {k n m : Nat} {g : SF} (F : Fun K x qual st f fd) (S : FnScope N ps (defScope st)) (hn : N.length = n) (hm : ps.length = m)
    (hb : ∀ (cdv : Value) (A : Around) (outer : List Env) (s : Shared) (H : Hp) (E : XK), GX (cxOf (L2.CX P w) P w K mg base N qual (defScope st) f cdv A outer s H E) xm (fun cls d _ H => E cls d H) k →
      PSs (cxOf (L2.CX P w) P w K mg base N qual (defScope st) f cdv A outer s H E) (defBody st) (TSf K xm (fun cls d _ H => E cls d H) g)) : FnG P w K mg base (k + 1) f fd ps (spF K xm (fnZ n g) m) := by
  subst hn hm
  refine FnG.body F S (fun vs H Q E ⟨z, ds, st, _, rs, hl, _⟩ => rs.length.trans hl) fun cdv A outer s H vs Q E room gd h => ?_
  obtain ⟨z, ds, sto, rh, rs, hl, h⟩ := h
  refine ⟨_, hb cdv A outer s H E ⟨takes_of rfl rfl rfl rfl, passes_of rfl, room, gd, S.nd, rfl, hw⟩, z, _, sto, rh, relE_start N rfl rs, ?_⟩
  unfold fnZ at h
  generalize g (ds.map some ++ List.replicate (N.length - ds.length) none) sto = r at h ⊢
  cases r with
  | nx en st' =>
    simp only at h
    split at h
    · rename_i hq
      obtain ⟨ex, rfl⟩ := begB_eq _ _ hq
      exact fun σ' z' H' e r' _ => h _ (z.cut z' H') H' (ext_cut e) (rel_cut rh e r') .non
    · exact h.elim
  | rt d st' =>
    simp only at h
    split at h
    · rename_i hq
      obtain ⟨ex, rfl⟩ := begB_eq _ _ hq
      cases hf : frzD (sto ++ ex) sto.length 12 d with
      | none =>
        rw [hf] at h
        exact h.elim
      | some d' =>
        rw [hf] at h
        exact fun v z' H' e r' p => h v (z.cut z' H') H' (ext_cut e) (rel_cut rh e r') (rep_cut rh e r' 12 p hf)
    · exact h.elim
  | ex c p en st' =>
    simp only at h
    split at h
    · rename_i hq
      obtain ⟨ex, rfl⟩ := begB_eq _ _ hq
      cases hf : frzP (sto ++ ex) sto.length p with
      | none =>
        rw [hf] at h
        exact h.elim
      | some p' =>
        rw [hf] at h
        refine fun cls dd σ' z' H' e r' _ x => h cls dd (z.cut z' H') H' (ext_cut e) (rel_cut rh e r') ⟨x.1, ?_⟩
        cases p with
        | none =>
          cases hf
          exact x.2
        | some q =>
          obtain ⟨d', hd, hq⟩ := Option.map_eq_some_iff.mp (show (frzD (sto ++ ex) sto.length 12 q.2).map (fun d' => some (q.1, d')) = some p' from hf)
          subst hq
          obtain ⟨a, v, ha, hx, rv⟩ := x.2
          exact ⟨a, v, ha, hx, rep_cut rh e r' 12 rv hd⟩
    · exact h.elim
  | bk en st' => exact h.elim
  | ct en st' => exact h.elim
  | bad => exact h.elim
end
end Ev

namespace Ev
open PySem PySem.Spec PyProof.Rows L2 RZ
variable [Tabs]

/-! ## a, b = x, y -/
def parS (i j : Nat) (fs : AF) : SF := fun en st => bindS (fs en st) en fun ds st1 => match ds with
  | [d, e] => if i < en.length ∧ j < en.length then .nx ((en.set i (some d)).set j (some e)) st1 else .bad
  | _ => .bad
section
variable {X : Cx} {xm : List Addr} {W : WX} {k : Nat} {x y : Str} {a b : Expr} {px py pt pos : Pos} {kt k2 : Nat} {pt2 : Pos} {fs : AF}
theorem ss_par (G : GX X xm W k) (i j : Nat) (ha : PA X [a, b] (TAf X.K xm W fs)) (hi : X.N[i]? = some x := by rfl) (hj : X.N[j]? = some y := by rfl) (hij : i ≠ j := by decide)
    (hx : X.env.scope.names.lookup x = some .local := by rfl) (hy : X.env.scope.names.lookup y = some .local := by rfl)
    (hw : swappedStores [.Tuple [.Name x px, .Name y py] kt pt] (.Tuple [a, b] k2 pt2) X.env = pure (some [x, y]) := by rfl)
    (hs : swapsWithSole [.Tuple [.Name x px, .Name y py] kt pt] (.Tuple [a, b] k2 pt2) pos.line X.env = pure false := by rfl) :
    PS X (.Assign [.Tuple [.Name x px, .Name y py] kt pt] (.Tuple [a, b] k2 pt2) pos) (TSf X.K xm W (parS i j fs)) :=
  (ps_par G.cm G.nd hi hj hij hx hy ha hw hs).imp fun E σ H ⟨z, en, st, rh, re, h⟩ => by
    refine seqA' rh re (sat_bind re h) fun ds st1 vs z1 H1 q1 e1 r1 re1 p1 => ?_
    match ds, p1, q1 with
    | [d, e], .cons (v := v) pd (.cons (v := w) pe .nil), q1 =>
      by_cases l : i < en.length ∧ j < en.length
      · simp only [if_pos l] at q1
        exact ⟨v, w, rfl, q1 _ z1 H1 e1 r1 ((re1.set pd l.1).set pe (by rw [List.length_set]; exact l.2))⟩
      · simp only [if_neg l] at q1
        exact False.elim q1
end

/-! ## own errors made of a text: raised, caught -/
structure ExAt (K : PySem.W.Frag) (mg : Str → Option Value) (xm : List Addr) (x : Str) (c : Nat) : Prop where
  ex : ∃ C, xm[c]? = some C ∧ mg x = some (.ref C) ∧ PySem.W.keepIn K (.ref C) = true ∧ PySem.W.excIn K C [.type "ValueError", .type "Exception", .type "BaseException", .type "object"] "ValueError.__new__" = true ∧
    PySem.W.subIn K (.ref C) (.type "BaseException") = some true ∧ PySem.W.typeIn K (.ref C) = some (.type "type")
def raiseS (c : Nat) : SF := fun en st => .ex c none en st
section
variable {X : Cx} {xm : List Addr} {W : WX} {k c : Nat} {x m : Str} {j : Nat} {p p2 pos rpos : Pos}
theorem ss_raise (E : ExAt X.K X.mg xm x c) (G : GX X xm W k) (hg : Gl X x := by rfl) (hdb : (x == ("__debug__" : Str)) = false := by decide) :
    PS X (.Raise (some (.Call (.Name x p) [.Constant (.str m) j p2] [] pos)) none rpos) (TSf X.K xm W (raiseS c)) := by
  obtain ⟨C, hc, gC, kC, xC, bC, tC⟩ := E.ex
  exact (ps_raise G.cm G.tk (pmk_own PySem.F.excBase_ValueError xC gC kC (raises_own bC tC) hg hdb)).imp fun D σ H ⟨z, en, st, rh, re, h⟩ => h _ _ σ z H .refl rh re ⟨⟨C, hc, rfl⟩, rfl⟩
/-- what an except clause for the class at C0 asks of the classes that fly: which it takes -/
structure CatchAt (K : PySem.W.Frag) (xm : List Addr) (C0 : Addr) (cc : Nat → Bool) : Prop where
  is : ∀ (c : Nat) C, xm[c]? = some C → PySem.W.exmOne K (.ref C) (.ref C0) = some (cc c)
/-- .. and isinstance for the class at C0 -/
structure IsAt (K : PySem.W.Frag) (xm : List Addr) (C0 : Addr) (cc : Nat → Bool) : Prop where
  is : ∀ (c : Nat) C, xm[c]? = some C → PySem.W.kitOne K (.ref C) (.ref C0) = some (cc c)
  ok : ∀ (c : Nat) C, xm[c]? = some C → ExcC K C
/-- try: body / except X as n: y = s if isinstance(n, T) else t -/
def tryA (cc sb : Nat → Bool) (i j : Nat) (s t : Str) (u : SF) : SF := fun en st => match u en st with
  | .ex c none en1 st1 => if cc c then (if j < en1.length ∧ i < en1.length then .nx (((en1.set i none).set j (some (.str (if sb c then s else t)))).set i none) st1 else .bad) else .ex c none en1 st1
  | .ex _ (some _) _ _ => .bad
  | r => r
theorem RelE.forget {K : PySem.W.Frag} {z : Z} {H : Hp} {σ : L2.St} {en : En} (h : RelE K z H σ en) (i : Nat) (v : Option V) : RelE K z H (σ.set i v) (en.set i none) := by
  refine ⟨by rw [List.length_set, List.length_set, h.1], fun n d q => ?_⟩
  by_cases l : i = n
  · subst l
    by_cases hl : i < en.length
    · rw [List.getElem?_set_self hl] at q
      cases q
    · rw [List.getElem?_eq_none (by rw [List.length_set]; omega)] at q
      cases q
  · rw [List.getElem?_set_ne l] at q
    obtain ⟨w, a, b⟩ := h.2 n d q
    exact ⟨w, by rw [List.getElem?_set_ne l]; exact a, b⟩
variable {n y xi ti : Str} {np npos pos' py p1 p3 p4 p5 p6 : Pos} {s t : Str} {js jt : Nat} {ps pt : Pos} {body : List Stmt} {u : SF} {cc sb : Nat → Bool} {C0 T0 : Addr}
theorem ss_tryA (i jy : Nat) (G : GX X xm W k) (hc0 : X.mg x = some (.ref C0)) (hcc : CatchAt X.K xm C0 cc) (ht0 : X.mg ti = some (.ref T0)) (hsb : IsAt X.K xm T0 sb)
    (hb : ∀ (W' : WX) (pn : List (Addr × Obj)) (xe : Value → Shared → Prop), GX (X.tr pn xe) xm W' k → PSs (X.tr pn xe) body (TSf X.K xm W' u))
    (hs : X.stack = X.env :: X.outer) (hf : X.env.frame = some X.env.locals) (hi : X.N[i]? = some n) (hln : X.env.kindOf n = some .local) (hgx : Gl X x) (hdx : (x == ("__debug__" : Str)) = false) (hgt : Gl X ti) (hdt : (ti == ("__debug__" : Str)) = false)
    (hgi : Gl X "isinstance") (hmi : X.mg "isinstance" = none) (hnd : (n == ("__debug__" : Str)) = false) (hnc : (n == ("__classdict__" : Str)) = false) (hj : X.N[jy]? = some y) (hly : X.env.scope.names.lookup y = some .local)
    (he1 : starEach [.Name n p1, .Name ti p3] X.env = (false, eval (.Name n p1) X.env) :: starEach [.Name ti p3] X.env) (he2 : starEach [.Name ti p3] X.env = (false, eval (.Name ti p3) X.env) :: starEach [] X.env) (hpl : (backTo p4 (starEach [.Name ti p3] X.env)).any (·.1) = false)
    (hsw : swapsWith (.IfExp (.Call (.Name "isinstance" np) [.Name n p1, .Name ti p3] [] p4) (.Constant (.str s) js ps) (.Constant (.str t) jt pt) p5) (some (.Name y py)) p6.line X.env = pure false) :
    PS X (.Try body [.ExceptHandler (some (.Name x npos)) (some n) [.Assign [.Name y py] (.IfExp (.Call (.Name "isinstance" np) [.Name n p1, .Name ti p3] [] p4) (.Constant (.str s) js ps) (.Constant (.str t) jt pt) p5) p6] pos'] [] [] pos)
      (TSf X.K xm W (tryA cc sb i jy s t u)) := by
  refine (ps_try_as (c := .ref C0) (i := i) (tb := fun W' => TSf X.K xm W' u) (ts := fun a cls d => fun E σ H => ∃ c C, xm[c]? = some C ∧ cls = .ref C ∧ d = none ∧ σ[i]? = some (some (.ref a)) ∧ E.nx (σ.set jy (some (.str (if sb c then s else t)))) H) hs hf G.nd hi hln ⟨hgx, hdx, .inl hc0⟩ G.tk
    (fun W' pn xe tk po => hb W' pn xe ⟨tk, po, G.rm, G.gd, G.nd, G.cm, G.wd⟩) (fun a oe cls d pn hz hv => ⟨fun pins s1 σ H E I q => ?_⟩)).imp fun E σ H ⟨z, en, st, rh, re, h⟩ => ?_
  · -- the suite
    obtain ⟨c, C, hc, rfl, rfl, hσ, q⟩ := q
    have test : PE (X.suite a ((a, oe) :: pn)) (.Call (.Name "isinstance" np) [.Name n p1, .Name ti p3] [] p4) (tCB (rIsE X.K C a) (tCons (tVar i) (tCons (tC (.ref T0)) tNil))) :=
      pe_callB (call_isE (hsb.ok c C hc) hz hv) hgi hmi (by decide +kernel) (pa_cons (pe_var (X := X.suite a ((a, oe) :: pn)) (i := i) hi (.inl hln) hnd hnc) (pa_cons (pe_glob (X := X.suite a ((a, oe) :: pn)) (v := .ref T0) hgt ht0 rfl hdt) pa_nil he2) he1) (by decide) (by decide) he1 hpl
    have stm := ps_set (X := X.suite a ((a, oe) :: pn)) (pos := p6) (pos' := py) (i := jy) (x := y) G.nd hj (.inl hly) (pe_ifExp (pt_val test) (pe_str (x := s) (j := js) (pos := ps)) (pe_str (x := t) (j := jt) (pos := pt))) hsw (.inr hly)
    refine (pss_one stm).run pins s1 σ H E I ?_
    refine ⟨.ref a, hσ, .ref T0, .ref T0, sb c, rfl, fun u hu => hu, hsb.is c C hc, sb c, rfl, ?_⟩
    cases e : sb c with
    | true =>
      rw [e] at q
      exact q
    | false =>
      rw [e] at q
      exact q
  · -- the whole
    refine ⟨z, en, st, rh, re, ?_⟩
    unfold tryA at h
    cases w : u en st with
    | nx en1 st1 =>
      rw [w] at h
      exact h
    | bk en1 st1 =>
      rw [w] at h
      exact h
    | ct en1 st1 =>
      rw [w] at h
      exact h
    | rt d st1 =>
      rw [w] at h
      exact h
    | bad =>
      rw [w] at h
      exact h
    | ex c p en1 st1 =>
      rw [w] at h
      cases p with
      | some v => exact h.elim
      | none =>
        rintro cls dd σ1 z1 H1 e1 r1 re1 ⟨⟨C, hC, rfl⟩, rfl⟩
        refine ⟨cc c, hcc.is c C hC, fun hcT b nb => ?_, fun hcF => ?_⟩
        · simp only [hcT, if_true] at h
          by_cases l : jy < en1.length ∧ i < en1.length
          · simp only [if_pos l] at h
            have hil : i < σ1.length := by rw [re1.1]; exact l.2
            refine ⟨c, C, hC, rfl, rfl, List.getElem?_set_self hil, ?_⟩
            refine h _ z1 H1 e1 r1 ?_
            exact ((re1.forget i _).set (.str _) (by rw [List.length_set]; exact l.1)).forget i none
          · simp only [if_neg l] at h
            exact h.elim
        · simp only [hcF] at h
          exact h _ _ σ1 z1 H1 e1 r1 re1 ⟨⟨C, hC, rfl⟩, rfl⟩
end
/-! ## what the texts of the laws name -/
def bigFuel : Nat := 2 ^ 65536
theorem bt_len : bootBuiltins "len" = some (.builtin "len") := by decide +kernel
theorem bt_abs : bootBuiltins "abs" = some (.builtin "abs") := by decide +kernel
theorem bt_sum : bootBuiltins "sum" = some (.builtin "sum") := by decide +kernel
theorem bt_repr : bootBuiltins "repr" = some (.builtin "repr") := by decide +kernel
theorem bt_min : bootBuiltins "min" = some (.builtin "min") := by decide +kernel
theorem bt_max : bootBuiltins "max" = some (.builtin "max") := by decide +kernel
theorem bt_sorted : bootBuiltins "sorted" = some (.builtin "sorted") := by decide +kernel
theorem bt_int : bootBuiltins "int" = some (.type "int") := by decide +kernel
theorem bt_list : bootBuiltins "list" = some (.type "list") := by decide +kernel
theorem bt_tuple : bootBuiltins "tuple" = some (.type "tuple") := by decide +kernel
theorem bt_bool : bootBuiltins "bool" = some (.type "bool") := by decide +kernel
theorem bt_str : bootBuiltins "str" = some (.type "str") := by decide +kernel
theorem sn_glob {X : Cx} {xm : List Addr} {W : WX} {x : Str} {v : V} {d : D} {pos : Pos} (h : ∃ u, X.mg x = some u ∧ RelV v u) (r : ∀ z H, Rep X.K z H v d) (hg : Gl X x := by rfl) (hd : (x == ("__debug__" : Str)) = false := by decide) : PE X (.Name x pos) (TEf X.K xm W (litF d)) := by
  obtain ⟨u, hm, hr⟩ := h
  exact sn_lit (pe_glob hg hm hr hd) r
/-- what an except clause, isinstance say of two classes: by the chain of bases -/
theorem cls_chain {K : PySem.W.Frag} {t : Value} {S : Addr} {b : Bool} (h2 : PySem.W.isClsIn K S = true) (h3 : PySem.W.typeIn K (.ref S) = some (.type "type")) (h4 : PySem.W.subIn K t (.ref S) = some b) : PySem.W.kitCls K t (.ref S) = some b := by
  have e2 : ((PySem.W.clsIn K S).isSome && PySem.W.typeIn K (.ref S) == some (.type "type")) = true := by
    rw [show (PySem.W.clsIn K S).isSome = true from h2, h3]
    rfl
  exact (if_pos e2).trans h4
theorem exm_by {K : PySem.W.Frag} {C S : Addr} {b : Bool} (h1 : PySem.W.subIn K (.ref S) (.type "BaseException") = some true) (h2 : PySem.W.isClsIn K S = true) (h3 : PySem.W.typeIn K (.ref S) = some (.type "type")) (h4 : PySem.W.subIn K (.ref C) (.ref S) = some b) : PySem.W.exmOne K (.ref C) (.ref S) = some b :=
  (if_pos (by rw [h1]; rfl)).trans (cls_chain h2 h3 h4)
theorem kit_by {K : PySem.W.Frag} {C S : Addr} {b : Bool} (h0 : PySem.W.subIn K (.ref S) (.ref S) = some true) (h2 : PySem.W.isClsIn K S = true) (h3 : PySem.W.typeIn K (.ref S) = some (.type "type")) (h4 : PySem.W.subIn K (.ref C) (.ref S) = some b) : PySem.W.kitOne K (.ref C) (.ref S) = some b := by
  by_cases e : C = S
  · subst e
    rw [h0] at h4
    rw [← h4]
    exact if_pos (by simp)
  · exact (if_neg (by simpa using e)).trans (cls_chain h2 h3 h4)
end Ev

namespace Ev
open PySem PySem.Spec PyProof.Rows L2 RZ
variable [Tabs]

/-! ## a, b, c = x, y, z -/
def par3S (i j l : Nat) (fs : AF) : SF := fun en st => bindS (fs en st) en fun ds st1 => match ds with
  | [d, e, f] => if i < en.length ∧ j < en.length ∧ l < en.length then .nx (((en.set i (some d)).set j (some e)).set l (some f)) st1 else .bad
  | _ => .bad
section
variable {X : Cx} {xm : List Addr} {W : WX} {k : Nat} {x y z : Str} {a b c : Expr} {px py pz pt pos : Pos} {kt k2 : Nat} {pt2 : Pos} {fs : AF}
theorem ss_par3 (G : GX X xm W k) (i j l : Nat) (ha : PA X [a, b, c] (TAf X.K xm W fs)) (hi : X.N[i]? = some x := by rfl) (hj : X.N[j]? = some y := by rfl) (hl : X.N[l]? = some z := by rfl) (hij : i ≠ j := by decide) (hil : i ≠ l := by decide) (hjl : j ≠ l := by decide)
    (hx : X.env.scope.names.lookup x = some .local := by rfl) (hy : X.env.scope.names.lookup y = some .local := by rfl) (hz : X.env.scope.names.lookup z = some .local := by rfl)
    (hw : swappedStores [.Tuple [.Name x px, .Name y py, .Name z pz] kt pt] (.Tuple [a, b, c] k2 pt2) X.env = pure (some [x, y, z]) := by rfl)
    (hs : swapsWithSole [.Tuple [.Name x px, .Name y py, .Name z pz] kt pt] (.Tuple [a, b, c] k2 pt2) pos.line X.env = pure false := by rfl) :
    PS X (.Assign [.Tuple [.Name x px, .Name y py, .Name z pz] kt pt] (.Tuple [a, b, c] k2 pt2) pos) (TSf X.K xm W (par3S i j l fs)) :=
  (ps_par3 G.cm G.nd hi hj hl hij hil hjl hx hy hz ha hw hs).imp fun E σ H ⟨z, en, st, rh, re, h⟩ => by
    refine seqA' rh re (sat_bind re h) fun ds st1 vs z1 H1 q1 e1 r1 re1 p1 => ?_
    match ds, p1, q1 with
    | [d, e, f], .cons (v := u) pd (.cons (v := v) pe (.cons (v := w) pf .nil)), q1 =>
      by_cases h : i < en.length ∧ j < en.length ∧ l < en.length
      · simp only [if_pos h] at q1
        exact ⟨u, v, w, rfl, q1 _ z1 H1 e1 r1 (((re1.set pd h.1).set pe (by rw [List.length_set]; exact h.2.1)).set pf (by rw [List.length_set, List.length_set]; exact h.2.2))⟩
      · simp only [if_neg h] at q1
        exact False.elim q1
end
end Ev

/-! all(.. for .. in ..): the element asked where it stands, under the generator's own frame, by the layer's judgements -/
namespace Ev
open PySem PySem.Spec PyProof.Rows L2 GxR
variable [Tabs]

/-- the context of the generator's frame -/
abbrev gnx (X : Cx) (s : Shared) (H : Hp) (A : Around) (ce : Env) (fp : List Addr) : Cx :=
  { X with A := A, s_0 := s, H_0 := H, env := ce, outer := X.stack, stack := ce :: X.stack, ex := fp, fn := fun _ => false, pn := [], xe := fun _ _ => False }
structure GenOk (N : List Str) (sc scope : Scope) (own : List (Str × Nat)) : Prop extends BlkOk N sc scope own where
  co : scope.isCoroutine = false
  nocell : ∀ y ∈ scope.names, y.2 ≠ .cell
  dot : scope.names.lookup (".0" : Str) = some NameKind.local
abbrev gce (X : Cx) (scope : Scope) (L : Addr) (code : Value) : Env := genEnv scope (cloFrom X.env.cells scope.names []) L code builtinsNs X.env
section
variable {X : Cx} {pins : List (Addr × Obj)} {σ : L2.St} {H : Hp} {s s5 : Shared} {scope : Scope} {own : List (Str × Nat)} {fp : List Addr} {A' : Around} {code : Value} {m : Str → Option Value}
theorem gen_start (I : Inv X pins σ H s) (ok : GenOk X.N X.env.scope scope own) (hN : X.N.Nodup) (hfp : ∀ b ∈ fp, FpOk X pins H b ∧ b < s.heap.objs.size)
    (hA : X.calm = true → A'.handled = none) (hF : A'.frames = some (gce X scope s.heap.objs.size code :: X.stack))
    (kp : ∀ b o, s.heap.get? b = some o → s5.heap.get? b = some o) (os : s5.os = s.os) (br : AllBare s5.gens) (ns : s5.heap.Ns s.heap.objs.size m) :
    Inv (gnx X s H A' (gce X scope s.heap.objs.size code) fp) [] (wipe σ (own.map (·.2))) H s5 := by
  have hfree : ∀ y ∈ scope.names, y.2 = .free → ∃ c, X.env.cells.lookup y.1 = some c := fun y hy e => (ok.free y hy e).elim (fun k => I.ok.has _ (.inl k)) fun k => I.ok.has _ (.inr k)
  have mem : ∀ {y c}, (cloFrom X.env.cells scope.names []).lookup y = some c → X.env.cells.lookup y = some c ∧ c < s.heap.objs.size := fun {y c} e => by
    rcases cloFrom_mem (PySem.mem_of_lookup e) with hm | ⟨h1, rfl⟩
    · cases hm
    · obtain ⟨c, hc⟩ := hfree _ h1 rfl
      rw [hc]
      obtain ⟨w, z⟩ := I.cell _ _ hc
      exact ⟨rfl, z.lt⟩
  have look : ∀ {y}, scope.names.lookup y = some .free → ∃ c, (cloFrom X.env.cells scope.names []).lookup y = some c ∧ X.env.cells.lookup y = some c := fun {y} hl => by
    obtain ⟨c', e'⟩ := mem_lookup (cloFrom_has (cells := X.env.cells) (acc := []) (PySem.mem_of_lookup hl))
    exact ⟨c', e', (mem e').1⟩
  have only : ∀ {y}, scope.names.lookup y = some .cell → False := fun {y} e => ok.nocell _ (PySem.mem_of_lookup e) rfl
  have okB : (gnx X s H A' (gce X scope s.heap.objs.size code) fp).Ok := by
    refine ⟨I.ok.mod, ok.kind, I.ok.glob, rfl, Nat.le_refl _, fun y z c e1 e2 => I.ok.inj y z c (mem e1).1 (mem e2).1, fun y hy => ?_, fun y c z _ => (nomatch z), hA, hF, .inr ⟨rfl, rfl⟩, fun b hb => ⟨Nat.ne_of_lt (hfp b hb).2, fun y c e z => ?_⟩,
      I.bs, Nat.le_trans I.ok.bsz I.sz, fun b o e hb => ?_, fun b hb z => ?_, I.stack, I.stkFree⟩
    · rcases hy with hy | hy
      · exact (only hy).elim
      · obtain ⟨c, h1, _⟩ := look hy
        exact ⟨c, h1⟩
    · exact (hfp b hb).1.2.2.2.2.1 y c (mem e).1 z
    · rcases (hfp b hb).1.2.2.2.1 with z | z
      · exact I.ok.noex b o e z
      · exact absurd (Nat.lt_of_lt_of_le (Heap.lt_size e) (Nat.le_trans I.ok.bsz z)) (Nat.lt_irrefl _)
    · rcases List.mem_cons.mp (I.stkSub b z) with z | z
      · exact (hfp b hb).1.2.1 z
      · exact (hfp b hb).1.2.2.1 z
  refine ⟨okB, os, br, Un.kept kp, ⟨m, ns, fun i y av e1 e2 e3 => ?_⟩, fun y c e => ?_, I.hok.fresh (Nat.le_refl _), fun y c e => I.freeC y c (mem e).1, fun p hp => absurd (show p ∈ ([] : List (Addr × Obj)) ++ [] from hp) (by simp), I.hok.kept kp, by rw [wipe_length]; exact I.len⟩
  · obtain ⟨e2, hne⟩ := wipe_some e2
    have hfr : scope.names.lookup y = some .free := by
      have no : ∀ k, scope.names.lookup y = some k → ¬ (k = .local ∨ k = .cell) := fun k e hh => by
        rcases ok.own _ (PySem.mem_of_lookup e) hh with e' | e'
        · obtain ⟨p, hp, hpy⟩ := List.mem_map.mp e'
          have e3 := ok.ix p hp
          have : p.1 = y := hpy
          rw [this] at e3
          exact hne (List.mem_map.mpr ⟨p, hp, nodup_ix hN e3 e1⟩)
        · exact e' (List.mem_of_getElem? e1)
      have e3 : Vis scope y := e3
      rcases e3 with e3 | e3 | e3
      · exact (no _ e3 (.inl rfl)).elim
      · exact (no _ e3 (.inr rfl)).elim
      · exact e3
    obtain ⟨m', hn, hl⟩ := I.loc
    have hvis : Vis X.env.scope y := (ok.free _ (PySem.mem_of_lookup hfr) rfl).elim (fun k => .inr (.inl k)) (fun k => .inr (.inr k))
    obtain ⟨w, r, q⟩ := hl i y av e1 e2 hvis
    refine ⟨w, r, .inr ⟨.inr hfr, ?_⟩⟩
    obtain ⟨c, h1, h2⟩ := look hfr
    rcases q with ⟨k, _⟩ | ⟨_, c', e', z⟩
    · have k : X.env.scope.names.lookup y = some .local := k
      rcases ok.free _ (PySem.mem_of_lookup hfr) rfl with k' | k' <;> rw [show X.env.scope.names.lookup y = _ from k'] at k <;> cases k
    · rw [h2] at e'
      cases e'
      exact ⟨c, h1, z.keeps kp⟩
  · obtain ⟨w, z⟩ := I.cell y c (mem e).1
    exact ⟨w, z.keeps kp⟩
/-- .. nothing but the rest of the state changes -/
theorem inv_idle (I : Inv X pins σ H s) (os : s5.os = s.os) (kp : ∀ b o, s.heap.get? b = some o → s5.heap.get? b = some o) (br : AllBare s5.gens) : Inv X pins σ H s5 :=
  I.call' (ch := []) os (Un.kept kp) (I.hok.kept kp) br fun b z => by simp at z
end

/-! ### the generator's own turns -/
structure Idle (s u : Shared) : Prop where
  os : u.os = s.os
  heap : u.heap = s.heap
  bare : AllBare u.gens
def protoA (Y : Cx) (pins : List (Addr × Obj)) (Q : VK) : Protocol := fun _ _ v s kap =>
  ∃ b σ H, v = .bool b ∧ Inv Y pins σ H s ∧ (b = false → Q (.bl false) H) ∧ (b = true → ∀ u, Idle s u → kap (.send .none) u)
def endA (Y : Cx) (pins : List (Addr × Obj)) (Q : VK) : GenEnd := fun _ _ r s => r = .ok .next ∧ ∃ σ H, Inv Y pins σ H s ∧ Q (.bl true) H
abbrev gxe (el tg it : Expr) (sc : Scope) (gp : Pos) : Expr := .GeneratorExp el [⟨tg, it, [], 0⟩] sc gp
/-- W: by the turn and a measure -/
def AllW (J : It) (g : TG) (te : TE) (vs : List Nat) (σ : L2.St) (Q : VK) (W : Nat → Nat → Hp → Prop) : Prop := ∀ i m H, W i m H →
  (J.stop i H ∧ Q (.bl true) H) ∨ (J.go i H ∧ ∃ Nx : Hp → Prop, (∀ H', Nx H' → ∃ m', m' < m ∧ W (i + 1) m' H') ∧ ∀ x H', J.yld i H x H' → g x (wipe σ vs) H' fun σ2 H2 => wipe σ2 vs = wipe σ vs ∧
    te σ2 H2 fun y H3 => ∃ b, y = .bl b ∧ (b = false → Q (.bl false) H3) ∧ (b = true → Nx H3))
section
variable {Y : Cx} {B : Around} {pn : List (Addr × Obj)} {σ : L2.St} {el tg iter : Expr} {scope : Scope} {gp : Pos} {it : Addr} {fp : List Addr} {tn : Nat → Heap → Prop} {J : It} {g : TG} {te : TE} {vs : List Nat} {Q : VK} {W : Nat → Nat → Hp → Prop}
theorem loopA (hB : B.over (.compLoop (gxe el tg iter scope gp) 0 (.ref it) .none Y.env) [] = Y.A) (hco : Y.env.scope.isCoroutine = false) (hc : Y.calm = true) (hxe : Y.xe = fun _ _ => False)
    (T : Turn Y.prog Y.w Y.K tg J fp it tn) (hfp : ∀ H, (∀ b ∈ fp, H b = none) → ∀ b ∈ fp, FpOk Y pn H b) (pg : PG Y tg g) (pe : PE Y el te) (turn : AllW J g te vs σ Q W) :
    ∀ (m i n : Nat) (s₀ s : Shared) (H : Hp), m < n → Inv Y pn (wipe σ vs) H s → tn i s.heap → (∀ b ∈ fp, H b = none) → W i m H →
      Seg (model Y.prog Y.w) B (endA Y pn Q) (protoA Y pn Q) n s₀ (.compLoop (gxe el tg iter scope gp) 0 (.ref it) .none Y.env) ((model Y.prog Y.w).den (.compLoop (gxe el tg iter scope gp) 0 (.ref it) .none Y.env)) [] s := by
  intro m
  induction m using Nat.strongRecOn with
  | ind m ih =>
    intro i n s₀ s H hn I st nf w
    show Seg _ B _ _ n s₀ _ ((compTurn (gxe el tg iter scope gp) 0 (.ref it) .none Y.env).onRaise (leaving Y.env)) [] s
    rw [compTurn_gen, Sem.onRaise_eq_wrap]
    rcases turn i m H w with ⟨stop, q⟩ | ⟨go, Nx, hNx, step⟩
    · refine seg_bind_wrap (wpAny_standAt (seg_bind_wrap ?_))
      rw [hB]
      refine thnF (T.done Y rfl rfl rfl hc i pn s _ H (fun _ _ => False) I (hfp H nf) st stop) fun r s1 ⟨hr, I1⟩ => ?_
      subst hr
      exact seg_end (.ok .next) ⟨rfl, _, H, I1, q⟩
    · obtain ⟨n, rfl⟩ : ∃ k, n = k + 1 := ⟨n - 1, by omega⟩
      refine seg_bind_wrap (wpAny_standAt (seg_bind_wrap ?_))
      rw [hB]
      refine thnF (T.item Y rfl rfl rfl hc i pn s _ H (fun _ _ => False) I (hfp H nf) st go) fun r s1 ⟨u, hr, h1⟩ => ?_
      subst hr
      refine seg_bind_wrap ?_
      rw [hB]
      refine thnF h1 fun _ s2 ⟨x, H2, I2, r2, y2, st2, n2⟩ => ?_
      have I2' := I2.pinned (hfp H2 n2) (T.obj _ _ st2)
      refine seg_bind_wrap ?_
      rw [hB]
      have pr := pg.run _ s2 _ H2 x u _ I2' r2 (step x H2 y2)
      rw [hxe] at pr
      refine thnF pr fun _ s3 ⟨σ3, H3, I3, hw3, q3⟩ => ?_
      simp only [List.forIn_nil]
      refine seg_bind_wrap (wpAny_pure ?_)
      simp only [if_true]
      have yl : ∀ v, yieldOut Y.env v = yieldValue v := fun v => by simp only [yieldOut, hco, Bool.false_eq_true, if_false]
      simp only [yl]
      rw [Sem.bind_eq_wrap', Sem.bind_eq_wrap', Sem.wrap_wrap, Sem.wrap_wrap]
      refine seg_wrap ?_
      rw [hB]
      have er := pe.run _ s3 σ3 H3 _ I3 q3
      rw [hxe] at er
      refine thnF er fun v s4 ⟨y, H4, I4, r4, b, eb, qf, qt⟩ => ?_
      subst eb
      have ev : v = Value.bool b := r4
      subst ev
      refine seg_at (seg_yield rfl rfl rfl ⟨b, σ3, H4, rfl, I4.unpinned, qf, fun hb u idle => ?_⟩)
      obtain ⟨m', hm, w'⟩ := hNx H4 (qt hb)
      have pin' : ∀ b ∈ fp, ∀ o, s2.heap.get? b = some o → s4.heap.get? b = some o ∧ H4 b = none := fun b hb o e =>
        let z := I4.pin (b, o) (List.mem_append_right _ (List.mem_append_right _ (mem_pinsAt hb e)))
        ⟨z.1, z.2.1⟩
      have st4 : tn (i + 1) s4.heap := T.keep _ _ _ st2 fun b hb o e => (pin' b hb o e).1
      have nf4 : ∀ b ∈ fp, H4 b = none := fun b hb => by
        obtain ⟨o, e, _⟩ := T.obj _ _ st2 b hb
        exact (pin' b hb o e).2
      have hl : (wipe σ vs).length = σ3.length := by rw [← hw3, wipe_length]
      have I5 : Inv Y pn (wipe σ vs) H4 u := inv_idle ((I4.unpinned).weak hl fun j v e => by
        rw [← hw3] at e
        exact (wipe_some e).1) idle.os (fun b o e => by rw [idle.heap]; exact e) idle.bare
      exact seg_again rfl (ih m' hm (i + 1) n u u H4 (by omega) I5 (by rw [idle.heap]; exact st4) nf4 w')
theorem startA (hB : B.over (.compLoop (gxe el tg iter scope gp) 0 (.ref it) .none Y.env) [] = Y.A) (hco : Y.env.scope.isCoroutine = false) (hc : Y.calm = true) (hxe : Y.xe = fun _ _ => False)
    (T : Turn Y.prog Y.w Y.K tg J fp it tn) (hfp : ∀ H, (∀ b ∈ fp, H b = none) → ∀ b ∈ fp, FpOk Y pn H b) (pg : PG Y tg g) (pe : PE Y el te) (turn : AllW J g te vs σ Q W)
    (m n : Nat) (s₀ s : Shared) (H : Hp) (hn : m < n) (I : Inv Y pn (wipe σ vs) H s) (st : tn 0 s.heap) (nf : ∀ b ∈ fp, H b = none) (w : W 0 m H) :
      Seg (model Y.prog Y.w) B (endA Y pn Q) (protoA Y pn Q) n s₀ (.compStart (gxe el tg iter scope gp) 0 (.ref it) .none Y.env) ((model Y.prog Y.w).den (.compStart (gxe el tg iter scope gp) 0 (.ref it) .none Y.env)) [] s := by
  have lp := loopA hB hco hc hxe T hfp pg pe turn m 0 n s₀ s H hn I st nf w
  show Seg _ B _ _ n s₀ _ ((compStart (gxe el tg iter scope gp) 0 (.ref it) .none Y.env).onRaise (leaving Y.env)) [] s
  unfold compStart
  rw [Sem.onRaise_eq_wrap]
  show Seg _ B _ _ n s₀ _ ((ask >>= _).wrap _ _ _ _) [] s
  refine seg_bind_wrap (wpAny_askSetting ?_)
  split
  · exact seg_again rfl lp
  · refine seg_bind_wrap (wpAny_rule ?_)
    show Seg _ B _ _ n s₀ _ ((standAt iter.pos >>= _).wrap _ _ _ _) [] s
    exact seg_bind_wrap (wpAny_standAt (seg_bind_wrap (T.self _ 0 s _ _ st (seg_again rfl lp))))
end

/-! ### all(g) -/
section
variable {Y : Cx} {A : Around} {a : Addr} {g : Nat} {go : Obj} {Q : VK} {R : Result → Shared → Prop}
theorem loopAll (hh : A.handled = none) (hd : A.depth < recursionLimit) (hgo : ∀ h : Heap, h.get? a = some go → h.IsGen a g)
    (hR : ∀ b σ H s s', Inv Y [(a, go)] σ H s → (∀ c o, s.heap.get? c = some o → s'.heap.get? c = some o) → s'.os = s.os → AllBare s'.gens → Q (.bl b) H → R (.ok (.ret (.bool b))) s') :
    ∀ (n : Nat) (s : Shared), s.heap.IsGen a g → s.heap.NoLimit → AllBare s.gens → (∃ gs, s.gens[g]? = some gs ∧ gs.Goes (model Y.prog Y.w) A.in1.in1 (endA Y [(a, go)] Q) (protoA Y [(a, go)] Q) n (.send .none) (s.setGen g .running)) →
      codeAny (model Y.prog Y.w) A (.builtin "all.loop" ⟨[.ref a], []⟩) R s := by
  have own : ∀ {σ H} {s : Shared}, Inv Y [(a, go)] σ H s → s.heap.IsGen a g := fun I => hgo _ (I.pin (a, go) (List.mem_append_right _ List.mem_cons_self)).1
  intro n
  induction n with
  | zero =>
    intro s hg hl hb ⟨gs, hgs, hgoes⟩
    refine codeAny_builtin F.entry_all_loop ?_
    rw [Around.under_plainId F.plain_all_loop _]
    show wpAny _ A.in1 (pyNext (.ref a) >>= _) _ _ s
    refine wpAny_bind (wpAny_pyNext_genexpQ (A := A.in1) (P := fun _ _ s1 => ∃ σ H, Inv Y [(a, go)] σ H s1 ∧ Q (.bl true) H) hh hl hd hg hgs hgoes (fun v s1 gs' hbare hv => ?_) (fun s1 hp h' hk => ?_))
    · obtain ⟨b, σ, H, rfl, I, qf, qt⟩ := hv
      refine wpAny_bind (wpAny_holding (wpAny_truthy_bool (wpAny_bind (wpAny_letGo ?_))))
      cases b with
      | true => exact (qt rfl { s1 with gens := #[] } ⟨rfl, rfl, .empty⟩).elim
      | false =>
        simp only [Bool.false_eq_true, if_false]
        exact wpAny_bind (wpAny_rule (wpAny_pure (hR false _ _ _ _ I (fun _ _ e => e) rfl (allBare_setGen I.bare hbare) (qf rfl))))
    · obtain ⟨σ, H, I, q⟩ := hp
      exact wpAny_bind (wpAny_rule (wpAny_pure (hR true _ _ _ _ I hk rfl (allBare_setGen I.bare rfl) q)))
  | succ n ih =>
    intro s hg hl hb ⟨gs, hgs, hgoes⟩
    have hgl : g < s.gens.size := (Array.getElem?_eq_some_iff.mp hgs).1
    refine codeAny_builtin F.entry_all_loop ?_
    rw [Around.under_plainId F.plain_all_loop _]
    show wpAny _ A.in1 (pyNext (.ref a) >>= _) _ _ s
    refine wpAny_bind (GenW.wpAny_gsz (n := g + 1) hgl (wpAny_pyNext_genexpQ (A := A.in1) (P := fun _ _ s1 => ∃ σ H, Inv Y [(a, go)] σ H s1 ∧ Q (.bl true) H) hh hl hd hg hgs hgoes (fun v s1 gs' hbare hv => ?_) (fun s1 hp h' hk => ?_)))
    · intro hsz
      obtain ⟨b, σ, H, rfl, I, qf, qt⟩ := hv
      refine wpAny_bind (wpAny_holding (wpAny_truthy_bool (wpAny_bind (wpAny_letGo ?_))))
      cases b with
      | false =>
        simp only [Bool.false_eq_true, if_false]
        exact wpAny_bind (wpAny_rule (wpAny_pure (hR false _ _ _ _ I (fun _ _ e => e) rfl (allBare_setGen I.bare hbare) (qf rfl))))
      | true =>
        simp only [if_true]
        have hsz1 : g < s1.gens.size := by
          have q : (s1.setGen g gs').gens.size = s1.gens.size := GenW.setGen_size _ _ _
          have hsz' : g + 1 ≤ (s1.setGen g gs').gens.size := hsz
          omega
        refine wpAny_pure ⟨plainId_quiet F.plain_all_loop _, ih (s1.setGen g gs') (show s1.heap.IsGen a g from own I) (show s1.heap.NoLimit from I.nolimit) (allBare_setGen I.bare hbare) ⟨gs', setGen_at hsz1, ?_⟩⟩
        exact qt rfl _ ⟨rfl, rfl, allBare_setGen (allBare_setGen I.bare hbare) rfl⟩
    · intro _
      obtain ⟨σ, H, I, q⟩ := hp
      exact wpAny_bind (wpAny_rule (wpAny_pure (hR true _ _ _ _ I hk rfl (allBare_setGen I.bare rfl) q)))
end

/-! ### the whole call -/
section
variable {X : Cx} {xm : List Addr} {W0' : WX} {k : Nat} {c P : Addr} {el iter tg : Expr} {scope : Scope} {own : List (Str × Nat)} {p pos gpos : Pos} {wi : TI} {g : TG} {te : TE}
theorem framesO {B : Around} {ce : Env} {fr : List Env} (hf : B.frames = some fr) (c : Code) (hc : c.envs = [ce]) : (B.over c []).frames = some (ce :: fr) := by
  show pushEnvs c.envs (pushEnvs _ B.frames) = _
  rw [hf, hc]
  rfl
theorem guardsO {B : Around} (hg : B.guards = some []) (c : Code) (hc : c.guards = []) : (B.over c []).guards = some [] := by
  show pushGuards c.guards (pushGuards _ B.guards) = _
  rw [hg, hc]
  rfl
/-- the generator stands ready; all walks it -/
theorem all_fin {W : WX} {pins : List (Addr × Obj)} {σ : L2.St} {H : Hp} {s : Shared} {Q : VK} {it : Addr} {fp : List Addr} {tn : Nat → Heap → Prop} {J : It} {Wf : Nat → Nat → Hp → Prop} {m : Nat} {code : Value} {h' : Heap} {mm : Str → Option Value} {nm qn : Value} {tk : Nat}
    (G : GX X xm W (k + 1)) (ok : GenOk X.N X.env.scope scope own)
    (hpg : ∀ (s : Shared) (H : Hp) (A' : Around) (code : Value) (fp : List Addr), GX (gnx X s H A' (gce X scope s.heap.objs.size code) fp) xm W0 k → PG (gnx X s H A' (gce X scope s.heap.objs.size code) fp) tg g)
    (hel : ∀ (s : Shared) (H : Hp) (A' : Around) (code : Value) (fp : List Addr), GX (gnx X s H A' (gce X scope s.heap.objs.size code) fp) xm W0 k → PE (gnx X s H A' (gce X scope s.heap.objs.size code) fp) el te)
    (I : Inv X pins σ H s) (T : Turn X.prog X.w X.K tg J fp it tn) (st : tn 0 s.heap) (f : ∀ b ∈ fp, FpOk X pins H b) (w : Wf 0 m H) (turn : AllW J g te (own.map (·.2)) σ Q Wf)
    (ns : h'.Ns s.heap.objs.size mm) (sb : Heap.SameBut s.heap.objs.size (s.heap.push { cls := .type "frame", data := .dict #[] }) h') :
    wpAny (model X.prog X.w) X.A (call (.builtin "all") [.ref h'.objs.size]) (EP X pins σ Q) X.xe
      { s with gens := s.gens.push (.fresh (.compStart (gxe el tg iter scope gpos) 0 (.ref it) .none (gce X scope s.heap.objs.size code))), toks := tk, heap := h'.push { cls := .type "generator", data := .fields #[.int s.gens.size 0, nm, qn] } } := by
  have hh : X.A.handled = none := I.ok.hd G.cm
  generalize hgo : ({ cls := .type "generator", data := .fields #[.int s.gens.size 0, nm, qn] } : Obj) = go
  have isg : ∀ h : Heap, h.get? h'.objs.size = some go → h.IsGen h'.objs.size s.gens.size := fun h e => ⟨go, nm, qn, e, by rw [← hgo], by rw [← hgo], by rw [← hgo]⟩
  generalize hs5 : ({ s with gens := s.gens.push (.fresh (.compStart (gxe el tg iter scope gpos) 0 (.ref it) .none (gce X scope s.heap.objs.size code))), toks := tk, heap := h'.push go } : Shared) = s5
  have h5 : s5.heap = h'.push go := by rw [← hs5]
  have g5 : s5.gens = s.gens.push (.fresh (.compStart (gxe el tg iter scope gpos) 0 (.ref it) .none (gce X scope s.heap.objs.size code))) := by rw [← hs5]
  have sz : h'.objs.size = s.heap.objs.size + 1 := by rw [sb.1, Heap.size_push]
  have kp : ∀ b o, s.heap.get? b = some o → s5.heap.get? b = some o := fun b o e => by
    rw [h5]
    exact Heap.get?_push_of_some _ (sb.extBut b o (Nat.ne_of_lt (Heap.lt_size e)) (Heap.get?_push_of_some _ e))
  have hfp : ∀ b ∈ fp, FpOk X pins H b ∧ b < s.heap.objs.size := fun b hb => ⟨f b hb, let ⟨o, e, _⟩ := T.obj _ _ st b hb; Heap.lt_size e⟩
  have br5 : AllBare s5.gens := by
    rw [g5]
    exact AllBare.push I.bare rfl
  generalize hA' : X.A.in1.in1.over (.compLoop (gxe el tg iter scope gpos) 0 (.ref it) .none (gce X scope s.heap.objs.size code)) [] = A'
  have a1 : A'.handled = none := by
    rw [← hA']
    exact hh
  have a2 : A'.depth ≤ X.A.depth + 1 := by
    rw [← hA']
    exact Nat.le_of_eq rfl
  have a3 : A'.units ≤ X.A.units + 5 := by
    rw [← hA']
    exact Nat.le_of_eq rfl
  have a4 : A'.frames = some (gce X scope s.heap.objs.size code :: X.stack) := by
    rw [← hA']
    exact framesO (B := X.A.in1.in1) I.ok.frames _ rfl
  have a5 : A'.guards = some [] := by
    rw [← hA']
    exact guardsO (B := X.A.in1.in1) G.gd _ rfl
  have GY : GX (gnx X s H A' (gce X scope s.heap.objs.size code) fp) xm W0 k := ⟨takes0, PassesOwn.never, ⟨a1, by have := G.rm.dp; show A'.depth + 3 * k + 5 < _; omega, by have := G.rm.un; show A'.units + 16 * k + 200 < _; omega⟩, a5, G.nd, G.cm, G.wd⟩
  have I5 : Inv (gnx X s H A' (gce X scope s.heap.objs.size code) fp) [] (wipe σ (own.map (·.2))) H s5 := gen_start I ok G.nd hfp (fun _ => a1) a4 kp (by rw [← hs5]) br5 (m := mm) (by
    rw [h5]
    exact ns.push _)
  have ha5 : s5.heap.get? h'.objs.size = some go := by
    rw [h5]
    exact Heap.get?_push_size _ (by rw [← hgo]; rfl)
  have ngo : ∀ v, go.data ≠ .cell v := fun v z => by
    rw [← hgo] at z
    cases z
  have I6 : Inv (gnx X s H A' (gce X scope s.heap.objs.size code) fp) [(h'.objs.size, go)] (wipe σ (own.map (·.2))) H s5 := I5.pins_of fun q hq => by
    rw [List.mem_singleton.mp hq]
    refine ⟨ha5, I.hok.fresh (by rw [sz]; exact Nat.le_succ _), by show h'.objs.size ≠ s.heap.objs.size; rw [sz]; exact Nat.succ_ne_self _, fun z => ?_, ngo⟩
    have z : h'.objs.size ∈ frs X.stack := z
    obtain ⟨_, o, ho, _⟩ := I.stack.mem z
    have := Heap.lt_size ho
    rw [sz] at this
    exact absurd (Nat.lt_of_succ_lt this) (Nat.lt_irrefl _)
  have apart : ∀ b ∈ fp, b ≠ h'.objs.size := fun b hb z => by
    have := (hfp b hb).2
    rw [z, sz] at this
    exact absurd (Nat.lt_of_succ_lt this) (Nat.lt_irrefl _)
  have fpo : ∀ H' : Hp, (∀ b ∈ fp, H' b = none) → ∀ b ∈ fp, FpOk (gnx X s H A' (gce X scope s.heap.objs.size code) fp) [(h'.objs.size, go)] H' b := fun H' hn b hb =>
    ⟨hn b hb, (I6.ok.exf b hb).1, I6.ok.exfs b hb, .inl hb, fun x c e => (I6.ok.exf b hb).2 x c e, fun q hq => by
      rw [List.mem_singleton.mp (show q ∈ [(h'.objs.size, go)] from hq)]
      exact fun z => apart b hb z.symm⟩
  have st5 : tn 0 s5.heap := T.keep _ _ _ st fun b _ o e => kp b o e
  have start := fun s₀ s' (I' : Inv (gnx X s H A' (gce X scope s.heap.objs.size code) fp) [(h'.objs.size, go)] (wipe σ (own.map (·.2))) H s') (st' : tn 0 s'.heap) =>
    startA (Y := gnx X s H A' (gce X scope s.heap.objs.size code) fp) (B := X.A.in1.in1) (pn := [(h'.objs.size, go)]) (gp := gpos) (scope := scope) (iter := iter) hA' ok.co G.cm rfl T fpo (hpg _ _ _ _ _ GY) (hel _ _ _ _ _ GY) turn m (m + 1) s₀ s' H (Nat.lt_succ_self m) I' st' (fun b hb => (f b hb).1) w
  refine call_function_tree F.kind_all F.plain_all F.entry_all (F.args_all1 _) ?_
  unfold Builtin.«all»
  refine wpAny_bind (m := oneArg "all" _) (wpAny_pure ?_)
  refine wpAny_bind (wpAny_pyIter_gen (isg _ ha5) ?_)
  refine wpAny_pure ⟨plainId_quiet F.plain_all_loop _, ?_⟩
  refine loopAll (Y := gnx X s H A' (gce X scope s.heap.objs.size code) fp) (go := go) (Q := Q) hh G.rm.depth isg (fun b σ' H' s1 s2 I' kp' os' br' q => ?_) (m + 1) s5 (isg _ ha5) I6.nolimit br5 ⟨.fresh (.compStart (gxe el tg iter scope gpos) 0 (.ref it) .none (gce X scope s.heap.objs.size code)), by rw [g5]; exact Array.getElem?_push_size .., rfl, ?_⟩
  · have I7 := inv_idle I' os' kp' br'
    refine ⟨.bl b, H', I.call' (ch := fp) I7.os I7.base I7.hok I7.bare fun c hc => ⟨(f c hc).2.2.2.1, (f c hc).2.1, (f c hc).2.2.2.2.1, (f c hc).2.2.2.2.2⟩, rfl, q⟩
  · exact start _ _ (inv_idle I6 rfl (fun _ _ e => e) (allBare_setGen br5 rfl)) st5
def tAll (P : Addr) (wi : TI) (g : TG) (te : TE) (vs : List Nat) : TE := fun σ H Q => wi σ H fun J H1 => TabG H1 P ∧ ∀ H2, Tabbed P H1 H2 → ∃ W : Nat → Nat → Hp → Prop, (∃ m, W 0 m H2) ∧ AllW J g te vs σ Q W
theorem pe_all {W : WX} (G : GX X xm W (k + 1)) (hg : Gl X "all") (hm : X.mg "all" = none) (hb : bootBuiltins "all" = some (.builtin "all")) (TB : TabB X.base X.mg c P) (hcode : X.env.code = .ref c) (ok : GenOk X.N X.env.scope scope own) (hi : PI X tg iter wi)
    (hpg : ∀ (s : Shared) (H : Hp) (A' : Around) (code : Value) (fp : List Addr), GX (gnx X s H A' (gce X scope s.heap.objs.size code) fp) xm W0 k → PG (gnx X s H A' (gce X scope s.heap.objs.size code) fp) tg g)
    (hel : ∀ (s : Shared) (H : Hp) (A' : Around) (code : Value) (fp : List Addr), GX (gnx X s H A' (gce X scope s.heap.objs.size code) fp) xm W0 k → PE (gnx X s H A' (gce X scope s.heap.objs.size code) fp) el te)
    (hs : ∀ v, genFold iter X.env v = pure v) (he : starEach [gxe el tg iter scope gpos] X.env = (false, eval (gxe el tg iter scope gpos) X.env) :: starEach [] X.env := by rfl) :
    PE X (.Call (.Name "all" p) [gxe el tg iter scope gpos] [] pos) (tAll P wi g te (own.map (·.2))) := by
  refine ⟨fun pins s σ H Q I h => ?_⟩
  refine wpAny_Call_Name_kw (ld_blt I hg hm hb ?_)
  refine PyProof.Rows.callWith_builtin1 ?_ he (by rfl)
  rw [he]
  show wpAny _ _ (spliced ((false, eval (gxe el tg iter scope gpos) X.env) :: backTo pos (starEach [] X.env))) _ _ s
  have hfree : ∀ y ∈ scope.names, y.2 = .free → ∃ c, X.env.cells.lookup y.1 = some c := fun y hy e => (ok.free y hy e).elim (fun k => I.ok.has _ (.inl k)) fun k => I.ok.has _ (.inr k)
  refine Calls.spliced_cons (wpAny_GeneratorExp_make ok.co (closure_ok hfree) ok.nocell ok.dot ok.kind G.rm.depth ?_ hs)
  refine thn (hi.run pins s σ H _ I h) fun xv s1 h1 => thn h1 fun itv s2 h2 => ?_
  obtain ⟨it, fp, tn, J, H2, rfl, I2, T, st2, f2, ⟨ps, hP, ht⟩, q⟩ := h2
  refine ⟨I2.nolimit, ?_⟩
  have hPs : s2.heap.get? P = some { cls := .none, data := .fields ps } := I2.hok P _ hP
  have cd : PySem.W.CodeHd s2.heap c P := TB.code.keeps I2.bk
  have cont : ∀ (code : Value) (h3 : Heap) (tk : Nat) (more : Array Value), (∀ b o, b ≠ P → s2.heap.get? b = some o → h3.get? b = some o) → h3.get? P = some { cls := .none, data := .fields (ps ++ more) } → TriplesOk (ps ++ more).toList →
      ∃ H3, Inv X pins σ H3 { s2 with heap := h3, toks := tk } ∧ (∀ b ∈ fp, FpOk X pins H3 b) ∧ tn 0 h3 ∧ Tabbed P H2 H3 := by
    intro code h3 tk more k3 p3 t3
    refine ⟨_, inv_tab (more := more) (h' := h3) (g' := s2.gens) (d' := s2.drawn) (t' := tk) I2 hP k3 p3 I2.bare, fun b hb => ?_, T.keep _ _ _ st2 fun b hb o e => k3 b o (fun z => ?_) e, ⟨⟨ps ++ more, upd_same, t3⟩, fun b hb => upd_ne hb⟩⟩
    · refine ⟨?_, (f2 b hb).2⟩
      rw [upd_ne fun z => by
        have := (f2 b hb).1
        rw [z, hP] at this
        cases this]
      exact (f2 b hb).1
    · have := (f2 b hb).1
      rw [z, hP] at this
      cases this
  have fin : ∀ (code : Value) (s4 : Shared) (H3 : Hp), Inv X pins σ H3 s4 → (∀ b ∈ fp, FpOk X pins H3 b) → tn 0 s4.heap → Tabbed P H2 H3 → wpAny (model X.prog X.w) X.A (builtinsFor X.env.globals X.env.builtins) (fun bi s₄ =>
        ∀ h', h'.Ns s₄.heap.objs.size (fun y => if y = ".0" then some (.ref it) else none) → Heap.SameBut s₄.heap.objs.size (s₄.heap.push { cls := .type "frame", data := .dict #[] }) h' →
          wpAny (model X.prog X.w) X.A (spliced (backTo pos (starEach [] X.env))) (fun us s' => wpAny (model X.prog X.w) X.A (call (.builtin "all") (Value.ref h'.objs.size :: us)) (EP X pins σ Q) X.xe s') X.xe { s₄ with
            gens := s₄.gens.push (.fresh (.compStart (gxe el tg iter scope gpos) 0 (.ref it) .none (genEnv scope (cloFrom X.env.cells scope.names []) s₄.heap.objs.size code bi X.env))),
            toks := s₄.toks + 1 + 1 + 1,
            heap := h'.push { cls := .type "generator", data := .fields #[.int s₄.gens.size 0, .str "<genexpr>" (s₄.toks + 1), .str (X.env.qual ++ "<genexpr>") (s₄.toks + 1 + 1)] } }) X.xe s4 := by
    intro code s4 H3 I4 f4 st4 tb
    obtain ⟨bm, ob, e1, e2, e3, e4, e5, e6, e7, e8⟩ := TB.bm
    refine wpAny_builtinsFor (m := X.mg) (by rw [I4.ok.glob]; exact I4.mod.glob.keeps I4.bk) e1 e2 (I4.bk _ _ e5) e6 e7 e8 fun h' ns sb => ?_
    refine Calls.spliced_nil ?_
    obtain ⟨Wf, ⟨m, w⟩, turn⟩ := q H3 tb
    exact all_fin G ok hpg hel I4 T st4 f4 w turn ns sb
  cases hf : codeAmong gpos ps.toList with
  | none =>
    refine wpAny_genexprCodeX hcode (cd.code hPs ht) (cd.tab hPs) hf fun c' h3 tk hx hge hlt hco' _ htab' _ => ?_
    obtain ⟨o1, vs, f1, tf, fl, tg', inF, tx, tt, op, _, _, _, _, _, _, _, _, _, htr, _⟩ := hco'
    obtain ⟨H3, a, b, d, e⟩ := cont (.ref c') h3 tk _ (fun b o hb e => hx b o hb e) htab'.2 htr
    exact fin _ _ _ a b d e
  | some cv =>
    refine wpAny_genexprCode_hit hcode (cd.code hPs ht) hf ?_
    obtain ⟨H3, a, b, d, e⟩ := cont cv s2.heap s2.toks #[] (fun _ _ _ e => e) (by simpa using hPs) (by simpa using ht)
    exact fin _ _ _ a b d e
end
end Ev

namespace Ev
open PySem PySem.Spec PyProof.Rows L2 GxR RZ
variable [Tabs]

/-! ## all(.. for .. in ..) on data -/
def allI (own : List Nat) (g : GF) (elt : EF) : List D → En → Sto → R D
  | [], _, st => .ok (.bl true) st
  | d :: r, en, st => match g d st (wipeE en own) with
    | none => .bad
    | some en1 => match elt en1 st with
      | .ok (.bl true) st1 => allI own g elt r en st1
      | .ok (.bl false) st1 => .ok (.bl false) st1
      | _ => .bad
def allF (own : List Nat) (g : GF) (elt : EF) (itf : IF) : EF := fun en st => (itf en st).bind fun it st1 => match it with
  | .items ds => allI own g elt ds en st1
  | .cell _ => .bad
  | .dyn _ _ => .bad
section
variable {X : Cx} {xm : List Addr} {W : WX} {k : Nat} {c P : Addr} {el iter tg : Expr} {scope : Scope} {own : List (Str × Nat)} {p pos gpos : Pos} {f : EF} {gf : GF} {itf : IF}
theorem all_read {K : PySem.W.Frag} {vs : List Nat} (hP : P ∈ Tabs.tb) (σ : L2.St) (H : Hp) (Q : VK) (q : TEf K xm W (allF vs gf f itf) σ H Q) : tAll P (TIf K xm W itf) (TGf K vs gf) (TEf K xm W0 f) vs σ H Q := by
  obtain ⟨z, en, st, rh, re, h⟩ := q
  refine ⟨z, en, st, rh, re, wp_mono (wp_bind.mp h) (fun it st1 q J z1 H1 e1 r1 hJ => ?_) fun _ _ _ q => q⟩
  have re1 := re.ext e1
  have hP1 := r1.tbk P hP
  obtain ⟨tP, nP, fP⟩ := r1.tb P hP1
  refine ⟨tP, fun H2 ⟨tb, same⟩ => ?_⟩
  have e2 : Ext z1 H1 z1 H2 := ⟨⟨fun _ _ w => w, fun a w => ⟨w, same a fun e => fP (e ▸ w)⟩, fun _ _ _ => rfl⟩, fun a _ _ t => same a fun e => t (e ▸ hP1), fun a w => .inl w, fun a w => .inl w, fun a n => by
    by_cases e : a = P
    · rw [e]
      exact TabH.live tb
    · rw [same a e]
      exact n, rfl⟩
  have r2 : RelH K z1 H2 st1 := ⟨r1.len, r1.nd, r1.nfz, fun a w => e2.lv a (r1.fz a w), fun i a c hi hc => (r1.cells i a c hi hc).ext e2 (same a fun e => nP (e ▸ List.mem_of_getElem? hi)), fun P' hP' => ⟨by
    by_cases e : P' = P
    · rw [e]
      exact tb
    · obtain ⟨ps, h1, h2⟩ := (r1.tb P' hP').1
      exact ⟨ps, (same P' e).trans h1, h2⟩, (r1.tb P' hP').2⟩, r1.tbk, r1.knd⟩
  cases it with
  | cell n => exact q.elim
  | dyn _ _ => exact q.elim
  | items ds =>
    have hJ : ItI K z1 H1 ds J := hJ
    refine ⟨fun i m H3 => m = ds.length - i ∧ i ≤ ds.length ∧ ∃ z3 st3, Ext z1 H1 z3 H3 ∧ RelH K z3 H3 st3 ∧ (allI vs gf f (ds.drop i) en st3).wp (okD K z H Q) (exW K xm z H W σ), ⟨ds.length, rfl, Nat.zero_le _, z1, st1, e2, r2, q⟩, ?_⟩
    rintro i m H3 ⟨rfl, hi, z3, st3, e3, r3, w⟩
    obtain ⟨js, jg⟩ := hJ z3 H3 st3 e3.toEx0 r3
    by_cases hlt : i < ds.length
    · have hd : ds[i]? = some ds[i] := List.getElem?_eq_getElem hlt
      obtain ⟨go, yl⟩ := jg i _ hd
      rw [List.drop_eq_getElem_cons hlt] at w
      unfold allI at w
      refine .inr ⟨go, fun H' => ∃ z4 st4, Ext z1 H1 z4 H' ∧ RelH K z4 H' st4 ∧ (allI vs gf f (ds.drop (i + 1)) en st4).wp (okD K z H Q) (exW K xm z H W σ), fun H' q => ⟨ds.length - (i + 1), by omega, rfl, hlt, q⟩, fun x H4 y => ?_⟩
      obtain ⟨z4, e4, r4, p4⟩ := yl x H4 y
      cases wg : gf ds[i] st3 (wipeE en vs) with
      | none =>
        simp only [wg] at w
        exact w.elim
      | some en1 =>
        simp only [wg] at w
        refine ⟨z4, wipeE en vs, st3, ds[i], en1, r4, ((re1.ext e3).ext e4).wipe vs, p4, wg, fun σ2 re2 hw => ⟨hw.trans (wipe_idem _ _), ?_⟩⟩
        cases wf : f en1 st3 with
        | bad =>
          simp only [wf] at w
          exact w.elim
        | ex c p st5 =>
          simp only [wf] at w
          exact w.elim
        | ok y st5 =>
          simp only [wf] at w
          refine seqE' (k := fun y' st' => y' = y ∧ st' = st5) r4 re2 (by rw [wf]; exact ⟨rfl, rfl⟩) fun y' st6 v z5 H5 hb e5 r5 re5 p5 => ?_
          obtain ⟨rfl, rfl⟩ := hb
          have e6 := (e3.trans e4).trans e5
          cases y' with
          | bl b =>
            cases p5
            refine ⟨b, rfl, fun hb => ?_, fun hb => ?_⟩
            · subst hb
              exact okD.ext (Q := Q) (e1.trans e6) w _ z5 H5 .refl r5 (.bl false)
            · subst hb
              exact ⟨z5, st6, e6, r5, w⟩
          | _ => exact w.elim
    · have e : i = ds.length := by omega
      subst e
      rw [List.drop_length] at w
      exact .inl ⟨js _ (Nat.le_refl _), okD.ext (Q := Q) (e1.trans e3) w _ z3 H3 .refl r3 (.bl true)⟩
/-- a def's own code object, its table among those that are tracked -/
structure AtTab (X : Cx) (c P : Addr) : Prop where
  code : X.env.code = .ref c
  tab : TabB X.base X.mg c P
  mem : P ∈ Tabs.tb
theorem sn_all (own : List (Str × Nat)) (T : AtTab X c P) (G : GX X xm W (k + 1)) (hm : X.mg "all" = none) (hi : PI X tg iter (TIf X.K xm W itf)) (ok : GenOk X.N X.env.scope scope own)
    (hpg : ∀ (s : Shared) (H : Hp) (A' : Around) (code : Value) (fp : List Addr), GX (gnx X s H A' (gce X scope s.heap.objs.size code) fp) xm W0 k → PG (gnx X s H A' (gce X scope s.heap.objs.size code) fp) tg (TGf X.K (own.map (·.2)) gf))
    (hel : ∀ (s : Shared) (H : Hp) (A' : Around) (code : Value) (fp : List Addr), GX (gnx X s H A' (gce X scope s.heap.objs.size code) fp) xm W0 k → PE (gnx X s H A' (gce X scope s.heap.objs.size code) fp) el (TEf X.K xm W0 f))
    (hg : Gl X "all" := by rfl) (hs : ∀ v, genFold iter X.env v = pure v := by intro _; rfl) (he : starEach [gxe el tg iter scope gpos] X.env = (false, eval (gxe el tg iter scope gpos) X.env) :: starEach [] X.env := by rfl) :
    PE X (.Call (.Name "all" p) [gxe el tg iter scope gpos] [] pos) (TEf X.K xm W (allF (own.map (·.2)) gf f itf)) :=
  (pe_all G hg hm boot_all T.tab T.code ok hi hpg hel hs he).imp (all_read T.mem)
end
def genC (scope : Scope) : Bool := !scope.isCoroutine && (scope.names.all fun y => decide (y.2 ≠ .cell)) && decide (scope.names.lookup (".0" : Str) = some NameKind.local)
theorem genOk_by {N : List Str} {sc scope : Scope} {own : List (Str × Nat)} (h : blkC N sc scope own = true) (h2 : genC scope = true) : GenOk N sc scope own := by
  unfold genC at h2
  simp only [Bool.and_eq_true, Bool.not_eq_true', List.all_eq_true, decide_eq_true_eq] at h2
  exact { blkOk_by h with co := h2.1.1, nocell := h2.1.2, dot := h2.2 }

/-! ## a def whose code object has a tracked table -/
structure FunT (K : PySem.W.Frag) (x qual : Str) (st : Stmt) (f : Addr) (fd : FuncData) (c : Addr) : Prop where
  ex : ∃ (oc : Value) (od : Option Addr) (kV doc pm : Value) (an : Option Addr) (ct : Value) (osl : Array (Option Value)),
    fd = PySem.W.fnOf x qual (defArgs st) (defBody st) (defScope st) .none kV doc pm an (.ref c) ct ∧ K.lookup f = some ⟨oc, od, .func fd, osl⟩ ∧ PySem.W.codeIn K (.ref c) qual = true
section
variable {P : Program} {w : World} {K : PySem.W.Frag} {mg : Str → Option Value} {base : Heap} {xm : List Addr}
theorem funT_mk {x qual : Str} {st : Stmt} {f c : Addr} {oc : Value} {od an : Option Addr} {osl : Array (Option Value)} {kV doc pm ct : Value} (l : K.lookup f = some ⟨oc, od, .func (PySem.W.fnOf x qual (defArgs st) (defBody st) (defScope st) .none kV doc pm an (.ref c) ct), osl⟩)
    (h : PySem.W.codeIn K (.ref c) qual = true) : FunT K x qual st f (PySem.W.fnOf x qual (defArgs st) (defBody st) (defScope st) .none kV doc pm an (.ref c) ct) c := ⟨oc, od, kV, doc, pm, an, ct, osl, rfl, l, h⟩
theorem FnG.byT (hw : Tabs.wd = some w) {x qual : Str} {st : Stmt} {f c T : Addr} {fd : FuncData} {N ps : List Str} {k n m : Nat} {g : SF} (F : FunT K x qual st f fd c) (TB : TabB base mg c T) (M : T ∈ Tabs.tb) (S : FnScope N ps (defScope st)) (hn : N.length = n) (hm : ps.length = m)
    (hb : ∀ (A : Around) (outer : List Env) (s : Shared) (H : Hp) (E : XK), GX (cxOf (L2.CX P w) P w K mg base N qual (defScope st) f (.ref c) A outer s H E) xm (fun cls d _ H => E cls d H) k → AtTab (cxOf (L2.CX P w) P w K mg base N qual (defScope st) f (.ref c) A outer s H E) c T →
      PSs (cxOf (L2.CX P w) P w K mg base N qual (defScope st) f (.ref c) A outer s H E) (defBody st) (TSf K xm (fun cls d _ H => E cls d H) g)) : FnG P w K mg base (k + 1) f fd ps (spF K xm (fnF n g) m) := by
  subst hn hm
  obtain ⟨oc, od, kV, doc, pm, an, ct, osl, efd, lk, hcd⟩ := F.ex
  refine FnG.bodyC efd lk hcd S (fun vs H Q E ⟨z, ds, st, _, rs, hl, _⟩ => rs.length.trans hl) fun A outer s H vs Q E room gd h => ?_
  obtain ⟨z, ds, sto, rh, rs, hl, h⟩ := h
  refine ⟨_, hb A outer s H E ⟨takes_of rfl rfl rfl rfl, passes_of rfl, room, gd, S.nd, rfl, hw⟩ ⟨rfl, TB, M⟩, z, _, sto, rh, relE_start N rfl rs, ?_⟩
  unfold fnF at h
  generalize g (ds.map some ++ List.replicate (N.length - ds.length) none) sto = r at h ⊢
  cases r with
  | nx en st' => exact fun σ' z' H' e r' _ => h _ z' H' e r' .non
  | rt d st' => exact h
  | ex c p en st' => exact fun cls dd σ' z' H' e r' _ x => h cls dd z' H' e r' x
  | bk en st' => exact h.elim
  | ct en st' => exact h.elim
  | bad => exact h.elim
end
end Ev
namespace Ev
open PySem PySem.Spec PyProof.Rows L2 GxR RZ
/-! ## the law's head, with tables -/
abbrev emptyT : Obj := { cls := .none, data := .fields #[] }
section
variable {P : Program} {w : World} {K : PySem.W.Frag} {mg mb : Str → Option Value} {xm : List Addr} {k : Nat} {fa a : Addr} {fd : FuncData} {x : Str} {F : List D → Sto → R D} {s1 : Shared} {vs : List Value} {ns : List Int} {cs : List (Addr × Addr)}
/-- what is spoken of: the tables, and the script where no text names it -/
def headH (T : List Addr) (K : PySem.W.Frag) (a : Addr) (o : Obj) (u : HO) : Hp := fun b => if b ∈ T then some (.tbl #[]) else if b = a ∧ K.lookup a = none then some (.frz o u) else none
theorem head_callT (KX : K.In s1.heap) (hns : s1.heap.Ns mainGlobals mg) (hb : s1.heap.Ns builtinsNs mb) (hbb : ∀ x : Str, x ≠ "__name__" → mb x = bootBuiltins x) (hlim : s1.heap.NoLimit) (hg : s1.gens = #[])
    (hT : ∀ p ∈ cs, PySem.W.CodeHd s1.heap p.1 p.2 ∧ s1.heap.get? p.2 = some emptyT) (nT : ∀ p ∈ cs, K.lookup p.2 = none)
    (hbm : ∃ (bm : Addr) (ob : Obj), mg "__builtins__" = some (.ref bm) ∧ bm ≠ builtinsNs ∧ s1.heap.get? bm = some ob ∧ ob.cls = .type "module" ∧ ob.dict = some builtinsNs ∧ ob.data = .plain)
    (ha : s1.heap.get? a = some { cls := .type "list", data := .seq vs.toArray }) (hi : IntsAre vs ns) (hl : ns.length ≤ sizeLine) (hr : Room k callerA)
    (Fn : ∀ base : Heap, K.In base → base.Ns mainGlobals mg → (∀ p ∈ cs, TabB base mg p.1 p.2) → FnG P w K mg base k fa fd [x] (@spF ⟨cs.map (·.2), some w⟩ K xm F 1)) (hbind : ∀ (s : Shared) (u : Value), BindsTo s fd ⟨[u], []⟩ [(x, u)])
    (hF : ∃ st, F [.fro (ns.map .int)] [] = .ok (.bl true) st) :
    codeAny (model P w) callerA (.call (.ref fa) ⟨[.ref a], []⟩) (fun r s' => r = .ok (.ret (.bool true)) ∧ OldK s1.heap s'.heap ∧ s'.os = s1.os ∧ AllBare s'.gens) s1 := by
  have rv := vals_ints hi
  have lenV := hi.length
  obtain ⟨stF, hF⟩ := hF
  have isT : ∀ b ∈ cs.map (·.2), s1.heap.get? b = some emptyT := fun b hb => by
    obtain ⟨p, hp, rfl⟩ := List.mem_map.mp hb
    exact (hT p hp).2
  have aT : a ∉ cs.map (·.2) := fun q => by
    have e := isT a q
    rw [ha] at e
    exact absurd (congrArg Obj.cls (Option.some.inj e)) (fun z => by cases z)
  generalize hH : headH (cs.map (·.2)) K a { cls := .type "list", data := .seq vs.toArray } (.lst (ns.map V.int)) = H
  have HT : ∀ b ∈ cs.map (·.2), H b = some (.tbl #[]) := fun b hb => by
    rw [← hH]
    exact if_pos hb
  have HA : K.lookup a = none → H a = some (.frz { cls := .type "list", data := .seq vs.toArray } (.lst (ns.map V.int))) := fun hk => by
    rw [← hH]
    exact (if_neg aT).trans (if_pos ⟨rfl, hk⟩)
  have HN : ∀ b, b ∉ cs.map (·.2) → (b = a → K.lookup a ≠ none) → H b = none := fun b n1 n2 => by
    rw [← hH]
    exact (if_neg n1).trans (if_neg fun q => n2 q.1 q.2)
  have any : ∀ b u, H b = some u → (b ∈ cs.map (·.2) ∧ u = .tbl #[]) ∨ (b = a ∧ K.lookup a = none ∧ u = .frz { cls := .type "list", data := .seq vs.toArray } (.lst (ns.map V.int))) := fun b u e => by
    by_cases h1 : b ∈ cs.map (·.2)
    · rw [HT b h1] at e
      exact .inl ⟨h1, (Option.some.inj e).symm⟩
    · by_cases h2 : b = a ∧ K.lookup a = none
      · rw [h2.1, HA h2.2] at e
        exact .inr ⟨h2.1, h2.2, (Option.some.inj e).symm⟩
      · rw [HN b h1 fun q r => h2 ⟨q, r⟩] at e
        cases e
  have hok : HOk P w H s1.heap := fun b u e => by
    rcases any b u e with ⟨h1, rfl⟩ | ⟨rfl, _, rfl⟩
    · exact isT b h1
    · exact ⟨ha, by rw [List.length_map]; exact hl, vs, _, rv, ha⟩
  have other : ∀ {b : Addr} {o : Obj}, s1.heap.get? b = some o → o.cls ≠ .none → (∀ us n, o.data ≠ .seq us n) → H b = none := fun {b o} e h1 h2 => HN b (fun q => by
    rw [isT b q] at e
    cases e
    exact h1 rfl) fun q => by
    rw [q, ha] at e
    cases e
    exact (h2 _ _ rfl).elim
  have dictN : ∀ {b : Addr} {o : Obj} {es : Array DictEntry} {ep : Nat}, s1.heap.get? b = some o → o.data = .dict es ep → H b = none := fun {b o es ep} e d => HN b (fun q => by
    rw [isT b q] at e
    cases e
    cases d) fun q => by
    rw [q, ha] at e
    cases e
    have d' : Data.seq vs.toArray _ = Data.dict es ep := d
    cases d'
  have nsB : ∀ {b : Addr} {m : Str → Option Value}, s1.heap.Ns b m → (hidT s1.heap H).Ns b m := fun {b m} ⟨o, es, ep, e, d, r⟩ => ⟨o, es, ep, hidT_get e (dictN e d), d, r⟩
  have kb : K.In (hidT s1.heap H) := fun b o e => hidT_get (KX b o e) (HN b (fun q => by
    obtain ⟨p, hp, rfl⟩ := List.mem_map.mp q
    rw [nT p hp] at e
    cases e) fun q r => by
    rw [q, r] at e
    cases e)
  have md : Mod K mg (hidT s1.heap H) := ⟨kb, nsB hns, ⟨mb, nsB hb, hbb⟩, let ⟨mc, h1, h2⟩ := hlim; ⟨mc, nsB h1, h2⟩⟩
  have tabs : ∀ p ∈ cs, TabB (hidT s1.heap H) mg p.1 p.2 := fun p hp => by
    obtain ⟨ch, hP⟩ := hT p hp
    obtain ⟨bm, ob, b1, b2, b3, b4, b5, b6⟩ := hbm
    refine ⟨?_, ⟨bm, ob, b1, b2, fun q => ?_, fun q => ?_, hidT_get b3 (other b3 (by rw [b4]; nofun) (by rw [b6]; nofun)), b4, b5, b6⟩, fun q => ?_⟩
    · obtain ⟨o, us, file, tf, flags, tg, inF, text, tt, c1, c2, c3, rest⟩ := ch
      exact ⟨o, us, file, tf, flags, tg, inF, text, tt, hidT_get c1 (other c1 (by rw [c2]; nofun) (by rw [c3]; nofun)), c2, c3, rest⟩
    · obtain ⟨o, es, ep, e, d, _⟩ := hns
      rw [q, e] at b3
      cases b3
      rw [d] at b6
      cases b6
    · rw [q, hP] at b3
      cases b3
      cases b6
    · obtain ⟨o, es, ep, e, d, _⟩ := hns
      rw [q, hP] at e
      cases e
      cases d
  have e0 : Env0 P w K mg (hidT s1.heap H) callerA [] s1 H := ⟨rfl, md, fun b o e => of_hidT e, Nat.le_of_eq (hidT_size _ _), trivial, fun b hb => (nomatch (show b ∈ ([] : List Addr) from hb)), hok, .of_eq hg⟩
  have lst : LstZ K ⟨[], fun b => b = a ∧ K.lookup a = none, cs.map (·.2), fun _ => false⟩ H a (ns.map V.int) := by
    cases hk : K.lookup a with
    | some o =>
      have e := KX a o hk
      rw [ha] at e
      cases e
      exact .inr ⟨_, vs.toArray, _, hk, rfl, rfl, rfl, by rw [List.size_toArray, lenV]; exact hl, by simpa using rv⟩
    | none => exact .inl ⟨⟨rfl, rfl⟩, .inr ⟨_, HA hk⟩⟩
  have pr : @spF ⟨cs.map (·.2), some w⟩ K xm F 1 [.ref a] H (fun v _ => v = .bl true) (fun _ _ _ => False) := by
    letI : Tabs := ⟨cs.map (·.2), some w⟩
    refine ⟨⟨[], fun b => b = a ∧ K.lookup a = none, cs.map (·.2), fun _ => false⟩, [.fro (ns.map .int)], [], ⟨rfl, List.nodup_nil, fun b q => (nomatch q), fun b q => ?_, fun i b c q => absurd q (by simp), fun T q => ⟨⟨#[], HT T q, trivial⟩, by simp, fun z => aT (z.1 ▸ q)⟩, fun T q => q, fun i c q => absurd q (by simp)⟩, .cons (.fro lst (reps_ints ns)) .nil, rfl, ?_⟩
    · rw [q.1, HA q.2]
      simp
    · rw [hF]
      intro v z' H' _ _ p
      cases p
      rfl
  refine codeAny_mono ((Fn _ kb (nsB hns) tabs).run callerA [] s1 H ⟨[.ref a], []⟩ [.ref a] [.ref a] _ _ hr rfl e0 (hbind s1 (.ref a)) (.cons rfl .nil) pr) fun r s' h => ?_
  match r, h with
  | .error er, h =>
    obtain ⟨_, _, _, _, _, _, _, _, _, _, _, _, q⟩ := h
    exact q.elim
  | .ok (.ret u), ⟨v, H', os, bare, un, hok', r', q⟩ =>
    have q' : v = .bl true := q
    subst q'
    obtain rfl : u = Value.bool true := r'
    have stay : ∀ b o, b ∉ cs.map (·.2) → s1.heap.get? b = some o → s'.heap.get? b = some o := fun b o n e => by
      cases q : H b with
      | none => exact un.keep b o e q (fun z => (nomatch (show b ∈ ([] : List Addr) from z))) (by simp)
      | some u =>
        rcases any b u q with ⟨h1, _⟩ | ⟨rfl, _, rfl⟩
        · exact (n h1).elim
        · obtain ⟨e1, _⟩ := hok b _ q
          obtain ⟨e2, _⟩ := hok' b _ (un.frzs b _ _ q)
          rw [e] at e1
          cases e1
          exact e2
    have more : ∀ b ∈ cs.map (·.2), isCodeTable s1.heap b ∧ ∃ ps : Array Value, s'.heap.get? b = some { cls := .none, data := .fields ps } := fun b hb => by
      obtain ⟨p, hp, rfl⟩ := List.mem_map.mp hb
      obtain ⟨ps, z⟩ := un.tbls p.2 #[] (HT p.2 hb)
      exact ⟨((hT p hp).1.tab (hT p hp).2).isCodeTable, _, hok' p.2 _ z⟩
    refine ⟨rfl, ⟨fun b o e => ?_, fun b o e => ?_⟩, os, bare⟩
    · by_cases h1 : b ∈ cs.map (·.2)
      · obtain ⟨it, ps, z⟩ := more b h1
        rw [isT b h1] at e
        cases e
        exact .inr (.inl ⟨it, rfl, #[], ps, rfl, by rw [Array.empty_append]; exact z⟩)
      · exact .inl (stay b o h1 e)
    · by_cases h1 : b ∈ cs.map (·.2)
      · obtain ⟨_, ps, z⟩ := more b h1
        exact ⟨_, z⟩
      · exact ⟨o, stay b o h1 e⟩
end
theorem noTab_at {K : PySem.W.Frag} {h : Heap} {T : Addr} (X : K.In h) (hK : PySem.W.noTabs K = true) (e : h.get? T = some emptyT) : K.lookup T = none := by
  cases q : K.lookup T with
  | none => rfl
  | some o =>
    have e1 := X T o q
    rw [e] at e1
    cases e1
    have z := List.all_eq_true.mp hK (T, emptyT) (PySem.W.mem_of_lookupK q)
    cases z
/-- the goal behind k_head; the names: of the defs whose tables grow -/
theorem walkG {l : PySem.W.OpenLaw} {k : Nat} {q : Program} {loose : List Str} {XP : (Str → Option Value) → Heap → Prop} {YP : World → Heap → Prop} {d : DefRec} {K : Params → PySem.W.Frag} {x : Str} {F : List D → Sto → R D} (names : List Str)
    (hq : (names.all fun y => ((recsOf q).find? fun e => e.name == y).isSome) = true) (hK : ∀ P, PySem.W.noTabs (K P) = true)
    (hn : l.most = some 63) (hdf : d.params.defaults = []) (hr : Room k callerA) (hY : ∀ (w : World) (h : Heap), YP w h → (K w.params).In h)
    (Fn : ∀ (w : World) (mg : Str → Option Value) (fa : Addr) (h : Heap), (K w.params).In h → h.Ns mainGlobals mg → mg d.name = some (.ref fa) →
      ∃ (cs : List (Addr × Addr)) (fd : FuncData) (xm : List Addr), (∀ p ∈ cs, ∃ y ∈ names, PySem.W.tabIn (K w.params) y = some p) ∧ (∀ (s : Shared) (u : Value), BindsTo s fd ⟨[u], []⟩ [(x, u)]) ∧
        ∀ base : Heap, (K w.params).In base → base.Ns mainGlobals mg → (∀ p ∈ cs, TabB base mg p.1 p.2) → FnG l.prog w (K w.params) mg base k fa fd [x] (@spF ⟨cs.map (·.2), some w⟩ (K w.params) xm F 1))
    (hF : ∀ ns : List Int, ns.length ≤ 63 → ∃ st, F [.fro (ns.map .int)] [] = .ok (.bl true) st) : PySem.W.WalkO q loose XP YP l.row.toRowW d [] (fun f vs => PySem.call f vs) := by
  refine Att.attach_call hn hdf fun w s0 s1 mg mb fa o pm cd doc a vs ns G Y ho hd hcd hmg hobj hints hlen hg => ?_
  have KX := hY w _ Y
  obtain ⟨cs, fd, xm, ht, hb, hf⟩ := Fn w mg fa _ KX G.T.g hmg
  have tabs : ∀ p ∈ cs, PySem.W.CodeHd s1.heap p.1 p.2 ∧ s1.heap.get? p.2 = some emptyT := fun p hp => by
    obtain ⟨y, hy, e⟩ := ht p hp
    have z := List.all_eq_true.mp hq y hy
    obtain ⟨d', hd'⟩ := Option.isSome_iff_exists.mp z
    exact PySem.W.tab_of G.T KX hd' e
  exact head_callT KX G.T.g G.T.b G.T.builtins G.T.nolimit hg tabs (fun p hp => noTab_at KX (hK _) (tabs p hp).2) G.T.bmain hobj hints (Nat.le_trans hlen (by decide)) hr hf hb (hF ns hlen)
end Ev

/-! sorted(set(a list of ints)) -/
namespace Ev
open PySem PySem.Spec PyProof.Rows L2 RZ

abbrev setO0 (w : World) : Obj := { cls := .type "set", dict := none, data := .set #[] 0 (.fresh 0 0 (!w.params.followText "set-order")) }
theorem bt_set : bootBuiltins "set" = some (.type "set") := by decide +kernel
section
variable {P : Program} {w : World} {A : Around} {E : Value → Shared → Prop} {s : Shared}
set_option maxHeartbeats 8000000 in
theorem set_of_list {l : Addr} {xs : Array Value} (is : List Int) {Q : Value → Shared → Prop} (hA : A.handled = none) (lst : s.heap.IsList l xs) (iv : IntsAre xs.toList is) (few : is.length + 1 < scanBound)
    (fin : ∀ (h2 : Heap) (k c : Nat), SetR w h2 s.heap.objs.size (fun j => decide (j ∈ is)) c → c ≤ is.length → (∀ b o, s.heap.get? b = some o → h2.get? b = some o) → Q (.ref s.heap.objs.size) { s with heap := h2, toks := k }) :
    wpAny (model P w) A (call (.type "set") [.ref l]) Q E s := by
  have many : xs.size = is.length := (Array.length_toList ..).symm.trans iv.length
  obtain ⟨cc, rest, mro⟩ := F.called_set.mro; have mk := F.called_set.made; have sb := F.called_set.sub
  refine wpAny_call (codeAny_of_tree (show wpAny _ _ (callAny (.type "set") _) _ _ _ from wpAny_pure ⟨Code.quiet_builtin _ (by decide +kernel), codeAny_builtin F.entry_type_call ?_⟩))
  rw [Around.under_plain (weight_type_call_type "set" [Value.ref l] []) rfl]; have k1 := F.called_set.notType; have k2 := F.called_set.canCreate; have k3 := F.typeCall_set_1 (.ref l)
  (repeat (any_goals (first | assumption | wp_step)))
  refine codeAny_mono (code_set_led1 (.ref l) (E := E) (Q₁ := fun o t => o = .ref s.heap.objs.size ∧ t = { s with heap := s.heap.push (setO0 w) }) ⟨rfl, rfl⟩) fun r t hr => ?_
  rcases r with er | fl
  · exact hr
  rcases fl with _ | _ | _ | ob; all_goals first | exact hr.elim | skip
  · obtain ⟨q1, q2⟩ := hr; subst q1; subst q2
    have new : (s.heap.push (setO0 w)).get? s.heap.objs.size = some (setO0 w) := Heap.get?_push_size _ rfl
    have ty : Shared.TypeIs { s with heap := s.heap.push (setO0 w) } (.ref s.heap.objs.size) "set" := ⟨_, new, rfl⟩
    have k4 := F.called_set.init.lookup; have k5 := F.called_set.init.bind (.ref s.heap.objs.size)
    (repeat (any_goals (first | assumption | wp_step)))
    refine codeAny_mono (codeAny_call_builtin (R := wants (fun u t => u = .none ∧ ∃ h2 k c, t = { s with heap := h2, toks := k } ∧ SetR w h2 s.heap.objs.size (fun j => decide (j ∈ is)) c ∧ c ≤ is.length ∧
      ∀ b o, s.heap.get? b = some o → h2.get? b = some o) E) F.called_set.init.plain F.entry_set_init (check_set_init_1 ty ?_)) fun u t hu => ?_
    · obtain ⟨⟨oc, od, odat, osl⟩, ho, hc, nl, hd⟩ := lst; simp only at hc hd; subst hc hd
      have ho2 : (s.heap.push (setO0 w)).get? l = some { cls := .type "list", dict := od, data := .seq xs nl, slots := osl } := Heap.get?_push_of_some _ ho
      have k6 := F.sub_list_set; have k7 := F.sub_list_frozenset; have k8 : (Value.type "list" == Value.type "dict") = false := by decide
      have lst2 : (s.heap.push (setO0 w)).IsList l xs := ⟨_, ho2, rfl, nl, rfl⟩
      unfold Builtin.«set.__init__» noKeywords Builtin.Frozenset.updateFrom; generalize hPI : pyIter = PI; wp_walk; subst hPI
      refine wpAny_pyIter_list lst2 (wpAny_bind (wpAny_runValue ?_))
      have low : l < s.heap.objs.size := Heap.lt_size ho
      have n1 : l ≠ (s.heap.push (setO0 w)).objs.size := by rw [Heap.size_push]; exact Nat.ne_of_lt (Nat.lt_succ_of_lt low)
      have n2 : s.heap.objs.size ∉ [(s.heap.push (setO0 w)).objs.size, l] := by
        rw [Heap.size_push]; intro z; rcases List.mem_cons.mp z with z | z
        · exact absurd z (Nat.ne_of_lt (Nat.lt_succ_self _))
        · exact absurd (List.mem_singleton.mp z) (Nat.ne_of_gt low)
      have vals : ∀ (i : Nat) (v : Value), xs[i]? = some v → ∃ k t, is[i]? = some k ∧ v = .int k t := fun i v hv => by
        have hi : i < is.length := by rw [← many]; exact (Array.getElem?_eq_some_iff.mp hv).1
        obtain ⟨t, e⟩ := IntsAre.int_at iv i v (by rw [Array.getElem?_toList]; exact hv)
        exact ⟨is[i], t, List.getElem?_eq_getElem hi, by rw [e, List.getD_eq_getElem?_getD, List.getElem?_eq_getElem hi]; rfl⟩
      refine set_update_ints ((Walks.list (show A.in1.in1.in1.handled = none from hA) _ l n1 xs).toS) s.heap.objs.size n2 is many few vals (xs.size - 0) 0 _ (by omega) (Nat.zero_le _) ⟨⟨_, Heap.get?_push_size _ rfl, rfl, rfl⟩, lst2.push _⟩ ?start ?after
      case start => exact ⟨0, Nat.le_refl 0, setR_new_at (Heap.get?_push_of_some _ new)⟩
      case after =>
        rintro ⟨h2, g2, d2, k2, os2⟩ c mv hc R
        have e1 : g2 = s.gens := mv.gens
        have e2 : d2 = s.drawn := mv.drawn
        have e3 : os2 = s.os := mv.os
        subst e1 e2 e3
        refine (show wpAny _ _ _ _ _ _ from wpAny_pure (show wpAny _ _ (ret Value.none) _ _ _ from wpAny_pure ⟨rfl, h2, k2, c, rfl, R, many ▸ hc, fun b o e => ?_⟩))
        have lt := Heap.lt_size e
        refine mv.heap b o (fun z => ?_) (Heap.get?_push_of_some _ (Heap.get?_push_of_some _ e))
        rcases List.mem_cons.mp z with z | z
        · exact absurd z (Nat.ne_of_lt lt)
        · have z := List.mem_singleton.mp z
          rw [Heap.size_push] at z
          exact absurd z (Nat.ne_of_lt (Nat.lt_succ_of_lt lt))
    · rcases u with er | fl
      · exact hu
      rcases fl with _ | _ | _ | ob; all_goals first | exact hu.elim | skip
      · obtain ⟨q1, h2, k, c, q2, R, hc, kp⟩ := hu; subst q1; subst q2
        (repeat (any_goals (first | assumption | wp_step)))
        exact fin _ _ _ R hc kp
end
end Ev

namespace Ev
open PySem PySem.Spec PyProof.Rows L2 RZ
/-- sorted and each once -/
def putI (x : Int) : List Int → List Int
  | [] => [x]
  | y :: r => if x < y then x :: y :: r else if x = y then y :: r else y :: putI x r
def setI : List Int → List Int
  | [] => []
  | x :: r => putI x (setI r)
theorem putI_mem {x k : Int} : ∀ {l : List Int}, k ∈ putI x l ↔ k = x ∨ k ∈ l
  | [] => by simp [putI]
  | y :: r => by
    unfold putI
    split
    · simp
    · split
      · rename_i h
        subst h
        simp
      · rw [List.mem_cons, putI_mem (l := r), List.mem_cons]
        constructor
        · rintro (h | h | h)
          · exact .inr (.inl h)
          · exact .inl h
          · exact .inr (.inr h)
        · rintro (h | h | h)
          · exact .inr (.inl h)
          · exact .inl h
          · exact .inr (.inr h)
theorem setI_mem {k : Int} : ∀ {l : List Int}, k ∈ setI l ↔ k ∈ l
  | [] => Iff.rfl
  | x :: r => by
    show k ∈ putI x (setI r) ↔ _
    rw [putI_mem, setI_mem (l := r), List.mem_cons]
theorem putI_lt {x : Int} : ∀ {l : List Int}, l.Pairwise (· < ·) → (putI x l).Pairwise (· < ·)
  | [], _ => by simp [putI]
  | y :: r, h => by
    have hy := List.pairwise_cons.mp h
    unfold putI
    split
    · rename_i l
      refine List.pairwise_cons.mpr ⟨fun a ha => ?_, h⟩
      rcases List.mem_cons.mp ha with rfl | ha
      · exact l
      · exact Int.lt_trans l (hy.1 a ha)
    · split
      · exact h
      · refine List.pairwise_cons.mpr ⟨fun a ha => ?_, putI_lt hy.2⟩
        rcases putI_mem.mp ha with rfl | ha
        · omega
        · exact hy.1 a ha
theorem setI_lt : ∀ {l : List Int}, (setI l).Pairwise (· < ·)
  | [] => .nil
  | _ :: r => putI_lt (setI_lt (l := r))
theorem lt_one : ∀ {l m : List Int}, l.Pairwise (· < ·) → m.Pairwise (· < ·) → (∀ k, k ∈ l ↔ k ∈ m) → l = m
  | [], [], _, _, _ => rfl
  | [], y :: m, _, _, h => absurd ((h y).mpr List.mem_cons_self) (by simp)
  | x :: l, [], _, _, h => absurd ((h x).mp List.mem_cons_self) (by simp)
  | x :: l, y :: m, hl, hm, h => by
    have h1 := List.pairwise_cons.mp hl
    have h2 := List.pairwise_cons.mp hm
    have e : x = y := by
      rcases List.mem_cons.mp ((h x).mp List.mem_cons_self) with q | q
      · exact q
      · rcases List.mem_cons.mp ((h y).mpr List.mem_cons_self) with p | p
        · exact p.symm
        · have a := h2.1 x q
          have b := h1.1 y p
          omega
    subst e
    rw [lt_one h1.2 h2.2 fun k => ?_]
    constructor
    · intro q
      rcases List.mem_cons.mp ((h k).mp (List.mem_cons_of_mem _ q)) with e | e
      · have := h1.1 k q
        omega
      · exact e
    · intro q
      rcases List.mem_cons.mp ((h k).mpr (List.mem_cons_of_mem _ q)) with e | e
      · have := h2.1 k q
        omega
      · exact e
def sortSL : OL := fun ds st => match ds with
  | [d] => (asLF d st).bind fun es => (intsO es).bind fun is => if is.length < 60 then some (.lst ((setI is).map .int), st) else none
  | _ => none
def sortSC : OL := fun ds st => match ds with
  | [d] => (asLF d st).bind fun es => (intsO es).bind fun is => if is.length < 60 then some (.ref st.length, st ++ [.lst ((setI is).map .int)]) else none
  | _ => none
variable [Tabs]
section
variable {X : Cx} {xm : List Addr} {W : WX} {k : Nat} {e : Expr} {es : List Expr} {fs : AF} {p p2 pos q2 : Pos}
def rSetL (w : World) (K : PySem.W.Frag) : List V → Hp → VK → Prop := fun vs H Q => ∃ (l : Addr) (is : List Int), vs = [V.ref l] ∧ SqL K H l (is.map V.int) ∧ is.length + 1 < scanBound ∧ ∀ p c, H p = none → c ≤ is.length → Q (.ref p) (upd H p (SetO w p (fun j => decide (j ∈ is)) c))
theorem cr_setL (hc : X.calm = true) : CallR X (.type "set") (rSetL X.w X.K) := by
  intro pins s σ H vs us Q I r h
  obtain ⟨l, is, rfl, hq, few, q⟩ := h
  rw [Vals.ref1 r]
  obtain ⟨its, rv, hp, hz⟩ := I.list hq
  refine set_of_list is (I.ok.hd hc) hp.isList (by simpa using Vals.ints rv) few fun h2 k c R hcl kp => ?_
  exact ⟨.ref _, upd H s.heap.objs.size (SetO X.w s.heap.objs.size (fun j => decide (j ∈ is)) c), I.laid (t' := k) kp (Nat.le_refl _) (setO_new R), rfl, q _ c (I.hok.fresh (Nat.le_refl _)) hcl⟩
theorem set_read {op : OL} (hop : ∀ ds st d st', op ds st = some (d, st') → ∃ d0 es is, ds = [d0] ∧ asLF d0 st = some es ∧ intsO es = some is ∧ is.length < 60 ∧
      ∀ {K : PySem.W.Frag} {z : Z} {H : Hp} {Q : VK}, okD K z H Q d st' → RelH K z H st → ∀ p, H p = none → Q (.ref p) (upd H p (.lst ((setI is).map V.int)))) {w : World} {K : PySem.W.Frag} (σ : L2.St) (H : Hp) (Q : VK) (q : TEf K xm W (opLF op fs) σ H Q) :
    tCB (rSortedSet w) (tCons (tCB (rSetL w K) (TAf K xm W fs)) tNil) σ H Q := by
  obtain ⟨z, en, st, rh, re, h⟩ := q
  refine seqA' rh re (wp_bind.mp h) fun ds st1 vs z1 H1 q1 e1 r1 re1 p1 => ?_
  obtain ⟨d, st3, e3, q3⟩ := wp_ofO q1
  obtain ⟨d0, es, is, rfl, h1, h2, few, fin⟩ := hop _ _ _ _ e3
  cases p1 with
  | cons pv t =>
    cases t
    obtain ⟨a, xs, rfl, sq, rs⟩ := asLF_at r1 pv h1
    have ex := ints_at rs h2
    subst ex
    refine ⟨a, is, rfl, sq, by unfold scanBound; omega, fun p c np hc => ⟨p, _, c, rfl, upd_same, by omega, fun ns p2 hlt hm hn np2 => ?_⟩⟩
    have en : ns = setI is := lt_one hlt setI_lt fun j => by
      rw [hm j, setI_mem]
      simp
    subst en
    have e2 := ext_by (o := SetO w p (fun j => decide (j ∈ is)) c) r1 np
    exact fin (q3.ext (e1.trans e2)) (r1.off (fun w => r1.fz p w np) (r1.nin np) fun w => (r1.tb p w).1.live np) p2 np2
theorem sn_sortset {op : OL} (hop : ∀ ds st d st', op ds st = some (d, st') → ∃ d0 es is, ds = [d0] ∧ asLF d0 st = some es ∧ intsO es = some is ∧ is.length < 60 ∧
      ∀ {K : PySem.W.Frag} {z : Z} {H : Hp} {Q : VK}, okD K z H Q d st' → RelH K z H st → ∀ p, H p = none → Q (.ref p) (upd H p (.lst ((setI is).map V.int)))) (G : GX X xm W k)
    (hm : X.mg "sorted" = none) (hm2 : X.mg "set" = none) (ha : PA X [e] (TAf X.K xm W fs)) (hg : Gl X "sorted" := by rfl) (hg2 : Gl X "set" := by rfl)
    (he : starEach [.Call (.Name "set" p2) [e] [] q2] X.env = (false, eval (.Call (.Name "set" p2) [e] [] q2) X.env) :: starEach [] X.env := by rfl) (he2 : starEach [e] X.env = (false, eval e X.env) :: starEach [] X.env := by rfl) :
    PE X (.Call (.Name "sorted" p) [.Call (.Name "set" p2) [e] [] q2] [] pos) (TEf X.K xm W (opLF op fs)) :=
  (pe_callB (cr_sortedSet G.cm) hg hm bt_sorted (pa_cons (pe_callTy (cr_setL G.cm) hg2 hm2 bt_set ha (by decide) (by decide) he2 (by rfl)) pa_nil he) (by decide) (by decide) he (by rfl)).imp (set_read hop)
theorem sortSL_ok : ∀ ds st d st', sortSL ds st = some (d, st') → ∃ d0 es is, ds = [d0] ∧ asLF d0 st = some es ∧ intsO es = some is ∧ is.length < 60 ∧
      ∀ {K : PySem.W.Frag} {z : Z} {H : Hp} {Q : VK}, okD K z H Q d st' → RelH K z H st → ∀ p, H p = none → Q (.ref p) (upd H p (.lst ((setI is).map V.int))) := by
  intro ds st d st' h
  match ds, h with
  | [d0], h =>
    obtain ⟨es, h1, h⟩ := Option.bind_eq_some_iff.mp (show (asLF d0 st).bind (fun es => (intsO es).bind fun is => if is.length < 60 then some (D.lst ((setI is).map .int), st) else none) = some (d, st') from h)
    obtain ⟨is, h2, h⟩ := Option.bind_eq_some_iff.mp h
    by_cases few : is.length < 60
    · rw [if_pos few] at h
      cases h
      exact ⟨d0, es, is, rfl, h1, h2, few, fun ok r p n => okD.newF ok r (reps_ints _) n⟩
    · rw [if_neg few] at h
      cases h
theorem sortSC_ok : ∀ ds st d st', sortSC ds st = some (d, st') → ∃ d0 es is, ds = [d0] ∧ asLF d0 st = some es ∧ intsO es = some is ∧ is.length < 60 ∧
      ∀ {K : PySem.W.Frag} {z : Z} {H : Hp} {Q : VK}, okD K z H Q d st' → RelH K z H st → ∀ p, H p = none → Q (.ref p) (upd H p (.lst ((setI is).map V.int))) := by
  intro ds st d st' h
  match ds, h with
  | [d0], h =>
    obtain ⟨es, h1, h⟩ := Option.bind_eq_some_iff.mp (show (asLF d0 st).bind (fun es => (intsO es).bind fun is => if is.length < 60 then some (D.ref st.length, st ++ [.lst ((setI is).map .int)]) else none) = some (d, st') from h)
    obtain ⟨is, h2, h⟩ := Option.bind_eq_some_iff.mp h
    by_cases few : is.length < 60
    · rw [if_pos few] at h
      cases h
      exact ⟨d0, es, is, rfl, h1, h2, few, fun ok r p n => okD.newC ok r (reps_ints _) n⟩
    · rw [if_neg few] at h
      cases h
end
end Ev

/-! sets of ints: a display of one, add, not in, sorted -/
namespace Ev
open PySem PySem.Spec PyProof.Rows L2 RZ
variable [Tabs]
section
variable {X : Cx} {xm : List Addr} {W : WX} {k : Nat} {e : Expr} {es : List Expr} {f g : EF} {fs : AF} {te : TE} {p p2 pos apos q2 : Pos}
def tSet1 (w : World) (te : TE) : TE := fun σ H Q => te σ H fun x H1 => ∃ j, x = .int j ∧ ∀ p, H1 p = none → Q (.ref p) (upd H1 p (SetO w p (fun i => decide (i ∈ [j])) 1))
theorem pe_set1 (he : PE X e te) (hc : PySem.W.kdsCode X.K X.env.code = true) (hs : starEach [e] X.env = [(false, eval e X.env)] := by rfl) : PE X (.Set [e] 0 pos) (tSet1 X.w te) := by
  refine ⟨fun pins s σ H Q I h => ?_⟩
  rw [arm_eval_Set, hs]
  refine wpAny_bind (wpAny_standAt (wpAny_bind (PySem.W.kds_main I.kIn hc fun b => ?_)))
  unfold setDisplay newSet setsByText
  rw [if_neg (show ¬ ((displayRoad 0 [e] == DisplayRoad.constants) = true) from fun z => by cases z)]
  refine wpAny_bind (wpAny_bind (wpAny_bind (wpAny_askSetting (wpAny_pure ?_))))
  simp only [newObj]
  refine wpAny_bind (wpAny_alloc (wpAny_pure ?_))
  dsimp only
  refine wpAny_bind (wpAny_holding ?_)
  have hn : H s.heap.objs.size = none := I.hok.fresh (Nat.le_refl _)
  have fp : FpOk X pins H s.heap.objs.size := I.fpOk (Nat.le_refl _) hn
  have new : (s.heap.push (setO0 X.w)).get? s.heap.objs.size = some (setO0 X.w) := Heap.get?_push_size _ rfl
  have I1 : Inv X pins σ H { s with heap := s.heap.push (setO0 X.w) } := I.kept (t' := s.toks) fun b o q => Heap.get?_push_of_some _ q
  have I2 : Inv X (pins ++ [(s.heap.objs.size, setO0 X.w)]) σ H { s with heap := s.heap.push (setO0 X.w) } := I1.pins_of fun q hq => (List.mem_append.mp hq).elim (fun z => I1.pin q (List.mem_append_right _ z)) fun z => by
    rw [List.mem_singleton.mp z]
    exact ⟨new, hn, fp.2.1, fp.2.2.1, fun v z => by cases z⟩
  have few : (if ([(false, eval e X.env)].map fun (star, t) => (star, do let v ← t; standAt pos; pure v)).length > 30 then 0 else (([(false, eval e X.env)].map fun (star, t) => (star, do let v ← t; standAt pos; pure v)).findIdx? (·.1)).getD ([(false, eval e X.env)].map fun (star, t) => (star, do let v ← t; standAt pos; pure v)).length) = 1 := rfl
  rw [few]
  show wpAny _ _ ((((eval e X.env >>= fun v => standAt pos >>= fun _ => pure v) >>= fun v => holding [v] (pure []) >>= fun r => pure (v :: r)) >>= _) : Sem _) _ _ _
  refine wpAny_bind (wpAny_bind (wpAny_bind (thn (he.run _ _ σ H _ I2 h) fun v s1 ⟨x, H1, I3, r3, j, ex, q⟩ => wpAny_bind (wpAny_standAt (wpAny_pure ?_)))))
  subst ex
  obtain ⟨tk, rfl⟩ := r3
  refine wpAny_bind (wpAny_holding (wpAny_pure (wpAny_pure ?_)))
  obtain ⟨o1, o2, o3, o4, o5⟩ := I3.pin (s.heap.objs.size, setO0 X.w) (List.mem_append_right _ (List.mem_append_right _ List.mem_cons_self))
  have I4 := I3.unpinned
  refine wpAny_bind (wpAny_holding ?_)
  simp only [List.forIn_cons, List.forIn_nil]
  refine wpAny_bind (wpAny_bind (wpAny_bind ?_))
  unfold setAdd
  refine wpAny_holding (wpAny_bind ((intKind X.prog X.w).pyHash (k := j) (intKind_is _ _ _ _) ?_))
  have R0 : SetR X.w s1.heap s.heap.objs.size (fun i => decide (i ∈ ([] : List Int).take 0)) 0 := setR_new_at o1
  refine setR_add_hashed (s := { s1 with toks := s1.toks + 1 }) R0 (by unfold scanBound; omega) fun h2 sb R => ?_
  refine wpAny_pure (wpAny_pure (wpAny_pure ?_))
  simp only [List.map_cons, List.map_nil, List.drop_succ_cons, List.drop_zero, List.forIn_nil]
  refine wpAny_bind (wpAny_pure (wpAny_pure (wpAny_pure ?_)))
  have R1 : SetR X.w h2 s.heap.objs.size (fun i => decide (i ∈ [j])) 1 := R.congr fun i => by simp
  refine ⟨.ref s.heap.objs.size, upd H1 s.heap.objs.size (SetO X.w s.heap.objs.size (fun i => decide (i ∈ [j])) 1), ?_, rfl, q _ o2⟩
  have nu : ∀ b u, H1 b = some u → b ≠ s.heap.objs.size := fun b u z w => by rw [w, o2] at z; cases z
  refine I4.step (ch := [s.heap.objs.size]) (g' := s1.gens) (d' := s1.drawn) (t' := s1.toks + 1) (fun b hb => ?_) (fun b o _ _ hc z _ => (sb.2 b fun w => hc (List.mem_singleton.mpr w)).trans z) (fun b o _ _ hc z _ => ⟨o.slots, (sb.2 b fun w => hc (List.mem_singleton.mpr w)).trans z⟩)
    (fun b o hc _ z => by rw [upd_ne fun w => hc (List.mem_singleton.mpr w)]; exact z) (fun b o hc z => ⟨o, (sb.2 b fun w => hc (List.mem_singleton.mpr w)).trans z⟩) (fun b xs z => by rw [upd_ne (nu b _ z)]; exact z) (fun b o u z => by rw [upd_ne (nu b _ z)]; exact z) (fun b ps z => ⟨#[], by rw [upd_ne (nu b _ z), z]; simp⟩)
    (fun m hm => ?_) (fun b u z => ?_) I4.bare
  · rw [List.mem_singleton.mp hb]
    refine ⟨.inr I.sz, o3, fun x c hx => ?_, fun q hq => ?_⟩
    · exact fp.2.2.2.2.1 x c hx
    · exact fp.2.2.2.2.2 q hq
  · obtain ⟨o, es, ep, ho, r⟩ := hm
    exact ⟨o, es, ep, (sb.2 _ fun w => o3 w.symm).trans ho, r⟩
  · by_cases w : b = s.heap.objs.size
    · subst w
      rw [upd_same] at z
      cases z
      exact setO_new R1
    · rw [upd_ne w] at z
      refine (I4.hok b u z).stay (fun d v hd y => (sb.2 d ?_).trans y) (fun d y => by rw [upd_ne (nu d _ y)]; exact y) fun d xs y => by rw [upd_ne (nu d _ y)]; exact y
      rcases hd with hd | hd
      · rw [hd]
        exact w
      · exact nu d _ hd
/-- on data -/
def set1F (f : EF) : EF := fun en st => (f en st).bind fun d st1 => match d with
  | .int j => .ok (.sref st1.length) (st1 ++ [.set [j]])
  | _ => .bad
theorem okD.newS {K : PySem.W.Frag} {z : Z} {H : Hp} {st : Sto} {Q : VK} {w : World} {S : List Int} {p : Addr} (hw : Tabs.wd = some w) (h : okD K z H Q (.sref st.length) (st ++ [.set S])) (r : RelH K z H st) (n : H p = none) :
    Q (.ref p) (upd H p (SetO w p (fun i => decide (i ∈ S)) S.length)) :=
  h _ (z.pushK p true) _ (ext_push r n) (r.pushC (cl := .set S) n ⟨w, hw, upd_same⟩) (.sref (by
    show (z.mu ++ [p])[st.length]? = some p
    rw [← r.len, List.getElem?_append_right (Nat.le_refl _), Nat.sub_self]
    rfl) (if_pos r.len.symm))
theorem sn_set1 (G : GX X xm W k) (he : PE X e (TEf X.K xm W f)) (hc : PySem.W.kdsCode X.K X.env.code = true) (hs : starEach [e] X.env = [(false, eval e X.env)] := by rfl) : PE X (.Set [e] 0 pos) (TEf X.K xm W (set1F f)) :=
  (pe_set1 he hc hs).imp fun σ H Q ⟨z, en, st, rh, re, h⟩ => by
    refine seqE' rh re (wp_bind.mp h) fun d1 st1 v1 z1 H1 q1 e1 r1 re1 p1 => ?_
    cases d1 with
    | int j =>
      cases p1
      exact ⟨j, rfl, fun p n => okD.newS (S := [j]) G.wd (okD.ext e1 q1) r1 n⟩
    | _ => exact q1.elim
def setOf (st : Sto) (n : Nat) : Option (List Int) := match st[n]? with
  | some (.set S) => some S
  | _ => none
def notinD : O2
  | .int i, .sref n, st => (setOf st n).bind fun S => some (.bl (!decide (i ∈ S)), st)
  | _, _, _ => none
def inD : O2
  | .int i, .sref n, st => (setOf st n).bind fun S => some (.bl (decide (i ∈ S)), st)
  | _, _, _ => none
theorem setOf_at {K : PySem.W.Frag} {z : Z} {H : Hp} {st : Sto} {w : World} {n : Nat} {a : Addr} {S : List Int} (hw : Tabs.wd = some w) (r : RelH K z H st) (hn : z.mu[n]? = some a) (h : setOf st n = some S) : st[n]? = some (.set S) ∧ H a = some (SetO w a (fun i => decide (i ∈ S)) S.length) := by
  unfold setOf at h
  split at h
  · rename_i S' hc
    cases h
    obtain ⟨w', h1, h2⟩ := r.cell hn hc
    rw [hw] at h1
    cases h1
    exact ⟨hc, h2⟩
  · cases h
theorem or_notin (hw : Tabs.wd = some X.w) : OpR X (compareOp .NotIn) (R2f X.K notinD) := by
  intro pins s σ H x y v u Q I rx ry ⟨z, st, da, db, d, st', rh, px, py, e, q⟩
  cases px with
  | int i =>
    cases py with
    | @sref a n hn hk =>
      obtain ⟨S, hS, e⟩ := Option.bind_eq_some_iff.mp (show (setOf st n).bind (fun S => some (D.bl (!decide (i ∈ S)), st)) = some (d, st') from e)
      cases e
      obtain ⟨_, h2⟩ := setOf_at hw rh hn hS
      exact or_snotin pins s σ H _ _ v u Q I rx ry ⟨i, a, _, _, rfl, rfl, h2, okD.here q rh (.bl _)⟩
    | _ => cases e
  | _ => cases py <;> cases e
theorem or_in (hw : Tabs.wd = some X.w) : OpR X (compareOp .In) (R2f X.K inD) := by
  intro pins s σ H x y v u Q I rx ry ⟨z, st, da, db, d, st', rh, px, py, e, q⟩
  cases px with
  | int i =>
    cases py with
    | @sref a n hn hk =>
      obtain ⟨S, hS, e⟩ := Option.bind_eq_some_iff.mp (show (setOf st n).bind (fun S => some (D.bl (decide (i ∈ S)), st)) = some (d, st') from e)
      cases e
      obtain ⟨_, h2⟩ := setOf_at hw rh hn hS
      exact or_sin pins s σ H _ _ v u Q I rx ry ⟨i, a, _, _, rfl, rfl, h2, okD.here q rh (.bl _)⟩
    | _ => cases e
  | _ => cases py <;> cases e
def putS (i : Int) (S : List Int) : List Int := if i ∈ S then S else S ++ [i]
def addF (o : EF) (f : EF) : EF := fun en st => (o en st).bind fun d st1 => match d with
  | .sref n => (f en st1).bind fun y st2 => match y with
    | .int i => match setOf st2 n with
      | some S => if S.length < 60 then .ok .non (st2.set n (.set (putS i S))) else .bad
      | none => .bad
    | _ => .bad
  | _ => .bad
theorem sn_add {o : Expr} (G : GX X xm W k) (ho : PE X o (TEf X.K xm W g)) (ha : PE X e (TEf X.K xm W f))
    (hbase : attributeBase o "add" X.env (eval o X.env) = eval o X.env := by rfl)
    (hfew : ((backTo pos (starEach (e :: []) X.env)).all (fun x => !x.1) && (backToKw pos (keywordEach [] X.env)).all (fun x => x.1.isSome)
      && decide ((e :: []).length + ([] : List Keyword).length + (if ([] : List Keyword).isEmpty then 0 else 1) < 30)) = true := by rfl)
    (hline : (apos.endLine == pos.line) = true := by rfl) (hs : starEach (e :: []) X.env = (false, eval e X.env) :: starEach [] X.env := by rfl) (hplain : (backTo pos (starEach [] X.env)).any (·.1) = false := by rfl) :
    PE X (.Call (.Attribute o "add" apos) [e] [] pos) (TEf X.K xm W (addF g f)) :=
  (pe_sadd ho (pa_cons ha pa_nil hs) hbase hfew hline hs hplain).imp fun σ H Q ⟨z, en, st, rh, re, h⟩ => by
    refine seqE' rh re (wp_bind.mp h) fun d1 st1 v1 z1 H1 q1 e1 r1 re1 p1 => ?_
    -- it is a set all along
    cases d1 with
    | sref n =>
      cases p1 with
      | @sref a _ hn hk =>
        obtain ⟨S0, w0, _, hw0, ha0⟩ := r1.isS hn hk
        have ew := hw0.symm.trans G.wd
        cases ew
        refine ⟨⟨a, _, _, rfl, ha0⟩, ?_⟩
        refine seqE' r1 re1 (wpD_ext e1 (wp_bind.mp q1) fun _ _ q => q) fun d2 st2 v2 z2 H2 q2 e2 r2 re2 p2 => ?_
        cases d2 with
        | int i =>
          cases p2
          have hn2 := e2.mu _ _ hn
          have hk2 := (e2.kd _ _ hn).trans hk
          cases hS : setOf st2 n with
          | none =>
            simp only [hS] at q2
            exact q2.elim
          | some S =>
            simp only [hS] at q2
            by_cases few : S.length < 60
            · rw [if_pos few] at q2
              obtain ⟨_, h2⟩ := setOf_at G.wd r2 hn2 hS
              refine ⟨a, i, _, S.length, rfl, rfl, h2, by unfold scanBound; omega, ?_⟩
              have eq1 : SetO X.w a (fun j => decide (j ∈ S) || decide (j = i)) (if decide (i ∈ S) = true then S.length else S.length + 1) = SetO X.w a (fun j => decide (j ∈ putS i S)) (putS i S).length := by
                unfold putS
                by_cases m : i ∈ S
                · rw [if_pos (decide_eq_true m), if_pos m]
                  congr 1
                  funext j
                  by_cases ej : j = i
                  · subst ej
                    simp [m]
                  · simp [ej]
                · rw [if_neg (by simpa using m), if_neg m, List.length_append]
                  congr 1
                  funext j
                  simp [List.mem_append]
              rw [eq1]
              have e3 := ext_write (o := SetO X.w a (fun j => decide (j ∈ putS i S)) (putS i S).length) r2 hn2
              exact okD.ext (Q := Q) (e1.trans e2) q2 _ z2 _ e3 (r2.writeC (cl := .set (putS i S)) hn2 hk2 ⟨X.w, G.wd, upd_same⟩) .non
            · rw [if_neg few] at q2
              exact q2.elim
        | _ => exact q2.elim
    | _ => exact q1.elim
/-- sorted(a set): a frozen list, a cell -/
def sortSetF : OL := fun ds st => match ds with
  | [.sref n] => (setOf st n).bind fun S => if S.length < 60 ∧ S.Nodup then some (.lst ((setI S).map .int), st) else none
  | _ => none
def sortSetC : OL := fun ds st => match ds with
  | [.sref n] => (setOf st n).bind fun S => if S.length < 60 ∧ S.Nodup then some (.ref st.length, st ++ [.lst ((setI S).map .int)]) else none
  | _ => none
theorem cl_sortSet {op : OL} (G : GX X xm W k) (hop : ∀ ds st d st', op ds st = some (d, st') → ∃ n S, ds = [.sref n] ∧ setOf st n = some S ∧ S.length < 60 ∧
      ∀ {K : PySem.W.Frag} {z : Z} {H : Hp} {Q : VK}, okD K z H Q d st' → RelH K z H st → ∀ p, H p = none → Q (.ref p) (upd H p (.lst ((setI S).map V.int)))) : CallR X (.builtin "sorted") (RLf X.K op) := by
  intro pins s σ H vs us Q I r ⟨z, st, ds, d, st', rh, ps, e, q⟩
  obtain ⟨n, S, rfl, hS, few, fin⟩ := hop _ _ _ _ e
  cases ps with
  | cons pv t =>
    cases t
    cases pv with
    | @sref a _ hn hk =>
      obtain ⟨_, ha⟩ := setOf_at G.wd rh hn hS
      refine cr_sortedSet G.cm pins s σ H _ us Q I r ⟨a, _, _, rfl, ha, by omega, fun ns p lt hm hl np => ?_⟩
      have en : ns = setI S := lt_one lt setI_lt fun j => by
        rw [hm j, setI_mem]
        simp
      subst en
      exact fin q rh p np
theorem sortSetF_ok : ∀ ds st d st', sortSetF ds st = some (d, st') → ∃ n S, ds = [.sref n] ∧ setOf st n = some S ∧ S.length < 60 ∧
      ∀ {K : PySem.W.Frag} {z : Z} {H : Hp} {Q : VK}, okD K z H Q d st' → RelH K z H st → ∀ p, H p = none → Q (.ref p) (upd H p (.lst ((setI S).map V.int))) := by
  intro ds st d st' h
  unfold sortSetF at h
  split at h
  · rename_i n
    obtain ⟨S, hS, h⟩ := Option.bind_eq_some_iff.mp h
    by_cases few : S.length < 60 ∧ S.Nodup
    · rw [if_pos few] at h
      cases h
      exact ⟨n, S, rfl, hS, few.1, fun ok r p np => okD.newF ok r (reps_ints _) np⟩
    · rw [if_neg few] at h
      cases h
  · cases h
theorem sortSetC_ok : ∀ ds st d st', sortSetC ds st = some (d, st') → ∃ n S, ds = [.sref n] ∧ setOf st n = some S ∧ S.length < 60 ∧
      ∀ {K : PySem.W.Frag} {z : Z} {H : Hp} {Q : VK}, okD K z H Q d st' → RelH K z H st → ∀ p, H p = none → Q (.ref p) (upd H p (.lst ((setI S).map V.int))) := by
  intro ds st d st' h
  unfold sortSetC at h
  split at h
  · rename_i n
    obtain ⟨S, hS, h⟩ := Option.bind_eq_some_iff.mp h
    by_cases few : S.length < 60 ∧ S.Nodup
    · rw [if_pos few] at h
      cases h
      exact ⟨n, S, rfl, hS, few.1, fun ok r p np => okD.newC ok r (reps_ints _) np⟩
    · rw [if_neg few] at h
      cases h
  · cases h
end
end Ev

namespace Ev
open PySem PySem.Spec PyProof.Rows L2 RZ
variable [Tabs]
section
variable {X : Cx} {xm : List Addr} {W : WX} {k : Nat} {a b : Expr} {f g : EF} {p p2 pos q2 : Pos}
/-! list(range(a, b)) -/
def rgD (i j : Int) : List D := (List.range (j - i).toNat).map fun n => .int (i + (n : Nat))
def lrgF (f g : EF) : EF := fun en st => (f en st).bind fun x st1 => (g en st1).bind fun y st2 => match x, y with
  | .int i, .int j => if decide (-1000000 ≤ i) && decide (i ≤ 1000000) && decide (-1000000 ≤ j) && decide (j ≤ 1000000) then .ok (.lst (rgD i j)) st2 else .bad
  | _, _ => .bad
theorem reps_rg {K : PySem.W.Frag} {z : Z} {H : Hp} (i j : Int) : Reps K z H (rgV i j) (rgD i j) := by
  unfold rgV rgD
  generalize List.range (j - i).toNat = l
  induction l with
  | nil => exact .nil
  | cons n r ih => exact .cons (.int _) ih
theorem sn_lrg (G : GX X xm W k) (hm : X.mg "list" = none) (hm2 : X.mg "range" = none) (ha : PE X a (TEf X.K xm W f)) (hb : PE X b (TEf X.K xm W g)) (hg : Gl X "list" := by rfl) (hg2 : Gl X "range" := by rfl)
    (na : starEach [.Call (.Name "range" p2) [a, b] [] q2] X.env = (false, eval (.Call (.Name "range" p2) [a, b] [] q2) X.env) :: starEach [] X.env := by rfl)
    (n1 : starEach [a, b] X.env = (false, eval a X.env) :: starEach [b] X.env := by rfl) (n2 : starEach [b] X.env = (false, eval b X.env) :: starEach [] X.env := by rfl) (hp : (backTo q2 (starEach [b] X.env)).any (·.1) = false := by rfl) :
    PE X (.Call (.Name "list" p) [.Call (.Name "range" p2) [a, b] [] q2] [] pos) (TEf X.K xm W (lrgF f g)) :=
  (pe_listRg G.cm hg hm (prg_2 hg2 hm2 ha hb n1 n2 hp) na).imp fun σ H Q ⟨z, en, st, rh, re, h⟩ => by
    refine seqE' rh re (wp_bind.mp h) fun d1 st1 v1 z1 H1 q1 e1 r1 re1 p1 => ?_
    refine seqE' r1 re1 (wpD_ext e1 (wp_bind.mp q1) fun _ _ q => q) fun d2 st2 v2 z2 H2 q2 e2 r2 re2 p2 => ?_
    cases d1 with
    | int i =>
      cases p1
      cases d2 with
      | int j =>
        cases p2
        by_cases hb : (decide (-1000000 ≤ i) && decide (i ≤ 1000000) && decide (-1000000 ≤ j) && decide (j ≤ 1000000)) = true
        · simp only [if_pos hb] at q2
          simp only [Bool.and_eq_true, decide_eq_true_eq] at hb
          exact ⟨i, j, rfl, rfl, ⟨by omega, by omega, by omega, by omega, by omega⟩, fun p n => okD.newF (okD.ext (e1.trans e2) q2) r2 (reps_rg i j) n⟩
        · simp only [if_neg hb] at q2
          exact q2.elim
      | _ => exact q2.elim
    | _ => cases d2 <;> exact q2.elim
end
section
variable {P : Program} {w : World} {K : PySem.W.Frag} {mg : Str → Option Value} {base : Heap} {xm : List Addr}
/-- a def whose own code object is known -/
theorem FnG.byK (hw : Tabs.wd = some w) {x qual : Str} {st : Stmt} {f : Addr} {fd : FuncData} {N ps : List Str} {k n m : Nat} {g : SF} (F : Fun K x qual st f fd) (S : FnScope N ps (defScope st)) (hn : N.length = n) (hm : ps.length = m)
    (hb : ∀ (cdv : Value) (A : Around) (outer : List Env) (s : Shared) (H : Hp) (E : XK), PySem.W.kdsCode K cdv = true → GX (cxOf (L2.CX P w) P w K mg base N qual (defScope st) f cdv A outer s H E) xm (fun cls d _ H => E cls d H) k →
      PSs (cxOf (L2.CX P w) P w K mg base N qual (defScope st) f cdv A outer s H E) (defBody st) (TSf K xm (fun cls d _ H => E cls d H) g)) : FnG P w K mg base (k + 1) f fd ps (spF K xm (fnF n g) m) := by
  subst hn hm
  obtain ⟨oc, od, kV, doc, pm, an, cdv, ct, osl, efd, lk, hcd⟩ := F.ex
  refine FnG.bodyC efd lk hcd S (fun vs H Q E ⟨z, ds, st, _, rs, hl, _⟩ => rs.length.trans hl) fun A outer s H vs Q E room gd h => ?_
  obtain ⟨z, ds, sto, rh, rs, hl, h⟩ := h
  refine ⟨_, hb cdv A outer s H E (kdsCode_of hcd) ⟨takes_of rfl rfl rfl rfl, passes_of rfl, room, gd, S.nd, rfl, hw⟩, z, _, sto, rh, relE_start N rfl rs, ?_⟩
  unfold fnF at h
  generalize g (ds.map some ++ List.replicate (N.length - ds.length) none) sto = r at h ⊢
  cases r with
  | nx en st' => exact fun σ' z' H' e r' _ => h _ z' H' e r' .non
  | rt d st' => exact h
  | ex c p en st' => exact fun cls dd σ' z' H' e r' _ x => h cls dd z' H' e r' x
  | bk en st' => exact h.elim
  | ct en st' => exact h.elim
  | bad => exact h.elim
end
end Ev

/-! a tuple times 0, times 1 -/
namespace Ev
open PySem PySem.Spec PyProof.Rows L2 RZ
theorem tmul_none (l : Addr) (items : Array Value) (x : Int) (u : Tok) (h0 : (decide (x < -2 ^ 63) || decide (x ≥ 2 ^ 63)) = false) (h1 : (items.isEmpty || x == 1) = false) (h2 : (decide (x ≤ 0) || items.isEmpty) = true) :
    Meets (Builtin.«tuple.__mul__» { pos := [.ref l, .int x u] }) fun _ R s => IsTup s.heap l items ∧ R (.ok (.ret (.ref s.heap.objs.size))) { s with heap := s.heap.push { cls := .type "tuple", data := .seq #[] } } := by
  refine Meets.of_wp fun prog w A R s h => ?_
  obtain ⟨ht, h⟩ := h
  refine wpAny_ite_false (decide_eq_false (by rw [h0]; exact Bool.false_ne_true)) (wpAny_bind (tupleItemsOf_ ht ?_))
  refine wpAny_ite_false (by simp [h1]) ?_
  refine wpAny_ite_true (by simp [h2]) ?_
  refine wpAny_bind (wpAny_newObj_type (wpAny_pure ⟨_, rfl, h⟩) (Nat.zero_le _))
theorem tmul_same (l : Addr) (items : Array Value) (x : Int) (u : Tok) (h0 : (decide (x < -2 ^ 63) || decide (x ≥ 2 ^ 63)) = false) (h1 : (items.isEmpty || x == 1) = true) :
    Meets (Builtin.«tuple.__mul__» { pos := [.ref l, .int x u] }) fun _ R s => IsTup s.heap l items ∧ R (.ok (.ret (.ref l))) s := by
  refine Meets.of_wp fun prog w A R s h => ?_
  obtain ⟨ht, h⟩ := h
  refine wpAny_ite_false (decide_eq_false (by rw [h0]; exact Bool.false_ne_true)) (wpAny_bind (tupleItemsOf_ ht ?_))
  refine wpAny_ite_true (by simp [h1]) ?_
  refine wpAny_bind (wpAny_bind (wpAny_typeOf ht.typeIs (wpAny_pure ?_)))
  refine wpAny_ite_true rfl ?_
  exact wpAny_bind (wpAny_rule (wpAny_pure ⟨_, rfl, h⟩))
/-- few times -/
def rRepF (K : PySem.W.Frag) : R2 := fun x y H Q => ∃ l k xs, x = V.ref l ∧ y = V.int k ∧ SqT K H l xs ∧ xs ≠ [] ∧ ((k = 1 ∧ Q (.ref l) H) ∨ (k = 0 ∧ ∀ p, H p = none → Q (.ref p) (upd H p (.tup []))))
theorem op_repF {X : Cx} : OpR X (binaryOp .Mult) (rRepF X.K) := by
  intro pins s σ H x y v u Q I rx ry ⟨l, k, xs, ex, ey, hT, hne, q⟩
  subst ex ey
  cases rx
  obtain ⟨t, rfl⟩ := ry
  obtain ⟨its, r, ht, hs⟩ := I.tuple hT
  have hi : its.toArray.isEmpty = false := by
    cases r with
    | nil => exact absurd rfl hne
    | cons _ _ => rfl
  have ho := ht
  obtain ⟨⟨cls, dd, data, sl⟩, ho, hc, n, hd⟩ := ho
  cases hc
  cases hd
  refine wpAny_binaryOp_repeat_ref (by decide) ht.typeIs (fun s' => typeIs_int s' k t) noFill_tuple_mul PySem.F.fills_int_mul PySem.F.slot_int_rmul repeat_tuple PySem.F.slot_int_index.lookup
    (call_meets PySem.F.slot_int_rmul (typeIs_int s k t) PySem.F.entry_int_rmul (PySem.F.args_int_rmul_2 (.int k t) (.ref l)) (int_rmul_tuple k t l its.toArray n dd sl) ⟨ho, rfl, ht.typeIs, ?_⟩)
  rcases q with ⟨rfl, q⟩ | ⟨rfl, q⟩
  · exact call_meets PySem.F.slot_tuple_mul ht.typeIs PySem.F.entry_tuple_mul (PySem.F.args_tuple_mul_2 (.ref l) (.int 1 t)) (tmul_same l its.toArray 1 t (by decide) (by rw [hi]; rfl)) ⟨ht, .ref l, H, I, rfl, q⟩
  · exact call_meets PySem.F.slot_tuple_mul ht.typeIs PySem.F.entry_tuple_mul (PySem.F.args_tuple_mul_2 (.ref l) (.int 0 t)) (tmul_none l its.toArray 0 t (by decide) (by rw [hi]; rfl) (by rfl)) ⟨ht, .ref s.heap.objs.size, upd H s.heap.objs.size (.tup []),
      I.laid (fun b ob q => Heap.get?_push_of_some _ q) (Nat.le_refl _) ⟨Nat.zero_le _, [], .nil, IsTup.new _ _⟩, rfl, q _ (I.hok.fresh (Nat.le_refl _))⟩
/-! a tuple from its end -/
theorem adj_rev (n : Nat) : Builtin.Slice.sliceAdjust none none (-1) (n : Nat) = (((n : Nat) : Int) - 1, -1) := by
  unfold Builtin.Slice.sliceAdjust
  simp
theorem pl_rev (n : Nat) : Builtin.Slice.slicePlaces (((n : Nat) : Int) - 1) (-1) (-1) = n := by
  unfold Builtin.Slice.slicePlaces
  simp
  try omega
theorem slice_rev {prog : Program} {w : World} {A : Around} {E : Value → Shared → Prop} {s : Shared} {sl : Addr} {vk : Value} {n : Nat} {Q : Int × Int × Nat → Shared → Prop} (hs : s.heap.IsSliceOf sl .none .none vk) (pk : IsPart vk (some (-1))) (h : Q (((n : Nat) : Int) - 1, -1, n) s) :
    wpAny (model prog w) A (Builtin.Slice.sliceApplied (.ref sl) (pure ((n : Nat) : Int))) Q E s := by
  obtain ⟨o, ho, hc, hd⟩ := hs
  refine wpAny_bind (wpAny_bind (wpAny_field ho hd rfl (wpAny_bind (wpAny_field ho hd rfl (wpAny_bind (wpAny_field ho hd rfl (wpAny_pure (wpAny_bind (HT.slicePart_ pk ?_)))))))))
  refine wpAny_ite_false (by rfl) (wpAny_bind (slicePart_none (wpAny_bind (slicePart_none (wpAny_bind (wpAny_pure ?_))))))
  show wpAny (model prog w) A (match Builtin.Slice.sliceAdjust none none (-1) ((n : Nat) : Int) with | (lo, hi) => pure (lo, (-1 : Int), Builtin.Slice.slicePlaces lo hi (-1))) Q E s
  rw [adj_rev]
  show wpAny (model prog w) A (pure ((((n : Nat) : Int) - 1), (-1 : Int), Builtin.Slice.slicePlaces (((n : Nat) : Int) - 1) (-1) (-1))) Q E s
  rw [pl_rev]
  exact wpAny_pure h
theorem fm_congr {α β : Type} {f g : α → Option β} : ∀ {l : List α}, (∀ x ∈ l, f x = g x) → l.filterMap f = l.filterMap g
  | [], _ => rfl
  | x :: r, h => by
    rw [List.filterMap_cons, List.filterMap_cons, h x List.mem_cons_self, fm_congr (l := r) fun y hy => h y (List.mem_cons_of_mem _ hy)]
theorem pick_rev (its : List Value) : ((List.range its.toArray.size).filterMap fun k => its.toArray[((((its.toArray.size : Nat) : Int) - 1) + ((k : Nat) : Int) * (-1)).toNat]?) = its.reverse := by
  have e : ((List.range its.toArray.size).filterMap fun k => its.toArray[((((its.toArray.size : Nat) : Int) - 1) + ((k : Nat) : Int) * (-1)).toNat]?) = (List.range its.length).filterMap fun k => its.reverse[k]? := by
    rw [List.size_toArray]
    refine fm_congr fun k hk => ?_
    have hk := List.mem_range.mp hk
    rw [List.getElem?_reverse hk, List.getElem?_toArray]
    congr 1
    omega
  rw [e]
  have := W.krv_all its.reverse.toArray
  simp only [List.size_toArray, List.length_reverse, List.getElem?_toArray] at this
  exact this
theorem getItem_rev {prog : Program} {w : World} {A : Around} {E : Value → Shared → Prop} {s : Shared} {t sl : Addr} {its : List Value} {vk : Value} {Q : Value → Shared → Prop} (ht : IsTup s.heap t its.toArray) (hs : s.heap.IsSliceOf sl .none .none vk) (pk : IsPart vk (some (-1))) (hz : its.length ≤ sizeLine)
    (h : Q (.ref s.heap.objs.size) { s with heap := s.heap.push { cls := .type "tuple", data := .seq its.reverse.toArray } }) : wpAny (model prog w) A (getItem (.ref t) (.ref sl)) Q E s := by
  obtain ⟨o, ho, hc, hd⟩ := id hs
  have hT : s.TypeIs (.ref sl) "slice" := ⟨o, ho, hc⟩
  refine wpAny_holding (wpAny_bind (wpAny_sequenceKey ht.typeIs (by decide) (wpAny_bind (wpAny_callSpecial?_slot ht.typeIs slot_tuple_getitem (wpAny_call_entry slot_tuple_getitem ht.typeIs entry_tuple_getitem ?_ (args_tuple_getitem _ _))))))
  show wpAny _ _ (Builtin.Tuple.tupleItemsOf (.ref t) >>= _) _ _ _
  refine wpAny_bind (tupleItemsOf_ ht (wpAny_bind (wpAny_typeOf hT ?_)))
  refine wpAny_ite_true (by rfl) (wpAny_bind (slice_rev hs pk ?_))
  refine wpAny_ite_false (by simp) ?_
  show wpAny _ _ (Builtin.Tuple.tupleExact (List.filterMap _ (List.range its.toArray.size)).toArray >>= _) _ _ _
  rw [pick_rev]
  exact wpAny_bind (wpAny_newObj_type (wpAny_pure ⟨_, rfl, wpAny_pure h⟩) (by show its.reverse.toArray.size ≤ sizeLine; rw [List.size_toArray, List.length_reverse]; exact hz))
section
variable {X : Cx} {e c : Expr} {te : TE} {tk : TO} {pos p2 : Pos}
def tRev (K : PySem.W.Frag) (te : TE) (tk : TO) : TE := fun σ H Q => te σ H fun x H1 => tk σ H1 fun o H2 => o = some (-1) ∧ ∃ a xs, x = V.ref a ∧ SqT K H2 a xs ∧ ∀ p, H2 p = none → Q (.ref p) (upd H2 p (.tup xs.reverse))
theorem vals_rev {xs : List V} {its : List Value} (r : Vals xs its) : Vals xs.reverse its.reverse := by
  induction r with
  | nil => exact .nil
  | cons h t ih =>
    rw [List.reverse_cons, List.reverse_cons]
    exact ih.append (.cons h .nil)
theorem pe_rev (he : PE X e te) (hk : PO X (some c) tk) : PE X (.Subscript e (.Slice none none (some c) p2) pos) (tRev X.K te tk) := by
  refine ⟨fun pins s σ H Q I h => Subscript_ (thn (he.run pins s σ H _ I h) fun v s1 ⟨x, H1, I1, r1, q1⟩ => wpAny_Slice ?_)⟩
  rw [evalPart_none]
  refine wpAny_pure (wpAny_pure (thn (hk.run pins s1 σ H1 _ I1 q1) fun vk s2 ⟨o, H2, I2, pk, eo, a, xs, ex, hT, q⟩ => ?_))
  subst eo ex
  cases r1
  have I3 : Inv X pins σ H2 { s2 with heap := s2.heap.push { cls := .type "slice", data := .fields #[.none, .none, vk] } } := I2.kept (t' := s2.toks) fun b ob q => Heap.get?_push_of_some _ q
  obtain ⟨its, r, ht, hz⟩ := I3.tuple hT
  refine tail_any ht.typeIs slot_tuple_getitem.lookup (getItem_rev ht (Heap.IsSliceOf.new _ _ _ _) pk (by rw [← r.length]; exact hz) ?_) rfl
  exact ⟨.ref _, upd H2 _ (.tup xs.reverse), I3.laid (fun b ob q => Heap.get?_push_of_some _ q) (Nat.le_refl _) ⟨by rw [List.length_reverse]; exact hz, _, vals_rev r, IsTup.new _ _⟩, rfl, q _ (I3.hok.fresh (Nat.le_refl _))⟩
end
variable [Tabs]
section
variable {X : Cx} {xm : List Addr} {W : WX} {k : Nat} {e c : Expr} {f g : EF} {pos p2 : Pos}
def revF (f : EF) : EF := fun en st => (f en st).bind fun d st1 => match d with
  | .tup ds => .ok (.tup ds.reverse) st1
  | _ => .bad
theorem reps_rev {K : PySem.W.Frag} {z : Z} {H : Hp} : ∀ {vs : List V} {ds : List D}, Reps K z H vs ds → Reps K z H vs.reverse ds.reverse
  | _, _, .nil => .nil
  | _, _, .cons h t => by
    rw [List.reverse_cons, List.reverse_cons]
    exact (reps_rev t).append (.cons h .nil)
theorem sn_rev (he : PE X e (TEf X.K xm W f)) (hc : PE X c (TEf X.K xm W (op1F negD (litF (.int 1))))) : PE X (.Subscript e (.Slice none none (some c) p2) pos) (TEf X.K xm W (revF f)) :=
  (pe_rev he (sp_so hc)).imp fun σ H Q ⟨z, en, st, rh, re, h⟩ => by
    refine seqE' rh re (wp_bind.mp h) fun d1 st1 v1 z1 H1 q1 e1 r1 re1 p1 => ?_
    cases d1 with
    | tup ds =>
      refine ⟨z1, en, st1, r1, re1, ?_⟩
      intro z2 H2 e2 r2
      cases p1 with
      | @tup a xs _ t rs =>
        have t2 := (Rep.tup t rs).ext e2
        cases t2 with
        | @tup _ xs2 _ t2 rs2 =>
          exact ⟨rfl, a, xs2, rfl, t2.seq, fun p n => okD.newT (okD.ext (e1.trans e2) q1) r2 (reps_rev rs2) n⟩
    | _ => exact q1.elim
/-- a tuple that is told, some times -/
def mulTD : O2 := fun x y st => match x, y with
  | .tup a, .int k => if a ≠ [] ∧ k = 1 then some (.tup a, st) else if a ≠ [] ∧ k = 0 then some (.tup [], st) else mulD (.tup a) (.int k) st
  | x, y => mulD x y st
theorem or_mulT : OpR X (binaryOp .Mult) (R2f X.K mulTD) := by
  intro pins s σ H x y v u Q I rx ry ⟨z, st, da, db, d, st', rh, px, py, e, q⟩
  have rest : mulD da db st = some (d, st') → wpAny (model X.prog X.w) X.A (binaryOp .Mult v u) (EP X pins σ Q) X.xe s := fun e => or_mul pins s σ H x y v u Q I rx ry ⟨z, st, da, db, d, st', rh, px, py, e, q⟩
  cases da with
  | tup a =>
    cases db with
    | int k =>
      have e : (if a ≠ [] ∧ k = 1 then some (D.tup a, st) else if a ≠ [] ∧ k = 0 then some (.tup [], st) else mulD (.tup a) (.int k) st) = some (d, st') := e
      split at e
      · rename_i h
        cases e
        cases py
        cases px with
        | @tup p xs _ t1 r1 =>
          refine op_repF pins s σ H _ _ v u Q I rx ry ⟨p, k, xs, rfl, rfl, t1.seq, fun w => ?_, .inl ⟨h.2, okD.here q rh (.tup t1 r1)⟩⟩
          subst w
          cases r1
          exact h.1 rfl
      · split at e
        · rename_i h
          cases e
          cases py
          cases px with
          | @tup p xs _ t1 r1 =>
            refine op_repF pins s σ H _ _ v u Q I rx ry ⟨p, k, xs, rfl, rfl, t1.seq, fun w => ?_, .inr ⟨h.2, fun p n => okD.newT q rh .nil n⟩⟩
            subst w
            cases r1
            exact h.1 rfl
        · exact rest e
    | _ => exact rest e
  | _ => exact rest e
/-- a sum of lists that is changed later: a cell -/
def addC : O2 := fun a b st => match asL a st, asL b st with
  | some x, some y => if x.length + y.length ≤ sizeLine then some (.ref st.length, st ++ [.lst (x ++ y)]) else none
  | _, _ => none
theorem or_addC : OpR X (binaryOp .Add) (R2f X.K addC) := by
  intro pins s σ H x y v u Q I rx ry ⟨z, st, da, db, d, st', rh, px, py, e, q⟩
  unfold addC at e
  split at e
  · rename_i xs ys h1 h2
    split at e
    · rename_i hl
      cases e
      obtain ⟨a, vs, rfl, e1, r1⟩ := asL_at rh px h1
      obtain ⟨b, ws, rfl, e2, r2⟩ := asL_at rh py h2
      exact op_cat pins s σ H _ _ v u Q I rx ry ⟨a, b, vs, ws, rfl, rfl, e1, e2, by rw [r1.length, r2.length]; exact hl, fun p n => okD.newC q rh (r1.append r2) n⟩
    · cases e
  · cases e
end
end Ev

namespace Ev
open PySem PySem.Spec PyProof.Rows L2 RZ
variable [Tabs]

/-! ## list(zip(a, b)) of frozen lists -/
theorem zip_no_len : typeLookup (.type "zip") "__len__" = pure none := by rw [typeLookup_type, builtinLookup_eq_fast]; kernel_rfl
theorem zip_no_hint : typeLookup (.type "zip") "__length_hint__" = pure none := by rw [typeLookup_type, builtinLookup_eq_fast]; kernel_rfl
structure Zst (h : Heap) (S a b z TI TO i1 i2 : Addr) (i : Nat) : Prop where
  ti : IsPair h TI (.ref i1) (.ref i2)
  l1 : h.IsListIter i1 a i
  l2 : h.IsListIter i2 b i
  to : ∃ o, h.get? TO = some o
  zz : (IsZip h z TI TO .none ∧ ∃ x y, IsPair h TO x y) ∨ ∃ T f oT, IsZipHeld h z TI TO T f ∧ h.get? T = some oT ∧ T ≠ z ∧ T ≠ i1 ∧ T ≠ i2 ∧ T ≠ S
theorem drain_zip {X : Cx} {pins : List (Addr × Obj)} {σ : L2.St} {A : Around} {R : Result → Shared → Prop} {S a b z TI TO i1 i2 : Addr} (hh : A.handled = none) (D : ZipApart z TI TO i1 i2 a b) (dS : S ∉ [z, TI, TO, i1, i2, a, b]) {z0 : Z} {H0 : Hp} {st : Sto} {xs ys : List V} {ds es : List Ev.D}
    (hq : ∀ z1 H1, Ex0 z0 H0 z1 H1 → SqL X.K H1 a xs ∧ SqL X.K H1 b ys) (rx : Reps X.K z0 H0 xs ds) (ry : Reps X.K z0 H0 ys es) (hl : (zipF ds es).length ≤ 1000)
    (hend : ∀ s' acc c H' z' ts, Ext z0 H0 z' H' → RelH X.K z' H' st → Reps X.K z' H' ts (zipF ds es) → Inv X pins σ H' s' → FpOk X pins H' S → s'.heap.get? S = some (lstObj acc c) → Vals ts acc.toList → R (.ok (.ret .none)) s') :
    ∀ (k i : Nat) (s : Shared) (H : Hp) (z1 : Z) (ts : List V) (acc : Array Value) (c : Nat), (zipF ds es).length - i = k → i ≤ (zipF ds es).length → Ext z0 H0 z1 H → RelH X.K z1 H st → Reps X.K z1 H ts ((zipF ds es).take i) → Inv X pins σ H s →
      (∀ b ∈ [z, TI, TO, i1, i2, S], FpOk X pins H b) → s.heap.get? S = some (lstObj acc c) → Vals ts acc.toList → acc.size = i → Zst s.heap S a b z TI TO i1 i2 i → codeAny (model X.prog X.w) A (.builtin "list.extend.loop" ⟨[.ref S, .ref z, .none], []⟩) R s := by
  have hs : sizeLine = 16777216 := sizeLine_eq
  simp only [List.mem_cons, List.not_mem_nil, or_false, not_or] at dS
  obtain ⟨d1, d2, d3, d4, d5, d6, d7⟩ := dS
  intro k
  induction k with
  | zero =>
    intro i s H z1 ts acc c hk hi e r rt I hf hS hv ha st
    have hin : i = (zipF ds es).length := by omega
    obtain ⟨hqx, hqy⟩ := hq z1 H e.toEx0
    obtain ⟨its, rv, p, _⟩ := I.list hqx
    obtain ⟨its2, rv2, p2, _⟩ := I.list hqy
    have l1 := rv.length
    have l2 := rv2.length
    have l3 := rx.length
    have l4 := ry.length
    have zl := zipF_length ds es
    have he : its.toArray[i]? = none ∨ its2.toArray[i]? = none := by
      rcases Nat.le_total ds.length es.length with q | q
      · exact .inl (by simp; omega)
      · exact .inr (by simp; omega)
    have fin : ∀ h', (∀ c o, c ≠ z → c ≠ TO → c ≠ i1 → c ≠ i2 → s.heap.get? c = some o → h'.get? c = some o) → R (.ok (.ret .none)) { s with heap := h' } := fun h' hk => by
      have I2 : Inv X pins σ H { s with heap := h' } := I.turnedL (t' := s.toks) (ch := [z, TI, TO, i1, i2, S]) (fun c o hb q =>
        hk c o (fun q' => hb (by simp [q'])) (fun q' => hb (by simp [q'])) (fun q' => hb (by simp [q'])) (fun q' => hb (by simp [q'])) q) hf
      have rt' : Reps X.K z1 H ts (zipF ds es) := by
        rw [hin, List.take_length] at rt
        exact rt
      exact hend _ acc c H z1 ts e r rt' I2 (hf S (by simp)) (hk S _ d1 d3 d4 d5 hS) hv
    refine codeAny_builtin F.entry_extend_loop ?_
    rw [Around.under_plainId F.plain_extend_loop _]
    show wpAny _ A.in1 (pyNext (.ref z) >>= _) _ _ s
    refine wpAny_bind ?_
    rcases st.zz with ⟨hz, x, y, hTO⟩ | ⟨T, f, oT, hz, hT, r1, r2, r3, r4⟩
    · exact wpAny_pyNext_zip_end (A := A.in1) hh D hz st.ti hTO st.l1 st.l2 p.isList p2.isList he fun h' hk => wpAny_pure (fin h' hk)
    · exact wpAny_pyNext_zip_end_held (A := A.in1) hh D hz hT st.ti st.l1 st.l2 p.isList p2.isList he fun h' hk => wpAny_pure (fin h' fun c o a1 _ a3 a4 => hk c o a1 a3 a4)
  | succ k ih =>
    intro i s H z1 ts acc c hk hi e r rt I hf hS hv ha st
    have hlt : i < (zipF ds es).length := by omega
    obtain ⟨hqx, hqy⟩ := hq z1 H e.toEx0
    obtain ⟨its, rv, p, _⟩ := I.list hqx
    obtain ⟨its2, rv2, p2, _⟩ := I.list hqy
    obtain ⟨d, e', hd, he', hde⟩ := zipF_get i ds es _ (List.getElem?_eq_getElem hlt)
    obtain ⟨x, hx, rdx⟩ := (rx.ext e).getD hd
    obtain ⟨y, hy, rdy⟩ := (ry.ext e).getD he'
    obtain ⟨u, hu, ru⟩ := rv.get hx
    obtain ⟨u2, hu2, ru2⟩ := rv2.get hy
    have lt : ∀ {c o}, s.heap.get? c = some o → s.heap.objs.size ≠ c := fun e => Nat.ne_of_gt (Heap.lt_size e)
    have n1 : s.heap.objs.size ≠ i1 := let ⟨_, e, _⟩ := st.l1; lt e
    have n2 : s.heap.objs.size ≠ i2 := let ⟨_, e, _⟩ := st.l2; lt e
    have nS : s.heap.objs.size ≠ S := lt hS
    have nz : s.heap.objs.size ≠ z := by
      rcases st.zz with ⟨hz, _⟩ | ⟨_, _, _, hz, _⟩ <;> exact lt hz
    have nTI : s.heap.objs.size ≠ TI := lt st.ti
    -- behind the next item
    have go : ∀ h' (zs : ∀ h'', h''.get? z = h'.get? z → (∀ c, c ≠ S → h''.get? c = h'.get? c) → (IsZip h'' z TI TO .none ∧ ∃ x y, IsPair h'' TO x y) ∨ ∃ T f oT, IsZipHeld h'' z TI TO T f ∧ h''.get? T = some oT ∧ T ≠ z ∧ T ≠ i1 ∧ T ≠ i2 ∧ T ≠ S),
        h'.IsListIter i1 a (i + 1) → h'.IsListIter i2 b (i + 1) → (∃ o, h'.get? TO = some o) → IsPair h' s.heap.objs.size u u2 → (∀ c o, c ≠ z → c ≠ TO → c ≠ i1 → c ≠ i2 → s.heap.get? c = some o → h'.get? c = some o) →
        wpAny (model X.prog X.w) A.in1 (updateSeq S (·.push (.ref s.heap.objs.size)) >>= fun _ => again (.builtin "list.extend.loop" ⟨[.ref S, .ref z, .none], []⟩))
          (fun fin s' => match fin with | .done f => R (.ok f) s' | .again c' => c'.quiet = true ∧ codeAny (model X.prog X.w) A c' R s') (fun e s' => R (.error e) s') { s with heap := h' } := by
      intro h' zs h1' h2' hto hT hk
      have hS' : h'.get? S = some (lstObj acc c) := hk S _ d1 d3 d4 d5 hS
      have oth : ∀ b, b ≠ S → (h'.update S (Obj.mapSeq (·.push (.ref s.heap.objs.size)))).get? b = h'.get? b := fun b hb => Heap.get?_update_other _ _ (Ne.symm hb)
      refine wpAny_bind ?_
      refine wpAny_updateSeq hS' rfl (wpAny_pure ⟨plainId_quiet F.plain_extend_loop _, ?_⟩) (by rw [ha]; omega) (by show (acc.push _).size ≤ sizeLine + 1; rw [Array.size_push]; omega)
      have hT2 : (h'.update S (Obj.mapSeq (·.push (.ref s.heap.objs.size)))).get? s.heap.objs.size = some { cls := .type "tuple", data := .seq #[u, u2] } := (oth _ nS).trans hT
      have new : ObjOk X.prog X.w (upd H s.heap.objs.size (.tup [x, y])) (h'.update S (Obj.mapSeq (·.push (.ref s.heap.objs.size)))) s.heap.objs.size (.tup [x, y]) :=
        ⟨by show 2 ≤ sizeLine; omega, [u, u2], .cons ru (.cons ru2 .nil), ⟨_, hT2, rfl, _, rfl⟩⟩
      have I1 : Inv X pins σ (upd H s.heap.objs.size (.tup [x, y])) { s with heap := h'.update S (Obj.mapSeq (·.push (.ref s.heap.objs.size))) } :=
        I.turnedNew (t' := s.toks) (ch := [z, TI, TO, i1, i2, S]) (fun c o hb q => (oth c (fun q' => hb (by simp [q']))).trans (hk c o (fun q' => hb (by simp [q'])) (fun q' => hb (by simp [q'])) (fun q' => hb (by simp [q'])) (fun q' => hb (by simp [q'])) q)) hf (Nat.le_refl _) new
      have nH : H s.heap.objs.size = none := I.hok.fresh (Nat.le_refl _)
      have x1 := ext_add (o := .tup [x, y]) r nH
      refine ih (i + 1) _ (upd H s.heap.objs.size (.tup [x, y])) (z1.add s.heap.objs.size) (ts ++ [.ref s.heap.objs.size]) (acc.push (.ref s.heap.objs.size)) _ (by omega) hlt (e.trans x1) (r.add nH) ?_ I1 (fun b hb => ?_) (Heap.get?_update_self _ hS' rfl) ?_ (by rw [Array.size_push, ha]) ⟨?_, ?_, ?_, hto.imp fun o q => (oth _ (Ne.symm d3)).trans q, zs _ (oth _ (Ne.symm d1)) oth⟩
      · have : (zipF ds es).take (i + 1) = (zipF ds es).take i ++ [.tup [d, e']] := by
          rw [List.take_add_one, List.getElem?_eq_getElem hlt, hde]
          rfl
        rw [this]
        exact (rt.ext x1).append (.cons (.tup (.inl ⟨.inr rfl, .inl upd_same⟩) (.cons (rdx.ext x1) (.cons (rdy.ext x1) .nil))) .nil)
      · have q := hf b hb
        refine ⟨?_, q.2⟩
        rw [upd_ne]
        · exact q.1
        · intro w
          simp only [List.mem_cons, List.not_mem_nil, or_false] at hb
          rcases hb with rfl | rfl | rfl | rfl | rfl | rfl
          · exact nz w.symm
          · exact nTI w.symm
          · obtain ⟨o, ho⟩ := st.to
            exact lt ho w.symm
          · exact n1 w.symm
          · exact n2 w.symm
          · exact nS w.symm
      · rw [Array.toList_push]
        exact hv.append (.cons rfl .nil)
      · exact (oth _ (Ne.symm d2)).trans (hk _ _ D.TIz D.TITO D.TIi1 D.TIi2 st.ti)
      · exact h1'.at fun o q => (oth _ (Ne.symm d4)).trans q
      · exact h2'.at fun o q => (oth _ (Ne.symm d5)).trans q
    refine codeAny_builtin F.entry_extend_loop ?_
    rw [Around.under_plainId F.plain_extend_loop _]
    show wpAny _ A.in1 (pyNext (.ref z) >>= _) _ _ s
    refine wpAny_bind ?_
    rcases st.zz with ⟨hz, x', y', hTO⟩ | ⟨T, f, oT, hz, hT, r1, r2, r3, r4⟩
    · refine wpAny_pyNext_zip_item (A := A.in1) D hz st.ti hTO st.l1 st.l2 p.isList p2.isList (x := u) (y := u2) (by simpa using hu) (by simpa using hu2) fun h' a1 a2 a3 a4 a5 a6 hk => ?_
      exact go h' (fun h'' q1 q2 => .inr ⟨s.heap.objs.size, false, _, q1.trans a1, (q2 _ nS).trans a5, nz, n1, n2, nS⟩) a3 a4 ⟨_, a2⟩ a5 hk
    · refine wpAny_pyNext_zip_item_held (A := A.in1) D hz hT st.ti st.l1 st.l2 p.isList p2.isList (x := u) (y := u2) (by simpa using hu) (by simpa using hu2) fun h' a1 a3 a4 a5 a6 hk => ?_
      exact go h' (fun h'' q1 q2 => .inr ⟨T, true, oT, q1.trans a1, (q2 _ r4).trans (hk _ _ r1 r2 r3 hT), r1, r2, r3, r4⟩) a3 a4 (st.to.imp fun o q => hk _ _ D.TOz D.TOi1 D.TOi2 q) a5 (fun c o b1 _ b3 b4 => hk c o b1 b3 b4)
/-- an object of ours is tracked from now on -/
theorem Inv_trackF {X : Cx} {pins : List (Addr × Obj)} {σ : L2.St} {H : Hp} {s : Shared} {T : Addr} {ob : HO} (I : Inv X pins σ H s) (hf : FpOk X pins H T) (new : ObjOk X.prog X.w (upd H T ob) s.heap T ob) : Inv X pins σ (upd H T ob) s := by
  have hn : H T = none := hf.1
  refine I.step (h' := s.heap) (t' := s.toks) (g' := s.gens) (d' := s.drawn) (ch := [T]) (fun b hb => ?_) (fun b o _ _ hc e _ => e) (fun b o _ _ hc e _ => ⟨o.slots, e⟩)
    (fun b o hb e n => ?_) (fun b o hc e => ⟨o, e⟩) (fun b xs e => ?_) (fun b o u e => ?_) (fun b ps e => ⟨#[], ?_⟩) (fun m hm => ?_) (fun b u e => ?_) I.bare
  · rw [List.mem_singleton.mp hb]
    exact ⟨hf.2.2.2.1, hf.2.1, hf.2.2.2.2.1, hf.2.2.2.2.2⟩
  · rw [upd_ne (fun w => hb (by simp [w]))]; exact n
  · rw [upd_ne (ne_of_none e hn)]; exact e
  · rw [upd_ne (ne_of_none e hn)]; exact e
  · rw [upd_ne (ne_of_none e hn), e]; simp
  · exact hm
  · by_cases hb : b = T
    · subst hb
      rw [upd_same] at e
      cases e
      exact new
    · rw [upd_ne hb] at e
      exact (I.hok b u e).stay (fun c v hc q => q) (fun c q => by rw [upd_ne (ne_of_none q hn)]; exact q) fun c xs q => by rw [upd_ne (ne_of_none q hn)]; exact q
/-- a new list out of it -/
theorem call_list_zip {X : Cx} {pins : List (Addr × Obj)} {σ : L2.St} {H : Hp} {s : Shared} {a b z TI TO i1 i2 : Addr} {Q : VK} {z0 : Z} {st : Sto} {xs ys : List V} {ds es : List Ev.D} (hc : X.calm = true) (D : ZipApart z TI TO i1 i2 a b) (I : Inv X pins σ H s)
    (r0 : RelH X.K z0 H st) (hq : ∀ z1 H1, Ex0 z0 H z1 H1 → SqL X.K H1 a xs ∧ SqL X.K H1 b ys) (rx : Reps X.K z0 H xs ds) (ry : Reps X.K z0 H ys es) (hl : (zipF ds es).length ≤ 1000)
    (hf : ∀ b ∈ [z, TI, TO, i1, i2], FpOk X pins H b) (hz : IsZip s.heap z TI TO .none) (hTI : IsPair s.heap TI (.ref i1) (.ref i2)) (hTO : IsPair s.heap TO .none .none) (h1 : s.heap.IsListIter i1 a 0) (h2 : s.heap.IsListIter i2 b 0)
    (q : okD X.K z0 H Q (.lst (zipF ds es)) st) : wpAny (model X.prog X.w) X.A (call (.type "list") [.ref z]) (EP X pins σ Q) X.xe s := by
  obtain ⟨hqx, hqy⟩ := hq z0 H Ext.refl.toEx0
  obtain ⟨its, rv, pl, _⟩ := I.list hqx
  obtain ⟨its2, rv2, pl2, _⟩ := I.list hqy
  have ltz : z < s.heap.objs.size := Heap.lt_size hz
  have ltTI : TI < s.heap.objs.size := Heap.lt_size hTI
  have ltTO : TO < s.heap.objs.size := Heap.lt_size hTO
  have lt1 : i1 < s.heap.objs.size := let ⟨_, e, _⟩ := h1; Heap.lt_size e
  have lt2 : i2 < s.heap.objs.size := let ⟨_, e, _⟩ := h2; Heap.lt_size e
  have lta : a < s.heap.objs.size := pl.lt
  have ltb : b < s.heap.objs.size := pl2.lt
  have hSz : s.heap.objs.size ≠ z := Nat.ne_of_gt ltz
  refine callType_codes (Q₁ := fun obj s₁ => obj = .ref s.heap.objs.size ∧ s₁ = { s with heap := s.heap.push { cls := .type "list", data := .seq #[] } }) F.called_list (F.typeCall_list_1 _) F.entry_list_init
    (code_list_new _ ⟨rfl, rfl⟩) fun obj s₁ h₁ => ?_
  obtain ⟨rfl, rfl⟩ := h₁
  have hS : (s.heap.push { cls := .type "list", data := .seq #[] }).get? s.heap.objs.size = some { cls := .type "list", data := .seq #[] } := Heap.get?_push_size _ rfl
  refine ⟨⟨_, hS, rfl⟩, F.args_list_init_2 _ _, ?_⟩
  show wpAny _ X.A.in1.in1 (do let old ← Builtin.List.listItems (.ref s.heap.objs.size); Builtin.List.listUpdate (.ref s.heap.objs.size) (fun _ => #[]); letGo old.toList.reverse; Builtin.List.listExtendWith (.ref s.heap.objs.size) (.ref z) .none) _ _ _
  refine wpAny_bind ?_
  unfold Builtin.List.listItems
  refine wpAny_bind (wpAny_seqItems hS rfl (wpAny_pure ?_))
  show wpAny _ X.A.in1.in1 (updateSeq s.heap.objs.size (fun _ => #[]) >>= fun _ => letGo (#[] : Array Value).toList.reverse >>= fun _ => Builtin.List.listExtendWith (.ref s.heap.objs.size) (.ref z) .none) _ _ _
  refine wpAny_bind (wpAny_updateSeq hS rfl ?_)
  have hS2 := Heap.get?_update_self (Obj.mapSeq (fun _ => (#[] : Array Value))) hS rfl
  refine wpAny_bind (wpAny_letGo ?_)
  unfold Builtin.List.listExtendWith
  have up : ∀ (h : Heap) (f : Obj → Obj), (∀ b o, s.heap.get? b = some o → h.get? b = some o) → ∀ b o, s.heap.get? b = some o → (h.update s.heap.objs.size f).get? b = some o := fun h f q b o e =>
    (Heap.get?_update_other _ _ (Ne.symm (Nat.ne_of_lt (Heap.lt_size e)))).trans (q b o e)
  have k1 : ∀ b o, s.heap.get? b = some o → (s.heap.push { cls := .type "list", data := .seq #[] }).get? b = some o := fun b o e => Heap.get?_push_of_some _ e
  have k2 := up _ (Obj.mapSeq (fun _ => (#[] : Array Value))) k1
  have zty : ∀ {s' : Shared}, (∀ b o, s.heap.get? b = some o → s'.heap.get? b = some o) → s'.TypeIs (.ref z) "zip" := fun {s'} q => ⟨_, q _ _ hz, rfl⟩
  refine wpAny_bind (wpAny_typeOf (zty (s' := { s with heap := _ }) k2) ?_)
  have g1 : Builtin.List.listSameRef (.ref s.heap.objs.size) (.ref z) = false := by simp [Builtin.List.listSameRef, hSz]
  have g2 : (Value.type "zip" == Value.type "list") = false := by decide
  have g3 : (Value.type "zip" == Value.type "tuple") = false := by decide
  simp only [g1, g2, g3, Bool.or_false, Bool.false_eq_true, if_false]
  refine wpAny_bind (wpAny_pyIter_zip (s := { s with heap := _ }) (k2 _ _ hz) ?_)
  refine wpAny_bind (wpAny_holding ?_)
  unfold Builtin.List.listLengthHint
  refine wpAny_bind (wpAny_specialOf (zty (s' := { s with heap := _ }) k2) zip_no_len ?_)
  show wpAny _ X.A.in1.in1 (specialOf (Value.ref z) (Str.ofString "__length_hint__") >>= _) _ _ _
  refine wpAny_bind (wpAny_specialOf (zty (s' := { s with heap := _ }) k2) zip_no_hint ?_)
  refine wpAny_pure ?_
  have cont : ∀ (h' : Heap) (c : Nat), (∀ b o, s.heap.get? b = some o → h'.get? b = some o) → h'.get? s.heap.objs.size = some (lstObj #[] c) →
      codeAny (model X.prog X.w) X.A.in1 (.builtin "list.extend.loop" ⟨[.ref s.heap.objs.size, .ref z, .none], []⟩) (wants (fun r s₂ => r = .none ∧ EP X pins σ Q (.ref s.heap.objs.size) s₂) X.xe) { s with heap := h' } := by
    intro h' c hk hS'
    have I2 : Inv X pins σ H { s with heap := h' } := I.kept (t' := s.toks) hk
    have fS : FpOk X pins H s.heap.objs.size := I.fpOk (Nat.le_refl _) (I.hok.fresh (Nat.le_refl _))
    refine drain_zip (X := X) (pins := pins) (σ := σ) (A := X.A.in1) (I.ok.hd hc) D (S := s.heap.objs.size) ?_ hq rx ry hl ?_ _ 0 _ H z0 [] #[] c rfl (Nat.zero_le _) .refl r0 .nil I2 ?_ hS' .nil rfl ⟨hk _ _ hTI, h1.at fun o e => hk _ o e, h2.at fun o e => hk _ o e, ⟨_, hk _ _ hTO⟩, .inl ⟨hk _ _ hz, _, _, hk _ _ hTO⟩⟩
    · simp only [List.mem_cons, List.not_mem_nil, or_false, not_or]
      exact ⟨hSz, Nat.ne_of_gt ltTI, Nat.ne_of_gt ltTO, Nat.ne_of_gt lt1, Nat.ne_of_gt lt2, Nat.ne_of_gt lta, Nat.ne_of_gt ltb⟩
    · intro s' acc c' H' z' ts e r rt I' fS' hS'' hv
      have nS : H' s.heap.objs.size = none := fS'.1
      have len : ts.length = (zipF ds es).length := rt.length
      have hs : sizeLine = 16777216 := sizeLine_eq
      refine ⟨rfl, .ref s.heap.objs.size, upd H' s.heap.objs.size (.lst ts), ?_, rfl, okD.newF (q.ext e) r rt nS⟩
      exact Inv_trackF I' fS' ⟨by omega, acc.toList, c', hv, by rw [hS'']⟩
    · intro b hb
      simp only [List.mem_cons, List.not_mem_nil, or_false] at hb
      rcases hb with rfl | rfl | rfl | rfl | rfl | rfl
      · exact hf _ (by simp)
      · exact hf _ (by simp)
      · exact hf _ (by simp)
      · exact hf _ (by simp)
      · exact hf _ (by simp)
      · exact fS
  show wpAny _ X.A.in1.in1 (rule "list.extend.makes-room" >>= fun _ => Builtin.List.listTouch (.ref s.heap.objs.size) >>= fun _ =>
    again (.builtin "list.extend.loop" ⟨[.ref s.heap.objs.size, .ref z, .none], []⟩)) _ _ _
  refine wpAny_bind (wpAny_rule ?_)
  refine wpAny_bind ?_
  show wpAny _ X.A.in1.in1 (updateSeq s.heap.objs.size (·.push .none) >>= fun _ => updateSeq s.heap.objs.size (·.pop)) _ _ _
  refine wpAny_bind (wpAny_updateSeq hS2 rfl ?_)
  have hS3 := Heap.get?_update_self (Obj.mapSeq (·.push Value.none)) hS2 rfl
  refine wpAny_updateSeq (hz := by seq_fits) hS3 rfl ?_
  have hS4 := Heap.get?_update_self (Obj.mapSeq (·.pop)) hS3 rfl
  have k4 := up _ (Obj.mapSeq (·.pop)) (up _ (Obj.mapSeq (·.push Value.none)) k2)
  exact wpAny_pure ⟨plainId_quiet F.plain_extend_loop _, cont _ _ k4 hS4⟩
def lzipF (fs : AF) : EF := fun en st => (fs en st).bind fun ds st1 => match ds with
  | [x, y] => match frz x, frz y with
    | some a, some b => if (zipF a b).length ≤ 1000 then .ok (.lst (zipF a b)) st1 else .bad
    | _, _ => .bad
  | _ => .bad
section
variable {X : Cx} {xm : List Addr} {W : WX} {k : Nat} {e e2 : Expr} {fs : AF} {p p2 pos pos2 : Pos}
theorem sn_lzip (G : GX X xm W k) (hml : X.mg "list" = none) (hmz : X.mg "zip" = none) (ha : PA X [e, e2] (TAf X.K xm W fs)) (hgl : Gl X "list" := by rfl) (hgz : Gl X "zip" := by rfl)
    (hs : starEach [e, e2] X.env = (false, eval e X.env) :: starEach [e2] X.env := by rfl) (hpl : (backTo pos2 (starEach [e2] X.env)).any (·.1) = false := by rfl)
    (he : starEach [.Call (.Name "zip" p2) [e, e2] [] pos2] X.env = (false, eval (.Call (.Name "zip" p2) [e, e2] [] pos2) X.env) :: starEach [] X.env := by rfl) :
    PE X (.Call (.Name "list" p) [.Call (.Name "zip" p2) [e, e2] [] pos2] [] pos) (TEf X.K xm W (lzipF fs)) := by
  refine ⟨fun pins s σ H Q I ⟨z, en, st, rh, re, h⟩ => ?_⟩
  have ta : TAf X.K xm W fs σ H fun vs H1 => ∃ z1 st1 x y a b, Ext z H z1 H1 ∧ RelH X.K z1 H1 st1 ∧ Reps X.K z1 H1 vs [x, y] ∧ frz x = some a ∧ frz y = some b ∧ (zipF a b).length ≤ 1000 ∧ okD X.K z1 H1 Q (.lst (zipF a b)) st1 := by
    refine seqA' rh re (wp_bind.mp h) fun d1 st1 v1 z1 H1 q1 e1 r1 re1 p1 => ?_
    match d1, p1, q1 with
    | [], _, q1 => exact q1.elim
    | [_], _, q1 => exact q1.elim
    | _ :: _ :: _ :: _, _, q1 => exact q1.elim
    | [x, y], p1, q1 =>
      simp only at q1
      cases hx : frz x with
      | none =>
        rw [hx] at q1
        exact q1.elim
      | some a =>
        cases hy : frz y with
        | none =>
          rw [hx, hy] at q1
          exact q1.elim
        | some b =>
          rw [hx, hy] at q1
          simp only at q1
          split at q1
          · rename_i hl
            exact ⟨z1, st1, x, y, a, b, e1, r1, p1, hx, hy, hl, okD.ext e1 q1⟩
          · exact q1.elim
  refine wpAny_Call_Name_kw (ld_blt I hgl hml bt_list ?_ (by decide) (by decide))
  refine PyProof.Rows.callWith_type1 ?_ he rfl
  rw [he]
  show wpAny _ _ (spliced ((false, eval (.Call (.Name "zip" p2) [e, e2] [] pos2) X.env) :: backTo pos (starEach [] X.env))) _ _ s
  refine Calls.spliced_cons ?_
  refine Call_ (ld_blt I hgz hmz PyProof.Rows.boot_zip (PyProof.Rows.callWith_type1 (thn (ha.run pos2 pins s σ H _ I ta) fun us s1 ⟨vs, H1, I1, r1, q1⟩ => ?_) hs hpl))
  obtain ⟨z1, st1, x, y, a, b, e1, rh1, rs, hx, hy, hl, ok⟩ := q1
  cases rs with
  | cons px rs =>
  cases rs with
  | cons py rs =>
  cases rs
  obtain ⟨l1, xs, rfl, t1, rx⟩ := frz_at px hx
  obtain ⟨l2, ys, rfl, t2, ry⟩ := frz_at py hy
  cases r1 with
  | cons ra r1 =>
  cases r1 with
  | cons rb r1 =>
  cases r1
  cases ra
  cases rb
  obtain ⟨its, rv, p1, _⟩ := I1.list (t1 z1 H1 Ext.refl.toEx0)
  obtain ⟨its2, rv2, p2, _⟩ := I1.list (t2 z1 H1 Ext.refl.toEx0)
  refine call_zip_2 p1.isList p2.isList fun h' hz hTI hTO h1 h2 hsz hk => ?_
  refine Calls.spliced_nil ?_
  have I2 : Inv X pins σ H1 { s1 with heap := h' } := I1.kept (t' := s1.toks) hk
  refine call_list_zip (z0 := z1) (st := st1) G.cm (PySem.W.ktu_apart s1.heap.objs.size l1 l2 p1.lt p2.lt) I2 rh1 (fun z' H' w => ⟨t1 z' H' w, t2 z' H' w⟩) rx ry hl (fun c hcm => ?_) hz hTI hTO h1 h2 ok
  have hle : s1.heap.objs.size ≤ c := by
    simp only [List.mem_cons, List.not_mem_nil, or_false] at hcm
    rcases hcm with z | z | z | z | z
    · rw [z]; exact Nat.le_add_right _ _
    · rw [z]; exact Nat.le_add_right _ _
    · rw [z]; exact Nat.le_add_right _ _
    · rw [z]; exact Nat.le_refl _
    · rw [z]; exact Nat.le_add_right _ _
  exact I1.fpOk hle (I1.hok.fresh hle)
end
end Ev

namespace Ev
open PySem PySem.Spec PyProof.Rows L2 RZ
variable [Tabs]
/-! ## lcm -/
def lcmL : OL := fun ds st => match ds with
  | [.int i, .int j] => if i.natAbs.log2 < 9000 ∧ j.natAbs.log2 < 9000 then some (.int ((Nat.lcm i.natAbs j.natAbs : Nat) : Int), st) else none
  | _ => none
theorem log2_max {a b n : Nat} (ha : a.log2 < n) (hb : b.log2 < n) : (max a b).log2 < n := by
  rcases Nat.le_total a b with h | h
  · rw [Nat.max_eq_right h]; exact hb
  · rw [Nat.max_eq_left h]; exact ha
theorem lcm_log {a b : Nat} (ha : a.log2 < 9000) (hb : b.log2 < 9000) : (a.lcm b).log2 < bitsLine := by
  have h1 : a < 2 ^ (a.log2 + 1) := Nat.lt_log2_self
  have h2 : b < 2 ^ (b.log2 + 1) := Nat.lt_log2_self
  have h3 : a.lcm b ≤ 2 ^ (a.log2 + 1 + (b.log2 + 1)) := by
    rw [Nat.pow_add]
    exact Nat.le_trans (PySem.W.mc_lcm_le a b) (Nat.mul_le_mul (Nat.le_of_lt h1) (Nat.le_of_lt h2))
  refine PySem.W.mc_size (k := 300) (Nat.le_trans h3 (Nat.pow_le_pow_right (by decide) (by omega))) (by decide)
section
variable {X : Cx}
theorem cl_lcm : CallR X (.builtin "math.lcm") (RLf X.K lcmL) := by
  intro pins s σ H xs us Q I rv ⟨z, st, ds, d, st', rh, ps, e, q⟩
  unfold lcmL at e
  split at e
  · rename_i i j
    split at e
    · rename_i hl
      cases e
      cases ps with
      | cons p1 ps =>
      cases ps with
      | cons p2 ps =>
      cases ps
      cases p1
      cases p2
      obtain ⟨t, u, rfl⟩ := Vals.int2 rv
      have m1 : (max 1 i.natAbs).log2 < 9000 := log2_max (by decide) hl.1
      have m2 := log2_max hl.1 hl.2
      have z1 := lcm_log hl.1 hl.2
      refine call_function_meets PySem.W.MGF.kind_lcm PySem.W.MGF.plain_lcm PySem.W.MGF.entry_lcm (PySem.W.MGF.args_lcm _ _) (PySem.W.mg_run_lcm i t j u (by omega) (by omega) (by rw [PySem.W.mc_lcm_one]; exact z1)).meets ?_
      exact ⟨.int _, H, I.tok _, ⟨_, by rw [PySem.W.mc_lcm_one]⟩, okD.here q rh (.int _)⟩
    · cases e
  · cases e
/-! ## [x] * n as a cell -/
def mulC : O2 := fun a b st => match b with
  | .int k => (asL a st).bind fun x => if decide (-(2 ^ 63) ≤ k) && decide (k < 2 ^ 63) && decide (x.length * k.toNat ≤ sizeLine) then some (.ref st.length, st ++ [.lst (List.replicate k.toNat x).flatten]) else none
  | _ => none
theorem or_mulC : OpR X (binaryOp .Mult) (R2f X.K mulC) := by
  intro pins s σ H x y v u Q I rx ry ⟨z, st, da, db, d, st', rh, px, py, e, q⟩
  unfold mulC at e
  split at e
  · rename_i k
    cases py
    obtain ⟨xs, h1, e⟩ := Option.bind_eq_some_iff.mp e
    split at e
    · rename_i hl
      cases e
      simp only [Bool.and_eq_true, decide_eq_true_eq] at hl
      obtain ⟨a, vs, rfl, e1, r1⟩ := asL_at rh px h1
      exact op_rep pins s σ H _ _ v u Q I rx ry ⟨a, k, vs, rfl, rfl, e1, hl.1.1, hl.1.2, by rw [r1.length]; exact hl.2, fun p n => okD.newC q rh (r1.flat _) n⟩
    · cases e
  · cases e
/-! ## o[i] op= e -/
def ixLD : O2 := fun a b st => match b with
  | .int i => (asLF a st).bind fun ds => (atD ds i).bind fun d => some (d, st)
  | _ => none
theorem get_ix : PGet X (R2f X.K ixLD) := by
  intro pins s σ H x y v u Q I rx ry ⟨z, st, da, db, d, st', rh, px, py, e, q⟩
  unfold ixLD at e
  split at e
  · rename_i i
    cases py
    obtain ⟨ds, h1, e⟩ := Option.bind_eq_some_iff.mp e
    obtain ⟨d', h2, e⟩ := Option.bind_eq_some_iff.mp e
    cases e
    obtain ⟨p, xs, rfl, hq, rs⟩ := asLF_at rh px h1
    obtain ⟨w, hw, rw1⟩ := atI_at rs h2
    cases rx
    obtain ⟨t, rfl⟩ := ry
    obtain ⟨its, r, pl, hz⟩ := I.list hq
    obtain ⟨j, g1, g2, g3, g4, g5⟩ := atI_get hw
    obtain ⟨w2, ew, rw'⟩ := r.get g2
    have hl := r.length
    have hn := line63
    have fin : EP X pins σ Q w2 s := ⟨w, H, I, rw', okD.here q rh rw1⟩
    by_cases h0 : 0 ≤ i
    · have hj : i.toNat = j := by
        rw [seqIndex_of h0 g5] at g1
        exact Option.some.inj g1
      exact wpAny_getItem_list pl.isList h0 (by omega) (by rw [hj]; simpa using ew) fin
    · have hj : (i + (its.toArray.size : Int)).toNat = j := by
        rw [seqIndex_neg (by omega) g4] at g1
        rw [List.size_toArray, ← hl]
        exact Option.some.inj g1
      exact wpAny_getItem_list_neg pl.isList (by omega) (by rw [List.size_toArray] <;> omega) (by omega) (by rw [hj]; simpa using ew) fin
  · cases e
def addI2 : O2 := fun a b st => match a, b with
  | .int i, .int j => some (.int (i + j), st)
  | _, _ => none
theorem ip_addD : OpR X (inplaceOp .Add) (R2f X.K addI2) := by
  intro pins s σ H x y v u Q I rx ry ⟨z, st, da, db, d, st', rh, px, py, e, q⟩
  unfold addI2 at e
  split at e
  · cases e
    cases px
    cases py
    exact ip_add pins s σ H _ _ v u Q I rx ry ⟨_, _, rfl, rfl, okD.here q rh (.int _)⟩
  · cases e
theorem ip_subD : OpR X (inplaceOp .Sub) (R2f X.K subD) := by
  intro pins s σ H x y v u Q I rx ry ⟨z, st, da, db, d, st', rh, px, py, e, q⟩
  unfold subD at e
  split at e
  · cases e
    cases px
    cases py
    exact ip_sub pins s σ H _ _ v u Q I rx ry ⟨_, _, rfl, rfl, okD.here q rh (.int _)⟩
  · cases e
def augSubS (op : O2) (o i e : EF) : SF := fun en st => bindS (o en st) en fun l st1 => bindS (i en st1) en fun j st2 => bindS (R.ofO (ixLD l j st2)) en fun x st3 => bindS (e en st3) en fun y st4 => bindS (R.ofO (op x y st4)) en fun w st5 => match l, j with
  | .ref n, .int m => match st5[n]? with
    | some (.lst ds) => match ixN ds.length m with
      | some q => .nx en (st5.set n (.lst (ds.set q w)))
      | none => .bad
    | _ => .bad
  | _, _ => .bad
variable {xm : List Addr} {W : WX} {a b e : Expr} {f g h : EF} {tpos pos : Pos} {op : O2} {o : Operator}
theorem ss_augSub (ho : PE X a (TEf X.K xm W f)) (hi : PE X b (TEf X.K xm W g)) (he : PE X e (TEf X.K xm W h)) (hp : OpR X (inplaceOp o) (R2f X.K op))
    (ha : ∀ ov iv new, augStore b ov iv new = (do holding [new, ov, iv] (setItem ov iv new); release [new, ov, iv] []; pure .next) := by intros; rfl) :
    PS X (.AugAssign (.Subscript a b tpos) o e pos) (TSf X.K xm W (augSubS op f g h)) :=
  (ps_augS (tget := R2f X.K ixLD) (tip := R2f X.K op) ho hi get_ix he hp set_list ha).imp fun E σ H ⟨z, en, st, rh, re, hh⟩ => by
    refine seqE' rh re (sat_bind re hh) fun d1 st1 v1 z1 H1 q1 e1 r1 re1 p1 => ?_
    refine seqE' r1 re1 (wpD_ext e1 (sat_bind re q1) fun _ _ q => q) fun d2 st2 v2 z2 H2 q2 e2 r2 re2 p2 => ?_
    have q2 := sat_bind re q2
    cases w1 : ixLD d1 d2 st2 with
    | none =>
      rw [w1] at q2
      exact False.elim q2
    | some y1 =>
      rw [w1] at q2
      refine ⟨z2, st2, d1, d2, y1.1, y1.2, r2, p1.ext e2, p2, by rw [w1], fun v3 z3 H3 e3 r3 p3 => ?_⟩
      have re3 := re2.ext e3
      refine seqE' r3 re3 (wpD_ext ((e1.trans e2).trans e3) (sat_bind re q2) fun _ _ q => q) fun d4 st4 v4 z4 H4 q4 e4 r4 re4 p4 => ?_
      have q4 := sat_bind re q4
      cases w2 : op y1.1 d4 st4 with
      | none =>
        rw [w2] at q4
        exact False.elim q4
      | some y2 =>
        rw [w2] at q4
        refine ⟨z4, st4, y1.1, d4, y2.1, y2.2, r4, p3.ext e4, p4, by rw [w2], fun v5 z5 H5 e5 r5 p5 => ?_⟩
        have re5 := re4.ext e5
        have e15 := ((e2.trans e3).trans e4).trans e5
        have p1' := p1.ext e15
        have p2' := p2.ext ((e3.trans e4).trans e5)
        cases d1 with
        | ref n =>
          cases p1' with
          | @ref p _ hn hk =>
            cases d2 with
            | int m =>
              cases p2'
              cases hc : y2.2[n]? with
              | none =>
                simp only [R.ofO, R.wp, hc] at q4
                exact False.elim q4
              | some cl =>
                cases cl with
                | set S =>
                  simp only [R.ofO, R.wp, hc] at q4
                  exact False.elim q4
                | lst ds =>
                  simp only [R.ofO, R.wp, hc] at q4
                  obtain ⟨xs, hx, rs⟩ := r5.cell hn hc
                  cases hj : ixN ds.length m with
                  | none =>
                    simp only [hj] at q4
                    exact False.elim q4
                  | some j =>
                    simp only [hj] at q4
                    refine ⟨p, xs, m, j, rfl, rfl, hx, by rw [rs.length]; exact hj, ?_⟩
                    have e6 := ext_write (o := .lst (xs.set j v5)) r5 hn
                    exact q4 σ z5 _ ((e1.trans e15).trans e6) (r5.write hn hk (Reps.set p5 j rs)) (re5.ext e6)
            | _ => exact False.elim q4
        | _ => cases d2 <;> exact False.elim q4
end
/-! ## enumerate over a cell -/
def enumNx (n : Nat) : Nat → Sto → Option (Option D) := fun i st => match st[n]? with
  | some (.lst ds) => some ((ds[i]?).map fun d => .tup [.int (i : Nat), d])
  | _ => none
def enumAI (fs : AF) : IF := fun en st => (fs en st).bind fun ds st1 => match ds with
  | [.ref n] => match st1[n]? with
    | some (.lst _) => .ok (.dyn 99999 (enumNx n)) st1
    | _ => .bad
  | [d] => match frz d with
    | some es => .ok (.items (enumF 0 es)) st1
    | none => .bad
  | _ => .bad
theorem itY_enum {K : PySem.W.Frag} {z : Z} {H : Hp} {a : Addr} {n : Nat} (hn : z.mu[n]? = some a) : ItY K z H (enumNx n) (Ite K a) := fun z1 H1 st i e rh => by
  unfold enumNx
  cases hc : st[n]? with
  | none => trivial
  | some c =>
    cases c with
    | set S => trivial
    | lst ds =>
      obtain ⟨xs, hx, rs⟩ := rh.cell (e.mu _ _ hn) hc
      cases hd : ds[i]? with
      | none =>
        have := List.getElem?_eq_none_iff.mp hd
        simp only [hd, Option.map]
        exact ⟨xs, SqL.of hx, by rw [rs.length]; exact this⟩
      | some d =>
        obtain ⟨v, hv, rv⟩ := rs.getD hd
        simp only [hd, Option.map]
        refine ⟨⟨xs, v, SqL.of hx, hv⟩, fun x H2 y => ?_⟩
        obtain ⟨T, x', rfl, nT, rfl, y⟩ := y
        have e2 := y xs (SqL.of hx)
        rw [hv] at e2
        cases e2
        have x2 := ext_add (o := .tup [.int (i : Nat), v]) rh nT
        exact ⟨z1.add T, x2, rh.add nT, .tup (.inl ⟨.inr rfl, .inl upd_same⟩) (.cons (.int _) (.cons (rv.ext x2) .nil))⟩
section
variable {X : Cx} {xm : List Addr} {W : WX} {e : Expr} {elts : List Expr} {fs : AF} {p pos tpos : Pos} {kk : Nat}
theorem si_enumA (hg : Gl X "enumerate") (hm : X.mg "enumerate" = none) (ha : PA X [e] (TAf X.K xm W fs)) (hs : starEach [e] X.env = [(false, eval e X.env)] := by rfl) : PI X (.Tuple elts kk tpos) (.Call (.Name "enumerate" p) [e] [] pos) (TIf X.K xm W (enumAI fs)) :=
  (pi_enum hg hm ha hs).imp fun σ H Rq ⟨z, en, st, rh, re, h⟩ => by
    refine seqA' rh re (wp_bind.mp h) fun d1 st1 v1 z1 H1 q1 e1 r1 re1 p1 => ?_
    cases p1 with
    | nil => exact q1.elim
    | cons p1 ps =>
    cases ps with
    | cons _ _ =>
      unfold enumAI at *
      rename_i d _ _ _ _ _ _
      cases d <;> exact q1.elim
    | nil =>
      rename_i v d
      have lay : ∀ ds, frz d = some ds → (∀ J z' H', Ext z H z' H' → RelH X.K z' H' st1 → ItR X.K z' H' J (.items (enumF 0 ds)) → Rq J H') → ∃ (a : Addr) (xs : List V), [v] = [V.ref a] ∧ SqL X.K H1 a xs ∧ Rq (Ite X.K a) H1 := fun ds hf q1 => by
        obtain ⟨a, xs, rfl, t, rs⟩ := frz_at p1 hf
        exact ⟨a, xs, rfl, t z1 H1 Ext.refl.toEx0, q1 _ z1 H1 e1 r1 (itI_enum t rs)⟩
      cases p1 with
      | @ref a n hn hk =>
        simp only at q1
        cases hc : st1[n]? with
        | none =>
          simp only [hc] at q1
          exact q1.elim
        | some c =>
          cases c with
          | set S =>
            simp only [hc] at q1
            exact q1.elim
          | lst ds =>
            simp only [hc] at q1
            obtain ⟨xs, hx, rs⟩ := r1.cell hn hc
            exact ⟨a, xs, rfl, SqL.of hx, q1 _ z1 H1 e1 r1 (itY_enum hn)⟩
      | lst => exact lay _ rfl q1
      | fro => exact lay _ rfl q1
      | _ => exact q1.elim
end
end Ev

namespace Ev
open PySem PySem.Spec PyProof.Rows L2 RZ
/-! ## zip of a list and a tuple -/
def IsS (k : Bool) (h : Heap) (l : Addr) (items : Array Value) : Prop := match k with
  | true => h.IsList l items
  | false => h.IsTuple l items
def IsSI (k : Bool) (h : Heap) (it l : Addr) (i : Nat) : Prop := match k with
  | true => h.IsListIter it l i
  | false => h.IsTupleIter it l i
def SqK (k : Bool) (K : PySem.W.Frag) (H : Hp) (a : Addr) (xs : List V) : Prop := match k with
  | true => SqL K H a xs
  | false => SqT K H a xs
def itc (k : Bool) : String := match k with
  | true => "list_iterator"
  | false => "tuple_iterator"
section
variable {k : Bool} {h h' : Heap} {it l b : Addr} {items : Array Value} {i : Nat}
theorem IsSI.at (x : IsSI k h it l i) (e : ∀ o, h.get? it = some o → h'.get? it = some o) : IsSI k h' it l i := by
  cases k
  · exact Heap.IsTupleIter.at (show h.IsTupleIter it l i from x) e
  · exact Heap.IsListIter.at (show h.IsListIter it l i from x) e
theorem IsS.at (x : IsS k h l items) (e : ∀ o, h.get? l = some o → h'.get? l = some o) : IsS k h' l items := by
  cases k
  · exact Heap.IsTuple.at (show h.IsTuple l items from x) e
  · exact Heap.IsList.at (show h.IsList l items from x) e
theorem IsS.lt (x : IsS k h l items) : l < h.objs.size := by
  cases k
  · obtain ⟨o, ho, _⟩ := (show h.IsTuple l items from x)
    exact Heap.lt_size ho
  · obtain ⟨o, ho, _⟩ := (show h.IsList l items from x)
    exact Heap.lt_size ho
theorem IsSI.obj (x : IsSI k h it l i) : ∃ o, h.get? it = some o ∧ ∀ v, o.data ≠ .cell v := by
  cases k
  · obtain ⟨o, ho, _, hd⟩ := (show h.IsTupleIter it l i from x)
    exact ⟨o, ho, fun v q => by rw [hd] at q; cases q⟩
  · obtain ⟨o, ho, _, hd⟩ := (show h.IsListIter it l i from x)
    exact ⟨o, ho, fun v q => by rw [hd] at q; cases q⟩
theorem drawsS {prog : Program} {w : World} {A : Around} (hh : A.handled = none) (k : Bool) (it l : Addr) (hne : l ≠ it) (items : Array Value) :
    Draws prog w A it [it, l] items.size (fun i v => items[i]? = some v) (fun i h => IsSI k h it l i ∧ IsS k h l items) := by
  cases k
  · exact Draws.tuple hh it l hne items
  · exact Draws.list hh it l hne items
theorem drawsEnd {prog : Program} {w : World} {A : Around} (hh : A.handled = none) (k : Bool) (it l : Addr) (items : Array Value) (i : Nat) (hi : items.size ≤ i) :
    Draws prog w A it [it, l] i (fun _ _ => True) (fun j h => (IsSI k h it l j ∧ IsS k h l items) ∧ j = i) where
  live := fun _ _ st => let ⟨o, ho, _⟩ := st.1.1.obj; ⟨o, ho⟩
  frame := fun _ _ _ st hk => ⟨⟨st.1.1.at fun o e => hk it (by simp) o e, st.1.2.at fun o e => hk l (by simp) o e⟩, st.2⟩
  item := fun j s Q E hj st hQ => absurd st.2 (Nat.ne_of_lt hj)
  done := fun s Q E st hE => by
    have he : items[i]? = none := by simp; omega
    cases k
    · exact nextOf_tuple_end hh (show s.heap.IsTupleIter it l i from st.1.1) (show s.heap.IsTuple l items from st.1.2) he hE
    · exact wpAny_nextOf_list_end hh (show s.heap.IsListIter it l i from st.1.1) (show s.heap.IsList l items from st.1.2) he hE
end
section
variable (k1 k2 : Bool)
abbrev zipMH1 (h : Heap) (l1 : Addr) : Heap := h.push { cls := .type (itc k1), data := .fields #[.ref l1, .int 0 0] }
abbrev zipMH2 (h : Heap) (l1 l2 : Addr) : Heap := (zipMH1 k1 h l1).push { cls := .type (itc k2), data := .fields #[.ref l2, .int 0 0] }
abbrev zipMH3 (h : Heap) (l1 l2 : Addr) : Heap := (zipMH2 k1 k2 h l1 l2).push { cls := .type "tuple", data := .seq #[.ref h.objs.size, .ref (zipMH1 k1 h l1).objs.size] }
abbrev zipMH4 (h : Heap) (l1 l2 : Addr) : Heap := (zipMH3 k1 k2 h l1 l2).push { cls := .type "tuple", data := .seq #[.none, .none] }
abbrev zipMH5 (h : Heap) (l1 l2 : Addr) : Heap := (zipMH4 k1 k2 h l1 l2).push { cls := .type "zip", data := .fields #[.none, .bool false, .bool false, .ref (zipMH2 k1 k2 h l1 l2).objs.size, .ref (zipMH3 k1 k2 h l1 l2).objs.size] }
end
theorem meets_zipM_new (k1 k2 : Bool) (l1 l2 : Addr) (xs ys : Array Value) :
    Meets (Builtin.«zip.__new__» ⟨[.type "zip", .ref l1, .ref l2], []⟩) (fun _ R s => IsS k1 s.heap l1 xs ∧ IsS k2 s.heap l2 ys ∧
      R (.ok (.ret (.ref (zipMH4 k1 k2 s.heap l1 l2).objs.size))) { s with heap := zipMH5 k1 k2 s.heap l1 l2 }) := by
  cases k1 <;> cases k2
  · exact .of_wp fun prog w A R s h => by
      obtain ⟨hp, g, d, tk, os⟩ := s; obtain ⟨hl1, hl2, h⟩ := h
      have hsub := sub_zip
      have hL1 : Heap.IsTuple (Shared.heap ⟨hp, g, d, tk, os⟩) l1 xs := hl1
      have hL2 : Heap.IsTuple (Shared.heap ⟨hp.push { cls := .type "tuple_iterator", data := .fields #[.ref l1, .int 0 0] }, g, d, tk, os⟩) l2 ys := Heap.IsTuple.push hl2 _
      wp_walk using wpAny_pyIter_tuple hL1, wpAny_pyIter_tuple hL2
      exact ⟨_, rfl, h⟩
  · exact .of_wp fun prog w A R s h => by
      obtain ⟨hp, g, d, tk, os⟩ := s; obtain ⟨hl1, hl2, h⟩ := h
      have hsub := sub_zip
      have hL1 : Heap.IsTuple (Shared.heap ⟨hp, g, d, tk, os⟩) l1 xs := hl1
      have hL2 : Heap.IsList (Shared.heap ⟨hp.push { cls := .type "tuple_iterator", data := .fields #[.ref l1, .int 0 0] }, g, d, tk, os⟩) l2 ys := Heap.IsList.push hl2 _
      wp_walk using wpAny_pyIter_tuple hL1, wpAny_pyIter_list hL2
      exact ⟨_, rfl, h⟩
  · exact .of_wp fun prog w A R s h => by
      obtain ⟨hp, g, d, tk, os⟩ := s; obtain ⟨hl1, hl2, h⟩ := h
      have hsub := sub_zip
      have hL1 : Heap.IsList (Shared.heap ⟨hp, g, d, tk, os⟩) l1 xs := hl1
      have hL2 : Heap.IsTuple (Shared.heap ⟨hp.push { cls := .type "list_iterator", data := .fields #[.ref l1, .int 0 0] }, g, d, tk, os⟩) l2 ys := Heap.IsTuple.push hl2 _
      wp_walk using wpAny_pyIter_list hL1, wpAny_pyIter_tuple hL2
      exact ⟨_, rfl, h⟩
  · exact .of_wp fun prog w A R s h => by
      obtain ⟨hp, g, d, tk, os⟩ := s; obtain ⟨hl1, hl2, h⟩ := h
      have hsub := sub_zip
      have hL1 : Heap.IsList (Shared.heap ⟨hp, g, d, tk, os⟩) l1 xs := hl1
      have hL2 : Heap.IsList (Shared.heap ⟨hp.push { cls := .type "list_iterator", data := .fields #[.ref l1, .int 0 0] }, g, d, tk, os⟩) l2 ys := Heap.IsList.push hl2 _
      wp_walk using wpAny_pyIter_list hL1, wpAny_pyIter_list hL2
      exact ⟨_, rfl, h⟩
section
variable {prog : Program} {w : World} {A : Around} {E : Value → Shared → Prop} {s : Shared}
theorem call_zipM (k1 k2 : Bool) {l1 l2 : Addr} {xs ys : Array Value} {Q : Value → Shared → Prop} (hl1 : IsS k1 s.heap l1 xs) (hl2 : IsS k2 s.heap l2 ys)
    (h : ∀ h', IsZip h' (s.heap.objs.size + 4) (s.heap.objs.size + 2) (s.heap.objs.size + 3) .none → IsPair h' (s.heap.objs.size + 2) (.ref s.heap.objs.size) (.ref (s.heap.objs.size + 1)) →
      IsPair h' (s.heap.objs.size + 3) .none .none → IsSI k1 h' s.heap.objs.size l1 0 → IsSI k2 h' (s.heap.objs.size + 1) l2 0 → h'.objs.size = s.heap.objs.size + 5 →
      (∀ c o, s.heap.get? c = some o → h'.get? c = some o) → Q (.ref (s.heap.objs.size + 4)) { s with heap := h' }) :
    wpAny (model prog w) A (call (.type "zip") [.ref l1, .ref l2]) Q E s := by
  refine callType_new F.called_zip (by decide) (F.typeCall_zip_2 _ _) (F.newCall_zip_2 _ _) (fun obj => F.args_object_init_3 obj _ _) F.entry_zip_new
    (meets_zipM_new k1 k2 l1 l2 xs ys) ⟨hl1, hl2, ?_⟩
  have z1 : (zipMH1 k1 s.heap l1).objs.size = s.heap.objs.size + 1 := Heap.size_push ..
  have z2 : (zipMH2 k1 k2 s.heap l1 l2).objs.size = s.heap.objs.size + 2 := by rw [Heap.size_push, z1]
  have z3 : (zipMH3 k1 k2 s.heap l1 l2).objs.size = s.heap.objs.size + 3 := by rw [Heap.size_push, z2]
  have z4 : (zipMH4 k1 k2 s.heap l1 l2).objs.size = s.heap.objs.size + 4 := by rw [Heap.size_push, z3]
  have z5 : (zipMH5 k1 k2 s.heap l1 l2).objs.size = s.heap.objs.size + 5 := by rw [Heap.size_push, z4]
  have g5 : (zipMH5 k1 k2 s.heap l1 l2).get? (zipMH4 k1 k2 s.heap l1 l2).objs.size = some _ := Heap.get?_push_size _ rfl
  have g4 : (zipMH5 k1 k2 s.heap l1 l2).get? (zipMH3 k1 k2 s.heap l1 l2).objs.size = some _ := Heap.get?_push_of_some _ (Heap.get?_push_size _ rfl)
  have g3 : (zipMH5 k1 k2 s.heap l1 l2).get? (zipMH2 k1 k2 s.heap l1 l2).objs.size = some _ := Heap.get?_push_of_some _ (Heap.get?_push_of_some _ (Heap.get?_push_size _ rfl))
  have g2 : (zipMH5 k1 k2 s.heap l1 l2).get? (zipMH1 k1 s.heap l1).objs.size = some _ := Heap.get?_push_of_some _ (Heap.get?_push_of_some _ (Heap.get?_push_of_some _ (Heap.get?_push_size _ rfl)))
  have g1 : (zipMH5 k1 k2 s.heap l1 l2).get? s.heap.objs.size = some _ := Heap.get?_push_of_some _ (Heap.get?_push_of_some _ (Heap.get?_push_of_some _ (Heap.get?_push_of_some _ (Heap.get?_push_size _ rfl))))
  show _ ∧ _
  rw [z2, z3, z4] at g5
  rw [z1, z2] at g3
  rw [z3] at g4
  rw [z1] at g2
  rw [z4]
  exact ⟨⟨_, g5, rfl⟩, h _ g5 g3 g4 (by cases k1 <;> exact ⟨_, g1, rfl, rfl⟩) (by cases k2 <;> exact ⟨_, g2, rfl, rfl⟩) z5 fun c o x =>
    Heap.get?_push_of_some _ (Heap.get?_push_of_some _ (Heap.get?_push_of_some _ (Heap.get?_push_of_some _ (Heap.get?_push_of_some _ x))))⟩
end
theorem Inv.seqK {X : Cx} {pins : List (Addr × Obj)} {σ : L2.St} {H : Hp} {s : Shared} {a : Addr} {xs : List V} (I : Inv X pins σ H s) : ∀ {k : Bool}, SqK k X.K H a xs → ∃ its : List Value, Vals xs its ∧ IsS k s.heap a its.toArray
  | true, h => by
    obtain ⟨its, rv, p, _⟩ := I.list (show SqL X.K H a xs from h)
    exact ⟨its, rv, p.isList⟩
  | false, h => by
    obtain ⟨its, rv, p, _⟩ := I.tuple (show SqT X.K H a xs from h)
    exact ⟨its, rv, p⟩
theorem Inv.seqK_inj {X : Cx} {pins : List (Addr × Obj)} {σ : L2.St} {H : Hp} {s : Shared} {a : Addr} {xs ys : List V} (I : Inv X pins σ H s) : ∀ {k : Bool}, SqK k X.K H a xs → SqK k X.K H a ys → xs = ys
  | true, h, h' => I.list_inj (show SqL X.K H a xs from h) h'
  | false, h, h' => I.tuple_inj (show SqT X.K H a xs from h) h'
def ItzM (k1 k2 : Bool) (K : PySem.W.Frag) (a b : Addr) : It :=
  ⟨fun i H => ∃ (xs ys : List V) (x y : V), SqK k1 K H a xs ∧ SqK k2 K H b ys ∧ xs[i]? = some x ∧ ys[i]? = some y,
    fun i H v H' => ∃ T x y, v = .ref T ∧ H T = none ∧ H' = upd H T (.tup [x, y]) ∧ (∀ xs, SqK k1 K H a xs → xs[i]? = some x) ∧ ∀ ys, SqK k2 K H b ys → ys[i]? = some y,
    fun i H => ∃ xs ys : List V, SqK k1 K H a xs ∧ SqK k2 K H b ys ∧ (xs.length ≤ i ∨ ys.length ≤ i)⟩
theorem zipSep {z TI TO i1 i2 a b : Addr} (D : ZipApart z TI TO i1 i2 a b) (hab1 : a ≠ i1) (hab2 : b ≠ i2) : ZipSep2 z TI TO i1 i2 [i1, a] [i2, b] where
  TIz := D.TIz
  TOz := D.TOz
  TITO := D.TITO
  TIi1 := D.TIi1
  mem1 := by simp
  zf1 := by simp; exact ⟨D.i1z.symm, D.l1z.symm⟩
  Tf1 := by simp; exact ⟨D.TOi1, D.l1TO.symm⟩
  TIi2 := D.TIi2
  mem2 := by simp
  zf2 := by simp; exact ⟨D.i2z.symm, D.l2z.symm⟩
  Tf2 := by simp; exact ⟨D.TOi2, D.l2TO.symm⟩
  sep1_2 := by simp; exact ⟨D.i12, D.l2i1.symm⟩
  sep2_1 := by simp; exact ⟨D.i12.symm, D.l1i2.symm⟩
end Ev

namespace Ev
open PySem PySem.Spec PyProof.Rows L2 RZ
theorem turn_zipM {P : Program} {w : World} {K : PySem.W.Frag} {elts : List Expr} {kk : Nat} {tpos : Pos} {a b z TI TO i1 i2 : Addr} (k1 k2 : Bool) (D : ZipApart z TI TO i1 i2 a b) :
    Turn P w K (.Tuple elts kk tpos) (ItzM k1 k2 K a b) [z, TI, TO, i1, i2] z (fun i h => IsZip h z TI TO .none ∧ IsPair h TI (.ref i1) (.ref i2) ∧ (∃ x y, IsPair h TO x y) ∧ IsSI k1 h i1 a i ∧ IsSI k2 h i2 b i) where
  mem := by simp
  obj := fun i h st c hc => by
    obtain ⟨hz, hTI, ⟨x, y, hTO⟩, h1, h2⟩ := st
    obtain ⟨o1, e1, d1⟩ := h1.obj
    obtain ⟨o2, e2, d2⟩ := h2.obj
    have e' : c = z ∨ c = TI ∨ c = TO ∨ c = i1 ∨ c = i2 := by simpa using hc
    rcases e' with q | q | q | q | q
    · rw [q]; exact ⟨_, hz, fun v q => nomatch q⟩
    · rw [q]; exact ⟨_, hTI, fun v q => nomatch q⟩
    · rw [q]; exact ⟨_, hTO, fun v q => nomatch q⟩
    · rw [q]; exact ⟨o1, e1, d1⟩
    · rw [q]; exact ⟨o2, e2, d2⟩
  keep := fun i h h' st k => by
    obtain ⟨hz, hTI, ⟨x, y, hTO⟩, h1, h2⟩ := st
    exact ⟨k z (by simp) _ hz, k TI (by simp) _ hTI, ⟨x, y, k TO (by simp) _ hTO⟩, h1.at fun o q => k i1 (by simp) o q, h2.at fun o q => k i2 (by simp) o q⟩
  item := by
    intro X hP hw hK hc i pins s σ H E I hf st hg
    subst hP hw hK
    obtain ⟨hz, hTI, ⟨x0, y0, hTO⟩, h1, h2⟩ := st
    obtain ⟨xs, ys, x, y, hqx, hqy, hx, hy⟩ := hg
    obtain ⟨its, rv, p⟩ := Inv.seqK I hqx
    obtain ⟨its2, rv2, p2⟩ := Inv.seqK I hqy
    obtain ⟨u, hu, ru⟩ := rv.get hx
    obtain ⟨u2, hu2, ru2⟩ := rv2.get hy
    have hzl : z < s.heap.objs.size := Heap.lt_size hz
    have hh := I.ok.hd hc
    have D1 := drawsS (prog := X.prog) (w := X.w) (A := X.A.in1) hh k1 i1 a D.l1i1 its.toArray
    have D2 := drawsS (prog := X.prog) (w := X.w) (A := X.A.in1) hh k2 i2 b D.l2i2 its2.toArray
    have n1 : i < its.toArray.size := by
      have := (List.getElem?_eq_some_iff.mp hu).1
      simpa using this
    have n2 : i < its2.toArray.size := by
      have := (List.getElem?_eq_some_iff.mp hu2).1
      simpa using this
    refine wpAny_pyNext_zipD2_item (zipSep D D.l1i1 D.l2i2) D1 D2 hz hTI hTO ⟨h1, p⟩ ⟨h2, p2⟩ n1 n2 fun v1 v2 h' tk e1 e2 z' TO' st1 st2 hT hsz hk => ?_
    have e1 : v1 = u := by
      have e1 : its.toArray[i]? = some v1 := e1
      have : its[i]? = some v1 := by simpa using e1
      rw [hu] at this
      exact (Option.some.inj this).symm
    have e2 : v2 = u2 := by
      have e2 : its2.toArray[i]? = some v2 := e2
      have : its2[i]? = some v2 := by simpa using e2
      rw [hu2] at this
      exact (Option.some.inj this).symm
    subst e1 e2
    refine ⟨_, rfl, wpAny_letOwnedTupleGo_zip (s := { s with heap := h', toks := tk }) z' fun h'' z'' sb => ?_⟩
    have hT2 : h''.get? s.heap.objs.size = some { cls := .type "tuple", data := .seq #[v1, v2] } := (sb.2 _ (Nat.ne_of_gt hzl)).trans hT
    have new : ObjOk X.prog X.w (upd H s.heap.objs.size (.tup [x, y])) h'' s.heap.objs.size (.tup [x, y]) :=
      ⟨by show 2 ≤ sizeLine; decide, [v1, v2], .cons ru (.cons ru2 .nil), ⟨_, hT2, rfl, _, rfl⟩⟩
    have I1 : Inv X pins σ (upd H s.heap.objs.size (.tup [x, y])) { s with heap := h'', toks := tk } :=
      I.turnedNew (t' := tk) (ch := [z, TI, TO, i1, i2]) (fun c o hb q => (sb.2 c (fun q' => hb (by simp [q']))).trans (hk c o (fun q' => hb (by simp [q'])) (fun q' => hb (by simp [q'])) (fun q' => hb (by simp [q'])) (fun q' => hb (by simp [q'])) q)) hf (Nat.le_refl _) new
    refine ⟨.ref s.heap.objs.size, _, I1, rfl, ⟨_, x, y, rfl, I.hok.fresh (Nat.le_refl _), rfl, fun l hl => by rw [Inv.seqK_inj I hl hqx]; exact hx, fun l hl => by rw [Inv.seqK_inj I hl hqy]; exact hy⟩, ⟨z'', ?_, ⟨v1, v2, ?_⟩, ?_, ?_⟩, fun c hcm => ?_⟩
    · exact (sb.2 _ D.TIz).trans (hk _ _ D.TIz D.TITO D.TIi1 D.TIi2 hTI)
    · exact (sb.2 _ D.TOz).trans TO'
    · exact st1.1.at fun o q => (sb.2 _ D.i1z).trans q
    · exact st2.1.at fun o q => (sb.2 _ D.i2z).trans q
    · have hlt : c < s.heap.objs.size := by
        have e' : c = z ∨ c = TI ∨ c = TO ∨ c = i1 ∨ c = i2 := by simpa using hcm
        rcases e' with q | q | q | q | q
        · rw [q]; exact hzl
        · rw [q]; exact Heap.lt_size hTI
        · rw [q]; exact Heap.lt_size hTO
        · rw [q]; obtain ⟨_, e1, _⟩ := h1.obj; exact Heap.lt_size e1
        · rw [q]; obtain ⟨_, e2, _⟩ := h2.obj; exact Heap.lt_size e2
      rw [upd_ne (Nat.ne_of_lt hlt)]
      exact (hf c hcm).1
  done := by
    intro X hP hw hK hc i pins s σ H E I hf st hg
    subst hP hw hK
    obtain ⟨hz, hTI, ⟨x0, y0, hTO⟩, h1, h2⟩ := st
    obtain ⟨xs, ys, hqx, hqy, hend⟩ := hg
    obtain ⟨its, rv, p⟩ := Inv.seqK I hqx
    obtain ⟨its2, rv2, p2⟩ := Inv.seqK I hqy
    have l1 := rv.length
    have l2 := rv2.length
    have hh := I.ok.hd hc
    have S := zipSep D D.l1i1 D.l2i2
    have fin : ∀ h' tk, (∀ c o, c ≠ z → c ≠ TO → c ≠ i1 → c ≠ i2 → s.heap.get? c = some o → h'.get? c = some o) → (none : Option Value) = none ∧ Inv X pins σ H { s with heap := h', toks := tk } := fun h' tk hk => ⟨rfl, I.turnedL (t' := tk) (ch := [z, TI, TO, i1, i2]) (fun c o hb q =>
      hk c o (fun q' => hb (by simp [q'])) (fun q' => hb (by simp [q'])) (fun q' => hb (by simp [q'])) (fun q' => hb (by simp [q'])) q) hf⟩
    by_cases c1 : xs.length ≤ i
    · have D1 := drawsEnd (prog := X.prog) (w := X.w) (A := X.A.in1) hh k1 i1 a its.toArray i (by simp; omega)
      by_cases c2 : ys.length ≤ i
      · have D2 := drawsEnd (prog := X.prog) (w := X.w) (A := X.A.in1) hh k2 i2 b its2.toArray i (by simp; omega)
        exact wpAny_pyNext_zipD2_end S D1 D2 hz hTI hTO ⟨⟨h1, p⟩, rfl⟩ ⟨⟨h2, p2⟩, rfl⟩ (Nat.le_refl _) (Nat.le_refl _) (.inl rfl) fun h' tk hk => fin h' tk hk
      · have D2 := drawsS (prog := X.prog) (w := X.w) (A := X.A.in1) hh k2 i2 b D.l2i2 its2.toArray
        exact wpAny_pyNext_zipD2_end S D1 D2 hz hTI hTO ⟨⟨h1, p⟩, rfl⟩ ⟨h2, p2⟩ (Nat.le_refl _) (by simp; omega) (.inl rfl) fun h' tk hk => fin h' tk hk
    · have c2 : ys.length ≤ i := by
        rcases hend with q | q
        · exact absurd q c1
        · exact q
      have D1 := drawsS (prog := X.prog) (w := X.w) (A := X.A.in1) hh k1 i1 a D.l1i1 its.toArray
      have D2 := drawsEnd (prog := X.prog) (w := X.w) (A := X.A.in1) hh k2 i2 b its2.toArray i (by simp; omega)
      exact wpAny_pyNext_zipD2_end S D1 D2 hz hTI hTO ⟨h1, p⟩ ⟨⟨h2, p2⟩, rfl⟩ (by simp; omega) (Nat.le_refl _) (.inr rfl) fun h' tk hk => fin h' tk hk
  self := fun A i s Q E st h => wpAny_pyIter_zip st.1 h
def iZipM (K : PySem.W.Frag) (ta : TA) : TI := fun σ H R => ta σ H fun vs H1 => ∃ k1 k2 a b xs ys, vs = [.ref a, .ref b] ∧ SqK k1 K H1 a xs ∧ SqK k2 K H1 b ys ∧ R (ItzM k1 k2 K a b) H1
theorem pi_zipM {X : Cx} {e e2 : Expr} {ta : TA} {p pos tpos : Pos} {elts : List Expr} {kk : Nat} (hg : Gl X "zip") (hm : X.mg "zip" = none) (ha : PA X [e, e2] ta)
    (hs : starEach [e, e2] X.env = (false, eval e X.env) :: starEach [e2] X.env := by rfl) (hpl : (backTo pos (starEach [e2] X.env)).any (·.1) = false := by rfl) :
    PI X (.Tuple elts kk tpos) (.Call (.Name "zip" p) [e, e2] [] pos) (iZipM X.K ta) := by
  refine ⟨fun pins s σ H R I h => ?_⟩
  refine Call_ (ld_blt I hg hm PyProof.Rows.boot_zip (PyProof.Rows.callWith_type1 (thn (ha.run pos pins s σ H _ I h) fun us s1 ⟨vs, H1, I1, r1, q1⟩ => ?_) hs hpl))
  obtain ⟨k1, k2, a, b, xs, ys, ex, hqx, hqy, q⟩ := q1
  subst ex
  cases r1 with
  | cons r rr =>
  cases rr with
  | cons r' rr =>
  cases rr
  cases r
  cases r'
  have fresh5 : ∀ c, c ∈ [s1.heap.objs.size + 4, s1.heap.objs.size + 2, s1.heap.objs.size + 3, s1.heap.objs.size, s1.heap.objs.size + 1] → FpOk X pins H1 c := fun c hcm => by
    have e' : c = s1.heap.objs.size + 4 ∨ c = s1.heap.objs.size + 2 ∨ c = s1.heap.objs.size + 3 ∨ c = s1.heap.objs.size ∨ c = s1.heap.objs.size + 1 := by simpa using hcm
    have hle : s1.heap.objs.size ≤ c := by
      rcases e' with z | z | z | z | z
      · rw [z]; exact Nat.le_add_right _ _
      · rw [z]; exact Nat.le_add_right _ _
      · rw [z]; exact Nat.le_add_right _ _
      · rw [z]; exact Nat.le_refl _
      · rw [z]; exact Nat.le_add_right _ _
    exact I1.fpOk hle (I1.hok.fresh hle)
  obtain ⟨its, rv, p1⟩ := Inv.seqK I1 hqx
  obtain ⟨its2, rv2, p2⟩ := Inv.seqK I1 hqy
  refine call_zipM k1 k2 p1 p2 fun h' hz hTI hTO h1 h2 hsz hk => wpAny_pyIter_zip hz ?_
  have I2 : Inv X pins σ H1 { s1 with heap := h' } := I1.kept (t' := s1.toks) hk
  exact ⟨s1.heap.objs.size + 4, [s1.heap.objs.size + 4, s1.heap.objs.size + 2, s1.heap.objs.size + 3, s1.heap.objs.size, s1.heap.objs.size + 1], _, _, H1, rfl, I2, turn_zipM k1 k2 (PySem.W.ktu_apart s1.heap.objs.size a b p1.lt p2.lt), ⟨hz, hTI, ⟨_, _, hTO⟩, h1, h2⟩, fresh5, q⟩
/-! the same on data: each of the two a tuple, a frozen list -/
def frzT : D → Option (List D)
  | .tup ds => some ds
  | d => frz d
def zipMI (fs : AF) : IF := fun en st => (fs en st).bind fun ds st1 => match ds with
  | [a, b] => match frzT a, frzT b with
    | some x, some y => .ok (.items (zipF x y)) st1
    | _, _ => .bad
  | _ => .bad
variable [Tabs]
section
variable {K : PySem.W.Frag} {z : Z} {H : Hp} {a : Addr} {xs : List V} {ds : List D}
theorem frzT_at {v : V} {d : D} (p : Rep K z H v d) (h : frzT d = some ds) : ∃ k a xs, v = .ref a ∧ (∀ z1 H1, Ex0 z H z1 H1 → SqK k K H1 a xs) ∧ Reps K z H xs ds := by
  cases p with
  | @tup a xs es t rs =>
    cases h
    exact ⟨false, a, xs, rfl, fun z1 H1 x => (t.ext0 x).seq, rs⟩
  | @lst a xs es f e rs =>
    cases h
    exact ⟨true, a, xs, rfl, fun z1 H1 x => SqL.of ((x.fz a f).2.trans e), rs⟩
  | @fro a xs es t rs =>
    cases h
    exact ⟨true, a, xs, rfl, fun z1 H1 x => (t.ext0 x).seq, rs⟩
  | _ => cases h
theorem itI_zipM {b : Addr} {k1 k2 : Bool} {ys : List V} {es : List D} (s1 : ∀ z1 H1, Ex0 z H z1 H1 → SqK k1 K H1 a xs) (s2 : ∀ z1 H1, Ex0 z H z1 H1 → SqK k2 K H1 b ys)
    (rx : Reps K z H xs ds) (ry : Reps K z H ys es) : ItI K z H (zipF ds es) (ItzM k1 k2 K a b) := fun z1 H1 st e rh => by
  have r1 := rx.ext0 e
  have r2 := ry.ext0 e
  have fin : ∀ (i : Nat) (v w : V) T H2 d, (zipF ds es)[i]? = some d → xs[i]? = some v → ys[i]? = some w → H1 T = none → H2 = upd H1 T (.tup [v, w]) → ∃ z2, Ext z1 H1 z2 H2 ∧ RelH K z2 H2 st ∧ Rep K z2 H2 (.ref T) d := fun i v w T H2 d hd hv hw nT e2 => by
    obtain ⟨p, q, hp, hq, rfl⟩ := zipF_get i ds es d hd
    obtain ⟨v', hv', rv⟩ := r1.getD hp
    obtain ⟨w', hw', rw'⟩ := r2.getD hq
    rw [hv] at hv'
    rw [hw] at hw'
    cases hv'
    cases hw'
    subst e2
    have x2 := ext_add (o := .tup [v, w]) rh nT
    exact ⟨z1.add T, x2, rh.add nT, .tup (.inl ⟨.inr rfl, .inl upd_same⟩) (.cons (rv.ext x2) (.cons (rw'.ext x2) .nil))⟩
  have stop : ∀ i, (zipF ds es).length ≤ i → xs.length ≤ i ∨ ys.length ≤ i := fun i hi => by
    rw [zipF_length] at hi
    rw [r1.length, r2.length]
    omega
  have s1 := s1 z1 H1 e
  have s2 := s2 z1 H1 e
  refine ⟨fun i hi => ⟨xs, ys, s1, s2, stop i hi⟩, fun i d hd => ?_⟩
  obtain ⟨p, q, hp, hq, e3⟩ := zipF_get i ds es d hd
  obtain ⟨v, hv, _⟩ := r1.getD hp
  obtain ⟨w, hw, _⟩ := r2.getD hq
  refine ⟨⟨xs, ys, v, w, s1, s2, hv, hw⟩, fun x H2 y => ?_⟩
  obtain ⟨T, x', y', rfl, nT, e2, f1, f2⟩ := y
  exact fin i x' y' T H2 d hd (f1 xs s1) (f2 ys s2) nT e2
end
section
variable {X : Cx} {xm : List Addr} {W : WX} {e e2 : Expr} {elts : List Expr} {fs : AF} {p pos tpos : Pos} {kk : Nat}
theorem si_zipM (hg : Gl X "zip") (hm : X.mg "zip" = none) (ha : PA X [e, e2] (TAf X.K xm W fs)) (hs : starEach [e, e2] X.env = (false, eval e X.env) :: starEach [e2] X.env := by rfl) (hpl : (backTo pos (starEach [e2] X.env)).any (·.1) = false := by rfl) :
    PI X (.Tuple elts kk tpos) (.Call (.Name "zip" p) [e, e2] [] pos) (TIf X.K xm W (zipMI fs)) :=
  (pi_zipM hg hm ha hs hpl).imp fun σ H Rq ⟨z, en, st, rh, re, h⟩ => by
    refine seqA' rh re (wp_bind.mp h) fun d1 st1 v1 z1 H1 q1 e1 r1 re1 p1 => ?_
    cases p1 with
    | nil => exact q1.elim
    | cons p1 ps =>
    cases ps with
    | nil => exact q1.elim
    | cons p2 ps =>
    cases ps with
    | cons _ _ => exact q1.elim
    | nil =>
      rename_i v d v' d'
      simp only at q1
      cases hx : frzT d with
      | none =>
        rw [hx] at q1
        exact q1.elim
      | some x =>
        cases hy : frzT d' with
        | none =>
          rw [hx, hy] at q1
          exact q1.elim
        | some y =>
          rw [hx, hy] at q1
          obtain ⟨k1, a, xs, rfl, t1, rs1⟩ := frzT_at p1 hx
          obtain ⟨k2, b, ys, rfl, t2, rs2⟩ := frzT_at p2 hy
          exact ⟨k1, k2, a, b, xs, ys, rfl, t1 z1 H1 Ext.refl.toEx0, t2 z1 H1 Ext.refl.toEx0, q1 _ z1 H1 e1 r1 (itI_zipM t1 t2 rs1 rs2)⟩
end
/-! ## an int in a tuple or a list of ints -/
def inSq (a : Int) (is : List Int) : Bool := decide (a ∈ is)
def inQD (neg : Bool) : O2 := fun a b st => match a with
  | .int i => match b with
    | .tup ds => (intsO ds).bind fun is => some (.bl (if neg then !inSq i is else inSq i is), st)
    | d => (asLF d st).bind fun ds => (intsO ds).bind fun is => some (.bl (if neg then !inSq i is else inSq i is), st)
  | _ => none
theorem flat_ints : ∀ is : List Int, (is.map V.int).all flatV = true
  | [] => rfl
  | _ :: is => by
    rw [List.map_cons, List.all_cons, flat_ints is]
    rfl
theorem inV_ints (i : Int) : ∀ is : List Int, inV (.int i) (is.map V.int) = inSq i is
  | [] => rfl
  | j :: is => by
    have ih := inV_ints i is
    unfold inV at ih ⊢
    rw [List.map_cons, List.any_cons, ih]
    show ((j == i) || inSq i is) = inSq i (j :: is)
    unfold inSq
    by_cases e : j = i
    · subst e
      simp
    · have e' : (j == i) = false := by simpa using e
      have e2 : ¬ i = j := fun q => e q.symm
      rw [e']
      simp [e2]
section
variable {X : Cx}
theorem inQ_core {neg : Bool} (hop : OpR X (compareOp (if neg then .NotIn else .In)) (rIn X.K neg)) : OpR X (compareOp (if neg then .NotIn else .In)) (R2f X.K (inQD neg)) := by
  intro pins s σ H x y v u Q I rx ry ⟨z, st, da, db, d, st', rh, px, py, e, q⟩
  unfold inQD at e
  split at e
  · rename_i i
    cases px
    split at e
    · rename_i ds
      obtain ⟨is, h1, e⟩ := Option.bind_eq_some_iff.mp e
      cases e
      cases py with
      | @tup p xs _ t rs =>
        have hx := ints_at rs h1
        subst hx
        refine hop pins s σ H _ _ v u Q I rx ry ⟨p, _, rfl, .inr t.seq, rfl, flat_ints is, ?_⟩
        rw [inV_ints]
        exact okD.here q rh (.bl _)
    · obtain ⟨ds, h0, e⟩ := Option.bind_eq_some_iff.mp e
      obtain ⟨is, h1, e⟩ := Option.bind_eq_some_iff.mp e
      cases e
      obtain ⟨p, xs, rfl, hs, rs⟩ := asLF_at rh py h0
      have hx := ints_at rs h1
      subst hx
      refine hop pins s σ H _ _ v u Q I rx ry ⟨p, _, rfl, .inl hs, rfl, flat_ints is, ?_⟩
      rw [inV_ints]
      exact okD.here q rh (.bl _)
  · cases e
theorem or_inQ : OpR X (compareOp .In) (R2f X.K (inQD false)) := inQ_core (neg := false) op_in_seq
theorem or_notinQ : OpR X (compareOp .NotIn) (R2f X.K (inQD true)) := inQ_core (neg := true) op_notIn_seq
end
/-! a list from behind -/
def revLF (f : EF) : EF := fun en st => (f en st).bind fun d st1 => match asLF d st1 with
  | some ds => .ok (.lst ds.reverse) st1
  | none => .bad
section
variable {X : Cx} {xm : List Addr} {W : WX} {k : Nat} {e : Expr} {f : EF} {p1 p2 p3 pos : Pos}
theorem sn_revL (he : PE X e (TEf X.K xm W f)) : PE X (.Subscript e (.Slice none none (some (.UnaryOp .USub (.Constant (.int 1) k p1) p2)) p3) pos) (TEf X.K xm W (revLF f)) :=
  (pe_revL he).imp fun σ H Q ⟨z, en, st, rh, re, h⟩ => by
    refine seqE' rh re (wp_bind.mp h) fun d1 st1 v1 z1 H1 q1 e1 r1 re1 p1 => ?_
    cases hd : asLF d1 st1 with
    | none =>
      rw [hd] at q1
      exact q1.elim
    | some ds =>
      rw [hd] at q1
      obtain ⟨a, xs, rfl, hq, rs⟩ := asLF_at r1 p1 hd
      exact ⟨a, xs, rfl, hq, fun p n => okD.newF (okD.ext e1 q1) r1 (reps_rev rs) n⟩
end
end Ev

namespace Lw
open PySem PySem.Spec PyProof.Rows L2 Ev
def b_is_whole : SF :=
 (retS (andV (isiF isInt (varF 0)) (notV (isiF isBool (varF 0)))))
def f_is_whole : List D → Sto → R D := fnF 1 b_is_whole
def b_is_fraction : SF :=
 (seqS (ifS (orT (notT (truF (isiF isTup (varF 0)))) (boolF (op2F neD (opLF lenL (consA (varF 0) nilA)) (litF (.int 2)))))
 (retS (litF (.bl false)))
 passS)
 (seqS (asgS (varF 0) (tupG 2 (consG (nameG 1) (consG (nameG 2) nilG))))
 (seqS (ifS (orT (notT (truF (callF 1 f_is_whole (consA (varF 1) nilA)))) (notT (truF (callF 1 f_is_whole (consA (varF 2) nilA)))))
 (retS (litF (.bl false)))
 passS)
 (retS (andV (op2F (cmpI fun i j => decide (j ≤ i)) (varF 2) (litF (.int 1))) (op2F eqD (opLF gcdL (consA (varF 1) (consA (varF 2) nilA))) (litF (.int 1))))))))
def f_is_fraction : List D → Sto → R D := fnF 3 b_is_fraction
def b_need_fraction : SF :=
 (ifS (notT (truF (callF 1 f_is_fraction (consA (varF 0) nilA))))
 (raiseS 0)
 passS)
def f_need_fraction : List D → Sto → R D := fnF 1 b_need_fraction
def b_fraction : SF :=
 (seqS (ifS (orT (notT (truF (callF 1 f_is_whole (consA (varF 0) nilA)))) (notT (truF (callF 1 f_is_whole (consA (varF 1) nilA)))))
 (raiseS 0)
 passS)
 (seqS (ifS (boolF (op2F eqD (varF 1) (litF (.int 0))))
 (raiseS 0)
 passS)
 (seqS (setS 2 (opLF gcdL (consA (varF 0) (consA (varF 1) nilA))))
 (seqS (ifS (boolF (op2F (cmpI fun i j => decide (i < j)) (varF 1) (litF (.int 0))))
 (setS 2 (op1F negD (varF 2)))
 passS)
 (retS (opLF tupL (consA (op2F fdivD (varF 0) (varF 2)) (consA (op2F fdivD (varF 1) (varF 2)) nilA))))))))
def f_fraction : List D → Sto → R D := fnF 3 b_fraction
def b_plus : SF :=
 (seqS (exprS (callF 1 f_need_fraction (consA (varF 0) nilA)))
 (seqS (exprS (callF 1 f_need_fraction (consA (varF 1) nilA)))
 (retS (callF 2 f_fraction (consA (op2F addD (op2F mulD (op2F ixD (varF 0) (litF (.int 0))) (op2F ixD (varF 1) (litF (.int 1)))) (op2F mulD (op2F ixD (varF 1) (litF (.int 0))) (op2F ixD (varF 0) (litF (.int 1))))) (consA (op2F mulD (op2F ixD (varF 0) (litF (.int 1))) (op2F ixD (varF 1) (litF (.int 1)))) nilA))))))
def f_plus : List D → Sto → R D := fnF 2 b_plus
def b_compare : SF :=
 (seqS (exprS (callF 1 f_need_fraction (consA (varF 0) nilA)))
 (seqS (exprS (callF 1 f_need_fraction (consA (varF 1) nilA)))
 (seqS (setS 2 (op2F mulD (op2F ixD (varF 0) (litF (.int 0))) (op2F ixD (varF 1) (litF (.int 1)))))
 (seqS (setS 3 (op2F mulD (op2F ixD (varF 1) (litF (.int 0))) (op2F ixD (varF 0) (litF (.int 1)))))
 (seqS (ifS (boolF (op2F (cmpI fun i j => decide (i < j)) (varF 2) (varF 3)))
 (retS (op1F negD (litF (.int 1))))
 passS)
 (seqS (ifS (boolF (op2F (cmpI fun i j => decide (j < i)) (varF 2) (varF 3)))
 (retS (litF (.int 1)))
 passS)
 (retS (litF (.int 0)))))))))
def f_compare : List D → Sto → R D := fnF 4 b_compare
def b_over : SF :=
 (seqS (exprS (callF 1 f_need_fraction (consA (varF 0) nilA)))
 (seqS (exprS (callF 1 f_need_fraction (consA (varF 1) nilA)))
 (retS (callF 2 f_fraction (consA (op2F mulD (op2F ixD (varF 0) (litF (.int 0))) (op2F ixD (varF 1) (litF (.int 1)))) (consA (op2F mulD (op2F ixD (varF 0) (litF (.int 1))) (op2F ixD (varF 1) (litF (.int 0)))) nilA))))))
def f_over : List D → Sto → R D := fnF 2 b_over
def b_greatest : SF :=
 (seqS (setS 1 (op2F ixD (varF 0) (litF (.int 0))))
 (seqS (forS (seqI (varF 0)) (nameG 2)
 (ifS (boolF (op2F (cmpI fun i j => decide (j < i)) (callF 2 f_compare (consA (varF 2) (consA (varF 1) nilA))) (litF (.int 0))))
 (setS 1 (varF 2))
 passS))
 (retS (varF 1))))
def f_greatest : List D → Sto → R D := fnF 3 b_greatest
def b_common_bottom : SF :=
 (seqS (setS 1 (litF (.int 1)))
 (seqS (forS (seqI (varF 0)) (tupG 2 (consG (nameG 2) (consG (nameG 3) nilG)))
 (setS 1 (opLF lcmL (consA (varF 1) (consA (varF 3) nilA)))))
 (retS (varF 1))))
def f_common_bottom : List D → Sto → R D := fnF 4 b_common_bottom
def b_equation : SF :=
 (seqS (asgS (varF 0) (tupG 2 (consG (nameG 5) (consG (nameG 6) nilG))))
 (seqS (setS 7 (callF 1 f_common_bottom (consA (lcF [11, 10] (tupG 2 (consG (nameG 11) (consG (nameG 10) nilG))) yesT (varF 10) (seqI (varF 3))) nilA)))
 (seqS (setS 8 (op2F mulC (opLF lstL (consA (litF (.int 0)) nilA)) (varF 4)))
 (seqS (subS (op2F mulD (varF 6) (varF 7)) (varF 8) (varF 1))
 (seqS (forS (seqI (varF 3)) (tupG 2 (consG (nameG 9) (consG (nameG 10) nilG)))
 (augSubS subD (varF 8) (varF 9) (op2F mulD (op2F mulD (varF 5) (op2F ixD (varF 10) (litF (.int 0)))) (op2F fdivD (varF 7) (op2F ixD (varF 10) (litF (.int 1)))))))
 (seqS (exprS (methF appM (varF 8) (consA (op2F mulD (op2F mulD (varF 6) (varF 7)) (varF 2)) nilA)))
 (retS (varF 8))))))))
def f_equation : List D → Sto → R D := fnZ 12 b_equation
def b_without : SF :=
 (seqS (setS 4 (op2F ixD (varF 1) (varF 2)))
 (seqS (setS 5 (op2F ixD (varF 0) (varF 2)))
 (retS (lcF [6, 7] (tupG 2 (consG (nameG 6) (consG (nameG 7) nilG))) yesT (op2F fdivD (op2F subD (op2F mulD (varF 4) (varF 6)) (op2F mulD (varF 5) (varF 7))) (varF 3)) (zipI (consA (varF 0) (consA (varF 1) nilA)))))))
def f_without : List D → Sto → R D := fnZ 8 b_without
def b_each_alone : SF :=
 (seqS (setS 1 (varF 0))
 (seqS (setS 2 (litF (.int 1)))
 (seqS (forS (rng1I (consA (opLF lenL (consA (varF 0) nilA)) nilA)) (nameG 3)
 (seqS (setS 4 (op2F ixD (varF 1) (varF 3)))
 (seqS (setS 1 (lcF [5, 6] (tupG 2 (consG (nameG 5) (consG (nameG 6) nilG))) yesT (ifeF (boolF (op2F eqD (varF 5) (varF 3))) (varF 4) (callF 4 f_without (consA (varF 6) (consA (varF 4) (consA (varF 3) (consA (varF 2) nilA)))))) (enumAI (consA (varF 1) nilA))))
 (setS 2 (op2F ixD (varF 4) (varF 3))))))
 (retS (varF 1)))))
def f_each_alone : List D → Sto → R D := fnZ 7 b_each_alone
def b_sums : SF :=
 (seqS (setS 3 (callF 1 f_common_bottom (consA (varF 1) nilA)))
 (seqS (setS 4 (opLF celL nilA))
 (seqS (forS (enumI (consA (varF 1) nilA)) (tupG 2 (consG (nameG 5) (consG (tupG 2 (consG (nameG 6) (consG (nameG 7) nilG))) nilG)))
 (exprS (methF appM (varF 4) (consA (callF 5 f_equation (consA (varF 0) (consA (varF 5) (consA (op2F mulD (varF 6) (op2F fdivD (varF 3) (varF 7))) (consA (op2F ixD (varF 2) (varF 5)) (consA (opLF lenL (consA (varF 1) nilA)) nilA)))))) nilA))))
 (retS (lcF [5, 8] (tupG 2 (consG (nameG 5) (consG (nameG 8) nilG))) yesT (callF 2 f_fraction (consA (op2F ixD (varF 8) (op1F negD (litF (.int 1)))) (consA (op2F mulD (op2F ixD (varF 8) (varF 5)) (varF 3)) nilA))) (enumI (consA (callF 1 f_each_alone (consA (varF 4) nilA)) nilA)))))))
def f_sums : List D → Sto → R D := fnZ 9 b_sums
def b_is_share : SF :=
 (seqS (ifS (notT (truF (callF 1 f_is_fraction (consA (varF 0) nilA))))
 (retS (litF (.bl false)))
 passS)
 (seqS (asgS (varF 0) (tupG 2 (consG (nameG 1) (consG (nameG 2) nilG))))
 (retS (chainF (cmpI fun i j => decide (i < j)) (cmpI fun i j => decide (i < j)) (litF (.int 0)) (varF 1) (varF 2)))))
def f_is_share : List D → Sto → R D := fnF 3 b_is_share
def b_is_move : SF :=
 (seqS (ifS (orT (notT (truF (isiF isTup (varF 0)))) (boolF (op2F neD (opLF lenL (consA (varF 0) nilA)) (litF (.int 2)))))
 (retS (litF (.bl false)))
 passS)
 (seqS (asgS (varF 0) (tupG 2 (consG (nameG 3) (consG (nameG 4) nilG))))
 (seqS (ifS (orT (notT (truF (callF 1 f_is_whole (consA (varF 3) nilA)))) (notT (boolF (chainF (cmpI fun i j => decide (i < j)) (cmpI fun i j => decide (i < j)) (varF 1) (varF 3) (varF 2)))))
 (retS (litF (.bl false)))
 passS)
 (retS (andV (callF 1 f_is_fraction (consA (varF 4) nilA)) (op2F (cmpI fun i j => decide (j < i)) (op2F ixD (varF 4) (litF (.int 0))) (litF (.int 0))))))))
def f_is_move : List D → Sto → R D := fnF 5 b_is_move
def b_are_moves : SF :=
 (seqS (ifS (notT (truF (isiF isTup (varF 0))))
 (retS (litF (.bl false)))
 passS)
 (seqS (setS 2 (op1F negD (litF (.int 1))))
 (seqS (setS 3 (opLF tupL (consA (litF (.int 0)) (consA (litF (.int 1)) nilA))))
 (seqS (forS (seqI (varF 0)) (nameG 4)
 (seqS (ifS (notT (truF (callF 3 f_is_move (consA (varF 4) (consA (varF 2) (consA (varF 1) nilA))))))
 (retS (litF (.bl false)))
 passS)
 (seqS (asgS (varF 4) (tupG 2 (consG (nameG 2) (consG (nameG 5) nilG))))
 (setS 3 (callF 2 f_plus (consA (varF 3) (consA (varF 5) nilA)))))))
 (retS (op2F eqD (varF 3) (opLF tupL (consA (litF (.int 1)) (consA (litF (.int 1)) nilA)))))))))
def f_are_moves : List D → Sto → R D := fnF 6 b_are_moves
def b_is_row : SF :=
 (seqS (ifS (orT (notT (truF (isiF isTup (varF 0)))) (boolF (op2F neD (opLF lenL (consA (varF 0) nilA)) (litF (.int 2)))))
 (retS (litF (.bl false)))
 passS)
 (seqS (asgS (varF 0) (tupG 2 (consG (nameG 2) (consG (nameG 3) nilG))))
 (retS (andV (callF 1 f_is_fraction (consA (varF 2) nilA)) (callF 2 f_are_moves (consA (varF 3) (consA (varF 1) nilA)))))))
def f_is_row : List D → Sto → R D := fnF 4 b_is_row
def b_is_work : SF :=
 (seqS (ifS (orT (notT (truF (isiF isTup (varF 0)))) (notT (boolF (chainF (cmpI fun i j => decide (i ≤ j)) (cmpI fun i j => decide (i ≤ j)) (litF (.int 1)) (opLF lenL (consA (varF 0) nilA)) (litF (.int 6))))))
 (retS (litF (.bl false)))
 passS)
 (seqS (setS 1 (opLF lenL (consA (varF 0) nilA)))
 (retS (allF [2] (nameG 2) (callF 2 f_is_row (consA (varF 2) (consA (varF 1) nilA))) (seqI (varF 0))))))
def f_is_work : List D → Sto → R D := fnF 3 b_is_work
def b_is_state : SF :=
 (retS (andV (callF 1 f_is_whole (consA (varF 1) nilA)) (chainF (cmpI fun i j => decide (i ≤ j)) (cmpI fun i j => decide (i < j)) (litF (.int 0)) (varF 1) (opLF lenL (consA (varF 0) nilA)))))
def f_is_state : List D → Sto → R D := fnF 2 b_is_state
def b_are_states : SF :=
 (seqS (ifS (notT (truF (isiF isTup (varF 1))))
 (retS (litF (.bl false)))
 passS)
 (seqS (setS 2 (op1F negD (litF (.int 1))))
 (seqS (forS (seqI (varF 1)) (nameG 3)
 (seqS (ifS (orT (notT (truF (callF 2 f_is_state (consA (varF 0) (consA (varF 3) nilA))))) (boolF (op2F (cmpI fun i j => decide (i ≤ j)) (varF 3) (varF 2))))
 (retS (litF (.bl false)))
 passS)
 (setS 2 (varF 3))))
 (retS (litF (.bl true))))))
def f_are_states : List D → Sto → R D := fnF 4 b_are_states
def b_need_work : SF :=
 (ifS (notT (truF (callF 1 f_is_work (consA (varF 0) nilA))))
 (raiseS 4)
 passS)
def f_need_work : List D → Sto → R D := fnF 1 b_need_work
def b_need_share : SF :=
 (ifS (notT (truF (callF 1 f_is_share (consA (varF 0) nilA))))
 (raiseS 1)
 passS)
def f_need_share : List D → Sto → R D := fnF 1 b_need_share
def b_need_state : SF :=
 (ifS (notT (truF (callF 2 f_is_state (consA (varF 0) (consA (varF 1) nilA)))))
 (raiseS 2)
 passS)
def f_need_state : List D → Sto → R D := fnF 2 b_need_state
def b_need_states : SF :=
 (ifS (notT (truF (callF 2 f_are_states (consA (varF 0) (consA (varF 1) nilA)))))
 (raiseS 3)
 passS)
def f_need_states : List D → Sto → R D := fnF 2 b_need_states
def b_going_on : SF :=
 (seqS (setS 4 (lcF [5, 6] (tupG 2 (consG (nameG 5) (consG (nameG 6) nilG))) yesT (lcF [7] (nameG 7) (boolF (op2F (inQD false) (op2F ixD (varF 7) (litF (.int 0))) (varF 3))) (varF 7) (seqI (varF 6))) (seqI (varF 0))))
 (retS (callF 3 f_sums (consA (varF 1) (consA (varF 2) (consA (varF 4) nilA))))))
def f_going_on : List D → Sto → R D := fnF 8 b_going_on
def b_all_spent : SF :=
 (seqS (setS 3 (callF 4 f_going_on (consA (varF 0) (consA (varF 1) (consA (lcF [5, 6] (tupG 2 (consG (nameG 5) (consG (nameG 6) nilG))) yesT (varF 5) (seqI (varF 0))) (consA (varF 2) nilA))))))
 (seqS (setS 4 (callF 4 f_going_on (consA (varF 0) (consA (varF 1) (consA (op2F mulD (opLF lstL (consA (opLF tupL (consA (litF (.int 1)) (consA (litF (.int 1)) nilA))) nilA)) (opLF lenL (consA (varF 0) nilA))) (consA (varF 2) nilA))))))
 (retS (lzipF (consA (varF 3) (consA (varF 4) nilA))))))
def f_all_spent : List D → Sto → R D := fnF 7 b_all_spent
def b_spent : SF :=
 (seqS (exprS (callF 1 f_need_work (consA (varF 0) nilA)))
 (seqS (exprS (callF 1 f_need_share (consA (varF 1) nilA)))
 (seqS (exprS (callF 2 f_need_state (consA (varF 0) (consA (varF 2) nilA))))
 (seqS (exprS (callF 2 f_need_states (consA (varF 0) (consA (varF 3) nilA))))
 (retS (op2F ixD (callF 3 f_all_spent (consA (varF 0) (consA (varF 1) (consA (varF 3) nilA)))) (varF 2)))))))
def f_spent : List D → Sto → R D := fnF 4 b_spent
def b_groups : SF :=
 (seqS (setS 2 (opLF celL nilA))
 (seqS (setS 3 (opLF lstL nilA))
 (seqS (whileS bigFuel (boolF (op2F (cmpI fun i j => decide (i < j)) (opLF lenL (consA (varF 3) nilA)) (opLF lenL (consA (varF 0) nilA))))
 (seqS (setS 4 (lcF [8, 9] (tupG 2 (consG (nameG 8) (consG (nameG 9) nilG))) yesT (callF 2 f_over (consA (varF 8) (consA (varF 9) nilA))) (seqI (callF 3 f_all_spent (consA (varF 0) (consA (varF 1) (consA (varF 3) nilA)))))))
 (seqS (setS 5 (lcF [10] (nameG 10) (boolF (op2F (inQD true) (varF 10) (varF 3))) (varF 10) (rng1I (consA (opLF lenL (consA (varF 0) nilA)) nilA))))
 (seqS (setS 6 (callF 1 f_greatest (consA (lcF [10] (nameG 10) yesT (op2F ixD (varF 4) (varF 10)) (seqI (varF 5))) nilA)))
 (seqS (setS 7 (lcF [10] (nameG 10) (boolF (op2F eqD (op2F ixD (varF 4) (varF 10)) (varF 6))) (varF 10) (seqI (varF 5))))
 (seqS (exprS (methF appM (varF 2) (consA (opLF tupL (consA (varF 6) (consA (varF 7) nilA))) nilA)))
 (setS 3 (op2F addD (varF 3) (varF 7)))))))))
 (retS (varF 2)))))
def f_groups : List D → Sto → R D := fnZ 11 b_groups
def b_numbers : SF :=
 (seqS (exprS (callF 1 f_need_work (consA (varF 0) nilA)))
 (seqS (exprS (callF 1 f_need_share (consA (varF 1) nilA)))
 (seqS (setS 2 (op2F mulC (opLF lstL (consA (opLF tupL (consA (litF (.int 0)) (consA (litF (.int 1)) nilA))) nilA)) (opLF lenL (consA (varF 0) nilA))))
 (seqS (forS (seqI (callF 2 f_groups (consA (varF 0) (consA (varF 1) nilA)))) (tupG 2 (consG (nameG 3) (consG (nameG 4) nilG)))
 (forS (seqI (varF 4)) (nameG 5)
 (subS (varF 3) (varF 2) (varF 5))))
 (retS (opLF tupleL (consA (varF 2) nilA)))))))
def f_numbers : List D → Sto → R D := fnZ 6 b_numbers
def b_law_spread : SF :=
 (seqS (ifS (boolF (op2F (cmpI fun i j => decide (j ≤ i)) (varF 0) (op2F powD (litF (.int 10)) (litF (.int 18)))))
 (retS (varF 0))
 passS)
 (seqS (setS 2 (opLF lstL (consA (litF (.int 2147483629)) (consA (litF (.int 2147483587)) (consA (litF (.int 2147483579)) (consA (litF (.int 2147483563)) (consA (litF (.int 2147483549)) (consA (litF (.int 2147483543)) (consA (litF (.int 2147483497)) nilA)))))))))
 (seqS (setS 2 (op2F addD (varF 2) (opLF lstL (consA (litF (.int 2147483489)) (consA (litF (.int 2147483477)) (consA (litF (.int 2147483423)) (consA (litF (.int 2147483399)) (consA (litF (.int 2147483353)) (consA (litF (.int 2147483323)) nilA)))))))))
 (seqS (setS 3 (op2F addD (op2F addD (op2F mulD (op2F modD (opLF intL (consA (varF 0) nilA)) (litF (.int 1000000007))) (op2F addD (op2F mulD (litF (.int 2)) (varF 1)) (litF (.int 69069)))) (op2F mulD (varF 1) (litF (.int 40503)))) (litF (.int 977))))
 (seqS (setS 4 (op2F modD (opLF intL (consA (op2F powD (varF 3) (litF (.int 3))) nilA)) (op2F ixD (varF 2) (op2F modD (opLF intL (consA (varF 1) nilA)) (litF (.int 13))))))
 (seqS (setS 5 (op2F addD (op2F modD (opLF intL (consA (varF 0) nilA)) (litF (.int 65537))) (litF (.int 5))))
 (seqS (setS 6 (op2F modD (opLF intL (consA (op2F powD (op2F addD (op2F mulD (varF 4) (op2F addD (varF 1) (litF (.int 3)))) (varF 5)) (litF (.int 5))) nilA)) (op2F ixD (varF 2) (op2F modD (opLF intL (consA (op2F addD (varF 1) (litF (.int 5))) nilA)) (litF (.int 13))))))
 (seqS (setS 7 (op2F modD (opLF intL (consA (op2F powD (op2F addD (op2F addD (varF 6) (op2F modD (opLF intL (consA (varF 4) nilA)) (litF (.int 1009)))) (varF 1)) (litF (.int 3))) nilA)) (op2F ixD (varF 2) (op2F modD (opLF intL (consA (op2F addD (varF 1) (litF (.int 7))) nilA)) (litF (.int 13))))))
 (retS (op2F addD (op2F mulD (op2F addD (op2F mulD (varF 4) (litF (.int 2147483647))) (varF 6)) (litF (.int 2147483647))) (varF 7)))))))))))
def f_law_spread : List D → Sto → R D := fnF 8 b_law_spread
def b_law_open : SF :=
 (seqS (setS 1 (opLF listCL (consA (slF (varF 0) noP (someP (litF (.int 12)))) nilA)))
 (seqS (forS (enumI (consA (slF (varF 0) (someP (litF (.int 12))) (someP (litF (.int 63)))) nilA)) (tupG 2 (consG (nameG 2) (consG (nameG 3) nilG)))
 (subS (op2F addD (op2F ixD (varF 1) (op2F modD (opLF intL (consA (varF 2) nilA)) (litF (.int 12)))) (varF 3)) (varF 1) (op2F modD (opLF intL (consA (varF 2) nilA)) (litF (.int 12)))))
 (retS (opLF celL (consA (varF 1) (consA (litF (.int 0)) (consA (litF (.int 0)) nilA)))))))
def f_law_open : List D → Sto → R D := fnF 4 b_law_open
def b_law_take : SF :=
 (seqS (ifS (boolF (op2F (cmpI fun i j => decide (i < j)) (op2F ixD (varF 0) (litF (.int 2))) (varF 1)))
 (seqS (setS 3 (op2F ixD (varF 0) (litF (.int 1))))
 (seqS (setS 4 (litF (.int 0)))
 (seqS (ifS (boolF (op2F (cmpI fun i j => decide (i < j)) (varF 3) (opLF lenL (consA (op2F ixD (varF 0) (litF (.int 0))) nilA))))
 (setS 4 (op2F ixD (op2F ixD (varF 0) (litF (.int 0))) (varF 3)))
 (ifS (boolF (op2F (cmpI fun i j => decide (j < i)) (opLF lenL (consA (op2F ixD (varF 0) (litF (.int 0))) nilA)) (litF (.int 0))))
 (setS 4 (op2F modD (opLF intL (consA (op2F ixD (op2F ixD (varF 0) (litF (.int 0))) (op2F modD (opLF intL (consA (op2F addD (op2F mulD (varF 3) (litF (.int 5))) (litF (.int 3))) nilA)) (opLF lenL (consA (op2F ixD (varF 0) (litF (.int 0))) nilA)))) nilA)) (op2F addD (op2F powD (litF (.int 10)) (litF (.int 17))) (varF 3))))
 passS))
 (seqS (subS (op2F addD (varF 3) (litF (.int 1))) (varF 0) (litF (.int 1)))
 (subS (callF 2 f_law_spread (consA (varF 4) (consA (varF 3) nilA))) (varF 0) (litF (.int 2)))))))
 passS)
 (seqS (setS 2 (op2F modD (opLF intL (consA (op2F ixD (varF 0) (litF (.int 2))) nilA)) (varF 1)))
 (seqS (subS (op2F fdivD (op2F ixD (varF 0) (litF (.int 2))) (varF 1)) (varF 0) (litF (.int 2)))
 (retS (varF 2)))))
def f_law_take : List D → Sto → R D := fnF 5 b_law_take
def b_law_anew : SF :=
 (seqS (subS (litF (.int 0)) (varF 0) (litF (.int 2)))
 (retS (varF 0)))
def f_law_anew : List D → Sto → R D := fnF 1 b_law_anew
def b_law_one : SF :=
 (retS (op2F ixD (varF 1) (callF 2 f_law_take (consA (varF 0) (consA (opLF lenL (consA (varF 1) nilA)) nilA)))))
def f_law_one : List D → Sto → R D := fnF 2 b_law_one
def b_law_divisor : SF :=
 (seqS (parS 0 1 (consA (opLF absL (consA (varF 0) nilA)) (consA (opLF absL (consA (varF 1) nilA)) nilA)))
 (seqS (whileS bigFuel (boolF (op2F (cmpI fun i j => decide (j < i)) (varF 1) (litF (.int 0))))
 (parS 0 1 (consA (varF 1) (consA (op2F modD (opLF intL (consA (varF 0) nilA)) (varF 1)) nilA))))
 (retS (varF 0))))
def f_law_divisor : List D → Sto → R D := fnF 2 b_law_divisor
def b_law_frac : SF :=
 (seqS (setS 2 (callF 2 f_law_divisor (consA (varF 0) (consA (varF 1) nilA))))
 (seqS (ifS (boolF (op2F (cmpI fun i j => decide (i < j)) (varF 1) (litF (.int 0))))
 (setS 2 (op1F negD (varF 2)))
 passS)
 (retS (opLF tupL (consA (op2F fdivD (varF 0) (varF 2)) (consA (op2F fdivD (varF 1) (varF 2)) nilA))))))
def f_law_frac : List D → Sto → R D := fnF 3 b_law_frac
def b_law_add : SF :=
 (retS (callF 2 f_law_frac (consA (op2F addD (op2F mulD (op2F ixD (varF 0) (litF (.int 0))) (op2F ixD (varF 1) (litF (.int 1)))) (op2F mulD (op2F ixD (varF 1) (litF (.int 0))) (op2F ixD (varF 0) (litF (.int 1))))) (consA (op2F mulD (op2F ixD (varF 0) (litF (.int 1))) (op2F ixD (varF 1) (litF (.int 1)))) nilA))))
def f_law_add : List D → Sto → R D := fnF 2 b_law_add
def b_law_mul : SF :=
 (retS (callF 2 f_law_frac (consA (op2F mulD (op2F ixD (varF 0) (litF (.int 0))) (op2F ixD (varF 1) (litF (.int 0)))) (consA (op2F mulD (op2F ixD (varF 0) (litF (.int 1))) (op2F ixD (varF 1) (litF (.int 1)))) nilA))))
def f_law_mul : List D → Sto → R D := fnF 2 b_law_mul
def b_law_is_less : SF :=
 (retS (op2F (cmpI fun i j => decide (i < j)) (op2F mulD (op2F ixD (varF 0) (litF (.int 0))) (op2F ixD (varF 1) (litF (.int 1)))) (op2F mulD (op2F ixD (varF 1) (litF (.int 0))) (op2F ixD (varF 0) (litF (.int 1))))))
def f_law_is_less : List D → Sto → R D := fnF 2 b_law_is_less
def b_law_drawn_frac : SF :=
 (seqS (setS 2 (op2F subD (callF 2 f_law_take (consA (varF 0) (consA (op2F addD (op2F mulD (litF (.int 2)) (varF 1)) (litF (.int 1))) nilA))) (varF 1)))
 (retS (callF 2 f_law_frac (consA (varF 2) (consA (callF 2 f_law_one (consA (varF 0) (consA (opLF lstL (consA (litF (.int 1)) (consA (litF (.int 1)) (consA (litF (.int 1)) (consA (litF (.int 2)) (consA (litF (.int 3)) (consA (litF (.int 5)) nilA))))))) nilA))) nilA)))))
def f_law_drawn_frac : List D → Sto → R D := fnF 3 b_law_drawn_frac
def b_law_drawn_share : SF :=
 (retS (callF 2 f_law_one (consA (varF 0) (consA (opLF lstL (consA (opLF tupL (consA (litF (.int 1)) (consA (litF (.int 2)) nilA))) (consA (opLF tupL (consA (litF (.int 1)) (consA (litF (.int 2)) nilA))) (consA (opLF tupL (consA (litF (.int 2)) (consA (litF (.int 3)) nilA))) (consA (opLF tupL (consA (litF (.int 1)) (consA (litF (.int 3)) nilA))) (consA (opLF tupL (consA (litF (.int 3)) (consA (litF (.int 4)) nilA))) (consA (opLF tupL (consA (litF (.int 9)) (consA (litF (.int 10)) nilA))) (consA (opLF tupL (consA (litF (.int 1)) (consA (litF (.int 10)) nilA))) (consA (opLF tupL (consA (litF (.int 3)) (consA (litF (.int 5)) nilA))) nilA))))))))) nilA))))
def f_law_drawn_share : List D → Sto → R D := fnF 1 b_law_drawn_share
def b_law_drawn_work : SF :=
 (seqS (setS 3 (opLF celL nilA))
 (seqS (forS (rng1I (consA (varF 1) nilA)) (nameG 4)
 (seqS (setS 5 (opLF celL nilA))
 (seqS (forS (rng1I (consA (op2F addD (litF (.int 1)) (callF 2 f_law_take (consA (varF 0) (consA (varF 2) nilA)))) nilA)) (nameG 6)
 (exprS (methF appM (varF 5) (consA (callF 2 f_law_one (consA (varF 0) (consA (opLF lstL (consA (op2F modD (opLF intL (consA (op2F addD (varF 4) (litF (.int 1))) nilA)) (varF 1)) (consA (callF 2 f_law_take (consA (varF 0) (consA (varF 1) nilA))) (consA (varF 4) nilA)))) nilA))) nilA))))
 (seqS (setS 5 (opLF sortSL (consA (varF 5) nilA)))
 (seqS (setS 7 (lcF [9] (nameG 9) yesT (callF 2 f_law_one (consA (varF 0) (consA (opLF lstL (consA (litF (.int 1)) (consA (litF (.int 1)) (consA (litF (.int 2)) (consA (litF (.int 3)) nilA))))) nilA))) (seqI (varF 5))))
 (seqS (setS 8 (lcF [9, 10] (tupG 2 (consG (nameG 9) (consG (nameG 10) nilG))) yesT (opLF tupL (consA (varF 9) (consA (callF 2 f_law_frac (consA (varF 10) (consA (opLF sumL (consA (varF 7) nilA)) nilA))) nilA))) (zipI (consA (varF 5) (consA (varF 7) nilA)))))
 (exprS (methF appM (varF 3) (consA (opLF tupL (consA (callF 2 f_law_drawn_frac (consA (varF 0) (consA (litF (.int 6)) nilA))) (consA (opLF tupleL (consA (varF 8) nilA)) nilA))) nilA)))))))))
 (retS (opLF tupleL (consA (varF 3) nilA)))))
def f_law_drawn_work : List D → Sto → R D := fnF 11 b_law_drawn_work
def b_law_subsets : SF :=
 (seqS (setS 1 (opLF lstL (consA (opLF tupL nilA) nilA)))
 (seqS (forS (rng1I (consA (varF 0) nilA)) (nameG 2)
 (setS 1 (op2F addD (varF 1) (lcF [3] (nameG 3) yesT (op2F addD (varF 3) (opLF tupL (consA (varF 2) nilA))) (seqI (varF 1))))))
 (retS (varF 1))))
def f_law_subsets : List D → Sto → R D := fnF 4 b_law_subsets
def b_law_by_steps : SF :=
 (seqS (setS 3 (lcF [8] (nameG 8) yesT (callF 4 f_spent (consA (varF 0) (consA (varF 1) (consA (varF 8) (consA (op2F ixD (varF 2) (op1F negD (litF (.int 1)))) nilA))))) (rng1I (consA (opLF lenL (consA (varF 0) nilA)) nilA))))
 (seqS (forS (seqI (revLF (slF (varF 2) noP (someP (op1F negD (litF (.int 1))))))) (nameG 4)
 (seqS (setS 5 (opLF celL nilA))
 (seqS (forS (seqI (varF 0)) (tupG 2 (consG (nameG 6) (consG (nameG 7) nilG)))
 (seqS (setS 9 (opLF tupL (consA (litF (.int 1)) (consA (litF (.int 1)) nilA))))
 (seqS (forS (seqI (varF 7)) (tupG 2 (consG (nameG 10) (consG (nameG 11) nilG)))
 (ifS (boolF (op2F (inQD false) (varF 10) (varF 4)))
 (seqS (setS 12 (callF 2 f_law_mul (consA (varF 1) (consA (varF 11) nilA))))
 (seqS (setS 6 (callF 2 f_law_add (consA (varF 6) (consA (callF 2 f_law_mul (consA (varF 12) (consA (op2F ixD (op2F ixD (varF 3) (varF 10)) (litF (.int 0))) nilA))) nilA))))
 (setS 9 (callF 2 f_law_add (consA (varF 9) (consA (callF 2 f_law_mul (consA (varF 12) (consA (op2F ixD (op2F ixD (varF 3) (varF 10)) (litF (.int 1))) nilA))) nilA))))))
 passS))
 (exprS (methF appM (varF 5) (consA (opLF tupL (consA (varF 6) (consA (varF 9) nilA))) nilA))))))
 (setS 3 (varF 5)))))
 (retS (varF 3))))
def f_law_by_steps : List D → Sto → R D := fnZ 13 b_law_by_steps
def b_law : SF :=
 (seqS (setS 1 (callF 1 f_law_open (consA (varF 0) nilA)))
 (seqS (forS (rng1I (consA (litF (.int 2)) nilA)) (nameG 2)
 (seqS (parS 3 4 (consA (op2F addD (litF (.int 1)) (callF 2 f_law_take (consA (varF 1) (consA (litF (.int 4)) nilA)))) (consA (callF 1 f_law_drawn_share (consA (varF 1) nilA)) nilA)))
 (seqS (setS 5 (callF 3 f_law_drawn_work (consA (callF 1 f_law_anew (consA (varF 1) nilA)) (consA (varF 3) (consA (litF (.int 3)) nilA)))))
 (seqS (asgS (opLF tupL (consA (callF 2 f_numbers (consA (varF 5) (consA (varF 4) nilA))) (consA (callF 1 f_law_subsets (consA (varF 3) nilA)) nilA))) (tupG 2 (consG (nameG 6) (consG (nameG 7) nilG))))
 (seqS (forS (rng1I (consA (litF (.int 4)) nilA)) (nameG 8)
 (seqS (setS 10 (lcF [14] (nameG 14) yesT (callF 2 f_law_one (consA (varF 1) (consA (varF 7) nilA))) (rng1I (consA (op2F addD (litF (.int 1)) (callF 2 f_law_take (consA (varF 1) (consA (litF (.int 6)) nilA)))) nilA))))
 (forS (enumI (consA (callF 3 f_law_by_steps (consA (varF 5) (consA (varF 4) (consA (varF 10) nilA)))) nilA)) (tupG 2 (consG (nameG 9) (consG (tupG 2 (consG (nameG 11) (consG (nameG 12) nilG))) nilG)))
 (ifS (truF (callF 2 f_law_is_less (consA (callF 2 f_law_mul (consA (op2F ixD (varF 6) (varF 9)) (consA (varF 12) nilA))) (consA (varF 11) nilA))))
 (retS (litF (.bl false)))
 passS))))
 (forS (rng1I (consA (varF 3) nilA)) (nameG 9)
 (seqS (setS 13 (opLF tupleL (consA (lcF [15] (nameG 15) (truF (callF 2 f_law_is_less (consA (op2F ixD (varF 6) (varF 9)) (consA (op2F ixD (varF 6) (varF 15)) nilA)))) (varF 15) (rng1I (consA (varF 3) nilA))) nilA)))
 (seqS (asgS (op2F ixD (callF 3 f_law_by_steps (consA (varF 5) (consA (varF 4) (consA (op2F mulD (opLF lstL (consA (varF 13) nilA)) (op2F addD (litF (.int 1)) (callF 2 f_law_take (consA (varF 1) (consA (litF (.int 4)) nilA))))) nilA)))) (varF 9)) (tupG 2 (consG (nameG 11) (consG (nameG 12) nilG))))
 (ifS (boolF (op2F neD (varF 11) (callF 2 f_law_mul (consA (op2F ixD (varF 6) (varF 9)) (consA (varF 12) nilA)))))
 (retS (litF (.bl false)))
 passS)))))))))
 (retS (litF (.bl true)))))
def f_law : List D → Sto → R D := fnF 16 b_law
end Lw

namespace Lw
open PySem PySem.Spec PyProof.Rows L2 Ev
def top (i : Nat) : Stmt := PySem.Challenge.pw_nextwork_k13_whole_no_way_of_stopping_be.main.body.getD i (.Pass ⟨0, 0, 0, 0⟩)
structure Txt [Tabs] (w : World) (K : PySem.W.Frag) (mg : Str → Option Value) (xm : List Addr) : Prop where
  wd : Tabs.wd = some w
  n_abs : mg "abs" = none
  n_all : mg "all" = none
  n_bool : mg "bool" = none
  n_enumerate : mg "enumerate" = none
  n_int : mg "int" = none
  n_isinstance : mg "isinstance" = none
  n_len : mg "len" = none
  n_list : mg "list" = none
  n_range : mg "range" = none
  n_set : mg "set" = none
  n_sorted : mg "sorted" = none
  n_sum : mg "sum" = none
  n_tuple : mg "tuple" = none
  n_zip : mg "zip" = none
  m_gcd : mg "gcd" = some (.builtin "math.gcd")
  m_lcm : mg "lcm" = some (.builtin "math.lcm")
  x_NoFraction : ExAt K mg xm "NoFraction" 0
  x_NoShare : ExAt K mg xm "NoShare" 1
  x_NoState : ExAt K mg xm "NoState" 2
  x_NoStates : ExAt K mg xm "NoStates" 3
  x_NoWork : ExAt K mg xm "NoWork" 4
  k_MOST_STATES : ∃ u, mg "MOST_STATES" = some u ∧ RelV (.int 6) u
section
variable [Tabs] {P : Program} {w : World} {K : PySem.W.Frag} {mg : Str → Option Value} {base : Heap} {xm : List Addr}
abbrev s_is_whole : Stmt := top 9
theorem sc_is_whole : FnScope ["value"] ["value"] (defScope s_is_whole) := ⟨rfl, rfl, rfl, by decide +kernel, rfl, by decide +kernel, by decide +kernel⟩
theorem ok_is_whole {f : Addr} {fd : FuncData} (F : Fun K "is_whole" "is_whole" s_is_whole f fd) (T : Txt w K mg xm) : FnG P w K mg base 1 f fd ["value"] (spF K xm f_is_whole 1) :=
  FnG.by T.wd (g := b_is_whole) F sc_is_whole rfl rfl fun cdv A outer s H E G =>
 (sl_one (ss_ret (sn_and (sn_isi G kit_int (sn_var 0) (by rfl) T.n_isinstance (by rfl) T.n_int bt_int) (sn_one (sn_not (sn_isi G kit_bool (sn_var 0) (by rfl) T.n_isinstance (by rfl) T.n_bool bt_bool))))))
abbrev s_is_fraction : Stmt := top 10
theorem sc_is_fraction : FnScope ["value", "top", "bottom"] ["value"] (defScope s_is_fraction) := ⟨rfl, rfl, rfl, by decide +kernel, rfl, by decide +kernel, by decide +kernel⟩
theorem ok_is_fraction {f : Addr} {fd : FuncData} (F : Fun K "is_fraction" "is_fraction" s_is_fraction f fd) (T : Txt w K mg xm) (d_is_whole : DefAt P w K mg base xm 1 "is_whole" ["value"] f_is_whole) : FnG P w K mg base 2 f fd ["value"] (spF K xm f_is_fraction 1) :=
  FnG.by T.wd (g := b_is_fraction) F sc_is_fraction rfl rfl fun cdv A outer s H E G =>
 (sl_cons (ss_if (PW.pt (sw_or (st_not (st_truth (sn_isi G kit_tup (sn_var 0) (by rfl) T.n_isinstance (by rfl) T.n_tuple bt_tuple))) (sw_or1 (st_cmp (or_ne G.rm) (sn_bi cl_len (by rfl) T.n_len bt_len (sa_cons (sn_var 0) sa_nil)) sn_int))))
 (sl_one (ss_ret sn_bl))
 sl_nil)
 (sl_cons (ss_asg (S := [0, 1, 2]) (sn_var 0) (sg_tup G (sg_cons (sg_name G.nd 1) (sg_cons (sg_name G.nd 2) sg_nil))))
 (sl_cons (ss_if (PW.pt (sw_or (st_not (st_truth (sn_call d_is_whole G (sa_cons (sn_var 1) sa_nil)))) (sw_or1 (st_not (st_truth (sn_call d_is_whole G (sa_cons (sn_var 2) sa_nil)))))))
 (sl_one (ss_ret sn_bl))
 sl_nil)
 (sl_one (ss_ret (sn_and (sn_cmp or_ge (sn_var 2) sn_int) (sn_one (sn_cmp (or_eq G.rm) (sn_bf cl_gcd (by rfl) T.m_gcd (sa_cons (sn_var 1) (sa_cons (sn_var 2) sa_nil))) sn_int))))))))
abbrev s_need_fraction : Stmt := top 11
theorem sc_need_fraction : FnScope ["value"] ["value"] (defScope s_need_fraction) := ⟨rfl, rfl, rfl, by decide +kernel, rfl, by decide +kernel, by decide +kernel⟩
theorem ok_need_fraction {f : Addr} {fd : FuncData} (F : Fun K "need_fraction" "need_fraction" s_need_fraction f fd) (T : Txt w K mg xm) (d_is_fraction : DefAt P w K mg base xm 2 "is_fraction" ["value"] f_is_fraction) : FnG P w K mg base 3 f fd ["value"] (spF K xm f_need_fraction 1) :=
  FnG.by T.wd (g := b_need_fraction) F sc_need_fraction rfl rfl fun cdv A outer s H E G =>
 (sl_one (ss_if (st_not (st_truth (sn_call d_is_fraction G (sa_cons (sn_var 0) sa_nil))))
 (sl_one (ss_raise T.x_NoFraction G))
 sl_nil))
abbrev s_fraction : Stmt := top 12
theorem sc_fraction : FnScope ["top", "bottom", "common"] ["top", "bottom"] (defScope s_fraction) := ⟨rfl, rfl, rfl, by decide +kernel, rfl, by decide +kernel, by decide +kernel⟩
theorem ok_fraction {f : Addr} {fd : FuncData} (F : Fun K "fraction" "fraction" s_fraction f fd) (T : Txt w K mg xm) (d_is_whole : DefAt P w K mg base xm 1 "is_whole" ["value"] f_is_whole) : FnG P w K mg base 2 f fd ["top", "bottom"] (spF K xm f_fraction 2) :=
  FnG.by T.wd (g := b_fraction) F sc_fraction rfl rfl fun cdv A outer s H E G =>
 (sl_cons (ss_if (PW.pt (sw_or (st_not (st_truth (sn_call d_is_whole G (sa_cons (sn_var 0) sa_nil)))) (sw_or1 (st_not (st_truth (sn_call d_is_whole G (sa_cons (sn_var 1) sa_nil)))))))
 (sl_one (ss_raise T.x_NoFraction G))
 sl_nil)
 (sl_cons (ss_if (st_cmp (or_eq G.rm) (sn_var 1) sn_int)
 (sl_one (ss_raise T.x_NoFraction G))
 sl_nil)
 (sl_cons (ss_set G.nd 2 (sn_bf cl_gcd (by rfl) T.m_gcd (sa_cons (sn_var 0) (sa_cons (sn_var 1) sa_nil))))
 (sl_cons (ss_if (st_cmp or_lt (sn_var 1) sn_int)
 (sl_one (ss_set G.nd 2 (sn_op1 un_negD (sn_var 2))))
 sl_nil)
 (sl_one (ss_ret (sn_tup (sa_cons (sn_op2 or_fdiv (sn_var 0) (sn_var 2)) (sa_cons (sn_op2 or_fdiv (sn_var 1) (sn_var 2)) sa_nil)))))))))
abbrev s_plus : Stmt := top 13
theorem sc_plus : FnScope ["one", "other"] ["one", "other"] (defScope s_plus) := ⟨rfl, rfl, rfl, by decide +kernel, rfl, by decide +kernel, by decide +kernel⟩
theorem ok_plus {f : Addr} {fd : FuncData} (F : Fun K "plus" "plus" s_plus f fd) (T : Txt w K mg xm) (d_need_fraction : DefAt P w K mg base xm 3 "need_fraction" ["value"] f_need_fraction) (d_fraction : DefAt P w K mg base xm 2 "fraction" ["top", "bottom"] f_fraction) : FnG P w K mg base 4 f fd ["one", "other"] (spF K xm f_plus 2) :=
  FnG.by T.wd (g := b_plus) F sc_plus rfl rfl fun cdv A outer s H E G =>
 (sl_cons (ss_expr (sn_call d_need_fraction G (sa_cons (sn_var 0) sa_nil)))
 (sl_cons (ss_expr (sn_call d_need_fraction G (sa_cons (sn_var 1) sa_nil)))
 (sl_one (ss_ret (sn_call d_fraction G (sa_cons (sn_op2 or_add (sn_op2 or_mul (sn_ix (sn_var 0) sn_int) (sn_ix (sn_var 1) sn_int)) (sn_op2 or_mul (sn_ix (sn_var 1) sn_int) (sn_ix (sn_var 0) sn_int))) (sa_cons (sn_op2 or_mul (sn_ix (sn_var 0) sn_int) (sn_ix (sn_var 1) sn_int)) sa_nil)))))))
abbrev s_compare : Stmt := top 14
theorem sc_compare : FnScope ["one", "other", "left", "right"] ["one", "other"] (defScope s_compare) := ⟨rfl, rfl, rfl, by decide +kernel, rfl, by decide +kernel, by decide +kernel⟩
theorem ok_compare {f : Addr} {fd : FuncData} (F : Fun K "compare" "compare" s_compare f fd) (T : Txt w K mg xm) (d_need_fraction : DefAt P w K mg base xm 3 "need_fraction" ["value"] f_need_fraction) : FnG P w K mg base 4 f fd ["one", "other"] (spF K xm f_compare 2) :=
  FnG.by T.wd (g := b_compare) F sc_compare rfl rfl fun cdv A outer s H E G =>
 (sl_cons (ss_expr (sn_call d_need_fraction G (sa_cons (sn_var 0) sa_nil)))
 (sl_cons (ss_expr (sn_call d_need_fraction G (sa_cons (sn_var 1) sa_nil)))
 (sl_cons (ss_set G.nd 2 (sn_op2 or_mul (sn_ix (sn_var 0) sn_int) (sn_ix (sn_var 1) sn_int)))
 (sl_cons (ss_set G.nd 3 (sn_op2 or_mul (sn_ix (sn_var 1) sn_int) (sn_ix (sn_var 0) sn_int)))
 (sl_cons (ss_if (st_cmp or_lt (sn_var 2) (sn_var 3))
 (sl_one (ss_ret (sn_op1 un_negD sn_int)))
 sl_nil)
 (sl_cons (ss_if (st_cmp or_gt (sn_var 2) (sn_var 3))
 (sl_one (ss_ret sn_int))
 sl_nil)
 (sl_one (ss_ret sn_int))))))))
abbrev s_over : Stmt := top 15
theorem sc_over : FnScope ["one", "other"] ["one", "other"] (defScope s_over) := ⟨rfl, rfl, rfl, by decide +kernel, rfl, by decide +kernel, by decide +kernel⟩
theorem ok_over {f : Addr} {fd : FuncData} (F : Fun K "over" "over" s_over f fd) (T : Txt w K mg xm) (d_need_fraction : DefAt P w K mg base xm 3 "need_fraction" ["value"] f_need_fraction) (d_fraction : DefAt P w K mg base xm 2 "fraction" ["top", "bottom"] f_fraction) : FnG P w K mg base 4 f fd ["one", "other"] (spF K xm f_over 2) :=
  FnG.by T.wd (g := b_over) F sc_over rfl rfl fun cdv A outer s H E G =>
 (sl_cons (ss_expr (sn_call d_need_fraction G (sa_cons (sn_var 0) sa_nil)))
 (sl_cons (ss_expr (sn_call d_need_fraction G (sa_cons (sn_var 1) sa_nil)))
 (sl_one (ss_ret (sn_call d_fraction G (sa_cons (sn_op2 or_mul (sn_ix (sn_var 0) sn_int) (sn_ix (sn_var 1) sn_int)) (sa_cons (sn_op2 or_mul (sn_ix (sn_var 0) sn_int) (sn_ix (sn_var 1) sn_int)) sa_nil)))))))
abbrev s_greatest : Stmt := top 16
theorem sc_greatest : FnScope ["values", "most", "value"] ["values"] (defScope s_greatest) := ⟨rfl, rfl, rfl, by decide +kernel, rfl, by decide +kernel, by decide +kernel⟩
theorem ok_greatest {f : Addr} {fd : FuncData} (F : Fun K "greatest" "greatest" s_greatest f fd) (T : Txt w K mg xm) (d_compare : DefAt P w K mg base xm 4 "compare" ["one", "other"] f_compare) : FnG P w K mg base 5 f fd ["values"] (spF K xm f_greatest 1) :=
  FnG.by T.wd (g := b_greatest) F sc_greatest rfl rfl fun cdv A outer s H E G =>
 (sl_cons (ss_set G.nd 1 (sn_ix (sn_var 0) sn_int))
 (sl_cons (ss_for (S := [0, 1, 2]) G (si_seq (sn_var 0)) (sg_name G.nd 2)
 (sl_one (ss_if (st_cmp or_gt (sn_call d_compare G (sa_cons (sn_var 2) (sa_cons (sn_var 1) sa_nil))) sn_int)
 (sl_one (ss_set G.nd 1 (sn_var 2)))
 sl_nil)))
 (sl_one (ss_ret (sn_var 1)))))
abbrev s_common_bottom : Stmt := top 17
theorem sc_common_bottom : FnScope ["values", "common", "_", "bottom"] ["values"] (defScope s_common_bottom) := ⟨rfl, rfl, rfl, by decide +kernel, rfl, by decide +kernel, by decide +kernel⟩
theorem ok_common_bottom {f : Addr} {fd : FuncData} (F : Fun K "common_bottom" "common_bottom" s_common_bottom f fd) (T : Txt w K mg xm) : FnG P w K mg base 1 f fd ["values"] (spF K xm f_common_bottom 1) :=
  FnG.by T.wd (g := b_common_bottom) F sc_common_bottom rfl rfl fun cdv A outer s H E G =>
 (sl_cons (ss_set G.nd 1 sn_int)
 (sl_cons (ss_for (S := [0, 1, 2, 3]) G (si_seq (sn_var 0)) (sg_tup G (sg_cons (sg_name G.nd 2) (sg_cons (sg_name G.nd 3) sg_nil)))
 (sl_one (ss_set G.nd 1 (sn_bf cl_lcm (by rfl) T.m_lcm (sa_cons (sn_var 1) (sa_cons (sn_var 3) sa_nil))))))
 (sl_one (ss_ret (sn_var 1)))))
abbrev s_equation : Stmt := top 20
theorem sc_equation : FnScope ["share", "place", "pay", "moves", "many", "top", "bottom", "common", "row", "target", "chance", "_"] ["share", "place", "pay", "moves", "many"] (defScope s_equation) := ⟨rfl, rfl, rfl, by decide +kernel, rfl, by decide +kernel, by decide +kernel⟩
theorem ok_equation {f : Addr} {fd : FuncData} (F : Fun K "_equation" "_equation" s_equation f fd) (T : Txt w K mg xm) (d_common_bottom : DefAt P w K mg base xm 1 "common_bottom" ["values"] f_common_bottom) : FnG P w K mg base 2 f fd ["share", "place", "pay", "moves", "many"] (spF K xm f_equation 5) :=
  FnG.byZ T.wd (g := b_equation) F sc_equation rfl rfl fun cdv A outer s H E G =>
 (sl_cons (ss_asg (S := [0, 1, 2, 3, 4, 5, 6, 7, 8, 9, 10, 11]) (sn_var 0) (sg_tup G (sg_cons (sg_name G.nd 5) (sg_cons (sg_name G.nd 6) sg_nil))))
 (sl_cons (ss_set G.nd 7 (sn_call d_common_bottom G (sa_cons (sn_lc [("_", 11), ("chance", 10)] G (si_seq (sn_var 3)) (blkOk_by (by first | decide +kernel | rfl)) (fun _ _ _ _ _ G => (sg_tup G (sg_cons (sg_name G.nd 11) (sg_cons (sg_name G.nd 10) sg_nil)))) (fun _ _ _ _ _ G => st_yes) (fun _ _ _ _ _ G => (sn_var 10))) sa_nil)))
 (sl_cons (ss_set G.nd 8 (sn_op2 or_mulC (sn_lst (sa_cons sn_int sa_nil)) (sn_var 4)))
 (sl_cons (ss_sub (sn_op2 or_mul (sn_var 6) (sn_var 7)) (sn_var 8) (sn_var 1))
 (sl_cons (ss_for (S := [0, 1, 2, 3, 4, 5, 6, 7, 8, 9, 10, 11]) G (si_seq (sn_var 3)) (sg_tup G (sg_cons (sg_name G.nd 9) (sg_cons (sg_name G.nd 10) sg_nil)))
 (sl_one (ss_augSub (sn_var 8) (sn_var 9) (sn_op2 or_mul (sn_op2 or_mul (sn_var 5) (sn_ix (sn_var 10) sn_int)) (sn_op2 or_fdiv (sn_var 7) (sn_ix (sn_var 10) sn_int))) ip_subD)))
 (sl_cons (ss_expr (sn_meth PySem.F.plainAttrs_list PySem.F.slot_list_append PySem.F.type_list_append mr_append (sn_var 8) (sa_cons (sn_op2 or_mul (sn_op2 or_mul (sn_var 6) (sn_var 7)) (sn_var 2)) sa_nil)))
 (sl_one (ss_ret (sn_var 8)))))))))
abbrev s_without : Stmt := top 22
theorem sc_without : FnScope ["row", "chosen", "place", "before", "own", "factor", "here", "there"] ["row", "chosen", "place", "before"] (defScope s_without) := ⟨rfl, rfl, rfl, by decide +kernel, rfl, by decide +kernel, by decide +kernel⟩
theorem ok_without {f : Addr} {fd : FuncData} (F : Fun K "_without" "_without" s_without f fd) (T : Txt w K mg xm) : FnG P w K mg base 1 f fd ["row", "chosen", "place", "before"] (spF K xm f_without 4) :=
  FnG.byZ T.wd (g := b_without) F sc_without rfl rfl fun cdv A outer s H E G =>
 (sl_cons (ss_set G.nd 4 (sn_ix (sn_var 1) (sn_var 2)))
 (sl_cons (ss_set G.nd 5 (sn_ix (sn_var 0) (sn_var 2)))
 (sl_one (ss_ret (sn_lc [("here", 6), ("there", 7)] G (si_zip (by rfl) T.n_zip (sa_cons (sn_var 0) (sa_cons (sn_var 1) sa_nil))) (blkOk_by (by first | decide +kernel | rfl)) (fun _ _ _ _ _ G => (sg_tup G (sg_cons (sg_name G.nd 6) (sg_cons (sg_name G.nd 7) sg_nil)))) (fun _ _ _ _ _ G => st_yes) (fun _ _ _ _ _ G => (sn_op2 or_fdiv (sn_op2 or_sub (sn_op2 or_mul (sn_var 4) (sn_var 6)) (sn_op2 or_mul (sn_var 5) (sn_var 7))) (sn_var 3))))))))
abbrev s_each_alone : Stmt := top 21
theorem sc_each_alone : FnScope ["equations", "rows", "before", "place", "chosen", "at", "row"] ["equations"] (defScope s_each_alone) := ⟨rfl, rfl, rfl, by decide +kernel, rfl, by decide +kernel, by decide +kernel⟩
theorem ok_each_alone {f : Addr} {fd : FuncData} (F : Fun K "_each_alone" "_each_alone" s_each_alone f fd) (T : Txt w K mg xm) (d_without : DefAt P w K mg base xm 1 "_without" ["row", "chosen", "place", "before"] f_without) : FnG P w K mg base 2 f fd ["equations"] (spF K xm f_each_alone 1) :=
  FnG.byZ T.wd (g := b_each_alone) F sc_each_alone rfl rfl fun cdv A outer s H E G =>
 (sl_cons (ss_set G.nd 1 (sn_var 0))
 (sl_cons (ss_set G.nd 2 sn_int)
 (sl_cons (ss_for (S := [0, 1, 2, 3, 4, 5, 6]) G (si_rng1 (by rfl) T.n_range (sa_cons (sn_bi cl_len (by rfl) T.n_len bt_len (sa_cons (sn_var 0) sa_nil)) sa_nil)) (sg_name G.nd 3)
 (sl_cons (ss_set G.nd 4 (sn_ix (sn_var 1) (sn_var 3)))
 (sl_cons (ss_setLc [("at", 5), ("row", 6)] G 1 (si_enumA (by rfl) T.n_enumerate (sa_cons (sn_var 1) sa_nil)) (blkOk_by (by first | decide +kernel | rfl)) (fun _ _ _ _ _ G => (sg_tup G (sg_cons (sg_name G.nd 5) (sg_cons (sg_name G.nd 6) sg_nil)))) (fun _ _ _ _ _ G => st_yes) (fun _ _ _ _ _ G => (sn_ife (st_cmp (or_eq G.rm) (sn_var 5) (sn_var 3)) (sn_var 4) (sn_call d_without G (sa_cons (sn_var 6) (sa_cons (sn_var 4) (sa_cons (sn_var 3) (sa_cons (sn_var 2) sa_nil))))))))
 (sl_one (ss_set G.nd 2 (sn_ix (sn_var 4) (sn_var 3)))))))
 (sl_one (ss_ret (sn_var 1))))))
abbrev s_sums : Stmt := top 19
theorem sc_sums : FnScope ["share", "pays", "moves", "common", "equations", "place", "top", "bottom", "row"] ["share", "pays", "moves"] (defScope s_sums) := ⟨rfl, rfl, rfl, by decide +kernel, rfl, by decide +kernel, by decide +kernel⟩
theorem ok_sums {f : Addr} {fd : FuncData} (F : Fun K "sums" "sums" s_sums f fd) (T : Txt w K mg xm) (d_fraction : DefAt P w K mg base xm 2 "fraction" ["top", "bottom"] f_fraction) (d_common_bottom : DefAt P w K mg base xm 1 "common_bottom" ["values"] f_common_bottom) (d_equation : DefAt P w K mg base xm 2 "_equation" ["share", "place", "pay", "moves", "many"] f_equation) (d_each_alone : DefAt P w K mg base xm 2 "_each_alone" ["equations"] f_each_alone) : FnG P w K mg base 3 f fd ["share", "pays", "moves"] (spF K xm f_sums 3) :=
  FnG.byZ T.wd (g := b_sums) F sc_sums rfl rfl fun cdv A outer s H E G =>
 (sl_cons (ss_set G.nd 3 (sn_call d_common_bottom G (sa_cons (sn_var 1) sa_nil)))
 (sl_cons (ss_set G.nd 4 (sn_cel sa_nil))
 (sl_cons (ss_for (S := [0, 1, 2, 3, 4, 5, 6, 7, 8]) G (si_enum (by rfl) T.n_enumerate (sa_cons (sn_var 1) sa_nil)) (sg_tup G (sg_cons (sg_name G.nd 5) (sg_cons (sg_tup G (sg_cons (sg_name G.nd 6) (sg_cons (sg_name G.nd 7) sg_nil))) sg_nil)))
 (sl_one (ss_expr (sn_meth PySem.F.plainAttrs_list PySem.F.slot_list_append PySem.F.type_list_append mr_append (sn_var 4) (sa_cons (sn_call d_equation G (sa_cons (sn_var 0) (sa_cons (sn_var 5) (sa_cons (sn_op2 or_mul (sn_var 6) (sn_op2 or_fdiv (sn_var 3) (sn_var 7))) (sa_cons (sn_ix (sn_var 2) (sn_var 5)) (sa_cons (sn_bi cl_len (by rfl) T.n_len bt_len (sa_cons (sn_var 1) sa_nil)) sa_nil)))))) sa_nil)))))
 (sl_one (ss_ret (sn_lc [("place", 5), ("row", 8)] G (si_enum (by rfl) T.n_enumerate (sa_cons (sn_call d_each_alone G (sa_cons (sn_var 4) sa_nil)) sa_nil)) (blkOk_by (by first | decide +kernel | rfl)) (fun _ _ _ _ _ G => (sg_tup G (sg_cons (sg_name G.nd 5) (sg_cons (sg_name G.nd 8) sg_nil)))) (fun _ _ _ _ _ G => st_yes) (fun _ _ _ _ _ G => (sn_call d_fraction G (sa_cons (sn_ix (sn_var 8) (sn_op1 un_negD sn_int)) (sa_cons (sn_op2 or_mul (sn_ix (sn_var 8) (sn_var 5)) (sn_var 3)) sa_nil))))))))))
abbrev s_is_share : Stmt := top 25
theorem sc_is_share : FnScope ["value", "top", "bottom"] ["value"] (defScope s_is_share) := ⟨rfl, rfl, rfl, by decide +kernel, rfl, by decide +kernel, by decide +kernel⟩
theorem ok_is_share {f : Addr} {fd : FuncData} (F : Fun K "is_share" "is_share" s_is_share f fd) (T : Txt w K mg xm) (d_is_fraction : DefAt P w K mg base xm 2 "is_fraction" ["value"] f_is_fraction) : FnG P w K mg base 3 f fd ["value"] (spF K xm f_is_share 1) :=
  FnG.by T.wd (g := b_is_share) F sc_is_share rfl rfl fun cdv A outer s H E G =>
 (sl_cons (ss_if (st_not (st_truth (sn_call d_is_fraction G (sa_cons (sn_var 0) sa_nil))))
 (sl_one (ss_ret sn_bl))
 sl_nil)
 (sl_cons (ss_asg (S := [0, 1, 2]) (sn_var 0) (sg_tup G (sg_cons (sg_name G.nd 1) (sg_cons (sg_name G.nd 2) sg_nil))))
 (sl_one (ss_ret (sn_chain or_lt or_lt sn_int (sn_var 1) (sn_var 2))))))
abbrev s_is_move : Stmt := top 29
theorem sc_is_move : FnScope ["move", "before", "many", "state", "chance"] ["move", "before", "many"] (defScope s_is_move) := ⟨rfl, rfl, rfl, by decide +kernel, rfl, by decide +kernel, by decide +kernel⟩
theorem ok_is_move {f : Addr} {fd : FuncData} (F : Fun K "_is_move" "_is_move" s_is_move f fd) (T : Txt w K mg xm) (d_is_whole : DefAt P w K mg base xm 1 "is_whole" ["value"] f_is_whole) (d_is_fraction : DefAt P w K mg base xm 2 "is_fraction" ["value"] f_is_fraction) : FnG P w K mg base 3 f fd ["move", "before", "many"] (spF K xm f_is_move 3) :=
  FnG.by T.wd (g := b_is_move) F sc_is_move rfl rfl fun cdv A outer s H E G =>
 (sl_cons (ss_if (PW.pt (sw_or (st_not (st_truth (sn_isi G kit_tup (sn_var 0) (by rfl) T.n_isinstance (by rfl) T.n_tuple bt_tuple))) (sw_or1 (st_cmp (or_ne G.rm) (sn_bi cl_len (by rfl) T.n_len bt_len (sa_cons (sn_var 0) sa_nil)) sn_int))))
 (sl_one (ss_ret sn_bl))
 sl_nil)
 (sl_cons (ss_asg (S := [0, 1, 2, 3, 4]) (sn_var 0) (sg_tup G (sg_cons (sg_name G.nd 3) (sg_cons (sg_name G.nd 4) sg_nil))))
 (sl_cons (ss_if (PW.pt (sw_or (st_not (st_truth (sn_call d_is_whole G (sa_cons (sn_var 3) sa_nil)))) (sw_or1 (st_not (st_chain or_lt or_lt (sn_var 1) (sn_var 3) (sn_var 2))))))
 (sl_one (ss_ret sn_bl))
 sl_nil)
 (sl_one (ss_ret (sn_and (sn_call d_is_fraction G (sa_cons (sn_var 4) sa_nil)) (sn_one (sn_cmp or_gt (sn_ix (sn_var 4) sn_int) sn_int))))))))
abbrev s_are_moves : Stmt := top 28
theorem sc_are_moves : FnScope ["moves", "many", "before", "total", "move", "chance"] ["moves", "many"] (defScope s_are_moves) := ⟨rfl, rfl, rfl, by decide +kernel, rfl, by decide +kernel, by decide +kernel⟩
theorem ok_are_moves {f : Addr} {fd : FuncData} (F : Fun K "_are_moves" "_are_moves" s_are_moves f fd) (T : Txt w K mg xm) (d_plus : DefAt P w K mg base xm 4 "plus" ["one", "other"] f_plus) (d_is_move : DefAt P w K mg base xm 3 "_is_move" ["move", "before", "many"] f_is_move) : FnG P w K mg base 5 f fd ["moves", "many"] (spF K xm f_are_moves 2) :=
  FnG.by T.wd (g := b_are_moves) F sc_are_moves rfl rfl fun cdv A outer s H E G =>
 (sl_cons (ss_if (st_not (st_truth (sn_isi G kit_tup (sn_var 0) (by rfl) T.n_isinstance (by rfl) T.n_tuple bt_tuple)))
 (sl_one (ss_ret sn_bl))
 sl_nil)
 (sl_cons (ss_set G.nd 2 (sn_op1 un_negD sn_int))
 (sl_cons (ss_set G.nd 3 (sn_tup (sa_cons sn_int (sa_cons sn_int sa_nil))))
 (sl_cons (ss_for (S := [0, 1, 2, 3, 4, 5]) G (si_seq (sn_var 0)) (sg_name G.nd 4)
 (sl_cons (ss_if (st_not (st_truth (sn_call d_is_move G (sa_cons (sn_var 4) (sa_cons (sn_var 2) (sa_cons (sn_var 1) sa_nil))))))
 (sl_one (ss_ret sn_bl))
 sl_nil)
 (sl_cons (ss_asg (S := [0, 1, 2, 3, 4, 5]) (sn_var 4) (sg_tup G (sg_cons (sg_name G.nd 2) (sg_cons (sg_name G.nd 5) sg_nil))))
 (sl_one (ss_set G.nd 3 (sn_call d_plus G (sa_cons (sn_var 3) (sa_cons (sn_var 5) sa_nil))))))))
 (sl_one (ss_ret (sn_cmp (or_eq G.rm) (sn_var 3) (sn_tup (sa_cons sn_int (sa_cons sn_int sa_nil))))))))))
abbrev s_is_row : Stmt := top 27
theorem sc_is_row : FnScope ["row", "many", "pay", "moves"] ["row", "many"] (defScope s_is_row) := ⟨rfl, rfl, rfl, by decide +kernel, rfl, by decide +kernel, by decide +kernel⟩
theorem ok_is_row {f : Addr} {fd : FuncData} (F : Fun K "_is_row" "_is_row" s_is_row f fd) (T : Txt w K mg xm) (d_is_fraction : DefAt P w K mg base xm 2 "is_fraction" ["value"] f_is_fraction) (d_are_moves : DefAt P w K mg base xm 5 "_are_moves" ["moves", "many"] f_are_moves) : FnG P w K mg base 6 f fd ["row", "many"] (spF K xm f_is_row 2) :=
  FnG.by T.wd (g := b_is_row) F sc_is_row rfl rfl fun cdv A outer s H E G =>
 (sl_cons (ss_if (PW.pt (sw_or (st_not (st_truth (sn_isi G kit_tup (sn_var 0) (by rfl) T.n_isinstance (by rfl) T.n_tuple bt_tuple))) (sw_or1 (st_cmp (or_ne G.rm) (sn_bi cl_len (by rfl) T.n_len bt_len (sa_cons (sn_var 0) sa_nil)) sn_int))))
 (sl_one (ss_ret sn_bl))
 sl_nil)
 (sl_cons (ss_asg (S := [0, 1, 2, 3]) (sn_var 0) (sg_tup G (sg_cons (sg_name G.nd 2) (sg_cons (sg_name G.nd 3) sg_nil))))
 (sl_one (ss_ret (sn_and (sn_call d_is_fraction G (sa_cons (sn_var 2) sa_nil)) (sn_one (sn_call d_are_moves G (sa_cons (sn_var 3) (sa_cons (sn_var 1) sa_nil)))))))))
abbrev s_is_work : Stmt := top 26
theorem sc_is_work : FnScope ["value", "many", "row"] ["value"] (defScope s_is_work) := ⟨rfl, rfl, rfl, by decide +kernel, rfl, by decide +kernel, by decide +kernel⟩
theorem ok_is_work {f c T0 : Addr} {fd : FuncData} (F : FunT K "is_work" "is_work" s_is_work f fd c) (TB : GxR.TabB base mg c T0) (M : T0 ∈ Tabs.tb) (T : Txt w K mg xm) (d_is_row : DefAt P w K mg base xm 6 "_is_row" ["row", "many"] f_is_row) : FnG P w K mg base 8 f fd ["value"] (spF K xm f_is_work 1) :=
  FnG.byT T.wd (g := b_is_work) F TB M sc_is_work rfl rfl fun A outer s H E G B =>
 (sl_cons (ss_if (PW.pt (sw_or (st_not (st_truth (sn_isi G kit_tup (sn_var 0) (by rfl) T.n_isinstance (by rfl) T.n_tuple bt_tuple))) (sw_or1 (st_not (st_chain or_le or_le sn_int (sn_bi cl_len (by rfl) T.n_len bt_len (sa_cons (sn_var 0) sa_nil)) (sn_glob T.k_MOST_STATES fun _ _ => (.int _)))))))
 (sl_one (ss_ret sn_bl))
 sl_nil)
 (sl_cons (ss_set G.nd 1 (sn_bi cl_len (by rfl) T.n_len bt_len (sa_cons (sn_var 0) sa_nil)))
 (sl_one (ss_ret (sn_all [("row", 2)] B G T.n_all (si_seq (sn_var 0)) (genOk_by (by first | decide +kernel | rfl) (by first | decide +kernel | rfl)) (fun _ _ _ _ _ G => (sg_name G.nd 2)) (fun _ _ _ _ _ G => (sn_call d_is_row G (sa_cons (sn_var 2) (sa_cons (sn_var 1) sa_nil)))))))))
abbrev s_is_state : Stmt := top 30
theorem sc_is_state : FnScope ["work", "value"] ["work", "value"] (defScope s_is_state) := ⟨rfl, rfl, rfl, by decide +kernel, rfl, by decide +kernel, by decide +kernel⟩
theorem ok_is_state {f : Addr} {fd : FuncData} (F : Fun K "is_state" "is_state" s_is_state f fd) (T : Txt w K mg xm) (d_is_whole : DefAt P w K mg base xm 1 "is_whole" ["value"] f_is_whole) : FnG P w K mg base 2 f fd ["work", "value"] (spF K xm f_is_state 2) :=
  FnG.by T.wd (g := b_is_state) F sc_is_state rfl rfl fun cdv A outer s H E G =>
 (sl_one (ss_ret (sn_and (sn_call d_is_whole G (sa_cons (sn_var 1) sa_nil)) (sn_one (sn_chain or_le or_lt sn_int (sn_var 1) (sn_bi cl_len (by rfl) T.n_len bt_len (sa_cons (sn_var 0) sa_nil)))))))
abbrev s_are_states : Stmt := top 31
theorem sc_are_states : FnScope ["work", "value", "before", "state"] ["work", "value"] (defScope s_are_states) := ⟨rfl, rfl, rfl, by decide +kernel, rfl, by decide +kernel, by decide +kernel⟩
theorem ok_are_states {f : Addr} {fd : FuncData} (F : Fun K "are_states" "are_states" s_are_states f fd) (T : Txt w K mg xm) (d_is_state : DefAt P w K mg base xm 2 "is_state" ["work", "value"] f_is_state) : FnG P w K mg base 3 f fd ["work", "value"] (spF K xm f_are_states 2) :=
  FnG.by T.wd (g := b_are_states) F sc_are_states rfl rfl fun cdv A outer s H E G =>
 (sl_cons (ss_if (st_not (st_truth (sn_isi G kit_tup (sn_var 1) (by rfl) T.n_isinstance (by rfl) T.n_tuple bt_tuple)))
 (sl_one (ss_ret sn_bl))
 sl_nil)
 (sl_cons (ss_set G.nd 2 (sn_op1 un_negD sn_int))
 (sl_cons (ss_for (S := [0, 1, 2, 3]) G (si_seq (sn_var 1)) (sg_name G.nd 3)
 (sl_cons (ss_if (PW.pt (sw_or (st_not (st_truth (sn_call d_is_state G (sa_cons (sn_var 0) (sa_cons (sn_var 3) sa_nil))))) (sw_or1 (st_cmp or_le (sn_var 3) (sn_var 2)))))
 (sl_one (ss_ret sn_bl))
 sl_nil)
 (sl_one (ss_set G.nd 2 (sn_var 3)))))
 (sl_one (ss_ret sn_bl)))))
abbrev s_need_work : Stmt := top 32
theorem sc_need_work : FnScope ["value"] ["value"] (defScope s_need_work) := ⟨rfl, rfl, rfl, by decide +kernel, rfl, by decide +kernel, by decide +kernel⟩
theorem ok_need_work {f : Addr} {fd : FuncData} (F : Fun K "need_work" "need_work" s_need_work f fd) (T : Txt w K mg xm) (d_is_work : DefAt P w K mg base xm 8 "is_work" ["value"] f_is_work) : FnG P w K mg base 9 f fd ["value"] (spF K xm f_need_work 1) :=
  FnG.by T.wd (g := b_need_work) F sc_need_work rfl rfl fun cdv A outer s H E G =>
 (sl_one (ss_if (st_not (st_truth (sn_call d_is_work G (sa_cons (sn_var 0) sa_nil))))
 (sl_one (ss_raise T.x_NoWork G))
 sl_nil))
abbrev s_need_share : Stmt := top 33
theorem sc_need_share : FnScope ["value"] ["value"] (defScope s_need_share) := ⟨rfl, rfl, rfl, by decide +kernel, rfl, by decide +kernel, by decide +kernel⟩
theorem ok_need_share {f : Addr} {fd : FuncData} (F : Fun K "need_share" "need_share" s_need_share f fd) (T : Txt w K mg xm) (d_is_share : DefAt P w K mg base xm 3 "is_share" ["value"] f_is_share) : FnG P w K mg base 4 f fd ["value"] (spF K xm f_need_share 1) :=
  FnG.by T.wd (g := b_need_share) F sc_need_share rfl rfl fun cdv A outer s H E G =>
 (sl_one (ss_if (st_not (st_truth (sn_call d_is_share G (sa_cons (sn_var 0) sa_nil))))
 (sl_one (ss_raise T.x_NoShare G))
 sl_nil))
abbrev s_need_state : Stmt := top 34
theorem sc_need_state : FnScope ["work", "value"] ["work", "value"] (defScope s_need_state) := ⟨rfl, rfl, rfl, by decide +kernel, rfl, by decide +kernel, by decide +kernel⟩
theorem ok_need_state {f : Addr} {fd : FuncData} (F : Fun K "need_state" "need_state" s_need_state f fd) (T : Txt w K mg xm) (d_is_state : DefAt P w K mg base xm 2 "is_state" ["work", "value"] f_is_state) : FnG P w K mg base 3 f fd ["work", "value"] (spF K xm f_need_state 2) :=
  FnG.by T.wd (g := b_need_state) F sc_need_state rfl rfl fun cdv A outer s H E G =>
 (sl_one (ss_if (st_not (st_truth (sn_call d_is_state G (sa_cons (sn_var 0) (sa_cons (sn_var 1) sa_nil)))))
 (sl_one (ss_raise T.x_NoState G))
 sl_nil))
abbrev s_need_states : Stmt := top 35
theorem sc_need_states : FnScope ["work", "value"] ["work", "value"] (defScope s_need_states) := ⟨rfl, rfl, rfl, by decide +kernel, rfl, by decide +kernel, by decide +kernel⟩
theorem ok_need_states {f : Addr} {fd : FuncData} (F : Fun K "need_states" "need_states" s_need_states f fd) (T : Txt w K mg xm) (d_are_states : DefAt P w K mg base xm 3 "are_states" ["work", "value"] f_are_states) : FnG P w K mg base 4 f fd ["work", "value"] (spF K xm f_need_states 2) :=
  FnG.by T.wd (g := b_need_states) F sc_need_states rfl rfl fun cdv A outer s H E G =>
 (sl_one (ss_if (st_not (st_truth (sn_call d_are_states G (sa_cons (sn_var 0) (sa_cons (sn_var 1) sa_nil)))))
 (sl_one (ss_raise T.x_NoStates G))
 sl_nil))
abbrev s_going_on : Stmt := top 37
theorem sc_going_on : FnScope ["work", "share", "brought", "states", "moves", "_", "row", "move"] ["work", "share", "brought", "states"] (defScope s_going_on) := ⟨rfl, rfl, rfl, by decide +kernel, rfl, by decide +kernel, by decide +kernel⟩
theorem ok_going_on {f : Addr} {fd : FuncData} (F : Fun K "going_on" "going_on" s_going_on f fd) (T : Txt w K mg xm) (d_sums : DefAt P w K mg base xm 3 "sums" ["share", "pays", "moves"] f_sums) : FnG P w K mg base 4 f fd ["work", "share", "brought", "states"] (spF K xm f_going_on 4) :=
  FnG.by T.wd (g := b_going_on) F sc_going_on rfl rfl fun cdv A outer s H E G =>
 (sl_cons (ss_setLc [("_", 5), ("row", 6)] G 4 (si_seq (sn_var 0)) (blkOk_by (by first | decide +kernel | rfl)) (fun _ _ _ _ _ G => (sg_tup G (sg_cons (sg_name G.nd 5) (sg_cons (sg_name G.nd 6) sg_nil)))) (fun _ _ _ _ _ G => st_yes) (fun _ _ _ _ _ G => (sn_lc [("move", 7)] G (si_seq (sn_var 6)) (blkOk_by (by first | decide +kernel | rfl)) (fun _ _ _ _ _ G => (sg_name G.nd 7)) (fun _ _ _ _ _ G => (st_one (st_cmp or_inQ (sn_ix (sn_var 7) sn_int) (sn_var 3)))) (fun _ _ _ _ _ G => (sn_var 7)))))
 (sl_one (ss_ret (sn_call d_sums G (sa_cons (sn_var 1) (sa_cons (sn_var 2) (sa_cons (sn_var 4) sa_nil)))))))
abbrev s_all_spent : Stmt := top 38
theorem sc_all_spent : FnScope ["work", "share", "states", "pays", "steps", "pay", "_"] ["work", "share", "states"] (defScope s_all_spent) := ⟨rfl, rfl, rfl, by decide +kernel, rfl, by decide +kernel, by decide +kernel⟩
theorem ok_all_spent {f : Addr} {fd : FuncData} (F : Fun K "all_spent" "all_spent" s_all_spent f fd) (T : Txt w K mg xm) (d_going_on : DefAt P w K mg base xm 4 "going_on" ["work", "share", "brought", "states"] f_going_on) : FnG P w K mg base 5 f fd ["work", "share", "states"] (spF K xm f_all_spent 3) :=
  FnG.by T.wd (g := b_all_spent) F sc_all_spent rfl rfl fun cdv A outer s H E G =>
 (sl_cons (ss_set G.nd 3 (sn_call d_going_on G (sa_cons (sn_var 0) (sa_cons (sn_var 1) (sa_cons (sn_lc [("pay", 5), ("_", 6)] G (si_seq (sn_var 0)) (blkOk_by (by first | decide +kernel | rfl)) (fun _ _ _ _ _ G => (sg_tup G (sg_cons (sg_name G.nd 5) (sg_cons (sg_name G.nd 6) sg_nil)))) (fun _ _ _ _ _ G => st_yes) (fun _ _ _ _ _ G => (sn_var 5))) (sa_cons (sn_var 2) sa_nil))))))
 (sl_cons (ss_set G.nd 4 (sn_call d_going_on G (sa_cons (sn_var 0) (sa_cons (sn_var 1) (sa_cons (sn_op2 or_mul (sn_lst (sa_cons (sn_tup (sa_cons sn_int (sa_cons sn_int sa_nil))) sa_nil)) (sn_bi cl_len (by rfl) T.n_len bt_len (sa_cons (sn_var 0) sa_nil))) (sa_cons (sn_var 2) sa_nil))))))
 (sl_one (ss_ret (sn_lzip G T.n_list T.n_zip (sa_cons (sn_var 3) (sa_cons (sn_var 4) sa_nil)))))))
abbrev s_spent : Stmt := top 39
theorem sc_spent : FnScope ["work", "share", "state", "states"] ["work", "share", "state", "states"] (defScope s_spent) := ⟨rfl, rfl, rfl, by decide +kernel, rfl, by decide +kernel, by decide +kernel⟩
theorem ok_spent {f : Addr} {fd : FuncData} (F : Fun K "spent" "spent" s_spent f fd) (T : Txt w K mg xm) (d_need_work : DefAt P w K mg base xm 9 "need_work" ["value"] f_need_work) (d_need_share : DefAt P w K mg base xm 4 "need_share" ["value"] f_need_share) (d_need_state : DefAt P w K mg base xm 3 "need_state" ["work", "value"] f_need_state) (d_need_states : DefAt P w K mg base xm 4 "need_states" ["work", "value"] f_need_states) (d_all_spent : DefAt P w K mg base xm 5 "all_spent" ["work", "share", "states"] f_all_spent) : FnG P w K mg base 10 f fd ["work", "share", "state", "states"] (spF K xm f_spent 4) :=
  FnG.by T.wd (g := b_spent) F sc_spent rfl rfl fun cdv A outer s H E G =>
 (sl_cons (ss_expr (sn_call d_need_work G (sa_cons (sn_var 0) sa_nil)))
 (sl_cons (ss_expr (sn_call d_need_share G (sa_cons (sn_var 1) sa_nil)))
 (sl_cons (ss_expr (sn_call d_need_state G (sa_cons (sn_var 0) (sa_cons (sn_var 2) sa_nil))))
 (sl_cons (ss_expr (sn_call d_need_states G (sa_cons (sn_var 0) (sa_cons (sn_var 3) sa_nil))))
 (sl_one (ss_ret (sn_ix (sn_call d_all_spent G (sa_cons (sn_var 0) (sa_cons (sn_var 1) (sa_cons (sn_var 3) sa_nil)))) (sn_var 2))))))))
abbrev s_groups : Stmt := top 41
theorem sc_groups : FnScope ["work", "share", "found", "above", "rates", "left", "most", "group", "pay", "steps", "state"] ["work", "share"] (defScope s_groups) := ⟨rfl, rfl, rfl, by decide +kernel, rfl, by decide +kernel, by decide +kernel⟩
theorem ok_groups {f : Addr} {fd : FuncData} (F : Fun K "groups" "groups" s_groups f fd) (T : Txt w K mg xm) (d_over : DefAt P w K mg base xm 4 "over" ["one", "other"] f_over) (d_greatest : DefAt P w K mg base xm 5 "greatest" ["values"] f_greatest) (d_all_spent : DefAt P w K mg base xm 5 "all_spent" ["work", "share", "states"] f_all_spent) : FnG P w K mg base 6 f fd ["work", "share"] (spF K xm f_groups 2) :=
  FnG.byZ T.wd (g := b_groups) F sc_groups rfl rfl fun cdv A outer s H E G =>
 (sl_cons (ss_set G.nd 2 (sn_cel sa_nil))
 (sl_cons (ss_set G.nd 3 (sn_lst sa_nil))
 (sl_cons (ss_while G bigFuel (st_cmp or_lt (sn_bi cl_len (by rfl) T.n_len bt_len (sa_cons (sn_var 3) sa_nil)) (sn_bi cl_len (by rfl) T.n_len bt_len (sa_cons (sn_var 0) sa_nil)))
 (sl_cons (ss_set G.nd 4 (sn_lc [("pay", 8), ("steps", 9)] G (si_seq (sn_call d_all_spent G (sa_cons (sn_var 0) (sa_cons (sn_var 1) (sa_cons (sn_var 3) sa_nil))))) (blkOk_by (by first | decide +kernel | rfl)) (fun _ _ _ _ _ G => (sg_tup G (sg_cons (sg_name G.nd 8) (sg_cons (sg_name G.nd 9) sg_nil)))) (fun _ _ _ _ _ G => st_yes) (fun _ _ _ _ _ G => (sn_call d_over G (sa_cons (sn_var 8) (sa_cons (sn_var 9) sa_nil))))))
 (sl_cons (ss_setLc [("state", 10)] G 5 (si_rng1 (by rfl) T.n_range (sa_cons (sn_bi cl_len (by rfl) T.n_len bt_len (sa_cons (sn_var 0) sa_nil)) sa_nil)) (blkOk_by (by first | decide +kernel | rfl)) (fun _ _ _ _ _ G => (sg_name G.nd 10)) (fun _ _ _ _ _ G => (st_one (st_cmp or_notinQ (sn_var 10) (sn_var 3)))) (fun _ _ _ _ _ G => (sn_var 10)))
 (sl_cons (ss_set G.nd 6 (sn_call d_greatest G (sa_cons (sn_lc [("state", 10)] G (si_seq (sn_var 5)) (blkOk_by (by first | decide +kernel | rfl)) (fun _ _ _ _ _ G => (sg_name G.nd 10)) (fun _ _ _ _ _ G => st_yes) (fun _ _ _ _ _ G => (sn_ix (sn_var 4) (sn_var 10)))) sa_nil)))
 (sl_cons (ss_setLc [("state", 10)] G 7 (si_seq (sn_var 5)) (blkOk_by (by first | decide +kernel | rfl)) (fun _ _ _ _ _ G => (sg_name G.nd 10)) (fun _ _ _ _ _ G => (st_one (st_cmp (or_eq G.rm) (sn_ix (sn_var 4) (sn_var 10)) (sn_var 6)))) (fun _ _ _ _ _ G => (sn_var 10)))
 (sl_cons (ss_expr (sn_meth PySem.F.plainAttrs_list PySem.F.slot_list_append PySem.F.type_list_append mr_append (sn_var 2) (sa_cons (sn_tup (sa_cons (sn_var 6) (sa_cons (sn_var 7) sa_nil))) sa_nil)))
 (sl_one (ss_set G.nd 3 (sn_op2 or_add (sn_var 3) (sn_var 7))))))))))
 (sl_one (ss_ret (sn_var 2))))))
abbrev s_numbers : Stmt := top 42
theorem sc_numbers : FnScope ["work", "share", "found", "number", "states", "state"] ["work", "share"] (defScope s_numbers) := ⟨rfl, rfl, rfl, by decide +kernel, rfl, by decide +kernel, by decide +kernel⟩
theorem ok_numbers {f : Addr} {fd : FuncData} (F : Fun K "numbers" "numbers" s_numbers f fd) (T : Txt w K mg xm) (d_need_work : DefAt P w K mg base xm 9 "need_work" ["value"] f_need_work) (d_need_share : DefAt P w K mg base xm 4 "need_share" ["value"] f_need_share) (d_groups : DefAt P w K mg base xm 6 "groups" ["work", "share"] f_groups) : FnG P w K mg base 10 f fd ["work", "share"] (spF K xm f_numbers 2) :=
  FnG.byZ T.wd (g := b_numbers) F sc_numbers rfl rfl fun cdv A outer s H E G =>
 (sl_cons (ss_expr (sn_call d_need_work G (sa_cons (sn_var 0) sa_nil)))
 (sl_cons (ss_expr (sn_call d_need_share G (sa_cons (sn_var 1) sa_nil)))
 (sl_cons (ss_set G.nd 2 (sn_op2 or_mulC (sn_lst (sa_cons (sn_tup (sa_cons sn_int (sa_cons sn_int sa_nil))) sa_nil)) (sn_bi cl_len (by rfl) T.n_len bt_len (sa_cons (sn_var 0) sa_nil))))
 (sl_cons (ss_for (S := [0, 1, 2, 3, 4, 5]) G (si_seq (sn_call d_groups G (sa_cons (sn_var 0) (sa_cons (sn_var 1) sa_nil)))) (sg_tup G (sg_cons (sg_name G.nd 3) (sg_cons (sg_name G.nd 4) sg_nil)))
 (sl_one (ss_for (S := [0, 1, 2, 3, 4, 5]) G (si_seq (sn_var 4)) (sg_name G.nd 5)
 (sl_one (ss_sub (sn_var 3) (sn_var 2) (sn_var 5))))))
 (sl_one (ss_ret (sn_ty cl_tuple (by rfl) T.n_tuple bt_tuple (sa_cons (sn_var 2) sa_nil))))))))
abbrev s_law_spread : Stmt := top 44
theorem sc_law_spread : FnScope ["cell", "at", "primes", "mixed", "one", "rest", "two", "three"] ["cell", "at"] (defScope s_law_spread) := ⟨rfl, rfl, rfl, by decide +kernel, rfl, by decide +kernel, by decide +kernel⟩
theorem ok_law_spread {f : Addr} {fd : FuncData} (F : Fun K "_law_spread" "_law_spread" s_law_spread f fd) (T : Txt w K mg xm) : FnG P w K mg base 1 f fd ["cell", "at"] (spF K xm f_law_spread 2) :=
  FnG.by T.wd (g := b_law_spread) F sc_law_spread rfl rfl fun cdv A outer s H E G =>
 (sl_cons (ss_if (st_cmp or_ge (sn_var 0) (sn_op2 or_pow sn_int sn_int))
 (sl_one (ss_ret (sn_var 0)))
 sl_nil)
 (sl_cons (ss_set G.nd 2 (sn_lst (sa_cons sn_int (sa_cons sn_int (sa_cons sn_int (sa_cons sn_int (sa_cons sn_int (sa_cons sn_int (sa_cons sn_int sa_nil)))))))))
 (sl_cons (ss_set G.nd 2 (sn_op2 or_add (sn_var 2) (sn_lst (sa_cons sn_int (sa_cons sn_int (sa_cons sn_int (sa_cons sn_int (sa_cons sn_int (sa_cons sn_int sa_nil)))))))))
 (sl_cons (ss_set G.nd 3 (sn_op2 or_add (sn_op2 or_add (sn_op2 or_mul (sn_op2 or_mod (sn_ty cl_int (by rfl) T.n_int bt_int (sa_cons (sn_var 0) sa_nil)) sn_int) (sn_op2 or_add (sn_op2 or_mul sn_int (sn_var 1)) sn_int)) (sn_op2 or_mul (sn_var 1) sn_int)) sn_int))
 (sl_cons (ss_set G.nd 4 (sn_op2 or_mod (sn_ty cl_int (by rfl) T.n_int bt_int (sa_cons (sn_op2 or_pow (sn_var 3) sn_int) sa_nil)) (sn_ix (sn_var 2) (sn_op2 or_mod (sn_ty cl_int (by rfl) T.n_int bt_int (sa_cons (sn_var 1) sa_nil)) sn_int))))
 (sl_cons (ss_set G.nd 5 (sn_op2 or_add (sn_op2 or_mod (sn_ty cl_int (by rfl) T.n_int bt_int (sa_cons (sn_var 0) sa_nil)) sn_int) sn_int))
 (sl_cons (ss_set G.nd 6 (sn_op2 or_mod (sn_ty cl_int (by rfl) T.n_int bt_int (sa_cons (sn_op2 or_pow (sn_op2 or_add (sn_op2 or_mul (sn_var 4) (sn_op2 or_add (sn_var 1) sn_int)) (sn_var 5)) sn_int) sa_nil)) (sn_ix (sn_var 2) (sn_op2 or_mod (sn_ty cl_int (by rfl) T.n_int bt_int (sa_cons (sn_op2 or_add (sn_var 1) sn_int) sa_nil)) sn_int))))
 (sl_cons (ss_set G.nd 7 (sn_op2 or_mod (sn_ty cl_int (by rfl) T.n_int bt_int (sa_cons (sn_op2 or_pow (sn_op2 or_add (sn_op2 or_add (sn_var 6) (sn_op2 or_mod (sn_ty cl_int (by rfl) T.n_int bt_int (sa_cons (sn_var 4) sa_nil)) sn_int)) (sn_var 1)) sn_int) sa_nil)) (sn_ix (sn_var 2) (sn_op2 or_mod (sn_ty cl_int (by rfl) T.n_int bt_int (sa_cons (sn_op2 or_add (sn_var 1) sn_int) sa_nil)) sn_int))))
 (sl_one (ss_ret (sn_op2 or_add (sn_op2 or_mul (sn_op2 or_add (sn_op2 or_mul (sn_var 4) sn_int) (sn_var 6)) sn_int) (sn_var 7))))))))))))
abbrev s_law_open : Stmt := top 45
theorem sc_law_open : FnScope ["script", "cells", "k", "cell"] ["script"] (defScope s_law_open) := ⟨rfl, rfl, rfl, by decide +kernel, rfl, by decide +kernel, by decide +kernel⟩
theorem ok_law_open {f : Addr} {fd : FuncData} (F : Fun K "_law_open" "_law_open" s_law_open f fd) (T : Txt w K mg xm) : FnG P w K mg base 1 f fd ["script"] (spF K xm f_law_open 1) :=
  FnG.by T.wd (g := b_law_open) F sc_law_open rfl rfl fun cdv A outer s H E G =>
 (sl_cons (ss_set G.nd 1 (sn_ty cl_listC (by rfl) T.n_list bt_list (sa_cons (sn_sl (sn_var 0) sp_no (sp_so sn_int)) sa_nil)))
 (sl_cons (ss_for (S := [0, 1, 2, 3]) G (si_enum (by rfl) T.n_enumerate (sa_cons (sn_sl (sn_var 0) (sp_so sn_int) (sp_so sn_int)) sa_nil)) (sg_tup G (sg_cons (sg_name G.nd 2) (sg_cons (sg_name G.nd 3) sg_nil)))
 (sl_one (ss_sub (sn_op2 or_add (sn_ix (sn_var 1) (sn_op2 or_mod (sn_ty cl_int (by rfl) T.n_int bt_int (sa_cons (sn_var 2) sa_nil)) sn_int)) (sn_var 3)) (sn_var 1) (sn_op2 or_mod (sn_ty cl_int (by rfl) T.n_int bt_int (sa_cons (sn_var 2) sa_nil)) sn_int))))
 (sl_one (ss_ret (sn_cel (sa_cons (sn_var 1) (sa_cons sn_int (sa_cons sn_int sa_nil))))))))
abbrev s_law_take : Stmt := top 46
theorem sc_law_take : FnScope ["pen", "many", "found", "at", "cell"] ["pen", "many"] (defScope s_law_take) := ⟨rfl, rfl, rfl, by decide +kernel, rfl, by decide +kernel, by decide +kernel⟩
theorem ok_law_take {f : Addr} {fd : FuncData} (F : Fun K "_law_take" "_law_take" s_law_take f fd) (T : Txt w K mg xm) (d_law_spread : DefAt P w K mg base xm 1 "_law_spread" ["cell", "at"] f_law_spread) : FnG P w K mg base 2 f fd ["pen", "many"] (spF K xm f_law_take 2) :=
  FnG.by T.wd (g := b_law_take) F sc_law_take rfl rfl fun cdv A outer s H E G =>
 (sl_cons (ss_if (st_cmp or_lt (sn_ix (sn_var 0) sn_int) (sn_var 1))
 (sl_cons (ss_set G.nd 3 (sn_ix (sn_var 0) sn_int))
 (sl_cons (ss_set G.nd 4 sn_int)
 (sl_cons (ss_if (st_cmp or_lt (sn_var 3) (sn_bi cl_len (by rfl) T.n_len bt_len (sa_cons (sn_ix (sn_var 0) sn_int) sa_nil)))
 (sl_one (ss_set G.nd 4 (sn_ix (sn_ix (sn_var 0) sn_int) (sn_var 3))))
 (sl_one (ss_if (st_cmp or_gt (sn_bi cl_len (by rfl) T.n_len bt_len (sa_cons (sn_ix (sn_var 0) sn_int) sa_nil)) sn_int)
 (sl_one (ss_set G.nd 4 (sn_op2 or_mod (sn_ty cl_int (by rfl) T.n_int bt_int (sa_cons (sn_ix (sn_ix (sn_var 0) sn_int) (sn_op2 or_mod (sn_ty cl_int (by rfl) T.n_int bt_int (sa_cons (sn_op2 or_add (sn_op2 or_mul (sn_var 3) sn_int) sn_int) sa_nil)) (sn_bi cl_len (by rfl) T.n_len bt_len (sa_cons (sn_ix (sn_var 0) sn_int) sa_nil)))) sa_nil)) (sn_op2 or_add (sn_op2 or_pow sn_int sn_int) (sn_var 3)))))
 sl_nil)))
 (sl_cons (ss_sub (sn_op2 or_add (sn_var 3) sn_int) (sn_var 0) sn_int)
 (sl_one (ss_sub (sn_call d_law_spread G (sa_cons (sn_var 4) (sa_cons (sn_var 3) sa_nil))) (sn_var 0) sn_int))))))
 sl_nil)
 (sl_cons (ss_set G.nd 2 (sn_op2 or_mod (sn_ty cl_int (by rfl) T.n_int bt_int (sa_cons (sn_ix (sn_var 0) sn_int) sa_nil)) (sn_var 1)))
 (sl_cons (ss_sub (sn_op2 or_fdiv (sn_ix (sn_var 0) sn_int) (sn_var 1)) (sn_var 0) sn_int)
 (sl_one (ss_ret (sn_var 2))))))
abbrev s_law_anew : Stmt := top 47
theorem sc_law_anew : FnScope ["pen"] ["pen"] (defScope s_law_anew) := ⟨rfl, rfl, rfl, by decide +kernel, rfl, by decide +kernel, by decide +kernel⟩
theorem ok_law_anew {f : Addr} {fd : FuncData} (F : Fun K "_law_anew" "_law_anew" s_law_anew f fd) (T : Txt w K mg xm) : FnG P w K mg base 1 f fd ["pen"] (spF K xm f_law_anew 1) :=
  FnG.by T.wd (g := b_law_anew) F sc_law_anew rfl rfl fun cdv A outer s H E G =>
 (sl_cons (ss_sub sn_int (sn_var 0) sn_int)
 (sl_one (ss_ret (sn_var 0))))
abbrev s_law_one : Stmt := top 48
theorem sc_law_one : FnScope ["pen", "some"] ["pen", "some"] (defScope s_law_one) := ⟨rfl, rfl, rfl, by decide +kernel, rfl, by decide +kernel, by decide +kernel⟩
theorem ok_law_one {f : Addr} {fd : FuncData} (F : Fun K "_law_one" "_law_one" s_law_one f fd) (T : Txt w K mg xm) (d_law_take : DefAt P w K mg base xm 2 "_law_take" ["pen", "many"] f_law_take) : FnG P w K mg base 3 f fd ["pen", "some"] (spF K xm f_law_one 2) :=
  FnG.by T.wd (g := b_law_one) F sc_law_one rfl rfl fun cdv A outer s H E G =>
 (sl_one (ss_ret (sn_ix (sn_var 1) (sn_call d_law_take G (sa_cons (sn_var 0) (sa_cons (sn_bi cl_len (by rfl) T.n_len bt_len (sa_cons (sn_var 1) sa_nil)) sa_nil))))))
abbrev s_law_divisor : Stmt := top 49
theorem sc_law_divisor : FnScope ["one", "other"] ["one", "other"] (defScope s_law_divisor) := ⟨rfl, rfl, rfl, by decide +kernel, rfl, by decide +kernel, by decide +kernel⟩
theorem ok_law_divisor {f : Addr} {fd : FuncData} (F : Fun K "_law_divisor" "_law_divisor" s_law_divisor f fd) (T : Txt w K mg xm) : FnG P w K mg base 1 f fd ["one", "other"] (spF K xm f_law_divisor 2) :=
  FnG.by T.wd (g := b_law_divisor) F sc_law_divisor rfl rfl fun cdv A outer s H E G =>
 (sl_cons (ss_par G 0 1 (sa_cons (sn_bi cl_abs (by rfl) T.n_abs bt_abs (sa_cons (sn_var 0) sa_nil)) (sa_cons (sn_bi cl_abs (by rfl) T.n_abs bt_abs (sa_cons (sn_var 1) sa_nil)) sa_nil)))
 (sl_cons (ss_while G bigFuel (st_cmp or_gt (sn_var 1) sn_int)
 (sl_one (ss_par G 0 1 (sa_cons (sn_var 1) (sa_cons (sn_op2 or_mod (sn_ty cl_int (by rfl) T.n_int bt_int (sa_cons (sn_var 0) sa_nil)) (sn_var 1)) sa_nil)))))
 (sl_one (ss_ret (sn_var 0)))))
abbrev s_law_frac : Stmt := top 50
theorem sc_law_frac : FnScope ["top", "bottom", "most"] ["top", "bottom"] (defScope s_law_frac) := ⟨rfl, rfl, rfl, by decide +kernel, rfl, by decide +kernel, by decide +kernel⟩
theorem ok_law_frac {f : Addr} {fd : FuncData} (F : Fun K "_law_frac" "_law_frac" s_law_frac f fd) (T : Txt w K mg xm) (d_law_divisor : DefAt P w K mg base xm 1 "_law_divisor" ["one", "other"] f_law_divisor) : FnG P w K mg base 2 f fd ["top", "bottom"] (spF K xm f_law_frac 2) :=
  FnG.by T.wd (g := b_law_frac) F sc_law_frac rfl rfl fun cdv A outer s H E G =>
 (sl_cons (ss_set G.nd 2 (sn_call d_law_divisor G (sa_cons (sn_var 0) (sa_cons (sn_var 1) sa_nil))))
 (sl_cons (ss_if (st_cmp or_lt (sn_var 1) sn_int)
 (sl_one (ss_set G.nd 2 (sn_op1 un_negD (sn_var 2))))
 sl_nil)
 (sl_one (ss_ret (sn_tup (sa_cons (sn_op2 or_fdiv (sn_var 0) (sn_var 2)) (sa_cons (sn_op2 or_fdiv (sn_var 1) (sn_var 2)) sa_nil)))))))
abbrev s_law_add : Stmt := top 51
theorem sc_law_add : FnScope ["one", "other"] ["one", "other"] (defScope s_law_add) := ⟨rfl, rfl, rfl, by decide +kernel, rfl, by decide +kernel, by decide +kernel⟩
theorem ok_law_add {f : Addr} {fd : FuncData} (F : Fun K "_law_add" "_law_add" s_law_add f fd) (T : Txt w K mg xm) (d_law_frac : DefAt P w K mg base xm 2 "_law_frac" ["top", "bottom"] f_law_frac) : FnG P w K mg base 3 f fd ["one", "other"] (spF K xm f_law_add 2) :=
  FnG.by T.wd (g := b_law_add) F sc_law_add rfl rfl fun cdv A outer s H E G =>
 (sl_one (ss_ret (sn_call d_law_frac G (sa_cons (sn_op2 or_add (sn_op2 or_mul (sn_ix (sn_var 0) sn_int) (sn_ix (sn_var 1) sn_int)) (sn_op2 or_mul (sn_ix (sn_var 1) sn_int) (sn_ix (sn_var 0) sn_int))) (sa_cons (sn_op2 or_mul (sn_ix (sn_var 0) sn_int) (sn_ix (sn_var 1) sn_int)) sa_nil)))))
abbrev s_law_mul : Stmt := top 52
theorem sc_law_mul : FnScope ["one", "other"] ["one", "other"] (defScope s_law_mul) := ⟨rfl, rfl, rfl, by decide +kernel, rfl, by decide +kernel, by decide +kernel⟩
theorem ok_law_mul {f : Addr} {fd : FuncData} (F : Fun K "_law_mul" "_law_mul" s_law_mul f fd) (T : Txt w K mg xm) (d_law_frac : DefAt P w K mg base xm 2 "_law_frac" ["top", "bottom"] f_law_frac) : FnG P w K mg base 3 f fd ["one", "other"] (spF K xm f_law_mul 2) :=
  FnG.by T.wd (g := b_law_mul) F sc_law_mul rfl rfl fun cdv A outer s H E G =>
 (sl_one (ss_ret (sn_call d_law_frac G (sa_cons (sn_op2 or_mul (sn_ix (sn_var 0) sn_int) (sn_ix (sn_var 1) sn_int)) (sa_cons (sn_op2 or_mul (sn_ix (sn_var 0) sn_int) (sn_ix (sn_var 1) sn_int)) sa_nil)))))
abbrev s_law_is_less : Stmt := top 53
theorem sc_law_is_less : FnScope ["one", "other"] ["one", "other"] (defScope s_law_is_less) := ⟨rfl, rfl, rfl, by decide +kernel, rfl, by decide +kernel, by decide +kernel⟩
theorem ok_law_is_less {f : Addr} {fd : FuncData} (F : Fun K "_law_is_less" "_law_is_less" s_law_is_less f fd) (T : Txt w K mg xm) : FnG P w K mg base 1 f fd ["one", "other"] (spF K xm f_law_is_less 2) :=
  FnG.by T.wd (g := b_law_is_less) F sc_law_is_less rfl rfl fun cdv A outer s H E G =>
 (sl_one (ss_ret (sn_cmp or_lt (sn_op2 or_mul (sn_ix (sn_var 0) sn_int) (sn_ix (sn_var 1) sn_int)) (sn_op2 or_mul (sn_ix (sn_var 1) sn_int) (sn_ix (sn_var 0) sn_int)))))
abbrev s_law_drawn_frac : Stmt := top 54
theorem sc_law_drawn_frac : FnScope ["pen", "most", "top"] ["pen", "most"] (defScope s_law_drawn_frac) := ⟨rfl, rfl, rfl, by decide +kernel, rfl, by decide +kernel, by decide +kernel⟩
theorem ok_law_drawn_frac {f : Addr} {fd : FuncData} (F : Fun K "_law_drawn_frac" "_law_drawn_frac" s_law_drawn_frac f fd) (T : Txt w K mg xm) (d_law_take : DefAt P w K mg base xm 2 "_law_take" ["pen", "many"] f_law_take) (d_law_one : DefAt P w K mg base xm 3 "_law_one" ["pen", "some"] f_law_one) (d_law_frac : DefAt P w K mg base xm 2 "_law_frac" ["top", "bottom"] f_law_frac) : FnG P w K mg base 4 f fd ["pen", "most"] (spF K xm f_law_drawn_frac 2) :=
  FnG.by T.wd (g := b_law_drawn_frac) F sc_law_drawn_frac rfl rfl fun cdv A outer s H E G =>
 (sl_cons (ss_set G.nd 2 (sn_op2 or_sub (sn_call d_law_take G (sa_cons (sn_var 0) (sa_cons (sn_op2 or_add (sn_op2 or_mul sn_int (sn_var 1)) sn_int) sa_nil))) (sn_var 1)))
 (sl_one (ss_ret (sn_call d_law_frac G (sa_cons (sn_var 2) (sa_cons (sn_call d_law_one G (sa_cons (sn_var 0) (sa_cons (sn_lst (sa_cons sn_int (sa_cons sn_int (sa_cons sn_int (sa_cons sn_int (sa_cons sn_int (sa_cons sn_int sa_nil))))))) sa_nil))) sa_nil))))))
abbrev s_law_drawn_share : Stmt := top 55
theorem sc_law_drawn_share : FnScope ["pen"] ["pen"] (defScope s_law_drawn_share) := ⟨rfl, rfl, rfl, by decide +kernel, rfl, by decide +kernel, by decide +kernel⟩
theorem ok_law_drawn_share {f : Addr} {fd : FuncData} (F : Fun K "_law_drawn_share" "_law_drawn_share" s_law_drawn_share f fd) (T : Txt w K mg xm) (d_law_one : DefAt P w K mg base xm 3 "_law_one" ["pen", "some"] f_law_one) : FnG P w K mg base 4 f fd ["pen"] (spF K xm f_law_drawn_share 1) :=
  FnG.by T.wd (g := b_law_drawn_share) F sc_law_drawn_share rfl rfl fun cdv A outer s H E G =>
 (sl_one (ss_ret (sn_call d_law_one G (sa_cons (sn_var 0) (sa_cons (sn_lst (sa_cons (sn_tup (sa_cons sn_int (sa_cons sn_int sa_nil))) (sa_cons (sn_tup (sa_cons sn_int (sa_cons sn_int sa_nil))) (sa_cons (sn_tup (sa_cons sn_int (sa_cons sn_int sa_nil))) (sa_cons (sn_tup (sa_cons sn_int (sa_cons sn_int sa_nil))) (sa_cons (sn_tup (sa_cons sn_int (sa_cons sn_int sa_nil))) (sa_cons (sn_tup (sa_cons sn_int (sa_cons sn_int sa_nil))) (sa_cons (sn_tup (sa_cons sn_int (sa_cons sn_int sa_nil))) (sa_cons (sn_tup (sa_cons sn_int (sa_cons sn_int sa_nil))) sa_nil))))))))) sa_nil)))))
abbrev s_law_drawn_work : Stmt := top 56
theorem sc_law_drawn_work : FnScope ["pen", "many", "wide", "states", "number", "ends", "step", "weights", "moves", "end", "weight"] ["pen", "many", "wide"] (defScope s_law_drawn_work) := ⟨rfl, rfl, rfl, by decide +kernel, rfl, by decide +kernel, by decide +kernel⟩
theorem ok_law_drawn_work {f : Addr} {fd : FuncData} (F : Fun K "_law_drawn_work" "_law_drawn_work" s_law_drawn_work f fd) (T : Txt w K mg xm) (d_law_take : DefAt P w K mg base xm 2 "_law_take" ["pen", "many"] f_law_take) (d_law_one : DefAt P w K mg base xm 3 "_law_one" ["pen", "some"] f_law_one) (d_law_frac : DefAt P w K mg base xm 2 "_law_frac" ["top", "bottom"] f_law_frac) (d_law_drawn_frac : DefAt P w K mg base xm 4 "_law_drawn_frac" ["pen", "most"] f_law_drawn_frac) : FnG P w K mg base 5 f fd ["pen", "many", "wide"] (spF K xm f_law_drawn_work 3) :=
  FnG.by T.wd (g := b_law_drawn_work) F sc_law_drawn_work rfl rfl fun cdv A outer s H E G =>
 (sl_cons (ss_set G.nd 3 (sn_cel sa_nil))
 (sl_cons (ss_for (S := [0, 1, 2, 3, 4, 5, 6, 7, 8, 9, 10]) G (si_rng1 (by rfl) T.n_range (sa_cons (sn_var 1) sa_nil)) (sg_name G.nd 4)
 (sl_cons (ss_set G.nd 5 (sn_cel sa_nil))
 (sl_cons (ss_for (S := [0, 1, 2, 3, 4, 5, 6, 7, 8, 9, 10]) G (si_rng1 (by rfl) T.n_range (sa_cons (sn_op2 or_add sn_int (sn_call d_law_take G (sa_cons (sn_var 0) (sa_cons (sn_var 2) sa_nil)))) sa_nil)) (sg_name G.nd 6)
 (sl_one (ss_expr (sn_meth PySem.F.plainAttrs_list PySem.F.slot_list_append PySem.F.type_list_append mr_append (sn_var 5) (sa_cons (sn_call d_law_one G (sa_cons (sn_var 0) (sa_cons (sn_lst (sa_cons (sn_op2 or_mod (sn_ty cl_int (by rfl) T.n_int bt_int (sa_cons (sn_op2 or_add (sn_var 4) sn_int) sa_nil)) (sn_var 1)) (sa_cons (sn_call d_law_take G (sa_cons (sn_var 0) (sa_cons (sn_var 1) sa_nil))) (sa_cons (sn_var 4) sa_nil)))) sa_nil))) sa_nil)))))
 (sl_cons (ss_set G.nd 5 (sn_sortset sortSL_ok G T.n_sorted T.n_set (sa_cons (sn_var 5) sa_nil)))
 (sl_cons (ss_set G.nd 7 (sn_lc [("end", 9)] G (si_seq (sn_var 5)) (blkOk_by (by first | decide +kernel | rfl)) (fun _ _ _ _ _ G => (sg_name G.nd 9)) (fun _ _ _ _ _ G => st_yes) (fun _ _ _ _ _ G => (sn_call d_law_one G (sa_cons (sn_var 0) (sa_cons (sn_lst (sa_cons sn_int (sa_cons sn_int (sa_cons sn_int (sa_cons sn_int sa_nil))))) sa_nil))))))
 (sl_cons (ss_setLc [("end", 9), ("weight", 10)] G 8 (si_zip (by rfl) T.n_zip (sa_cons (sn_var 5) (sa_cons (sn_var 7) sa_nil))) (blkOk_by (by first | decide +kernel | rfl)) (fun _ _ _ _ _ G => (sg_tup G (sg_cons (sg_name G.nd 9) (sg_cons (sg_name G.nd 10) sg_nil)))) (fun _ _ _ _ _ G => st_yes) (fun _ _ _ _ _ G => (sn_tup (sa_cons (sn_var 9) (sa_cons (sn_call d_law_frac G (sa_cons (sn_var 10) (sa_cons (sn_bi (cl_sum G.cm) (by rfl) T.n_sum bt_sum (sa_cons (sn_var 7) sa_nil)) sa_nil))) sa_nil)))))
 (sl_one (ss_expr (sn_meth PySem.F.plainAttrs_list PySem.F.slot_list_append PySem.F.type_list_append mr_append (sn_var 3) (sa_cons (sn_tup (sa_cons (sn_call d_law_drawn_frac G (sa_cons (sn_var 0) (sa_cons sn_int sa_nil))) (sa_cons (sn_ty cl_tuple (by rfl) T.n_tuple bt_tuple (sa_cons (sn_var 8) sa_nil)) sa_nil))) sa_nil))))))))))
 (sl_one (ss_ret (sn_ty cl_tuple (by rfl) T.n_tuple bt_tuple (sa_cons (sn_var 3) sa_nil))))))
abbrev s_law_subsets : Stmt := top 57
theorem sc_law_subsets : FnScope ["many", "found", "number", "own"] ["many"] (defScope s_law_subsets) := ⟨rfl, rfl, rfl, by decide +kernel, rfl, by decide +kernel, by decide +kernel⟩
theorem ok_law_subsets {f : Addr} {fd : FuncData} (F : Fun K "_law_subsets" "_law_subsets" s_law_subsets f fd) (T : Txt w K mg xm) : FnG P w K mg base 1 f fd ["many"] (spF K xm f_law_subsets 1) :=
  FnG.by T.wd (g := b_law_subsets) F sc_law_subsets rfl rfl fun cdv A outer s H E G =>
 (sl_cons (ss_set G.nd 1 (sn_lst (sa_cons (sn_tup sa_nil) sa_nil)))
 (sl_cons (ss_for (S := [0, 1, 2, 3]) G (si_rng1 (by rfl) T.n_range (sa_cons (sn_var 0) sa_nil)) (sg_name G.nd 2)
 (sl_one (ss_set G.nd 1 (sn_op2 or_add (sn_var 1) (sn_lc [("own", 3)] G (si_seq (sn_var 1)) (blkOk_by (by first | decide +kernel | rfl)) (fun _ _ _ _ _ G => (sg_name G.nd 3)) (fun _ _ _ _ _ G => st_yes) (fun _ _ _ _ _ G => (sn_op2 or_add (sn_var 3) (sn_tup (sa_cons (sn_var 2) sa_nil)))))))))
 (sl_one (ss_ret (sn_var 1)))))
abbrev s_law_by_steps : Stmt := top 58
theorem sc_law_by_steps : FnScope ["work", "share", "sets", "told", "states", "before", "pay", "moves", "state", "steps", "end", "chance", "weight"] ["work", "share", "sets"] (defScope s_law_by_steps) := ⟨rfl, rfl, rfl, by decide +kernel, rfl, by decide +kernel, by decide +kernel⟩
theorem ok_law_by_steps {f : Addr} {fd : FuncData} (F : Fun K "_law_by_steps" "_law_by_steps" s_law_by_steps f fd) (T : Txt w K mg xm) (d_spent : DefAt P w K mg base xm 10 "spent" ["work", "share", "state", "states"] f_spent) (d_law_add : DefAt P w K mg base xm 3 "_law_add" ["one", "other"] f_law_add) (d_law_mul : DefAt P w K mg base xm 3 "_law_mul" ["one", "other"] f_law_mul) : FnG P w K mg base 11 f fd ["work", "share", "sets"] (spF K xm f_law_by_steps 3) :=
  FnG.byZ T.wd (g := b_law_by_steps) F sc_law_by_steps rfl rfl fun cdv A outer s H E G =>
 (sl_cons (ss_setLc [("state", 8)] G 3 (si_rng1 (by rfl) T.n_range (sa_cons (sn_bi cl_len (by rfl) T.n_len bt_len (sa_cons (sn_var 0) sa_nil)) sa_nil)) (blkOk_by (by first | decide +kernel | rfl)) (fun _ _ _ _ _ G => (sg_name G.nd 8)) (fun _ _ _ _ _ G => st_yes) (fun _ _ _ _ _ G => (sn_call d_spent G (sa_cons (sn_var 0) (sa_cons (sn_var 1) (sa_cons (sn_var 8) (sa_cons (sn_ix (sn_var 2) (sn_op1 un_negD sn_int)) sa_nil)))))))
 (sl_cons (ss_for (S := [0, 1, 2, 3, 4, 5, 6, 7, 8, 9, 10, 11, 12]) G (si_seq (sn_revL (sn_sl (sn_var 2) sp_no (sp_so (sn_op1 un_negD sn_int))))) (sg_name G.nd 4)
 (sl_cons (ss_set G.nd 5 (sn_cel sa_nil))
 (sl_cons (ss_for (S := [0, 1, 2, 3, 4, 5, 6, 7, 8, 9, 10, 11, 12]) G (si_seq (sn_var 0)) (sg_tup G (sg_cons (sg_name G.nd 6) (sg_cons (sg_name G.nd 7) sg_nil)))
 (sl_cons (ss_set G.nd 9 (sn_tup (sa_cons sn_int (sa_cons sn_int sa_nil))))
 (sl_cons (ss_for (S := [0, 1, 2, 3, 4, 5, 6, 7, 8, 9, 10, 11, 12]) G (si_seq (sn_var 7)) (sg_tup G (sg_cons (sg_name G.nd 10) (sg_cons (sg_name G.nd 11) sg_nil)))
 (sl_one (ss_if (st_cmp or_inQ (sn_var 10) (sn_var 4))
 (sl_cons (ss_set G.nd 12 (sn_call d_law_mul G (sa_cons (sn_var 1) (sa_cons (sn_var 11) sa_nil))))
 (sl_cons (ss_set G.nd 6 (sn_call d_law_add G (sa_cons (sn_var 6) (sa_cons (sn_call d_law_mul G (sa_cons (sn_var 12) (sa_cons (sn_ix (sn_ix (sn_var 3) (sn_var 10)) sn_int) sa_nil))) sa_nil))))
 (sl_one (ss_set G.nd 9 (sn_call d_law_add G (sa_cons (sn_var 9) (sa_cons (sn_call d_law_mul G (sa_cons (sn_var 12) (sa_cons (sn_ix (sn_ix (sn_var 3) (sn_var 10)) sn_int) sa_nil))) sa_nil)))))))
 sl_nil)))
 (sl_one (ss_expr (sn_meth PySem.F.plainAttrs_list PySem.F.slot_list_append PySem.F.type_list_append mr_append (sn_var 5) (sa_cons (sn_tup (sa_cons (sn_var 6) (sa_cons (sn_var 9) sa_nil))) sa_nil)))))))
 (sl_one (ss_set G.nd 3 (sn_var 5))))))
 (sl_one (ss_ret (sn_var 3)))))
abbrev s_law : Stmt := top 59
theorem sc_law : FnScope ["script", "pen", "turn", "many", "share", "work", "own", "some", "step", "state", "sets", "pay", "steps", "over_v", "k", "other"] ["script"] (defScope s_law) := ⟨rfl, rfl, rfl, by decide +kernel, rfl, by decide +kernel, by decide +kernel⟩
theorem ok_law {f : Addr} {fd : FuncData} (F : Fun K "law" "law" s_law f fd) (T : Txt w K mg xm) (d_numbers : DefAt P w K mg base xm 10 "numbers" ["work", "share"] f_numbers) (d_law_open : DefAt P w K mg base xm 1 "_law_open" ["script"] f_law_open) (d_law_take : DefAt P w K mg base xm 2 "_law_take" ["pen", "many"] f_law_take) (d_law_anew : DefAt P w K mg base xm 1 "_law_anew" ["pen"] f_law_anew) (d_law_one : DefAt P w K mg base xm 3 "_law_one" ["pen", "some"] f_law_one) (d_law_mul : DefAt P w K mg base xm 3 "_law_mul" ["one", "other"] f_law_mul) (d_law_is_less : DefAt P w K mg base xm 1 "_law_is_less" ["one", "other"] f_law_is_less) (d_law_drawn_share : DefAt P w K mg base xm 4 "_law_drawn_share" ["pen"] f_law_drawn_share) (d_law_drawn_work : DefAt P w K mg base xm 5 "_law_drawn_work" ["pen", "many", "wide"] f_law_drawn_work) (d_law_subsets : DefAt P w K mg base xm 1 "_law_subsets" ["many"] f_law_subsets) (d_law_by_steps : DefAt P w K mg base xm 11 "_law_by_steps" ["work", "share", "sets"] f_law_by_steps) : FnG P w K mg base 12 f fd ["script"] (spF K xm f_law 1) :=
  FnG.by T.wd (g := b_law) F sc_law rfl rfl fun cdv A outer s H E G =>
 (sl_cons (ss_set G.nd 1 (sn_call d_law_open G (sa_cons (sn_var 0) sa_nil)))
 (sl_cons (ss_for (S := [0, 1, 2, 3, 4, 5, 6, 7, 8, 9, 10, 11, 12, 13, 14, 15]) G (si_rng1 (by rfl) T.n_range (sa_cons sn_int sa_nil)) (sg_name G.nd 2)
 (sl_cons (ss_par G 3 4 (sa_cons (sn_op2 or_add sn_int (sn_call d_law_take G (sa_cons (sn_var 1) (sa_cons sn_int sa_nil)))) (sa_cons (sn_call d_law_drawn_share G (sa_cons (sn_var 1) sa_nil)) sa_nil)))
 (sl_cons (ss_set G.nd 5 (sn_call d_law_drawn_work G (sa_cons (sn_call d_law_anew G (sa_cons (sn_var 1) sa_nil)) (sa_cons (sn_var 3) (sa_cons sn_int sa_nil)))))
 (sl_cons (ss_asg (S := [0, 1, 2, 3, 4, 5, 6, 7, 8, 9, 10, 11, 12, 13, 14, 15]) (sn_tup (sa_cons (sn_call d_numbers G (sa_cons (sn_var 5) (sa_cons (sn_var 4) sa_nil))) (sa_cons (sn_call d_law_subsets G (sa_cons (sn_var 3) sa_nil)) sa_nil))) (sg_tup G (sg_cons (sg_name G.nd 6) (sg_cons (sg_name G.nd 7) sg_nil))))
 (sl_cons (ss_for (S := [0, 1, 2, 3, 4, 5, 6, 7, 8, 9, 10, 11, 12, 13, 14, 15]) G (si_rng1 (by rfl) T.n_range (sa_cons sn_int sa_nil)) (sg_name G.nd 8)
 (sl_cons (ss_setLc [("k", 14)] G 10 (si_rng1 (by rfl) T.n_range (sa_cons (sn_op2 or_add sn_int (sn_call d_law_take G (sa_cons (sn_var 1) (sa_cons sn_int sa_nil)))) sa_nil)) (blkOk_by (by first | decide +kernel | rfl)) (fun _ _ _ _ _ G => (sg_name G.nd 14)) (fun _ _ _ _ _ G => st_yes) (fun _ _ _ _ _ G => (sn_call d_law_one G (sa_cons (sn_var 1) (sa_cons (sn_var 7) sa_nil)))))
 (sl_one (ss_for (S := [0, 1, 2, 3, 4, 5, 6, 7, 8, 9, 10, 11, 12, 13, 14, 15]) G (si_enum (by rfl) T.n_enumerate (sa_cons (sn_call d_law_by_steps G (sa_cons (sn_var 5) (sa_cons (sn_var 4) (sa_cons (sn_var 10) sa_nil)))) sa_nil)) (sg_tup G (sg_cons (sg_name G.nd 9) (sg_cons (sg_tup G (sg_cons (sg_name G.nd 11) (sg_cons (sg_name G.nd 12) sg_nil))) sg_nil)))
 (sl_one (ss_if (st_truth (sn_call d_law_is_less G (sa_cons (sn_call d_law_mul G (sa_cons (sn_ix (sn_var 6) (sn_var 9)) (sa_cons (sn_var 12) sa_nil))) (sa_cons (sn_var 11) sa_nil))))
 (sl_one (ss_ret sn_bl))
 sl_nil))))))
 (sl_one (ss_for (S := [0, 1, 2, 3, 4, 5, 6, 7, 8, 9, 10, 11, 12, 13, 14, 15]) G (si_rng1 (by rfl) T.n_range (sa_cons (sn_var 3) sa_nil)) (sg_name G.nd 9)
 (sl_cons (ss_set G.nd 13 (sn_ty cl_tuple (by rfl) T.n_tuple bt_tuple (sa_cons (sn_lc [("other", 15)] G (si_rng1 (by rfl) T.n_range (sa_cons (sn_var 3) sa_nil)) (blkOk_by (by first | decide +kernel | rfl)) (fun _ _ _ _ _ G => (sg_name G.nd 15)) (fun _ _ _ _ _ G => (st_one (st_truth (sn_call d_law_is_less G (sa_cons (sn_ix (sn_var 6) (sn_var 9)) (sa_cons (sn_ix (sn_var 6) (sn_var 15)) sa_nil)))))) (fun _ _ _ _ _ G => (sn_var 15))) sa_nil)))
 (sl_cons (ss_asg (S := [0, 1, 2, 3, 4, 5, 6, 7, 8, 9, 10, 11, 12, 13, 14, 15]) (sn_ix (sn_call d_law_by_steps G (sa_cons (sn_var 5) (sa_cons (sn_var 4) (sa_cons (sn_op2 or_mul (sn_lst (sa_cons (sn_var 13) sa_nil)) (sn_op2 or_add sn_int (sn_call d_law_take G (sa_cons (sn_var 1) (sa_cons sn_int sa_nil))))) sa_nil)))) (sn_var 9)) (sg_tup G (sg_cons (sg_name G.nd 11) (sg_cons (sg_name G.nd 12) sg_nil))))
 (sl_one (ss_if (st_cmp (or_ne G.rm) (sn_var 11) (sn_call d_law_mul G (sa_cons (sn_ix (sn_var 6) (sn_var 9)) (sa_cons (sn_var 12) sa_nil))))
 (sl_one (ss_ret sn_bl))
 sl_nil)))))))))))
 (sl_one (ss_ret sn_bl))))
end
end Lw

namespace Ev
open PySem PySem.Spec PyProof.Rows L2
/-- on the side of the data no table is asked for -/
instance (priority := 10) noTabsI : Tabs := ⟨[], none⟩

/-! ## equations for running the functions -/
section
variable {en : En} {st : Sto} {d : D} {r : En} {x : Option D}
theorem varF_0 : varF 0 (some d :: r) st = .ok d st := rfl
theorem varF_s {i : Nat} : varF (i + 1) (x :: r) st = varF i r st := rfl
theorem litF_e : litF d en st = .ok d st := rfl
theorem op2F_e {op : O2} {f g : EF} : op2F op f g en st = (f en st).bind fun a st1 => (g en st1).bind fun b st2 => R.ofO (op a b st2) := rfl
theorem op1F_e {op : O1} {f : EF} : op1F op f en st = (f en st).bind fun a st1 => R.ofO (op a st1) := rfl
theorem opLF_e {op : OL} {f : AF} : opLF op f en st = (f en st).bind fun a st1 => R.ofO (op a st1) := rfl
theorem consA_e {f : EF} {g : AF} : consA f g en st = (f en st).bind fun a st1 => (g en st1).bind fun b st2 => .ok (a :: b) st2 := rfl
theorem nilA_e : nilA en st = .ok [] st := rfl
def toB : D → Sto → R Bool := fun a st1 => match a with
  | .bl b => .ok b st1
  | _ => .bad
theorem boolF_e {f : EF} : boolF f en st = (f en st).bind toB := rfl
theorem toB_bl {b : Bool} : toB (.bl b) st = .ok b st := rfl
def toT : D → Sto → R Bool := fun a st1 => match truD a st1 with
  | some b => .ok b st1
  | none => .bad
theorem truF_e {f : EF} : truF f en st = (f en st).bind toT := rfl
theorem toT_bl {b : Bool} : toT (.bl b) st = .ok b st := rfl
theorem notT_e {f : TF} : notT f en st = (f en st).bind fun a st1 => .ok (!a) st1 := rfl
theorem andT_e {f g : TF} : andT f g en st = (f en st).bind fun a st1 => if a = true then g en st1 else .ok false st1 := rfl
theorem orT_e {f g : TF} : orT f g en st = (f en st).bind fun a st1 => if a = true then .ok true st1 else g en st1 := rfl
theorem ifeF_e {c : TF} {f g : EF} : ifeF c f g en st = (c en st).bind fun a st1 => if a = true then f en st1 else g en st1 := rfl
theorem andV_e {f g : EF} : andV f g en st = (boolF f en st).bind fun a st1 => if a = true then g en st1 else .ok (.bl false) st1 := rfl
theorem orV_e {f g : EF} : orV f g en st = (boolF f en st).bind fun a st1 => if a = true then .ok (.bl true) st1 else g en st1 := rfl
theorem notV_e {f : EF} : notV f en st = (boolF f en st).bind fun a st1 => .ok (.bl (!a)) st1 := rfl
theorem isiF_e {p : D → Bool} {f : EF} : isiF p f en st = (f en st).bind fun d st1 => .ok (.bl (p d)) st1 := rfl
theorem callF_e {n : Nat} {F : List D → Sto → R D} {fs : AF} : callF n F fs en st = (fs en st).bind fun ds st1 => if ds.length = n then F ds st1 else .bad := rfl
theorem noP_e : noP en st = .ok none st := rfl
def toI : D → Sto → R (Option Int) := fun d st1 => match d with
  | .int i => .ok (some i) st1
  | _ => .bad
theorem someP_e {f : EF} : someP f en st = (f en st).bind toI := rfl
theorem toI_int {i : Int} : toI (.int i) st = .ok (some i) st := rfl
theorem slF_e {f : EF} {l h : PF} : slF f l h en st = (f en st).bind fun a st1 => (l en st1).bind fun lo st2 => (h en st2).bind fun hi st3 => R.ofO (slD a lo hi st3) := rfl
/-! operations -/
theorem addD_ii {i j : Int} : addD (.int i) (.int j) st = some (.int (i + j), st) := rfl
theorem subD_ii {i j : Int} : subD (.int i) (.int j) st = some (.int (i - j), st) := rfl
theorem mulD_ii {i j : Int} (h : mulOk i j = true) : mulD (.int i) (.int j) st = some (.int (i * j), st) := (if_pos h : (if mulOk i j = true then some (D.int (i * j), st) else none) = _)
theorem modD_ii {i j : Int} (h : j ≠ 0) : modD (.int i) (.int j) st = some (.int (i.fmod j), st) := (if_pos h : (if j ≠ 0 then some (D.int (i.fmod j), st) else none) = _)
theorem fdivD_ii {i j : Int} (h : j ≠ 0) (h2 : j.natAbs.log2 < 9000) : fdivD (.int i) (.int j) st = some (.int (i.fdiv j), st) :=
  (if_pos (by rw [decide_eq_true h, decide_eq_true h2]; rfl) : (if (decide (j ≠ 0) && decide (j.natAbs.log2 < 9000)) = true then some (D.int (i.fdiv j), st) else none) = _)
theorem powD_ii {x : Int} {j : Int} (n : Nat) (hj : j = (n : Nat)) (hn : n ≤ 1000000) (hx : x.natAbs < 2 ^ 64) : powD (.int x) (.int j) st = some (.int (x ^ n), st) := by
  subst hj
  show (if (decide (0 ≤ ((n : Nat) : Int)) && decide (((n : Nat) : Int) ≤ 1000000) && decide (x.natAbs < 2 ^ 64)) = true then some (D.int (x ^ ((n : Nat) : Int).toNat), st) else none) = _
  rw [decide_eq_true (Int.natCast_nonneg n), decide_eq_true (by omega), decide_eq_true hx, Int.toNat_natCast]
  rfl
theorem cmpI_ii {p : Int → Int → Bool} {i j : Int} : cmpI p (.int i) (.int j) st = some (.bl (p i j), st) := rfl
theorem negD_i {i : Int} : negD (.int i) st = some (.int (-i), st) := rfl
theorem ixD_t {ds : List D} {i : Int} (h : atD ds i = some d) : ixD (.tup ds) (.int i) st = some (d, st) := by
  show (atD ds i).bind (fun d => some (d, st)) = _
  rw [h]
  rfl
theorem ixD_l {ds : List D} {i : Int} (h : atD ds i = some d) : ixD (.lst ds) (.int i) st = some (d, st) := by
  show (atD ds i).bind (fun d => some (d, st)) = _
  rw [h]
  rfl
theorem ixD_f {ds : List D} {i : Int} (h : atD ds i = some d) : ixD (.fro ds) (.int i) st = some (d, st) := by
  show (atD ds i).bind (fun d => some (d, st)) = _
  rw [h]
  rfl
theorem ixD_r {ds : List D} {i : Int} {n : Nat} (hc : st[n]? = some (.lst ds)) (h : atD ds i = some d) : ixD (.ref n) (.int i) st = some (d, st) := by
  show (match st[n]? with | some (.lst ds) => some ds | _ => none).bind (fun ds => (atD ds i).bind fun d => some (d, st)) = _
  rw [hc]
  show (atD ds i).bind (fun d => some (d, st)) = _
  rw [h]
  rfl
theorem intL_i {i : Int} : intL [.int i] st = some (.int i, st) := rfl
theorem lenL_t {ds : List D} : lenL [.tup ds] st = some (.int ds.length, st) := rfl
theorem lenL_l {ds : List D} : lenL [.lst ds] st = some (.int ds.length, st) := rfl
theorem lenL_f {ds : List D} : lenL [.fro ds] st = some (.int ds.length, st) := rfl
theorem lenL_r {ds : List D} {n : Nat} (hc : st[n]? = some (.lst ds)) : lenL [.ref n] st = some (.int ds.length, st) := by
  show (match st[n]? with | some (.lst ds) => some ds | _ => none).bind (fun es => some (D.int es.length, st)) = _
  rw [hc]
  rfl
theorem absL_i {i : Int} : absL [.int i] st = some (.int (if i < 0 then -i else i), st) := rfl
theorem gcdL_i {i j : Int} : gcdL [.int i, .int j] st = some (.int ((Nat.gcd i.natAbs j.natAbs : Nat) : Int), st) := rfl
theorem tupL_e {ds : List D} (h : ds.length ≤ 1000) : tupL ds st = some (.tup ds, st) := if_pos (Nat.le_trans h (by decide))
theorem lstL_e {ds : List D} (h : ds.length ≤ 1000) : lstL ds st = some (.lst ds, st) := if_pos (Nat.le_trans h (by decide))
theorem celL_e {ds : List D} (h : ds.length ≤ 1000) : celL ds st = some (.ref st.length, st ++ [.lst ds]) := if_pos (Nat.le_trans h (by decide))
theorem atD_nat {ds : List D} {n : Nat} (h : ds[n]? = some d) : atD ds (n : Nat) = some d := by
  have hl := (List.getElem?_eq_some_iff.mp h).1
  unfold atD ixN
  rw [if_pos (Int.natCast_nonneg n), if_pos (by omega), Int.toNat_natCast]
  exact h
/-! statements -/
theorem seqS_e {f g : SF} : seqS f g en st = match f en st with
  | .nx en' st' => g en' st'
  | r => r := rfl
theorem step_set {i : Nat} {e : EF} {r : SF} {en' : En} {st' : Sto} (h : e en st = .ok d st') (hi : i < en.length) (he : en.set i (some d) = en') : seqS (setS i e) r en st = r en' st' := by
  subst he
  unfold seqS setS asgS nameG
  rw [h]
  simp only [bindS_ok, if_pos hi]
theorem set_ok {i : Nat} {e : EF} {en' : En} {st' : Sto} (h : e en st = .ok d st') (hi : i < en.length) (he : en.set i (some d) = en') : setS i e en st = .nx en' st' := by
  subst he
  unfold setS asgS nameG
  rw [h]
  simp only [bindS_ok, if_pos hi]
theorem step_if {c : TF} {f g r : SF} {st' : Sto} {b : Bool} (h : c en st = .ok b st') : seqS (ifS c f g) r en st = seqS (if b = true then f else g) r en st' := by
  unfold seqS ifS
  rw [h]
  cases b <;> rfl
theorem if_ok {c : TF} {f g : SF} {st' : Sto} {b : Bool} (h : c en st = .ok b st') : ifS c f g en st = (if b = true then f else g) en st' := by
  unfold ifS
  rw [h]
  cases b <;> rfl
theorem step_pass {r : SF} : seqS passS r en st = r en st := rfl
theorem step_ret {e : EF} {r : SF} {st' : Sto} (h : e en st = .ok d st') : seqS (retS e) r en st = .rt d st' := by
  unfold seqS retS
  rw [h]
  rfl
theorem ret_ok {e : EF} {st' : Sto} (h : e en st = .ok d st') : retS e en st = .rt d st' := by
  unfold retS
  rw [h]
  rfl
theorem step_of {f r : SF} {en' : En} {st' : Sto} (h : f en st = .nx en' st') : seqS f r en st = r en' st' := by
  unfold seqS
  rw [h]
theorem sub_ok {f o i : EF} {st1 st2 st3 : Sto} {n : Nat} {m : Int} {ds : List D} {q : Nat} (h1 : f en st = .ok d st1) (h2 : o en st1 = .ok (.ref n) st2) (h3 : i en st2 = .ok (.int m) st3) (hc : st3[n]? = some (.lst ds)) (hq : ixN ds.length m = some q) : subS f o i en st = .nx en (st3.set n (.lst (ds.set q d))) := by
  unfold subS
  rw [h1]
  simp only [bindS_ok]
  rw [h2]
  simp only [bindS_ok]
  rw [h3]
  simp only [bindS_ok, hc, hq]
theorem fn_rt {n : Nat} {g : SF} {ds : List D} {st' : Sto} {en0 : En} (he : ds.map some ++ List.replicate (n - ds.length) none = en0) (h : g en0 st = .rt d st') : fnF n g ds st = .ok d st' := by
  subst he
  unfold fnF
  rw [h]
theorem fn_ex {n c : Nat} {p : Pay} {g : SF} {ds : List D} {st' : Sto} {en0 en1 : En} (he : ds.map some ++ List.replicate (n - ds.length) none = en0) (h : g en0 st = .ex c p en1 st') : fnF n g ds st = .ex c p st' := by
  subst he
  unfold fnF
  rw [h]
theorem step_par {i j : Nat} {fs : AF} {r : SF} {e : D} {st' : Sto} {en' : En} (h : fs en st = .ok [d, e] st') (hi : i < en.length ∧ j < en.length) (he : (en.set i (some d)).set j (some e) = en') : seqS (parS i j fs) r en st = r en' st' := by
  subst he
  unfold seqS parS
  rw [h]
  simp only [bindS_ok, if_pos hi]
theorem par_ok {i j : Nat} {fs : AF} {e : D} {st' : Sto} {en' : En} (h : fs en st = .ok [d, e] st') (hi : i < en.length ∧ j < en.length) (he : (en.set i (some d)).set j (some e) = en') : parS i j fs en st = .nx en' st' := by
  subst he
  unfold parS
  rw [h]
  simp only [bindS_ok, if_pos hi]
theorem step_asg {e : EF} {g : GF} {r : SF} {st' : Sto} {en' : En} (h : e en st = .ok d st') (hg : g d st' en = some en') : seqS (asgS e g) r en st = r en' st' := by
  unfold seqS asgS
  rw [h]
  simp only [bindS_ok, hg]
theorem step_expr {e : EF} {r : SF} {st' : Sto} (h : e en st = .ok d st') : seqS (exprS e) r en st = r en st' := by
  unfold seqS exprS
  rw [h]
  rfl
end
/-! numbers -/
theorem mulOk_l {i j : Int} (h : -(2 ^ 64) < i) (h' : i < 2 ^ 64) : mulOk i j = true := by
  unfold mulOk
  rw [decide_eq_true (show -(2 ^ 64) < i ∧ i < 2 ^ 64 from ⟨h, h'⟩)]
  rfl
theorem mulOk_r {i j : Int} (h : -(2 ^ 64) < j) (h' : j < 2 ^ 64) : mulOk i j = true := by
  unfold mulOk
  rw [decide_eq_true (show -(2 ^ 64) < j ∧ j < 2 ^ 64 from ⟨h, h'⟩)]
  simp
theorem mulOk_w {i j : Int} {a b : Nat} (ha : i.natAbs < 2 ^ a) (hb : j.natAbs < 2 ^ b) (h0 : 0 < a) (h1 : 0 < b) (h : a + b ≤ 1000000) : mulOk i j = true := by
  have w : i.natAbs.log2 + j.natAbs.log2 < 1000000 := wide_mul ha hb h0 h1 h
  unfold mulOk
  rw [decide_eq_true w]
  simp
end Ev

namespace Ev
open PySem PySem.Spec PyProof.Rows L2

/-! ## data that repr tells -/
structure Rq (k w : Nat) (p : PyData) : Prop where
  can : p.canLay0 = true
  ish : p.intsShort 100 = true
  sh : p.showable = true
  dep : p.depth ≤ k
  wt : p.weight ≤ w
  gt : ∀ c ∈ p.shown.cps.toList, c < 256
structure Rqs (k w : Nat) (ps : List PyData) : Prop where
  can : PyData.canLayAll0 ps = true
  ish : PyData.intsShortAll 100 ps = true
  sh : PyData.showableAll ps = true
  dep : PyData.depthAll ps ≤ k
  wt : PyData.weightAll ps ≤ ps.length * (w + 1)
  gt : ∀ t ∈ PyData.shownAll ps, ∀ c ∈ t.cps.toList, c < 256
theorem Rqs.nil {k w : Nat} : Rqs k w [] := ⟨rfl, rfl, rfl, Nat.zero_le _, Nat.zero_le _, fun t h => nomatch h⟩
theorem Rqs.cons {k w : Nat} {p : PyData} {ps : List PyData} (h : Rq k w p) (hs : Rqs k w ps) : Rqs k w (p :: ps) := by
  refine ⟨?_, ?_, ?_, ?_, ?_, ?_⟩
  · show (p.canLay0 && PyData.canLayAll0 ps) = true
    rw [h.can, hs.can]
    rfl
  · show (p.intsShort 100 && PyData.intsShortAll 100 ps) = true
    rw [h.ish, hs.ish]
    rfl
  · show (p.showable && PyData.showableAll ps) = true
    rw [h.sh, hs.sh]
    rfl
  · exact Nat.max_le.mpr ⟨h.dep, hs.dep⟩
  · show p.weight + 1 + PyData.weightAll ps ≤ (ps.length + 1) * (w + 1)
    have h1 := h.wt
    have h2 := hs.wt
    rw [Nat.add_mul]
    omega
  · intro t ht c hc
    rcases List.mem_cons.mp (show t ∈ p.shown :: PyData.shownAll ps from ht) with rfl | ht
    · exact h.gt c hc
    · exact hs.gt t ht c hc
theorem Rq.mono {k w k' w' : Nat} {p : PyData} (h : Rq k w p) (hk : k ≤ k') (hw : w ≤ w') : Rq k' w' p := ⟨h.can, h.ish, h.sh, Nat.le_trans h.dep hk, Nat.le_trans h.wt hw, h.gt⟩
theorem join_small {s : Str} {ts : List Str} (hs : ∀ c ∈ s.cps.toList, c < 256) (ht : ∀ t ∈ ts, ∀ c ∈ t.cps.toList, c < 256) : ∀ c ∈ (Str.join s ts).cps.toList, c < 256 := by
  intro c hc
  rw [mem_join] at hc
  rcases hc with ⟨t, h, hc⟩ | ⟨_, hc⟩
  · exact ht t h c hc
  · exact hs c hc
theorem Rq.tup {k w : Nat} {ps : List PyData} (h : Rqs k w ps) : Rq (k + 1) (ps.length * (w + 1)) (.tuple ps) := by
  refine ⟨h.can, h.ish, h.sh, Nat.succ_le_succ h.dep, h.wt, ?_⟩
  intro c hc
  have hc : c ∈ (((("(" : String) : Str) ++ Str.join ", " (PyData.shownAll ps) ++ ((if (PyData.shownAll ps).length == 1 then ",)" else ")" : String) : Str)) : Str).cps.toList := hc
  rw [mem_cps_append, mem_cps_append] at hc
  rcases hc with (hc | hc) | hc
  · rw [show (("(" : String) : Str).cps.toList = [40] from by decide] at hc
    simp only [List.mem_cons, List.not_mem_nil, or_false] at hc
    omega
  · exact join_small (by intro c hc; rw [show ((", " : String) : Str).cps.toList = [44, 32] from by decide] at hc; simp only [List.mem_cons, List.not_mem_nil, or_false] at hc; omega) h.gt c hc
  · by_cases e : (PyData.shownAll ps).length == 1
    · rw [if_pos e, show ((",)" : String) : Str).cps.toList = [44, 41] from by decide] at hc
      simp only [List.mem_cons, List.not_mem_nil, or_false] at hc
      omega
    · rw [if_neg e, show ((")" : String) : Str).cps.toList = [41] from by decide] at hc
      simp only [List.mem_cons, List.not_mem_nil, or_false] at hc
      omega
theorem from_small : ∀ {ts : List Str} {k : Nat} {acc : Str}, (∀ c ∈ acc.cps.toList, c < 256) → (∀ t ∈ ts, ∀ c ∈ t.cps.toList, c < 256) → ∀ c ∈ (textFrom k acc ts).cps.toList, c < 256
  | [], _, _, ha, _, c, hc => ha c hc
  | t :: r, k, acc, ha, ht, c, hc => by
    unfold textFrom at hc
    refine from_small (ts := r) ?_ (fun t' h => ht t' (List.mem_cons_of_mem _ h)) c hc
    intro c hc
    have ht' := ht t List.mem_cons_self
    by_cases hk : k > 0
    · simp only [if_pos hk, mem_cps_append] at hc
      rcases hc with (hc | hc) | hc
      · exact ha c hc
      · rw [show ((", " : String) : Str).cps.toList = [44, 32] from by decide] at hc
        simp only [List.mem_cons, List.not_mem_nil, or_false] at hc
        omega
      · exact ht' c hc
    · simp only [if_neg hk, mem_cps_append] at hc
      rcases hc with (hc | hc) | hc
      · exact ha c hc
      · rw [show (("" : String) : Str).cps.toList = [] from by decide] at hc
        cases hc
      · exact ht' c hc
theorem Rq.lst {k w : Nat} {ps : List PyData} (h : Rqs k w ps) : Rq (k + 1) (ps.length * (w + 1)) (.list ps) := by
  refine ⟨h.can, h.ish, h.sh, Nat.succ_le_succ h.dep, h.wt, ?_⟩
  intro c hc
  have hc : c ∈ (textFrom 0 "[" (PyData.shownAll ps) ++ (("]" : String) : Str)).cps.toList := hc
  rw [mem_cps_append] at hc
  rcases hc with hc | hc
  · exact from_small (by rw [show (("[" : String) : Str).cps.toList = [91] from by decide]; intro c hc; simp only [List.mem_cons, List.not_mem_nil, or_false] at hc; omega) h.gt c hc
  · rw [show (("]" : String) : Str).cps.toList = [93] from by decide] at hc
    simp only [List.mem_cons, List.not_mem_nil, or_false] at hc
    omega
theorem Rq.int {i : Int} (h : i.natAbs < 10 ^ 80) : Rq 0 400 (.int i) := by
  have hb : i.natAbs < 2 ^ 300 := Nat.lt_trans h (by decide +kernel)
  have hl : i.natAbs.log2 < 300 := by
    by_cases hz : i.natAbs = 0
    · rw [hz]
      decide
    · exact (Nat.log2_lt hz).2 hb
  refine ⟨rfl, ?_, ?_, Nat.le_refl _, ?_, ?_⟩
  · show decide ((PyData.shown (.int i)).length ≤ 100) = true
    have e := int_text_length_le10 (k := 80) (by decide) h
    have e2 : (PyData.shown (.int i)).length = (toString i).length := by
      show (Str.ofString (toString i)).length = _
      rw [PySem.ofString_length]
    rw [decide_eq_true_eq]
    omega
  · show decide (i.natAbs.log2 < 1920) = true
    rw [decide_eq_true_eq]
    omega
  · show (if i == 0 then 0 else i.natAbs.log2 + 1) ≤ 400
    split <;> omega
  · intro c hc
    rw [PyData.shown_int, signs_ofString] at hc
    obtain ⟨ch, hc, e⟩ := List.mem_map.mp hc
    rcases int_sign i ch hc with hd | hd
    · have := digit_range hd
      omega
    · rw [hd] at e
      have e' : c = 45 := by rw [← e]; decide
      omega
theorem Rq.bl {b : Bool} : Rq 0 400 (.bool b) := by
  refine ⟨rfl, rfl, rfl, Nat.le_refl _, Nat.zero_le _, ?_⟩
  cases b
  · rw [PyData.shown_bool]
    exact show ∀ c ∈ (Str.ofString "False").cps.toList, c < 256 from by decide
  · rw [PyData.shown_bool]
    exact show ∀ c ∈ (Str.ofString "True").cps.toList, c < 256 from by decide
theorem Rq.non : Rq 0 400 .none := by
  refine ⟨rfl, rfl, rfl, Nat.le_refl _, Nat.zero_le _, ?_⟩
  rw [PyData.shown_none]
  decide
theorem Rq.ok {k w : Nat} {p : PyData} (h : Rq k w p) (hk : k ≤ 15) (hw : w ≤ 150000) : reprOk p = true := by
  have h1 := PyData.shown_le 100 (by decide) p (PyData.leavesShort_of_canLay0 100 p h.can h.ish)
  have h2 := h.wt
  have h3 := h.dep
  have h4 : (100 + 2) * p.weight ≤ 102 * 150000 := Nat.mul_le_mul (by decide) (by omega)
  unfold reprOk
  rw [h.sh, PyData.hasDict_of_canLay p h.can, decide_eq_true (show p.depth ≤ 60 by omega), decide_eq_true (show p.shown.length ≤ sizeLine by rw [sizeLine_eq]; omega)]
  rfl
theorem Rq.text {k w : Nat} {p : PyData} (h : Rq k w p) : SeqAt.shaped (.str p.shown) = true := by
  show (PyData.canLay0 (.str p.shown) && decide (PyData.depth (.str p.shown) ≤ 64)) = true
  have : PyData.canLay0 (.str p.shown) = true := by
    show p.shown.cps.all (· < 0x110000) = true
    rw [Array.all_eq_true_iff_forall_mem]
    intro c hc
    have := h.gt c (Array.mem_toList_iff.mpr hc)
    rw [decide_eq_true_eq]
    omega
  rw [this]
  rfl
/-- datum and its plain form -/
structure Rd (k w : Nat) (d : D) (p : PyData) : Prop where
  at' : ∀ n st, k < n → toP n st d = some p
  q : Rq k w p
structure Rds (k w : Nat) (ds : List D) (ps : List PyData) : Prop where
  at' : ∀ n st, k < n → mapO (toP n st) ds = some ps
  q : Rqs k w ps
theorem Rds.nil {k w : Nat} : Rds k w [] [] := ⟨fun _ _ _ => rfl, .nil⟩
theorem Rds.cons {k w : Nat} {d : D} {p : PyData} {ds : List D} {ps : List PyData} (h : Rd k w d p) (hs : Rds k w ds ps) : Rds k w (d :: ds) (p :: ps) := by
  refine ⟨fun n st hn => ?_, .cons h.q hs.q⟩
  show (toP n st d).bind (fun b => (mapO (toP n st) ds).bind fun bs => some (b :: bs)) = _
  rw [h.at' n st hn, hs.at' n st hn]
  rfl
theorem Rd.tup {k w : Nat} {ds : List D} {ps : List PyData} (h : Rds k w ds ps) : Rd (k + 1) (ps.length * (w + 1)) (.tup ds) (.tuple ps) := by
  refine ⟨fun n st hn => ?_, .tup h.q⟩
  cases n with
  | zero => omega
  | succ n =>
    show (mapO (toP n st) ds).map PyData.tuple = _
    rw [h.at' n st (by omega)]
    rfl
theorem Rd.lst {k w : Nat} {ds : List D} {ps : List PyData} (h : Rds k w ds ps) : Rd (k + 1) (ps.length * (w + 1)) (.lst ds) (.list ps) := by
  refine ⟨fun n st hn => ?_, .lst h.q⟩
  cases n with
  | zero => omega
  | succ n =>
    show (mapO (toP n st) ds).map PyData.list = _
    rw [h.at' n st (by omega)]
    rfl
theorem Rd.int {i : Int} (h : i.natAbs < 10 ^ 80) : Rd 0 400 (.int i) (.int i) := ⟨fun n st hn => by cases n with | zero => omega | succ n => rfl, .int h⟩
theorem Rd.bl {b : Bool} : Rd 0 400 (.bl b) (.bool b) := ⟨fun n st hn => by cases n with | zero => omega | succ n => rfl, .bl⟩
theorem Rd.non : Rd 0 400 .non .none := ⟨fun n st hn => by cases n with | zero => omega | succ n => rfl, .non⟩
theorem Rd.str {s : Str} (hs : SeqAt.shaped (PyData.str s) = true) (hw : s.cps.size ≤ 400) (hg : ∀ c ∈ (PyData.shown (PyData.str s)).cps.toList, c < 256) : Rd 0 400 (.str s) (.str s) :=
  ⟨fun n st hn => by cases n with | zero => omega | succ n => rfl, ⟨(Bool.and_eq_true_iff.mp hs).1, rfl, rfl, Nat.le_refl _, hw, hg⟩⟩
theorem Rd.mono {k w k' w' : Nat} {d : D} {p : PyData} (h : Rd k w d p) (hk : k ≤ k') (hw : w ≤ w') : Rd k' w' d p := ⟨fun n st hn => h.at' n st (by omega), h.q.mono hk hw⟩
section
variable {k w : Nat} {d : D} {p : PyData} {st : Sto}
theorem reprL_is (h : Rd k w d p) (hk : k ≤ 15) (hw : w ≤ 150000) : reprL [d] st = some (.str p.shown, st) := by
  show (toP 16 st d).bind (fun p => if reprOk p then some (D.str p.shown, st) else none) = _
  rw [h.at' 16 st (by omega)]
  show (if reprOk p then some (D.str p.shown, st) else none) = _
  rw [if_pos (h.q.ok hk hw)]
theorem eqB_str {s : Str} (hs : SeqAt.shaped (PyData.str s) = true) : eqB (.str s) (.str s) st = some true := by
  unfold eqB
  show (if SeqAt.shaped (PyData.str s) && SeqAt.shaped (PyData.str s) then some (PyData.eqv (.str s) (.str s)) else none) = _
  rw [hs]
  show some (s == s) = _
  rw [beq_self_eq_true]
theorem neD_text (h : Rd k w d p) : neD (.str p.shown) (.str p.shown) st = some (.bl false, st) := by
  unfold neD
  rw [eqB_str h.q.text]
  rfl
theorem eqD_text (h : Rd k w d p) : eqD (.str p.shown) (.str p.shown) st = some (.bl true, st) := by
  unfold eqD
  rw [eqB_str h.q.text]
  rfl
theorem eqD_ii {i j : Int} : eqD (.int i) (.int j) st = some (.bl (i == j), st) := rfl
theorem neD_ii {i j : Int} : neD (.int i) (.int j) st = some (.bl (!(i == j)), st) := rfl
/-- what is told twice is told alike -/
theorem eqB_same (h : Rd k w d p) (hk : k ≤ 15) : eqB d d st = some true := by
  unfold eqB
  rw [h.at' 16 st (by omega)]
  have h1 := h.q.dep
  have : SeqAt.shaped p = true := by
    show (p.canLay0 && decide (p.depth ≤ 64)) = true
    rw [h.q.can, decide_eq_true (by omega)]
    rfl
  show (if SeqAt.shaped p && SeqAt.shaped p then some (PyData.eqv p p) else none) = _
  rw [this, SeqAt.eqv_refl p h.q.can]
  rfl
end
end Ev

namespace Ch
/-! sums of fractions -/
def S (n : Nat) (f : Nat → Rat) : Rat := match n with
  | 0 => 0
  | n + 1 => S n f + f n
@[simp] theorem S_zero (f : Nat → Rat) : S 0 f = 0 := rfl
theorem S_succ (n : Nat) (f : Nat → Rat) : S (n + 1) f = S n f + f n := rfl
theorem S_congr {n : Nat} {f g : Nat → Rat} (h : ∀ i, i < n → f i = g i) : S n f = S n g := by
  induction n with
  | zero => rfl
  | succ n ih => rw [S_succ, S_succ, ih fun i hi => h i (by omega), h n (by omega)]
theorem S_add (n : Nat) (f g : Nat → Rat) : S n (fun i => f i + g i) = S n f + S n g := by
  induction n with
  | zero => show (0 : Rat) = _; grind [S]
  | succ n ih => rw [S_succ, S_succ, S_succ, ih]; grind
theorem S_mul (n : Nat) (c : Rat) (f : Nat → Rat) : S n (fun i => c * f i) = c * S n f := by
  induction n with
  | zero => simp
  | succ n ih => rw [S_succ, S_succ, ih]; grind
theorem S_sub (n : Nat) (f g : Nat → Rat) : S n (fun i => f i - g i) = S n f - S n g := by
  induction n with
  | zero => show (0 : Rat) = _; grind [S]
  | succ n ih => rw [S_succ, S_succ, S_succ, ih]; grind
theorem S_const0 (n : Nat) : S n (fun _ => 0) = 0 := by
  induction n with
  | zero => rfl
  | succ n ih => rw [S_succ, ih]; grind
theorem S_le {n : Nat} {f g : Nat → Rat} (h : ∀ i, i < n → f i ≤ g i) : S n f ≤ S n g := by
  induction n with
  | zero => exact Rat.le_refl
  | succ n ih =>
    have a := ih fun i hi => h i (by omega)
    have b := h n (by omega)
    rw [S_succ, S_succ]
    grind
theorem mul_le {a b c : Rat} (h : 0 ≤ a) (hb : b ≤ c) : a * b ≤ a * c := Rat.mul_le_mul_of_nonneg_left hb h
theorem S_single {n k : Nat} (hk : k < n) (f : Nat → Rat) (h : ∀ i, i < n → i ≠ k → f i = 0) : S n f = f k := by
  induction n with
  | zero => omega
  | succ n ih =>
    rw [S_succ]
    by_cases e : k = n
    · subst e
      have : S k f = 0 := by
        rw [S_congr (g := fun _ => 0) fun i hi => h i (by omega) (by omega), S_const0]
      grind
    · rw [ih (by omega) fun i hi hn => h i (by omega) hn, h n (by omega) (by omega)]
      grind
/-- an index where f is greatest -/
theorem top (n : Nat) (h : 0 < n) (f : Nat → Rat) : ∃ k, k < n ∧ ∀ i, i < n → f i ≤ f k := by
  induction n with
  | zero => omega
  | succ n ih =>
    by_cases hn : 0 < n
    · obtain ⟨k, hk, hm⟩ := ih hn
      by_cases l : f k ≤ f n
      · exact ⟨n, by omega, fun i hi => if e : i = n then by rw [e]; exact Rat.le_refl else by have := hm i (by omega); grind⟩
      · exact ⟨k, by omega, fun i hi => if e : i = n then by rw [e]; grind else hm i (by omega)⟩
    · exact ⟨n, by omega, fun i hi => by have : i = n := by omega
                                         rw [this]; exact Rat.le_refl⟩
/-! chains: n places, a share b, rows of chances that add up to at most 1 -/
structure Sub (n : Nat) (m : Nat → Nat → Rat) : Prop where
  nn : ∀ i j, 0 ≤ m i j
  le : ∀ i, S n (m i) ≤ 1
/-- what is at most the share of what is behind it is not above 0 -/
theorem max0 {n : Nat} {m : Nat → Nat → Rat} (hm : Sub n m) {b : Rat} (b0 : 0 < b) (b1 : b < 1) {y : Nat → Rat} (h : ∀ i, i < n → y i ≤ b * S n (fun j => m i j * y j)) : ∀ i, i < n → y i ≤ 0 := by
  intro i hi
  obtain ⟨k, hk, hmx⟩ := top n (by omega) y
  by_cases p : 0 < y k
  · exfalso
    have e1 : S n (fun j => m k j * y j) ≤ S n (fun j => y k * m k j) := S_le fun j hj => by
      have := mul_le (hm.nn k j) (hmx j hj)
      grind
    rw [S_mul] at e1
    have e2 := mul_le (Rat.le_of_lt p) (hm.le k)
    have e3 := h k hk
    have e4 : S n (fun j => m k j * y j) ≤ y k := by grind
    have e5 := mul_le (Rat.le_of_lt b0) e4
    have e6 : 0 < (1 - b) * y k := Rat.mul_pos (by grind) p
    grind
  · have := hmx i hi
    grind
/-- x brings the pays: x = p + b m x -/
def Sol (n : Nat) (m : Nat → Nat → Rat) (b : Rat) (p x : Nat → Rat) : Prop := ∀ i, i < n → x i = p i + b * S n (fun j => m i j * x j)
theorem Sol.uniq {n : Nat} {m : Nat → Nat → Rat} (hm : Sub n m) {b : Rat} (b0 : 0 < b) (b1 : b < 1) {p x y : Nat → Rat} (hx : Sol n m b p x) (hy : Sol n m b p y) : ∀ i, i < n → x i = y i := by
  intro i hi
  have a := max0 hm b0 b1 (y := fun i => x i - y i) (fun i hi => by
    show x i - y i ≤ b * S n (fun j => m i j * (x j - y j))
    rw [S_congr (g := fun j => m i j * x j - m i j * y j) fun j _ => by grind, S_sub, hx i hi, hy i hi]
    grind) i hi
  have c := max0 hm b0 b1 (y := fun i => y i - x i) (fun i hi => by
    show y i - x i ≤ b * S n (fun j => m i j * (y j - x j))
    rw [S_congr (g := fun j => m i j * y j - m i j * x j) fun j _ => by grind, S_sub, hx i hi, hy i hi]
    grind) i hi
  grind
/-- more pays bring more -/
theorem Sol.mono {n : Nat} {m : Nat → Nat → Rat} (hm : Sub n m) {b : Rat} (b0 : 0 < b) (b1 : b < 1) {p q x y : Nat → Rat} (hx : Sol n m b p x) (hy : Sol n m b q y) (h : ∀ i, i < n → p i ≤ q i) : ∀ i, i < n → x i ≤ y i := by
  intro i hi
  have a := max0 hm b0 b1 (y := fun i => x i - y i) (fun i hi => by
    show x i - y i ≤ b * S n (fun j => m i j * (x j - y j))
    have := h i hi
    rw [S_congr (g := fun j => m i j * x j - m i j * y j) fun j _ => by grind, S_sub, hx i hi, hy i hi]
    grind) i hi
  grind
theorem Sol.lin {n : Nat} {m : Nat → Nat → Rat} {b c d : Rat} {p q x y : Nat → Rat} (hx : Sol n m b p x) (hy : Sol n m b q y) : Sol n m b (fun i => c * p i + d * q i) (fun i => c * x i + d * y i) := by
  intro i hi
  show c * x i + d * y i = c * p i + d * q i + b * S n (fun j => m i j * (c * x j + d * y j))
  rw [S_congr (g := fun j => c * (m i j * x j) + d * (m i j * y j)) fun j _ => by grind, S_add, S_mul, S_mul]
  have a := hx i hi
  have b' := hy i hi
  grind
end Ch

namespace Dt
/-! sums of ints -/
def S (n : Nat) (f : Nat → Int) : Int := match n with
  | 0 => 0
  | n + 1 => S n f + f n
theorem S_zero (f : Nat → Int) : S 0 f = 0 := rfl
theorem S_succ (n : Nat) (f : Nat → Int) : S (n + 1) f = S n f + f n := rfl
theorem S_congr {n : Nat} {f g : Nat → Int} (h : ∀ i, i < n → f i = g i) : S n f = S n g := by
  induction n with
  | zero => rfl
  | succ n ih => rw [S_succ, S_succ, ih fun i hi => h i (by omega), h n (by omega)]
theorem S_add (n : Nat) (f g : Nat → Int) : S n (fun i => f i + g i) = S n f + S n g := by
  induction n with
  | zero => rfl
  | succ n ih => rw [S_succ, S_succ, S_succ, ih]; grind
theorem S_mul (n : Nat) (c : Int) (f : Nat → Int) : S n (fun i => c * f i) = c * S n f := by
  induction n with
  | zero => rw [S_zero, S_zero, Int.mul_zero]
  | succ n ih => rw [S_succ, S_succ, ih]; grind
theorem S_mulr (n : Nat) (c : Int) (f : Nat → Int) : S n (fun i => f i * c) = S n f * c := by
  rw [S_congr (g := fun i => c * f i) fun i _ => Int.mul_comm _ _, S_mul, Int.mul_comm]
theorem S_sub (n : Nat) (f g : Nat → Int) : S n (fun i => f i - g i) = S n f - S n g := by
  induction n with
  | zero => rfl
  | succ n ih => rw [S_succ, S_succ, S_succ, ih]; grind
theorem S_const0 (n : Nat) : S n (fun _ => 0) = 0 := by
  induction n with
  | zero => rfl
  | succ n ih => rw [S_succ, ih]; rfl
theorem S_all0 {n : Nat} {f : Nat → Int} (h : ∀ i, i < n → f i = 0) : S n f = 0 := by rw [S_congr h, S_const0]
theorem S_single {n k : Nat} (hk : k < n) {f : Nat → Int} (h : ∀ i, i < n → i ≠ k → f i = 0) : S n f = f k := by
  induction n with
  | zero => omega
  | succ n ih =>
    rw [S_succ]
    by_cases e : k = n
    · subst e
      rw [S_all0 fun i hi => h i (by omega) (by omega), Int.zero_add]
    · rw [ih (by omega) fun i hi hn => h i (by omega) hn, h n (by omega) (by omega), Int.add_zero]
theorem S_pair {n p : Nat} (hp : p + 1 < n) {f : Nat → Int} (h : ∀ i, i < n → i ≠ p → i ≠ p + 1 → f i = 0) : S n f = f p + f (p + 1) := by
  induction n with
  | zero => omega
  | succ n ih =>
    rw [S_succ]
    by_cases e : p + 1 = n
    · subst e
      rw [S_single (k := p) (by omega) fun i hi hn => h i (by omega) hn (by omega)]
    · rw [ih (by omega) fun i hi h1 h2 => h i (by omega) h1 h2, h n (by omega) (by omega) (by omega), Int.add_zero]
theorem S_abs (n : Nat) (f : Nat → Int) : (S n f).natAbs ≤ (S n fun i => (f i).natAbs).natAbs := by
  have nn : ∀ n, 0 ≤ S n fun i => ((f i).natAbs : Int) := fun n => by
    induction n with
    | zero => exact Int.le_refl _
    | succ n ih => rw [S_succ]; omega
  induction n with
  | zero => exact Nat.le_refl _
  | succ n ih =>
    have := nn n
    rw [S_succ, S_succ]
    omega
/-! the determinant, by the last row -/
abbrev M := Nat → Nat → Int
def skip (j c : Nat) : Nat := if c < j then c else c + 1
def sg (n : Nat) : Int := if n % 2 = 0 then 1 else -1
theorem sg_s (n : Nat) : sg (n + 1) = - sg n := by
  unfold sg
  split <;> split <;> first | rfl | omega
def minor (A : M) (j : Nat) : M := fun r c => A r (skip j c)
def det : Nat → M → Int
  | 0, _ => 1
  | k + 1, A => S (k + 1) fun j => sg (k + j) * (A k j * det k (minor A j))
theorem det_s (k : Nat) (A : M) : det (k + 1) A = S (k + 1) fun j => sg (k + j) * (A k j * det k (minor A j)) := rfl
theorem det_congr : ∀ (k : Nat) {A B : M}, (∀ r c, r < k → c < k → A r c = B r c) → det k A = det k B
  | 0, _, _, _ => rfl
  | k + 1, A, B, h => by
    rw [det_s, det_s]
    refine S_congr fun j hj => ?_
    rw [h k j (by omega) hj, det_congr k (A := minor A j) (B := minor B j) fun r c hr hc => by
      unfold minor skip
      split
      · exact h r _ (by omega) (by omega)
      · exact h r _ (by omega) (by omega)]
def setc (A : M) (p : Nat) (x : Nat → Int) : M := fun r c => if c = p then x r else A r c
theorem setc_self (A : M) (p : Nat) : setc A p (fun r => A r p) = A := by
  funext r c
  unfold setc
  split
  · rename_i h
    rw [h]
  · rfl
theorem setc_at {A : M} {p : Nat} {x : Nat → Int} {r : Nat} : setc A p x r p = x r := if_pos rfl
theorem setc_ne {A : M} {p c : Nat} {x : Nat → Int} {r : Nat} (h : c ≠ p) : setc A p x r c = A r c := if_neg h
theorem minor_setc_same (A : M) (p : Nat) (x : Nat → Int) : minor (setc A p x) p = minor A p := by
  funext r c
  exact setc_ne (by unfold skip; split <;> omega)
theorem minor_setc_lt (A : M) {p j : Nat} (x : Nat → Int) (h : p < j) : minor (setc A p x) j = setc (minor A j) p x := by
  funext r c
  show setc A p x r (skip j c) = _
  by_cases e : c = p
  · subst e
    rw [setc_at, show skip j c = c from if_pos h, setc_at]
  · rw [setc_ne e, setc_ne (by unfold skip; split <;> omega)]
    rfl
theorem minor_setc_gt (A : M) {p j : Nat} (x : Nat → Int) (h : j < p) : minor (setc A p x) j = setc (minor A j) (p - 1) x := by
  funext r c
  show setc A p x r (skip j c) = _
  by_cases e : c = p - 1
  · subst e
    rw [setc_at, show skip j (p - 1) = p from by unfold skip; rw [if_neg (by omega)]; omega, setc_at]
  · rw [setc_ne e, setc_ne (by unfold skip; split <;> omega)]
    rfl
/-- linear in each column -/
theorem det_lin : ∀ (k : Nat) (A : M) (p : Nat) (u v : Int) (x y : Nat → Int), p < k → det k (setc A p fun r => u * x r + v * y r) = u * det k (setc A p x) + v * det k (setc A p y)
  | k + 1, A, p, u, v, x, y, hp => by
    rw [det_s, det_s, det_s, ← S_mul, ← S_mul, ← S_add]
    refine S_congr fun j hj => ?_
    by_cases e : j = p
    · subst e
      rw [minor_setc_same, minor_setc_same, minor_setc_same, setc_at, setc_at, setc_at]
      grind
    · rw [setc_ne e, setc_ne e, setc_ne e]
      by_cases l : p < j
      · rw [minor_setc_lt A _ l, minor_setc_lt A _ l, minor_setc_lt A _ l, det_lin k _ p u v x y (by omega)]
        grind
      · rw [minor_setc_gt A _ (by omega : j < p), minor_setc_gt A _ (by omega : j < p), minor_setc_gt A _ (by omega : j < p), det_lin k _ (p - 1) u v x y (by omega)]
        grind
theorem det_scale (k : Nat) (A : M) (p : Nat) (u : Int) (x : Nat → Int) (hp : p < k) : det k (setc A p fun r => u * x r) = u * det k (setc A p x) := by
  have := det_lin k A p u 0 x x hp
  rw [show (fun r => u * x r) = fun r => u * x r + 0 * x r from by funext r; grind, this]
  grind
theorem det_zero (k : Nat) (A : M) (p : Nat) (hp : p < k) : det k (setc A p fun _ => 0) = 0 := by
  have := det_scale k A p 0 (fun _ => 0) hp
  rw [show (fun r : Nat => (0 : Int) * (fun _ => 0) r) = fun _ => 0 from by funext r; rfl] at this
  rw [this, Int.zero_mul]
theorem det_sum (k : Nat) (A : M) (p : Nat) (hp : p < k) (x : Nat → Int) (B : M) : ∀ n : Nat, det k (setc A p fun r => S n fun j => x j * B r j) = S n fun j => x j * det k (setc A p fun r => B r j)
  | 0 => det_zero k A p hp
  | n + 1 => by
    have := det_lin k A p 1 (x n) (fun r => S n fun j => x j * B r j) (fun r => B r n) hp
    rw [det_sum k A p hp x B n] at this
    rw [show (fun r => S (n + 1) fun j => x j * B r j) = fun r => 1 * (S n fun j => x j * B r j) + x n * B r n from by funext r; rw [S_succ, Int.one_mul], this, S_succ, Int.one_mul]
/-- two columns side by side that are equal -/
theorem det_adj : ∀ (k : Nat) (A : M) (p : Nat), p + 1 < k → (∀ r, r < k → A r p = A r (p + 1)) → det k A = 0
  | k + 1, A, p, hp, h => by
    rw [det_s, S_pair (p := p) hp fun j hj h1 h2 => ?_]
    · have e : det k (minor A p) = det k (minor A (p + 1)) := det_congr k fun r c hr hc => by
        unfold minor skip
        by_cases e : c = p
        · subst e
          rw [if_neg (by omega), if_pos (by omega), h r (by omega)]
        · by_cases l : c < p
          · rw [if_pos l, if_pos (by omega)]
          · rw [if_neg l, if_neg (by omega)]
      rw [h k (by omega), e, show k + (p + 1) = k + p + 1 from rfl, sg_s]
      grind
    · have : det k (minor A j) = 0 := by
        by_cases l : j < p
        · refine det_adj k _ (p - 1) (by omega) fun r hr => ?_
          unfold minor skip
          rw [if_neg (by omega), if_neg (by omega), show p - 1 + 1 = p from by omega]
          exact h r (by omega)
        · refine det_adj k _ p (by omega) fun r hr => ?_
          unfold minor skip
          rw [if_pos (by omega), if_pos (by omega)]
          exact h r (by omega)
      rw [this, Int.mul_zero, Int.mul_zero]
def swap (A : M) (p : Nat) : M := fun r c => if c = p then A r (p + 1) else if c = p + 1 then A r p else A r c
theorem det_swap (k : Nat) (A : M) (p : Nat) (hp : p + 1 < k) : det k (swap A p) = - det k A := by
  let F : (Nat → Int) → (Nat → Int) → M := fun x y => setc (setc A p x) (p + 1) y
  have same : ∀ x, det k (F x x) = 0 := fun x => det_adj k _ p hp fun r _ => by
    show setc (setc A p x) (p + 1) x r p = setc (setc A p x) (p + 1) x r (p + 1)
    rw [setc_at, setc_ne (by omega), setc_at]
  have comm : ∀ x y, F x y = setc (setc A (p + 1) y) p x := fun x y => by
    funext r c
    show setc (setc A p x) (p + 1) y r c = _
    unfold setc
    split <;> split <;> first | rfl | omega
  have l1 : ∀ x x' y, det k (F (fun r => 1 * x r + 1 * x' r) y) = det k (F x y) + det k (F x' y) := fun x x' y => by
    rw [comm, comm, comm, det_lin k _ p 1 1 x x' (by omega)]
    grind
  have l2 : ∀ x y y', det k (F x (fun r => 1 * y r + 1 * y' r)) = det k (F x y) + det k (F x y') := fun x y y' => by
    rw [show det k (F x (fun r => 1 * y r + 1 * y' r)) = _ from det_lin k (setc A p x) (p + 1) 1 1 y y' hp]
    show 1 * det k (F x y) + 1 * det k (F x y') = _
    grind
  have e1 : F (fun r => A r p) (fun r => A r (p + 1)) = A := by
    show setc (setc A p fun r => A r p) (p + 1) _ = A
    rw [setc_self, setc_self]
  have e2 : F (fun r => A r (p + 1)) (fun r => A r p) = swap A p := by
    funext r c
    show setc (setc A p _) (p + 1) _ r c = _
    unfold setc swap
    split <;> split <;> first | rfl | omega
  have q := same fun r => 1 * A r p + 1 * A r (p + 1)
  rw [l1, l2, l2, same, same, e1, e2] at q
  omega
theorem det_eqc (k : Nat) (p : Nat) : ∀ (d : Nat) (A : M), p + 1 + d < k → (∀ r, r < k → A r p = A r (p + 1 + d)) → det k A = 0
  | 0, A, hp, h => det_adj k A p hp h
  | d + 1, A, hp, h => by
    have := det_swap k A (p + 1 + d) (by omega)
    rw [det_eqc k p d (swap A (p + 1 + d)) (by omega) fun r hr => by
      unfold swap
      rw [if_neg (by omega), if_neg (by omega), if_pos rfl]
      exact h r hr] at this
    omega
theorem det_same (k : Nat) (A : M) {p q : Nat} (hp : p < k) (hq : q < k) (n : p ≠ q) (h : ∀ r, r < k → A r p = A r q) : det k A = 0 := by
  by_cases l : p < q
  · obtain ⟨d, rfl⟩ : ∃ d, q = p + 1 + d := ⟨q - p - 1, by omega⟩
    exact det_eqc k p d A hq h
  · obtain ⟨d, rfl⟩ : ∃ d, p = q + 1 + d := ⟨p - q - 1, by omega⟩
    exact det_eqc k q d A hp fun r hr => (h r hr).symm
/-- a column that is a sum of all columns -/
theorem cramer (k : Nat) (A : M) (x b : Nat → Int) (N : Int) (h : ∀ r, r < k → (S k fun j => x j * A r j) = N * b r) {i : Nat} (hi : i < k) : N * det k (setc A i b) = x i * det k A := by
  rw [← det_scale k A i N b hi, det_congr k (B := setc A i fun r => S k fun j => x j * A r j) fun r c hr hc => by
    unfold setc
    split
    · exact (h r hr).symm
    · rfl, det_sum k A i hi x A k, S_single hi fun j hj hn => ?_]
  · rw [setc_self]
  · rw [det_same k _ hj hi hn fun r _ => by rw [setc_at, setc_ne hn], Int.mul_zero]
/-- the last column is 0 but for its last place -/
theorem det_last (k : Nat) (A : M) (h : ∀ r, r < k → A r k = 0) : det (k + 1) A = A k k * det k A := by
  rw [det_s, S_single (k := k) (by omega) fun j hj hn => ?_]
  · rw [show sg (k + k) = 1 from if_pos (by omega), Int.one_mul, det_congr k (B := A) fun r c hr hc => by
      unfold minor skip
      rw [if_pos hc]]
  · have : det k (minor A j) = 0 := by
      rw [det_congr k (B := setc (minor A j) (k - 1) fun _ => 0) fun r c hr hc => ?_, det_zero k _ _ (by omega)]
      by_cases e : c = k - 1
      · subst e
        rw [setc_at]
        unfold minor skip
        rw [if_neg (by omega), show k - 1 + 1 = k from by omega]
        exact h r hr
      · rw [setc_ne e]
    rw [this, Int.mul_zero, Int.mul_zero]
/-- how great a determinant may be -/
theorem det_le : ∀ (k : Nat) (A : M) (W : Nat), (∀ r, r < k → (S k fun c => ((A r c).natAbs : Int)) ≤ W) → (det k A).natAbs ≤ W ^ k
  | 0, _, _, _ => Nat.le_refl _
  | k + 1, A, W, h => by
    have mono : ∀ j, j < k + 1 → (det k (minor A j)).natAbs ≤ W ^ k := fun j hj => det_le k _ W fun r hr => by
      refine Int.le_trans ?_ (h r (by omega))
      have : ∀ n, (S n fun c => ((minor A j r c).natAbs : Int)) ≤ S (if n ≤ j then n else n + 1) fun c => ((A r c).natAbs : Int) := fun n => by
        induction n with
        | zero =>
          rw [if_pos (by omega)]
          exact Int.le_refl _
        | succ n ih =>
          rw [S_succ]
          by_cases l : n + 1 ≤ j
          · rw [if_pos l, S_succ]
            rw [if_pos (by omega)] at ih
            unfold minor skip at *
            rw [if_pos (by omega)]
            omega
          · rw [if_neg l, S_succ]
            by_cases l2 : n ≤ j
            · rw [if_pos l2] at ih
              have e : j = n := by omega
              subst e
              rw [S_succ]
              unfold minor skip at *
              rw [if_neg (by omega)]
              omega
            · rw [if_neg l2] at ih
              unfold minor skip at *
              rw [if_neg (by omega)]
              omega
      have t := this k
      split at t
      · rw [S_succ]
        omega
      · exact t
    have w := h k (by omega)
    rw [det_s]
    have gen : ∀ n, n ≤ k + 1 → ((S n fun j => sg (k + j) * (A k j * det k (minor A j))).natAbs : Int) ≤ (S n fun c => ((A k c).natAbs : Int)) * (W ^ k : Nat) := fun n => by
      induction n with
      | zero => intro _; rw [S_zero, S_zero, Int.zero_mul]; exact Int.le_refl _
      | succ n ih =>
        intro hn
        rw [S_succ, S_succ, Int.add_mul]
        have a := ih (by omega)
        have b : ((sg (k + n) * (A k n * det k (minor A n))).natAbs : Int) ≤ ((A k n).natAbs : Int) * (W ^ k : Nat) := by
          rw [Int.natAbs_mul, Int.natAbs_mul, show (sg (k + n)).natAbs = 1 from by unfold sg; split <;> rfl, Nat.one_mul]
          have := Nat.mul_le_mul_left (A k n).natAbs (mono n (by omega))
          exact_mod_cast this
        omega
    have g := gen (k + 1) (Nat.le_refl _)
    have p := Int.mul_le_mul_of_nonneg_right w (show (0 : Int) ≤ (W ^ k : Nat) from Int.natCast_nonneg _)
    have q : ((W : Int) * (W ^ k : Nat)) = ((W ^ (k + 1) : Nat) : Int) := by rw [Nat.pow_succ, Nat.mul_comm]; exact_mod_cast rfl
    omega
end Dt

namespace Dt
/-! elimination without fractions -/
structure Bst (n w k : Nat) (A R : M) (d : Int) : Prop where
  dd : d = det k A
  d0 : d ≠ 0
  p1 : ∀ r j, r < k → j < w → (S k fun c => A r c * R c j) = d * A r j
  p2 : ∀ i j, k ≤ i → i < n → j < w → R i j = d * A i j - S k fun c => A i c * R c j
  p3 : ∀ c c', c < k → c' < k → R c c' = if c = c' then d else 0
  p4 : ∀ c j, c < k → j < w → R c j = det k (setc A c fun r => A r j)
/-- each leading block takes no vector to 0 -/
def Inj (n : Nat) (A : M) : Prop := ∀ k, k < n → ∀ v : Nat → Int, (∀ r, r ≤ k → (S (k + 1) fun c => A r c * v c) = 0) → v k = 0
theorem Bst.start {n w : Nat} {A : M} : Bst n w 0 A A 1 := by
  refine ⟨rfl, by decide, fun r j h => by omega, fun i j _ _ _ => ?_, fun c c' h => by omega, fun c j h => by omega⟩
  rw [S_zero]
  omega
section
variable {n w k : Nat} {A R : M} {d : Int}
theorem Bst.piv (B : Bst n w k A R d) (hk : k < n) (hw : n ≤ w) : R k k = det (k + 1) A := by
  have h1 : d * det (k + 1) A = R k k * d := by
    have e : det (k + 1) (setc A k fun r => d * A r k + (-1) * (S k fun c => R c k * A r c)) = d * det (k + 1) A := by
      rw [det_lin (k + 1) A k d (-1) (fun r => A r k) (fun r => S k fun c => R c k * A r c) (by omega), setc_self, det_sum (k + 1) A k (by omega) (fun c => R c k) A k, S_all0 fun c hc => ?_, Int.mul_zero, Int.add_zero]
      rw [det_same (k + 1) _ (p := c) (q := k) (by omega) (by omega) (by omega) fun r _ => by rw [setc_at, setc_ne (by omega)], Int.mul_zero]
    rw [← e, det_last k _ fun r hr => ?_, setc_at]
    · have : det k (setc A k fun r => d * A r k + (-1) * (S k fun c => R c k * A r c)) = det k A := det_congr k fun r c _ hc => setc_ne (by omega)
      rw [this, ← B.dd, B.p2 k k (Nat.le_refl _) hk (by omega), S_congr (g := fun c => A k c * R c k) fun c _ => Int.mul_comm _ _]
      grind
    · rw [setc_at, S_congr (g := fun c => A r c * R c k) fun c _ => Int.mul_comm _ _, B.p1 r k hr (by omega)]
      omega
  have : d * det (k + 1) A = d * R k k := by rw [h1, Int.mul_comm]
  exact (Int.eq_of_mul_eq_mul_left B.d0 this).symm
theorem Bst.piv0 (B : Bst n w k A R d) (hk : k < n) (hw : n ≤ w) (inj : Inj n A) : R k k ≠ 0 := fun h => by
  refine B.d0 (?_ : d = 0)
  have := inj k hk (fun c => if c = k then d else - R c k) fun r hr => ?_
  · simpa using this
  · rw [S_succ, if_pos rfl, S_congr (g := fun c => (-1) * (A r c * R c k)) fun c hc => by rw [if_neg (by omega)]; grind, S_mul]
    by_cases e : r = k
    · subst e
      have := B.p2 r r (Nat.le_refl _) hk (by omega)
      rw [h] at this
      grind
    · rw [B.p1 r k (by omega) (by omega)]
      grind
/-- what the next step divides -/
def num (k : Nat) (R : M) : M := fun i j => R k k * R i j - R i k * R k j
theorem Bst.sys (B : Bst n w k A R d) (hk : k < n) (hw : n ≤ w) {j : Nat} (hj : j < w) (r : Nat) (hr : r < k + 1) : (S (k + 1) fun c => (if c = k then d * R k j else num k R c j) * A r c) = (d * R k k) * A r j := by
  rw [S_succ, if_pos rfl, S_congr (g := fun c => R k k * (A r c * R c j) - R k j * (A r c * R c k)) fun c hc => by rw [if_neg (by omega)]; unfold num; grind, S_sub, S_mul, S_mul]
  by_cases e : r = k
  · subst e
    have a := B.p2 r j (Nat.le_refl _) hk hj
    have b := B.p2 r r (Nat.le_refl _) hk (by omega)
    grind
  · rw [B.p1 r j (by omega) hj, B.p1 r k (by omega) (by omega)]
    grind
theorem Bst.cr (B : Bst n w k A R d) (hk : k < n) (hw : n ≤ w) (inj : Inj n A) {j : Nat} (hj : j < w) {c : Nat} (hc : c < k + 1) : d * det (k + 1) (setc A c fun r => A r j) = if c = k then d * R k j else num k R c j := by
  have e := cramer (k + 1) A (fun c => if c = k then d * R k j else num k R c j) (fun r => A r j) (d * R k k) (fun r hr => B.sys hk hw hj r hr) hc
  rw [← B.piv hk hw] at e
  have p := B.piv0 hk hw inj
  exact Int.eq_of_mul_eq_mul_left p (by rw [← Int.mul_assoc, Int.mul_comm (R k k) d, e]; exact Int.mul_comm _ _)
theorem Bst.dvd (B : Bst n w k A R d) (hk : k < n) (hw : n ≤ w) (inj : Inj n A) {i j : Nat} (hi : i < n) (hj : j < w) (hn : i ≠ k) : d ∣ num k R i j := by
  by_cases l : i < k
  · have := B.cr hk hw inj hj (c := i) (by omega)
    rw [if_neg hn] at this
    exact ⟨_, this.symm⟩
  · -- by what stands above
    have q : num k R i j = d * (R k k * A i j - A i k * R k j - S k fun c => A i c * det (k + 1) (setc A c fun r => A r j)) := by
      have h : (S k fun c => A i c * (d * det (k + 1) (setc A c fun r => A r j))) = R k k * (S k fun c => A i c * R c j) - R k j * (S k fun c => A i c * R c k) := by
        rw [← S_mul, ← S_mul, ← S_sub]
        refine S_congr fun c hc => ?_
        rw [B.cr hk hw inj hj (by omega), if_neg (by omega)]
        unfold num
        grind
      rw [S_congr (g := fun c => d * (A i c * det (k + 1) (setc A c fun r => A r j))) fun c _ => by grind, S_mul] at h
      have a := B.p2 i j (by omega) hi hj
      have b := B.p2 i k (by omega) hi (by omega)
      unfold num
      grind
    exact ⟨_, q⟩
theorem Bst.next (B : Bst n w k A R d) (hk : k < n) (hw : n ≤ w) (inj : Inj n A) {R' : M} (h1 : ∀ j, j < w → R' k j = R k j) (h2 : ∀ i j, i < n → j < w → i ≠ k → d * R' i j = num k R i j) : Bst n w (k + 1) A R' (R k k) := by
  have cr : ∀ c j, c < k + 1 → j < w → R' c j = det (k + 1) (setc A c fun r => A r j) := fun c j hc hj => by
    have := B.cr hk hw inj hj hc
    by_cases e : c = k
    · subst e
      rw [if_pos rfl] at this
      rw [h1 j hj]
      exact (Int.eq_of_mul_eq_mul_left B.d0 this).symm
    · rw [if_neg e, ← h2 c j (by omega) hj e] at this
      exact (Int.eq_of_mul_eq_mul_left B.d0 this).symm
  have low : ∀ c', c' < k → R k c' = 0 := fun c' hc => by
    have a := B.p2 k c' (Nat.le_refl _) hk (by omega)
    rw [S_single (k := c') hc fun c h hn => by rw [B.p3 c c' h hc, if_neg hn, Int.mul_zero], B.p3 c' c' hc hc, if_pos rfl] at a
    grind
  refine ⟨B.piv hk hw, B.piv0 hk hw inj, fun r j hr hj => ?_, fun i j hki hi hj => ?_, fun c c' hc hc' => ?_, cr⟩
  · have e := B.sys hk hw hj r hr
    have e2 : (S (k + 1) fun c => (if c = k then d * R k j else num k R c j) * A r c) = d * S (k + 1) fun c => A r c * R' c j := by
      rw [← S_mul]
      refine S_congr fun c hc => ?_
      by_cases e : c = k
      · subst e
        rw [if_pos rfl, h1 j hj]
        grind
      · rw [if_neg e, ← h2 c j (by omega) hj e]
        grind
    rw [e2] at e
    exact Int.eq_of_mul_eq_mul_left B.d0 (by rw [e]; grind)
  · have e := h2 i j hi hj (by omega)
    have s : d * (S k fun c => A i c * R' c j) = R k k * (S k fun c => A i c * R c j) - R k j * (S k fun c => A i c * R c k) := by
      rw [← S_mul, ← S_mul, ← S_mul, ← S_sub]
      refine S_congr fun c hc => ?_
      have := h2 c j (by omega) hj (by omega)
      unfold num at this
      grind
    have a := B.p2 i j (by omega) hi hj
    have b := B.p2 i k (by omega) hi (by omega)
    rw [S_succ, h1 j hj]
    refine Int.eq_of_mul_eq_mul_left B.d0 ?_
    rw [e]
    unfold num
    grind
  · by_cases e : c = k
    · subst e
      rw [h1 c' (by omega)]
      by_cases e2 : c = c'
      · subst e2
        rw [if_pos rfl]
      · rw [if_neg e2]
        exact low c' (by omega)
    · have q := h2 c c' (by omega) (by omega) e
      unfold num at q
      refine Int.eq_of_mul_eq_mul_left B.d0 ?_
      rw [q]
      by_cases e2 : c' = k
      · subst e2
        rw [if_neg e]
        grind
      · rw [low c' (by omega), B.p3 c c' (by omega) (by omega)]
        split <;> grind
/-- how great the numbers are -/
theorem S_mono {f : Nat → Nat} {u v : Nat} (l : u ≤ v) : (S u fun c => (f c : Int)) ≤ S v fun c => (f c : Int) := by
  induction v with
  | zero =>
    have : u = 0 := by omega
    subst this
    exact Int.le_refl _
  | succ v ih =>
    by_cases e : u = v + 1
    · subst e
      exact Int.le_refl _
    · rw [S_succ]
      have := ih (by omega)
      omega
theorem S_one {f : Nat → Nat} {c w : Nat} (hc : c < w) : (f c : Int) ≤ S w fun c => (f c : Int) := by
  have a := S_mono (f := f) (u := c + 1) (v := w) (by omega)
  have b := S_mono (f := f) (u := 0) (v := c) (by omega)
  rw [S_succ] at a
  rw [S_zero] at b
  omega
theorem S_setc (A : M) (p r : Nat) (x : Nat → Int) (k : Nat) : (S k fun c => ((setc A p x r c).natAbs : Int)) ≤ (S k fun c => ((A r c).natAbs : Int)) + (if p < k then ((x r).natAbs : Int) else 0) := by
  induction k with
  | zero => rw [S_zero, S_zero, if_neg (by omega)]; omega
  | succ k ih =>
    rw [S_succ, S_succ]
    by_cases e : k = p
    · subst e
      rw [if_neg (by omega)] at ih
      rw [if_pos (by omega), setc_at]
      omega
    · rw [setc_ne e]
      by_cases l : p < k
      · rw [if_pos l] at ih
        rw [if_pos (by omega)]
        omega
      · rw [if_neg l] at ih
        rw [if_neg (by omega)]
        omega
theorem Bst.size (B : Bst n w k A R d) (hw : n ≤ w) {W : Nat} (h : ∀ r, r < n → (S w fun c => ((A r c).natAbs : Int)) ≤ W) (hk : k ≤ n) : d.natAbs ≤ (2 * W) ^ k ∧ ∀ i j, i < n → j < w → (R i j).natAbs ≤ (2 * W) ^ (k + 1) ∨ i < k ∧ (R i j).natAbs ≤ (2 * W) ^ k := by
  have row : ∀ r, r < n → (S k fun c => ((A r c).natAbs : Int)) ≤ W := fun r hr => Int.le_trans (S_mono (by omega)) (h r hr)
  have one : ∀ r j, r < n → j < w → ((A r j).natAbs : Int) ≤ W := fun r j hr hj => Int.le_trans (S_one (f := fun c => (A r c).natAbs) hj) (h r hr)
  have dle : d.natAbs ≤ (2 * W) ^ k := by
    rw [B.dd]
    exact det_le k A (2 * W) fun r hr => by
      have := row r (by omega)
      omega
  have up : ∀ c j, c < k → j < w → (R c j).natAbs ≤ (2 * W) ^ k := fun c j hc hj => by
    rw [B.p4 c j hc hj]
    refine det_le k _ (2 * W) fun r hr => ?_
    have a := S_setc A c r (fun r => A r j) k
    have b := row r (by omega)
    have e := one r j (by omega) hj
    rw [if_pos hc] at a
    omega
  refine ⟨dle, fun i j hi hj => ?_⟩
  by_cases l : i < k
  · exact .inr ⟨l, up i j l hj⟩
  · refine .inl ?_
    rw [B.p2 i j (by omega) hi hj]
    have s : ∀ m, m ≤ k → ((S m fun c => A i c * R c j).natAbs : Int) ≤ (S m fun c => ((A i c).natAbs : Int)) * ((2 * W) ^ k : Nat) := fun m => by
      induction m with
      | zero => intro _; rw [S_zero, S_zero, Int.zero_mul]; exact Int.le_refl _
      | succ m ih =>
        intro hm
        rw [S_succ, S_succ, Int.add_mul]
        have a := ih (by omega)
        have b : ((A i m * R m j).natAbs : Int) ≤ ((A i m).natAbs : Int) * ((2 * W) ^ k : Nat) := by
          rw [Int.natAbs_mul]
          have := Nat.mul_le_mul_left (A i m).natAbs (up m j (by omega) hj)
          exact_mod_cast this
        omega
    have a := s k (Nat.le_refl _)
    have b := Int.mul_le_mul_of_nonneg_right (row i hi) (show (0 : Int) ≤ ((2 * W) ^ k : Nat) from Int.natCast_nonneg _)
    have e : ((d * A i j).natAbs : Int) ≤ (W : Int) * ((2 * W) ^ k : Nat) := by
      rw [Int.natAbs_mul]
      have q : (A i j).natAbs ≤ W := by
        have := one i j hi hj
        omega
      have := Nat.mul_le_mul dle q
      rw [Nat.mul_comm _ W] at this
      exact_mod_cast this
    have f : ((2 * W) ^ (k + 1) : Nat) = W * (2 * W) ^ k + W * (2 * W) ^ k := by
      rw [Nat.pow_succ]
      grind
    have g : ((W * (2 * W) ^ k : Nat) : Int) = (W : Int) * ((2 * W) ^ k : Nat) := Int.natCast_mul _ _
    omega
end
end Dt

namespace Ch
open Dt (M Bst Inj)
/-! whole rows that say the same -/
structure Whole (n : Nat) (m : Nat → Nat → Rat) (b : Rat) (p : Nat → Rat) (C : Rat) (L : Nat → Rat) (A : M) : Prop where
  l0 : ∀ i, i < n → 0 < L i
  c0 : 0 < C
  co : ∀ i j, i < n → j < n → (A i j : Rat) = L i * ((if i = j then 1 else 0) - b * m i j)
  la : ∀ i, i < n → (A i n : Rat) = L i * (C * p i)
theorem cast_S (n : Nat) (f : Nat → Int) : ((Dt.S n f : Int) : Rat) = S n fun i => (f i : Rat) := by
  induction n with
  | zero => rfl
  | succ n ih => rw [Dt.S_succ, S_succ, Rat.intCast_add, ih]
section
variable {n : Nat} {m : Nat → Nat → Rat} {b : Rat} {p : Nat → Rat} {C : Rat} {L : Nat → Rat} {A : M}
theorem S_low {k n : Nat} {f : Nat → Rat} (h : ∀ i, 0 ≤ f i) (hk : k ≤ n) : S k f ≤ S n f := by
  induction n with
  | zero =>
    have : k = 0 := by omega
    subst this
    exact Rat.le_refl
  | succ n ih =>
    by_cases e : k = n + 1
    · subst e
      exact Rat.le_refl
    · have := ih (by omega)
      have := h n
      rw [S_succ]
      grind
theorem Sub.low (hm : Sub n m) {k : Nat} (hk : k ≤ n) : Sub k m := ⟨hm.nn, fun i => Rat.le_trans (S_low (hm.nn i) hk) (hm.le i)⟩
theorem Whole.inj (w : Whole n m b p C L A) (hm : Sub n m) (b0 : 0 < b) (b1 : b < 1) : Inj n A := by
  intro k hk v h
  have row : ∀ r, r < k + 1 → (v r : Rat) = b * S (k + 1) fun c => m r c * (v c : Rat) := fun r hr => by
    have q := congrArg (fun z : Int => (z : Rat)) (h r (by omega))
    have q : ((Dt.S (k + 1) fun c => A r c * v c : Int) : Rat) = 0 := q
    rw [cast_S, S_congr (g := fun c => L r * ((if r = c then (v c : Rat) else 0) - b * (m r c * (v c : Rat)))) fun c hc => by
      rw [Rat.intCast_mul, w.co r c (by omega) (by omega)]
      split <;> grind, S_mul, S_sub, S_mul, S_single hr _ fun i hi hn => by rw [if_neg (Ne.symm hn)], if_pos rfl] at q
    have l := w.l0 r (by omega)
    have : L r ≠ 0 := by grind
    have q2 := (Rat.mul_eq_zero.mp q).resolve_left this
    grind
  have sm := hm.low (k := k + 1) (by omega)
  have a := max0 sm b0 b1 (y := fun r => (v r : Rat)) (fun r hr => by rw [← row r hr]; exact Rat.le_refl) k (by omega)
  have c := max0 sm b0 b1 (y := fun r => -(v r : Rat)) (fun r hr => by
    show -(v r : Rat) ≤ b * S (k + 1) fun c => m r c * -(v c : Rat)
    rw [S_congr (g := fun c => (-1) * (m r c * (v c : Rat))) fun c _ => by grind, S_mul]
    have := row r hr
    grind) k (by omega)
  have e : (v k : Rat) = 0 := by
    have c : -(v k : Rat) ≤ 0 := c
    have a : (v k : Rat) ≤ 0 := a
    grind
  exact_mod_cast e
theorem Whole.sol (w : Whole n m b p C L A) {R : M} {d : Int} (B : Bst n (n + 1) n A R d) : Sol n m b p fun i => (R i n : Rat) / ((d : Rat) * C) := by
  intro i hi
  have d0 : (d : Rat) ≠ 0 := by
    have := B.d0
    exact_mod_cast this
  have c0 := w.c0
  have l := w.l0 i hi
  have q := congrArg (fun z : Int => (z : Rat)) (B.p1 i n hi (by omega))
  have q : ((Dt.S n fun c => A i c * R c n : Int) : Rat) = ((d * A i n : Int) : Rat) := q
  rw [cast_S, S_congr (g := fun c => L i * ((if i = c then (R c n : Rat) else 0) - b * (m i c * (R c n : Rat)))) fun c hc => by
    rw [Rat.intCast_mul, w.co i c hi hc]
    split <;> grind, S_mul, S_sub, S_mul, S_single hi _ fun j hj hn => by rw [if_neg (Ne.symm hn)], if_pos rfl, Rat.intCast_mul, w.la i hi] at q
  show (R i n : Rat) / ((d : Rat) * C) = p i + b * S n fun j => m i j * ((R j n : Rat) / ((d : Rat) * C))
  rw [S_congr (g := fun j => (1 / ((d : Rat) * C)) * (m i j * (R j n : Rat))) fun j _ => by grind, S_mul]
  have l0 : L i ≠ 0 := by grind
  have c1 : C ≠ 0 := by grind
  have q2 : (R i n : Rat) - b * S n (fun c => m i c * (R c n : Rat)) = (d : Rat) * (C * p i) := by
    have : L i * ((R i n : Rat) - b * S n (fun c => m i c * (R c n : Rat)) - (d : Rat) * (C * p i)) = 0 := by grind
    have := (Rat.mul_eq_zero.mp this).resolve_left l0
    grind
  generalize S n (fun c => m i c * (R c n : Rat)) = s at q2 ⊢
  grind
end
end Ch

namespace Ch
/-! numbers: groups of states, the greatest first -/
def cut (m : Nat → Nat → Rat) (In : Nat → Bool) : Nat → Nat → Rat := fun i j => if In j = true then m i j else 0
section
variable {n : Nat} {m : Nat → Nat → Rat} {b : Rat} {p : Nat → Rat}
theorem Sub.cut (hm : Sub n m) (In : Nat → Bool) : Sub n (cut m In) := by
  refine ⟨fun i j => ?_, fun i => ?_⟩
  · unfold Ch.cut
    split
    · exact hm.nn i j
    · exact Rat.le_refl
  · have : S n (Ch.cut m In i) ≤ S n (m i) := S_le fun j hj => by
      unfold Ch.cut
      split
      · exact Rat.le_refl
      · exact hm.nn i j
    exact Rat.le_trans this (hm.le i)
theorem cut_congr {In In' : Nat → Bool} (h : ∀ j, j < n → In j = In' j) {x : Nat → Rat} {i : Nat} : S n (fun j => cut m In i j * x j) = S n (fun j => cut m In' i j * x j) := S_congr fun j hj => by
  unfold cut
  rw [h j hj]
theorem Sol.cut_congr {In In' : Nat → Bool} (h : ∀ j, j < n → In j = In' j) {x : Nat → Rat} (hx : Sol n (cut m In) b p x) : Sol n (cut m In') b p x := fun i hi => by
  rw [← Ch.cut_congr h]
  exact hx i hi
theorem nonneg' (hm : Sub n m) (b0 : 0 < b) (b1 : b < 1) {x : Nat → Rat} (hx : Sol n m b p x) (hp : ∀ i, i < n → 0 ≤ p i) : ∀ i, i < n → 0 ≤ x i := by
  intro i hi
  have := max0 hm b0 b1 (y := fun i => - x i) (fun i hi => by
    show - x i ≤ b * S n (fun j => m i j * - x j)
    rw [S_congr (g := fun j => (-1) * (m i j * x j)) fun j _ => by grind, S_mul, hx i hi]
    have := hp i hi
    grind) i hi
  have : -x i ≤ 0 := this
  grind
theorem ge_pay' (hm : Sub n m) (b0 : 0 < b) (b1 : b < 1) {x : Nat → Rat} (hx : Sol n m b p x) (hp : ∀ i, i < n → 0 ≤ p i) : ∀ i, i < n → p i ≤ x i := by
  intro i hi
  have nn := nonneg' hm b0 b1 hx hp
  have s : 0 ≤ S n (fun j => m i j * x j) := by
    have := S_le (n := n) (f := fun _ => 0) (g := fun j => m i j * x j) fun j hj => Rat.mul_nonneg (hm.nn i j) (nn j hj)
    rwa [S_const0] at this
  have := Rat.mul_nonneg (Rat.le_of_lt b0) s
  have e := hx i hi
  grind
/-- what is brought beyond a pay of g for each step -/
theorem Sol.beyond {x y : Nat → Rat} (hx : Sol n m b p x) (hy : Sol n m b (fun _ => 1) y) (g : Rat) : Sol n m b (fun i => p i - g) (fun i => x i - g * y i) := by
  have l := Sol.lin (c := 1) (d := -g) hx hy
  intro i hi
  have q : 1 * x i + -g * y i = (1 * p i + -g * 1) + b * S n (fun j => m i j * (1 * x j + -g * y j)) := l i hi
  show x i - g * y i = p i - g + b * S n (fun j => m i j * (x j - g * y j))
  rw [S_congr (g := fun j => m i j * (1 * x j + -g * y j)) fun j _ => by grind]
  grind
/-- what the states not in A, and those in it, do at the number g -/
structure St (n : Nat) (m : Nat → Nat → Rat) (b : Rat) (p : Nat → Rat) (A : Nat → Bool) (g : Rat) (G : Nat → Bool) : Prop where
  go : ∀ X Y, Sol n (cut m A) b p X → Sol n (cut m A) b (fun _ => 1) Y → (∀ j, j < n → A j = true → g * Y j ≤ X j) ∧ (∀ j, j < n → A j = false → X j ≤ g * Y j ∧ (G j = true ↔ X j = g * Y j))
  dis : ∀ j, j < n → G j = true → A j = false
/-- the next stage: those left bring less, those taken bring no less -/
theorem St.next (hm : Sub n m) (b0 : 0 < b) (b1 : b < 1) {A G : Nat → Bool} {g : Rat} (h : St n m b p A g G) {X Y : Nat → Rat} (hX : Sol n (cut m A) b p X) (hY : Sol n (cut m A) b (fun _ => 1) Y)
    {X2 Y2 : Nat → Rat} (hX2 : Sol n (cut m fun j => A j || G j) b p X2) (hY2 : Sol n (cut m fun j => A j || G j) b (fun _ => 1) Y2) :
    (∀ j, j < n → (A j || G j) = true → g * Y2 j ≤ X2 j) ∧ (∀ j, j < n → (A j || G j) = false → X2 j < g * Y2 j) := by
  obtain ⟨h1, h2⟩ := h.go X Y hX hY
  have u := Sol.beyond hX hY g
  have u2 := Sol.beyond hX2 hY2 g
  have u' : Sol n (cut m fun j => A j || G j) b (fun i => p i - g) (fun i => X i - g * Y i) := fun i hi => by
    have q : X i - g * Y i = p i - g + b * S n (fun j => cut m A i j * (X j - g * Y j)) := u i hi
    show X i - g * Y i = p i - g + b * S n (fun j => cut m (fun j => A j || G j) i j * (X j - g * Y j))
    rw [q]
    congr 2
    refine S_congr fun j hj => ?_
    unfold cut
    cases ha : A j with
    | true => rw [if_pos rfl, if_pos (by simp [ha])]
    | false =>
      cases hg : G j with
      | true =>
        have := ((h2 j hj ha).2.mp hg)
        rw [if_neg Bool.false_ne_true, if_pos (by simp [hg]), this]
        grind
      | false => rw [if_neg Bool.false_ne_true, if_neg (by simp [ha, hg])]
  have eq := Sol.uniq (hm.cut _) b0 b1 u2 u'
  refine ⟨fun j hj e => ?_, fun j hj e => ?_⟩
  · have q : X2 j - g * Y2 j = X j - g * Y j := eq j hj
    cases ha : A j with
    | true =>
      have := h1 j hj ha
      grind
    | false =>
      rw [ha] at e
      have hg : G j = true := by simpa using e
      have := (h2 j hj ha).2.mp hg
      grind
  · have q : X2 j - g * Y2 j = X j - g * Y j := eq j hj
    have e : A j = false ∧ G j = false := by simpa using e
    have k := h2 j hj e.1
    have ne : ¬ X j = g * Y j := fun w => by
      have := k.2.mpr w
      rw [e.2] at this
      cases this
    rcases Rat.le_iff_lt_or_eq.mp k.1 with k | k
    · grind
    · exact absurd k ne
/-- the numbers' own property -/
structure Nums (n : Nat) (m : Nat → Nat → Rat) (b : Rat) (p g : Nat → Rat) : Prop where
  at' : ∀ s, s < n → ∀ X Y, Sol n (cut m fun j => decide (g s < g j)) b p X → Sol n (cut m fun j => decide (g s < g j)) b (fun _ => 1) Y →
    X s = g s * Y s ∧ (∀ j, j < n → g s < g j → g s * Y j ≤ X j) ∧ (∀ j, j < n → ¬ g s < g j → X j ≤ g s * Y j)
/-- stages one after the other, the newest first -/
inductive Gr (n : Nat) (m : Nat → Nat → Rat) (b : Rat) (p : Nat → Rat) : List (Rat × (Nat → Bool)) → (Nat → Bool) → Prop
  | nil : Gr n m b p [] fun _ => false
  | cons {fs : List (Rat × (Nat → Bool))} {A : Nat → Bool} {g : Rat} {G : Nat → Bool} (h : Gr n m b p fs A) (lt : ∀ f ∈ fs, g < f.1) (st : St n m b p A g G) : Gr n m b p ((g, G) :: fs) fun j => A j || G j
/-- the number that the stages tell -/
def tell : List (Rat × (Nat → Bool)) → Nat → Rat
  | [], _ => 0
  | f :: fs, j => if f.2 j = true then f.1 else tell fs j
theorem tell_in {fs : List (Rat × (Nat → Bool))} {g : Rat} {G : Nat → Bool} {j : Nat} (h : G j = true) : tell ((g, G) :: fs) j = g := if_pos h
theorem tell_out {fs : List (Rat × (Nat → Bool))} {g : Rat} {G : Nat → Bool} {j : Nat} (h : G j = false) : tell ((g, G) :: fs) j = tell fs j := if_neg (by show ¬ G j = true; rw [h]; exact Bool.false_ne_true)
theorem Gr.mem {fs : List (Rat × (Nat → Bool))} {A : Nat → Bool} (h : Gr n m b p fs A) : ∀ j, A j = true → ∃ f ∈ fs, f.2 j = true := by
  induction h with
  | nil => intro j e; cases e
  | cons h lt st ih =>
    intro j e
    rcases Bool.or_eq_true_iff.mp e with e | e
    · obtain ⟨f, hf, e⟩ := ih j e
      exact ⟨f, List.mem_cons_of_mem _ hf, e⟩
    · exact ⟨_, List.mem_cons_self, e⟩
theorem Gr.tell_gt {fs : List (Rat × (Nat → Bool))} {A : Nat → Bool} {g : Rat} (h : Gr n m b p fs A) (lt : ∀ f ∈ fs, g < f.1) : ∀ j, A j = true → g < tell fs j := by
  induction h with
  | nil => intro j e; cases e
  | @cons fs A g' G h l st ih =>
    intro j e
    unfold tell
    split
    · exact lt _ List.mem_cons_self
    · rename_i q
      have e : (A j || G j) = true := e
      have : A j = true := by
        cases hg : G j with
        | true => exact absurd hg q
        | false => rwa [hg, Bool.or_false] at e
      exact ih (fun f hf => lt f (List.mem_cons_of_mem _ hf)) j this
/-- each stage of the list: what stood above it, and that the number tells just that -/
theorem Gr.spec {fs : List (Rat × (Nat → Bool))} {A : Nat → Bool} (h : Gr n m b p fs A) : ∀ s, s < n → A s = true → ∃ A', (∀ j, j < n → A' j = true → A j = true ∧ tell fs s < tell fs j) ∧ (∀ j, j < n → A j = true → A' j = false → tell fs j ≤ tell fs s) ∧
    ∃ G, St n m b p A' (tell fs s) G ∧ G s = true := by
  induction h with
  | nil => intro s _ e; cases e
  | @cons fs A g G h lt st ih =>
    intro s hs e
    have e : (A s || G s) = true := e
    cases hg : G s with
    | true =>
      have ts : tell ((g, G) :: fs) s = g := if_pos hg
      rw [ts]
      refine ⟨A, fun j hj a => ⟨by show (A j || G j) = true; rw [a]; rfl, ?_⟩, fun j hj o a => ?_, G, st, hg⟩
      · have : G j = false := by
          cases q : G j with
          | true =>
            have := st.dis j hj q
            rw [a] at this
            cases this
          | false => rfl
        show g < tell ((g, G) :: fs) j
        unfold tell
        rw [if_neg (by show ¬ G j = true; rw [this]; exact Bool.false_ne_true)]
        exact h.tell_gt lt j a
      · have o : (A j || G j) = true := o
        rw [a, Bool.false_or] at o
        unfold tell
        rw [if_pos o]
        exact Rat.le_refl
    | false =>
      have a : A s = true := by rwa [hg, Bool.or_false] at e
      have ts : tell ((g, G) :: fs) s = tell fs s := if_neg (by show ¬ G s = true; rw [hg]; exact Bool.false_ne_true)
      obtain ⟨A', h1, h2, G', h3, h4⟩ := ih s hs a
      rw [ts]
      refine ⟨A', fun j hj q => ?_, fun j hj o q => ?_, G', h3, h4⟩
      · obtain ⟨aj, lj⟩ := h1 j hj q
        have gj : G j = false := by
          cases w : G j with
          | true =>
            have := st.dis j hj w
            rw [aj] at this
            cases this
          | false => rfl
        refine ⟨by show (A j || G j) = true; rw [aj]; rfl, ?_⟩
        rw [tell_out gj]
        exact lj
      · have o : (A j || G j) = true := o
        cases x : G j with
        | true =>
          rw [tell_in x]
          exact Rat.le_of_lt (h.tell_gt lt s a)
        | false =>
          rw [tell_out x]
          exact h2 j hj (by rwa [x, Bool.or_false] at o) q
theorem Gr.nums {fs : List (Rat × (Nat → Bool))} {A : Nat → Bool} (h : Gr n m b p fs A) (all : ∀ j, j < n → A j = true) : Nums n m b p (tell fs) := by
  refine ⟨fun s hs X Y hX hY => ?_⟩
  obtain ⟨A', h1, h2, G, h3, h4⟩ := h.spec s hs (all s hs)
  have same : ∀ j, j < n → decide (tell fs s < tell fs j) = A' j := fun j hj => by
    cases q : A' j with
    | true => exact decide_eq_true (h1 j hj q).2
    | false => exact decide_eq_false (Rat.not_lt.mpr (h2 j hj (all j hj) q))
  obtain ⟨k1, k2⟩ := h3.go X Y (hX.cut_congr same) (hY.cut_congr same)
  refine ⟨?_, fun j hj l => k1 j hj ?_, fun j hj l => (k2 j hj ?_).1⟩
  · exact ((k2 s hs (h3.dis s hs h4)).2.mp h4)
  · rw [← same j hj]
    exact decide_eq_true l
  · rw [← same j hj]
    exact decide_eq_false l
end
end Ch

namespace Lw
open PySem PySem.Spec PyProof.Rows L2 Ev
def PR : List D := [.int 2147483629, .int 2147483587, .int 2147483579, .int 2147483563, .int 2147483549, .int 2147483543, .int 2147483497, .int 2147483489, .int 2147483477, .int 2147483423, .int 2147483399, .int 2147483353, .int 2147483323]
theorem PR_at (j : Int) (h0 : 0 ≤ j) (h1 : j < 13) : ∃ p, atD PR j = some (.int p) ∧ 2147483323 ≤ p ∧ p ≤ 2147483629 := by
  have : j = 0 ∨ j = 1 ∨ j = 2 ∨ j = 3 ∨ j = 4 ∨ j = 5 ∨ j = 6 ∨ j = 7 ∨ j = 8 ∨ j = 9 ∨ j = 10 ∨ j = 11 ∨ j = 12 := by omega
  rcases this with rfl | rfl | rfl | rfl | rfl | rfl | rfl | rfl | rfl | rfl | rfl | rfl | rfl <;> exact ⟨_, rfl, by decide, by decide⟩
theorem spread_is (cell at_ : Int) (st : Sto) (h0 : 0 ≤ at_) (h1 : at_ < 1000000000) : ∃ v, 0 ≤ v ∧ f_law_spread [.int cell, .int at_] st = .ok (.int v) st := by
  have hp : op2F powD (litF (.int 10)) (litF (.int 18)) = fun en st => .ok (.int 1000000000000000000) st := rfl
  by_cases hc : 1000000000000000000 ≤ cell
  · refine ⟨cell, by omega, ?_⟩
    refine fn_rt (en0 := [some (.int cell), some (.int at_), none, none, none, none, none, none]) rfl ?_
    unfold b_law_spread
    rw [step_if (b := true) (st' := st) (by rw [hp]; simp only [varF_0, varF_s, litF_e, op2F_e, op1F_e, opLF_e, consA_e, nilA_e, boolF_e, truF_e, notT_e, orT_e, andT_e, andV_e, notV_e, isiF_e, ifeF_e, callF_e, R.bind, R.ofO, toB_bl, toT_bl, addD_ii, subD_ii, cmpI_ii, negD_i, intL_i, lenL_t, lenL_l, lenL_f, absL_i, gcdL_i, toI_int, noP_e, someP_e, slF_e, List.length_cons, List.length_nil, decide_eq_true hc])]
    rw [if_pos rfl]
    exact step_ret (by simp only [varF_0, varF_s, litF_e, op2F_e, op1F_e, opLF_e, consA_e, nilA_e, boolF_e, truF_e, notT_e, orT_e, andT_e, andV_e, notV_e, isiF_e, ifeF_e, callF_e, R.bind, R.ofO, toB_bl, toT_bl, addD_ii, subD_ii, cmpI_ii, negD_i, intL_i, lenL_t, lenL_l, lenL_f, absL_i, gcdL_i, toI_int, noP_e, someP_e, slF_e, List.length_cons, List.length_nil])
  · have e1 : at_.fmod 13 = at_ % 13 := Int.fmod_eq_emod_of_nonneg _ (by decide)
    have e2 : (at_ + 5).fmod 13 = (at_ + 5) % 13 := Int.fmod_eq_emod_of_nonneg _ (by decide)
    have e3 : (at_ + 7).fmod 13 = (at_ + 7) % 13 := Int.fmod_eq_emod_of_nonneg _ (by decide)
    obtain ⟨p1, a1, l1, u1⟩ := PR_at (at_.fmod 13) (by omega) (by omega)
    obtain ⟨p2, a2, l2, u2⟩ := PR_at ((at_ + 5).fmod 13) (by omega) (by omega)
    obtain ⟨p3, a3, l3, u3⟩ := PR_at ((at_ + 7).fmod 13) (by omega) (by omega)
    have em : ∀ x p : Int, 2147483323 ≤ p → p ≤ 2147483629 → 0 ≤ x.fmod p ∧ x.fmod p < p := fun x p h h' => by
      rw [Int.fmod_eq_emod_of_nonneg _ (by omega)]
      exact ⟨Int.emod_nonneg _ (by omega), Int.emod_lt_of_pos _ (by omega)⟩
    have ec : cell.fmod 1000000007 = cell % 1000000007 := Int.fmod_eq_emod_of_nonneg _ (by decide)
    have ed : cell.fmod 65537 = cell % 65537 := Int.fmod_eq_emod_of_nonneg _ (by decide)
    have c0 := Int.emod_nonneg cell (show (1000000007 : Int) ≠ 0 by decide)
    have c1 := Int.emod_lt_of_pos cell (show (0 : Int) < 1000000007 by decide)
    have d0 := Int.emod_nonneg cell (show (65537 : Int) ≠ 0 by decide)
    have d1 := Int.emod_lt_of_pos cell (show (0 : Int) < 65537 by decide)
    have m1 : 0 ≤ cell % 1000000007 * (2 * at_ + 69069) := Int.mul_nonneg c0 (by omega)
    have m2 : cell % 1000000007 * (2 * at_ + 69069) ≤ 1000000007 * 2000069069 := Int.mul_le_mul (by omega) (by omega) (by omega) (by omega)
    generalize hmx : cell.fmod 1000000007 * (2 * at_ + 69069) + at_ * 40503 + 977 = mx
    have bm : mx.natAbs < 2 ^ 64 := by rw [ec] at hmx; omega
    generalize hone : (mx ^ 3).fmod p1 = one
    have o := em (mx ^ 3) p1 l1 u1
    rw [hone] at o
    generalize hrest : cell.fmod 65537 + 5 = rest
    have m3 : 0 ≤ one * (at_ + 3) := Int.mul_nonneg o.1 (by omega)
    have m4 : one * (at_ + 3) ≤ 2147483629 * 1000000003 := Int.mul_le_mul (by omega) (by omega) (by omega) (by omega)
    have bt : (one * (at_ + 3) + rest).natAbs < 2 ^ 64 := by omega
    generalize htwo : ((one * (at_ + 3) + rest) ^ 5).fmod p2 = two
    have t := em ((one * (at_ + 3) + rest) ^ 5) p2 l2 u2
    rw [htwo] at t
    have eo : one.fmod 1009 = one % 1009 := Int.fmod_eq_emod_of_nonneg _ (by decide)
    have bh : (two + one.fmod 1009 + at_).natAbs < 2 ^ 64 := by omega
    generalize hthree : ((two + one.fmod 1009 + at_) ^ 3).fmod p3 = three
    have th := em ((two + one.fmod 1009 + at_) ^ 3) p3 l3 u3
    rw [hthree] at th
    refine ⟨(one * 2147483647 + two) * 2147483647 + three, by omega, ?_⟩
    have k1 : mulOk (cell.fmod 1000000007) (2 * at_ + 69069) = true := mulOk_l (by omega) (by omega)
    have k2 : mulOk at_ 40503 = true := mulOk_l (by omega) (by omega)
    have k0 : mulOk 2 at_ = true := mulOk_l (by omega) (by omega)
    have n1 : (1000000007 : Int) ≠ 0 := by decide
    have n2 : (13 : Int) ≠ 0 := by decide
    have n3 : (65537 : Int) ≠ 0 := by decide
    have n4 : (1009 : Int) ≠ 0 := by decide
    have z1 : p1 ≠ 0 := by omega
    have z2 : p2 ≠ 0 := by omega
    have z3 : p3 ≠ 0 := by omega
    have k3 : mulOk one (at_ + 3) = true := mulOk_l (by omega) (by omega)
    have k4 : mulOk one 2147483647 = true := mulOk_l (by omega) (by omega)
    have k5 : mulOk (one * 2147483647 + two) 2147483647 = true := mulOk_r (by decide) (by decide)
    have q3 : ∀ st, powD (.int mx) (.int 3) st = some (.int (mx ^ 3), st) := fun st => powD_ii 3 rfl (by decide) bm
    have q5 : ∀ st, powD (.int (one * (at_ + 3) + rest)) (.int 5) st = some (.int ((one * (at_ + 3) + rest) ^ 5), st) := fun st => powD_ii 5 rfl (by decide) bt
    have q3' : ∀ st, powD (.int (two + one.fmod 1009 + at_)) (.int 3) st = some (.int ((two + one.fmod 1009 + at_) ^ 3), st) := fun st => powD_ii 3 rfl (by decide) bh
    refine fn_rt (en0 := [some (.int cell), some (.int at_), none, none, none, none, none, none]) rfl ?_
    unfold b_law_spread
    rw [step_if (b := false) (st' := st) (by rw [hp]; simp only [varF_0, varF_s, litF_e, op2F_e, op1F_e, opLF_e, consA_e, nilA_e, boolF_e, truF_e, notT_e, orT_e, andT_e, andV_e, notV_e, isiF_e, ifeF_e, callF_e, R.bind, R.ofO, toB_bl, toT_bl, addD_ii, subD_ii, cmpI_ii, negD_i, intL_i, lenL_t, lenL_l, lenL_f, absL_i, gcdL_i, toI_int, noP_e, someP_e, slF_e, List.length_cons, List.length_nil, decide_eq_false hc])]
    rw [if_neg Bool.false_ne_true, step_pass]
    rw [step_set (en' := [some (.int cell), some (.int at_), some (.lst (PR.take 7)), none, none, none, none, none]) (st' := st) rfl (by simp only [List.length_cons, List.length_nil]; decide) rfl]
    rw [step_set (en' := [some (.int cell), some (.int at_), some (.lst PR), none, none, none, none, none]) (st' := st) rfl (by simp only [List.length_cons, List.length_nil]; decide) rfl]
    rw [step_set (en' := [some (.int cell), some (.int at_), some (.lst PR), some (.int mx), none, none, none, none]) (st' := st) (by simp only [varF_0, varF_s, litF_e, op2F_e, op1F_e, opLF_e, consA_e, nilA_e, boolF_e, truF_e, notT_e, orT_e, andT_e, andV_e, notV_e, isiF_e, ifeF_e, callF_e, R.bind, R.ofO, toB_bl, toT_bl, addD_ii, subD_ii, cmpI_ii, negD_i, intL_i, lenL_t, lenL_l, lenL_f, absL_i, gcdL_i, toI_int, noP_e, someP_e, slF_e, List.length_cons, List.length_nil, modD_ii n1, mulD_ii k1, mulD_ii k2, mulD_ii k0, hmx]) (by simp only [List.length_cons, List.length_nil]; decide) rfl]
    rw [step_set (en' := [some (.int cell), some (.int at_), some (.lst PR), some (.int mx), some (.int one), none, none, none]) (st' := st) (by simp only [varF_0, varF_s, litF_e, op2F_e, op1F_e, opLF_e, consA_e, nilA_e, boolF_e, truF_e, notT_e, orT_e, andT_e, andV_e, notV_e, isiF_e, ifeF_e, callF_e, R.bind, R.ofO, toB_bl, toT_bl, addD_ii, subD_ii, cmpI_ii, negD_i, intL_i, lenL_t, lenL_l, lenL_f, absL_i, gcdL_i, toI_int, noP_e, someP_e, slF_e, List.length_cons, List.length_nil, modD_ii n2, q3, ixD_l a1, modD_ii z1, hone]) (by simp only [List.length_cons, List.length_nil]; decide) rfl]
    rw [step_set (en' := [some (.int cell), some (.int at_), some (.lst PR), some (.int mx), some (.int one), some (.int rest), none, none]) (st' := st) (by simp only [varF_0, varF_s, litF_e, op2F_e, op1F_e, opLF_e, consA_e, nilA_e, boolF_e, truF_e, notT_e, orT_e, andT_e, andV_e, notV_e, isiF_e, ifeF_e, callF_e, R.bind, R.ofO, toB_bl, toT_bl, addD_ii, subD_ii, cmpI_ii, negD_i, intL_i, lenL_t, lenL_l, lenL_f, absL_i, gcdL_i, toI_int, noP_e, someP_e, slF_e, List.length_cons, List.length_nil, modD_ii n3, hrest]) (by simp only [List.length_cons, List.length_nil]; decide) rfl]
    rw [step_set (en' := [some (.int cell), some (.int at_), some (.lst PR), some (.int mx), some (.int one), some (.int rest), some (.int two), none]) (st' := st) (by simp only [varF_0, varF_s, litF_e, op2F_e, op1F_e, opLF_e, consA_e, nilA_e, boolF_e, truF_e, notT_e, orT_e, andT_e, andV_e, notV_e, isiF_e, ifeF_e, callF_e, R.bind, R.ofO, toB_bl, toT_bl, addD_ii, subD_ii, cmpI_ii, negD_i, intL_i, lenL_t, lenL_l, lenL_f, absL_i, gcdL_i, toI_int, noP_e, someP_e, slF_e, List.length_cons, List.length_nil, mulD_ii k3, q5, modD_ii n2, ixD_l a2, modD_ii z2, htwo]) (by simp only [List.length_cons, List.length_nil]; decide) rfl]
    rw [step_set (en' := [some (.int cell), some (.int at_), some (.lst PR), some (.int mx), some (.int one), some (.int rest), some (.int two), some (.int three)]) (st' := st) (by simp only [varF_0, varF_s, litF_e, op2F_e, op1F_e, opLF_e, consA_e, nilA_e, boolF_e, truF_e, notT_e, orT_e, andT_e, andV_e, notV_e, isiF_e, ifeF_e, callF_e, R.bind, R.ofO, toB_bl, toT_bl, addD_ii, subD_ii, cmpI_ii, negD_i, intL_i, lenL_t, lenL_l, lenL_f, absL_i, gcdL_i, toI_int, noP_e, someP_e, slF_e, List.length_cons, List.length_nil, modD_ii n4, q3', modD_ii n2, ixD_l a3, modD_ii z3, hthree]) (by simp only [List.length_cons, List.length_nil]; decide) rfl]
    exact ret_ok (by simp only [varF_0, varF_s, litF_e, op2F_e, op1F_e, opLF_e, consA_e, nilA_e, boolF_e, truF_e, notT_e, orT_e, andT_e, andV_e, notV_e, isiF_e, ifeF_e, callF_e, R.bind, R.ofO, toB_bl, toT_bl, addD_ii, subD_ii, cmpI_ii, negD_i, intL_i, lenL_t, lenL_l, lenL_f, absL_i, gcdL_i, toI_int, noP_e, someP_e, slF_e, List.length_cons, List.length_nil, mulD_ii k4, mulD_ii k5])
end Lw

namespace Lw
open PySem PySem.Spec PyProof.Rows L2 Ev
def Pen (n : Nat) (st : Sto) : Prop := ∃ (cs : List Int) (a : Nat) (r : Int), st[0]? = some (.lst (cs.map .int)) ∧ st[1]? = some (.lst [.ref 0, .int (a : Nat), .int r]) ∧ a ≤ n ∧ 0 ≤ r ∧ cs.length < 1000
theorem set_same {st : Sto} {n : Nat} {x : Cell} (h : st[n]? = some x) : st = st.set n x := by
  apply List.ext_getElem?
  intro i
  by_cases hi : n = i
  · subst hi
    rw [h, List.getElem?_set_self (List.getElem?_eq_some_iff.mp h).1]
  · rw [List.getElem?_set_ne hi]
theorem addD_x {i j k : Int} {st : Sto} (h : i + j = k) : addD (.int i) (.int j) st = some (.int k, st) := by rw [addD_ii, h]
theorem op2F_ok {op : O2} {f g : EF} {en : En} {st st1 st2 st3 : Sto} {a b d : D} (h1 : f en st = .ok a st1) (h2 : g en st1 = .ok b st2) (h3 : op a b st2 = some (d, st3)) : op2F op f g en st = .ok d st3 := by
  rw [op2F_e, h1]
  show (g en st1).bind _ = _
  rw [h2]
  show R.ofO (op a b st2) = _
  rw [h3]
  rfl
theorem opLF_ok {op : OL} {f : AF} {en : En} {st st1 st2 : Sto} {ds : List D} {d : D} (h1 : f en st = .ok ds st1) (h2 : op ds st1 = some (d, st2)) : opLF op f en st = .ok d st2 := by
  rw [opLF_e, h1]
  show R.ofO (op ds st1) = _
  rw [h2]
  rfl
theorem consA_ok {f : EF} {g : AF} {en : En} {st st1 st2 : Sto} {ds : List D} {d : D} (h1 : f en st = .ok d st1) (h2 : g en st1 = .ok ds st2) : consA f g en st = .ok (d :: ds) st2 := by
  rw [consA_e, h1]
  show (g en st1).bind _ = _
  rw [h2]
  rfl
theorem modD_x {i j k : Int} {st : Sto} (h : j ≠ 0) (e : i.fmod j = k) : modD (.int i) (.int j) st = some (.int k, st) := by rw [modD_ii h, e]
theorem nn {a b : Nat} (h : a ≠ b) : ((a : Nat) : Int) ≠ (b : Nat) := by omega
theorem take_cell {st : Sto} {cs : List Int} {a : Nat} {r many : Int} (h0 : st[0]? = some (.lst (cs.map .int))) (h1 : st[1]? = some (.lst [.ref 0, .int (a : Nat), .int r])) : ∃ c : Int, (ifS (boolF (op2F (cmpI fun i j => decide (i < j)) (varF 3) (opLF lenL (consA (op2F ixD (varF 0) (litF (.int 0))) nilA))))
 (setS 4 (op2F ixD (op2F ixD (varF 0) (litF (.int 0))) (varF 3)))
 (ifS (boolF (op2F (cmpI fun i j => decide (j < i)) (opLF lenL (consA (op2F ixD (varF 0) (litF (.int 0))) nilA)) (litF (.int 0))))
 (setS 4 (op2F modD (opLF intL (consA (op2F ixD (op2F ixD (varF 0) (litF (.int 0))) (op2F modD (opLF intL (consA (op2F addD (op2F mulD (varF 3) (litF (.int 5))) (litF (.int 3))) nilA)) (opLF lenL (consA (op2F ixD (varF 0) (litF (.int 0))) nilA)))) nilA)) (op2F addD (op2F powD (litF (.int 10)) (litF (.int 17))) (varF 3))))
 passS)) [some (.ref 1), some (.int many), none, some (.int (a : Nat)), some (.int 0)] st = .nx [some (.ref 1), some (.int many), none, some (.int (a : Nat)), some (.int c)] st := by
    have i0 : atD [.ref 0, .int (a : Nat), .int r] 0 = some (.ref 0) := rfl
    by_cases hA : a < cs.length
    · have hA' : ((a : Nat) : Int) < (cs.length : Nat) := by omega
      have at1 : atD (cs.map D.int) ((a : Nat) : Int) = some (.int cs[a]) := atD_nat (by rw [List.getElem?_map, List.getElem?_eq_getElem hA]; rfl)
      refine ⟨cs[a], ?_⟩
      rw [if_ok (b := true) (st' := st) (by simp only [varF_0, varF_s, litF_e, op2F_e, op1F_e, opLF_e, consA_e, nilA_e, boolF_e, truF_e, notT_e, orT_e, andT_e, andV_e, notV_e, isiF_e, ifeF_e, callF_e, R.bind, R.ofO, toB_bl, toT_bl, addD_ii, subD_ii, cmpI_ii, negD_i, intL_i, lenL_t, lenL_l, lenL_f, absL_i, gcdL_i, toI_int, noP_e, someP_e, slF_e, List.length_cons, List.length_nil, ixD_r h1 i0, lenL_r h0, List.length_map, decide_eq_true hA']), if_pos rfl]
      exact set_ok (d := .int cs[a]) (by simp only [varF_0, varF_s, litF_e, op2F_e, op1F_e, opLF_e, consA_e, nilA_e, boolF_e, truF_e, notT_e, orT_e, andT_e, andV_e, notV_e, isiF_e, ifeF_e, callF_e, R.bind, R.ofO, toB_bl, toT_bl, addD_ii, subD_ii, cmpI_ii, negD_i, intL_i, lenL_t, lenL_l, lenL_f, absL_i, gcdL_i, toI_int, noP_e, someP_e, slF_e, List.length_cons, List.length_nil, ixD_r h1 i0, ixD_r h0 at1]) (by simp only [List.length_cons, List.length_nil]; decide) rfl
    · have hA' : ¬ ((a : Nat) : Int) < (cs.length : Nat) := by omega
      by_cases hZ : 0 < cs.length
      · have hZ' : (0 : Int) < (cs.length : Nat) := by omega
        have hZ0 : ((cs.length : Nat) : Int) ≠ 0 := by omega
        have ef : ((a * 5 + 3 : Nat) : Int).fmod (cs.length : Nat) = (((a * 5 + 3) % cs.length : Nat) : Int) := by
          rw [Int.fmod_eq_emod_of_nonneg _ (by omega)]
          simp
        have hq : (a * 5 + 3) % cs.length < cs.length := Nat.mod_lt _ hZ
        have at1 : atD (cs.map D.int) ((((a * 5 + 3) % cs.length : Nat) : Int)) = some (.int cs[(a * 5 + 3) % cs.length]) := atD_nat (by rw [List.getElem?_map, List.getElem?_eq_getElem hq]; rfl)
        have k5 : mulOk ((a : Nat) : Int) 5 = true := mulOk_r (by decide) (by decide)
        obtain ⟨X, hX⟩ : ∃ X : Int, (100000000000000000 : Int) + (a : Nat) = X := ⟨_, rfl⟩
        have hd : X ≠ 0 := by omega
        refine ⟨cs[(a * 5 + 3) % cs.length].fmod X, ?_⟩
        rw [if_ok (b := false) (st' := st) (by simp only [varF_0, varF_s, litF_e, op2F_e, op1F_e, opLF_e, consA_e, nilA_e, boolF_e, truF_e, notT_e, orT_e, andT_e, andV_e, notV_e, isiF_e, ifeF_e, callF_e, R.bind, R.ofO, toB_bl, toT_bl, addD_ii, subD_ii, cmpI_ii, negD_i, intL_i, lenL_t, lenL_l, lenL_f, absL_i, gcdL_i, toI_int, noP_e, someP_e, slF_e, List.length_cons, List.length_nil, ixD_r h1 i0, lenL_r h0, List.length_map, decide_eq_false hA']), if_neg Bool.false_ne_true]
        rw [if_ok (b := true) (st' := st) (by simp only [varF_0, varF_s, litF_e, op2F_e, op1F_e, opLF_e, consA_e, nilA_e, boolF_e, truF_e, notT_e, orT_e, andT_e, andV_e, notV_e, isiF_e, ifeF_e, callF_e, R.bind, R.ofO, toB_bl, toT_bl, addD_ii, subD_ii, cmpI_ii, negD_i, intL_i, lenL_t, lenL_l, lenL_f, absL_i, gcdL_i, toI_int, noP_e, someP_e, slF_e, List.length_cons, List.length_nil, ixD_r h1 i0, lenL_r h0, List.length_map, decide_eq_true hZ']), if_pos rfl]
        refine set_ok (d := .int (cs[(a * 5 + 3) % cs.length].fmod X)) (st' := st) ?_ (by simp only [List.length_cons, List.length_nil]; decide) rfl
        refine op2F_ok (a := .int cs[(a * 5 + 3) % cs.length]) (b := .int X) (st1 := st) (st2 := st) ?_ ?_ (modD_ii hd)
        · have hX0 : op2F ixD (varF 0) (litF (.int 0)) [some (.ref 1), some (.int many), none, some (.int (a : Nat)), some (.int 0)] st = .ok (.ref 0) st := op2F_ok (a := .ref 1) (b := .int 0) (st1 := st) (st2 := st) rfl rfl (ixD_r h1 i0)
          have hM : op2F addD (op2F mulD (varF 3) (litF (.int 5))) (litF (.int 3)) [some (.ref 1), some (.int many), none, some (.int (a : Nat)), some (.int 0)] st = .ok (.int ((a * 5 + 3 : Nat) : Int)) st :=
            op2F_ok (a := .int (((a : Nat) : Int) * 5)) (b := .int 3) (st1 := st) (st2 := st) (op2F_ok (a := .int ((a : Nat) : Int)) (b := .int 5) (st1 := st) (st2 := st) rfl rfl (mulD_ii k5)) rfl (addD_x (by omega))
          have hL : opLF lenL (consA (op2F ixD (varF 0) (litF (.int 0))) nilA) [some (.ref 1), some (.int many), none, some (.int (a : Nat)), some (.int 0)] st = .ok (.int ((cs.length : Nat) : Int)) st :=
            opLF_ok (ds := [.ref 0]) (st1 := st) (consA_ok (st1 := st) hX0 nilA_e) (by rw [lenL_r h0, List.length_map])
          have hY := op2F_ok (op := modD) (opLF_ok (op := intL) (consA_ok hM nilA_e) intL_i) hL (modD_x (st := st) (k := (((a * 5 + 3) % cs.length : Nat) : Int)) hZ0 ef)
          exact opLF_ok (consA_ok (op2F_ok hX0 hY (ixD_r h0 at1)) nilA_e) intL_i
        · exact op2F_ok (a := .int 100000000000000000) (b := .int (a : Nat)) (st1 := st) (st2 := st) rfl rfl (addD_x hX)
      · have hZ' : ¬ (0 : Int) < (cs.length : Nat) := by omega
        refine ⟨0, ?_⟩
        rw [if_ok (b := false) (st' := st) (by simp only [varF_0, varF_s, litF_e, op2F_e, op1F_e, opLF_e, consA_e, nilA_e, boolF_e, truF_e, notT_e, orT_e, andT_e, andV_e, notV_e, isiF_e, ifeF_e, callF_e, R.bind, R.ofO, toB_bl, toT_bl, addD_ii, subD_ii, cmpI_ii, negD_i, intL_i, lenL_t, lenL_l, lenL_f, absL_i, gcdL_i, toI_int, noP_e, someP_e, slF_e, List.length_cons, List.length_nil, ixD_r h1 i0, lenL_r h0, List.length_map, decide_eq_false hA']), if_neg Bool.false_ne_true]
        rw [if_ok (b := false) (st' := st) (by simp only [varF_0, varF_s, litF_e, op2F_e, op1F_e, opLF_e, consA_e, nilA_e, boolF_e, truF_e, notT_e, orT_e, andT_e, andV_e, notV_e, isiF_e, ifeF_e, callF_e, R.bind, R.ofO, toB_bl, toT_bl, addD_ii, subD_ii, cmpI_ii, negD_i, intL_i, lenL_t, lenL_l, lenL_f, absL_i, gcdL_i, toI_int, noP_e, someP_e, slF_e, List.length_cons, List.length_nil, ixD_r h1 i0, lenL_r h0, List.length_map, decide_eq_false hZ']), if_neg Bool.false_ne_true]
        rfl
theorem take_is {n : Nat} {st : Sto} {many : Int} (hp : Pen n st) (hn : n < 1000000) (hm : 1 ≤ many) (hb : many < 10000000) :
    ∃ r x, f_law_take [.ref 1, .int many] st = .ok (.int r) (st.set 1 x) ∧ 0 ≤ r ∧ r < many ∧ Pen (n + 1) (st.set 1 x) := by
  obtain ⟨cs, a, r, h0, h1, ha, hr, hl⟩ := hp
  have hl1 : 1 < st.length := (List.getElem?_eq_some_iff.mp h1).1
  have hm0 : many ≠ 0 := by omega
  have i0 : atD [.ref 0, .int (a : Nat), .int r] 0 = some (.ref 0) := rfl
  have i1 : atD [.ref 0, .int (a : Nat), .int r] 1 = some (.int (a : Nat)) := rfl
  have i2 : atD [.ref 0, .int (a : Nat), .int r] 2 = some (.int r) := rfl
  have lg : many.natAbs.log2 < 9000 := by
    have : many.natAbs.log2 < 24 := (Nat.log2_lt (by omega)).2 (by omega)
    omega
  -- the end, from a pen with rest v
  have fin : ∀ (b : Nat) (v : Int) (st2 : Sto) (x3 x4 : Option D), st2 = st.set 1 (.lst [.ref 0, .int (b : Nat), .int v]) → b ≤ n + 1 → 0 ≤ v →
      ∃ q x, (seqS (setS 2 (op2F modD (opLF intL (consA (op2F ixD (varF 0) (litF (.int 2))) nilA)) (varF 1)))
 (seqS (subS (op2F fdivD (op2F ixD (varF 0) (litF (.int 2))) (varF 1)) (varF 0) (litF (.int 2)))
 (retS (varF 2)))) [some (.ref 1), some (.int many), none, x3, x4] st2 = .rt (.int q) (st.set 1 x) ∧ 0 ≤ q ∧ q < many ∧ Pen (n + 1) (st.set 1 x) := by
    intro b v st2 x3 x4 e hb hv
    have g1 : st2[1]? = some (.lst [.ref 0, .int (b : Nat), .int v]) := by rw [e, List.getElem?_set_self hl1]
    have j2 : atD [.ref 0, .int (b : Nat), .int v] 2 = some (.int v) := rfl
    have ev : v.fmod many = v % many := Int.fmod_eq_emod_of_nonneg _ (by omega)
    have ed : v.fdiv many = v / many := Int.fdiv_eq_ediv_of_nonneg _ (by omega)
    refine ⟨v.fmod many, .lst [.ref 0, .int (b : Nat), .int (v.fdiv many)], ?_, by rw [ev]; exact Int.emod_nonneg _ hm0, by rw [ev]; exact Int.emod_lt_of_pos _ (by omega), ?_⟩
    · rw [step_set (en' := [some (.ref 1), some (.int many), some (.int (v.fmod many)), x3, x4]) (st' := st2) (by simp only [varF_0, varF_s, litF_e, op2F_e, op1F_e, opLF_e, consA_e, nilA_e, boolF_e, truF_e, notT_e, orT_e, andT_e, andV_e, notV_e, isiF_e, ifeF_e, callF_e, R.bind, R.ofO, toB_bl, toT_bl, addD_ii, subD_ii, cmpI_ii, negD_i, intL_i, lenL_t, lenL_l, lenL_f, absL_i, gcdL_i, toI_int, noP_e, someP_e, slF_e, List.length_cons, List.length_nil, ixD_r g1 j2, modD_ii hm0]) (by simp only [List.length_cons, List.length_nil]; decide) rfl]
      rw [step_of (sub_ok (d := .int (v.fdiv many)) (st1 := st2) (st2 := st2) (st3 := st2) (n := 1) (m := 2) (ds := [.ref 0, .int (b : Nat), .int v]) (q := 2) (by simp only [varF_0, varF_s, litF_e, op2F_e, op1F_e, opLF_e, consA_e, nilA_e, boolF_e, truF_e, notT_e, orT_e, andT_e, andV_e, notV_e, isiF_e, ifeF_e, callF_e, R.bind, R.ofO, toB_bl, toT_bl, addD_ii, subD_ii, cmpI_ii, negD_i, intL_i, lenL_t, lenL_l, lenL_f, absL_i, gcdL_i, toI_int, noP_e, someP_e, slF_e, List.length_cons, List.length_nil, ixD_r g1 j2, fdivD_ii hm0 lg]) (by simp only [varF_0, varF_s, litF_e, op2F_e, op1F_e, opLF_e, consA_e, nilA_e, boolF_e, truF_e, notT_e, orT_e, andT_e, andV_e, notV_e, isiF_e, ifeF_e, callF_e, R.bind, R.ofO, toB_bl, toT_bl, addD_ii, subD_ii, cmpI_ii, negD_i, intL_i, lenL_t, lenL_l, lenL_f, absL_i, gcdL_i, toI_int, noP_e, someP_e, slF_e, List.length_cons, List.length_nil]) (by simp only [varF_0, varF_s, litF_e, op2F_e, op1F_e, opLF_e, consA_e, nilA_e, boolF_e, truF_e, notT_e, orT_e, andT_e, andV_e, notV_e, isiF_e, ifeF_e, callF_e, R.bind, R.ofO, toB_bl, toT_bl, addD_ii, subD_ii, cmpI_ii, negD_i, intL_i, lenL_t, lenL_l, lenL_f, absL_i, gcdL_i, toI_int, noP_e, someP_e, slF_e, List.length_cons, List.length_nil]) g1 rfl)]
      refine ret_ok ?_
      rw [e, List.set_set]
      rfl
    · refine ⟨cs, b, v.fdiv many, ?_, List.getElem?_set_self hl1, hb, ?_, hl⟩
      · rw [List.getElem?_set_ne (by decide)]
        exact h0
      · rw [ed]
        exact Int.ediv_nonneg hv (by omega)
  have main : ∃ q x, b_law_take [some (.ref 1), some (.int many), none, none, none] st = .rt (.int q) (st.set 1 x) ∧ 0 ≤ q ∧ q < many ∧ Pen (n + 1) (st.set 1 x) := by
    unfold b_law_take
    by_cases hlt : r < many
    · -- the cell
      obtain ⟨c, hc⟩ := take_cell (many := many) h0 h1
      obtain ⟨v, hv, hs⟩ := spread_is c (a : Nat) (st.set 1 (.lst [.ref 0, .int ((a + 1 : Nat) : Int), .int r])) (by omega) (by omega)
      rw [step_if (b := true) (st' := st) (by simp only [varF_0, varF_s, litF_e, op2F_e, op1F_e, opLF_e, consA_e, nilA_e, boolF_e, truF_e, notT_e, orT_e, andT_e, andV_e, notV_e, isiF_e, ifeF_e, callF_e, R.bind, R.ofO, toB_bl, toT_bl, addD_ii, subD_ii, cmpI_ii, negD_i, intL_i, lenL_t, lenL_l, lenL_f, absL_i, gcdL_i, toI_int, noP_e, someP_e, slF_e, List.length_cons, List.length_nil, ixD_r h1 i2, decide_eq_true hlt]), if_pos rfl]
      have gs : (st.set 1 (.lst [.ref 0, .int ((a + 1 : Nat) : Int), .int r]))[1]? = some (.lst [.ref 0, .int ((a + 1 : Nat) : Int), .int r]) := List.getElem?_set_self hl1
      have upd : (seqS (setS 3 (op2F ixD (varF 0) (litF (.int 1))))
 (seqS (setS 4 (litF (.int 0)))
 (seqS (ifS (boolF (op2F (cmpI fun i j => decide (i < j)) (varF 3) (opLF lenL (consA (op2F ixD (varF 0) (litF (.int 0))) nilA))))
 (setS 4 (op2F ixD (op2F ixD (varF 0) (litF (.int 0))) (varF 3)))
 (ifS (boolF (op2F (cmpI fun i j => decide (j < i)) (opLF lenL (consA (op2F ixD (varF 0) (litF (.int 0))) nilA)) (litF (.int 0))))
 (setS 4 (op2F modD (opLF intL (consA (op2F ixD (op2F ixD (varF 0) (litF (.int 0))) (op2F modD (opLF intL (consA (op2F addD (op2F mulD (varF 3) (litF (.int 5))) (litF (.int 3))) nilA)) (opLF lenL (consA (op2F ixD (varF 0) (litF (.int 0))) nilA)))) nilA)) (op2F addD (op2F powD (litF (.int 10)) (litF (.int 17))) (varF 3))))
 passS))
 (seqS (subS (op2F addD (varF 3) (litF (.int 1))) (varF 0) (litF (.int 1)))
 (subS (callF 2 f_law_spread (consA (varF 4) (consA (varF 3) nilA))) (varF 0) (litF (.int 2))))))) [some (.ref 1), some (.int many), none, none, none] st = .nx [some (.ref 1), some (.int many), none, some (.int (a : Nat)), some (.int c)] (st.set 1 (.lst [.ref 0, .int ((a + 1 : Nat) : Int), .int v])) := by
        rw [step_set (en' := [some (.ref 1), some (.int many), none, some (.int (a : Nat)), none]) (st' := st) (by simp only [varF_0, varF_s, litF_e, op2F_e, op1F_e, opLF_e, consA_e, nilA_e, boolF_e, truF_e, notT_e, orT_e, andT_e, andV_e, notV_e, isiF_e, ifeF_e, callF_e, R.bind, R.ofO, toB_bl, toT_bl, addD_ii, subD_ii, cmpI_ii, negD_i, intL_i, lenL_t, lenL_l, lenL_f, absL_i, gcdL_i, toI_int, noP_e, someP_e, slF_e, List.length_cons, List.length_nil, ixD_r h1 i1]) (by simp only [List.length_cons, List.length_nil]; decide) rfl]
        rw [step_set (en' := [some (.ref 1), some (.int many), none, some (.int (a : Nat)), some (.int 0)]) (st' := st) (by simp only [varF_0, varF_s, litF_e, op2F_e, op1F_e, opLF_e, consA_e, nilA_e, boolF_e, truF_e, notT_e, orT_e, andT_e, andV_e, notV_e, isiF_e, ifeF_e, callF_e, R.bind, R.ofO, toB_bl, toT_bl, addD_ii, subD_ii, cmpI_ii, negD_i, intL_i, lenL_t, lenL_l, lenL_f, absL_i, gcdL_i, toI_int, noP_e, someP_e, slF_e, List.length_cons, List.length_nil]) (by simp only [List.length_cons, List.length_nil]; decide) rfl]
        rw [step_of hc]
        rw [step_of (sub_ok (d := .int ((a + 1 : Nat) : Int)) (st1 := st) (st2 := st) (st3 := st) (n := 1) (m := 1) (ds := [.ref 0, .int (a : Nat), .int r]) (q := 1) (by simp only [varF_0, varF_s, litF_e, op2F_e, op1F_e, opLF_e, consA_e, nilA_e, boolF_e, truF_e, notT_e, orT_e, andT_e, andV_e, notV_e, isiF_e, ifeF_e, callF_e, R.bind, R.ofO, toB_bl, toT_bl, addD_ii, subD_ii, cmpI_ii, negD_i, intL_i, lenL_t, lenL_l, lenL_f, absL_i, gcdL_i, toI_int, noP_e, someP_e, slF_e, List.length_cons, List.length_nil]; rw [Int.natCast_add]; rfl) (by simp only [varF_0, varF_s, litF_e, op2F_e, op1F_e, opLF_e, consA_e, nilA_e, boolF_e, truF_e, notT_e, orT_e, andT_e, andV_e, notV_e, isiF_e, ifeF_e, callF_e, R.bind, R.ofO, toB_bl, toT_bl, addD_ii, subD_ii, cmpI_ii, negD_i, intL_i, lenL_t, lenL_l, lenL_f, absL_i, gcdL_i, toI_int, noP_e, someP_e, slF_e, List.length_cons, List.length_nil]) (by simp only [varF_0, varF_s, litF_e, op2F_e, op1F_e, opLF_e, consA_e, nilA_e, boolF_e, truF_e, notT_e, orT_e, andT_e, andV_e, notV_e, isiF_e, ifeF_e, callF_e, R.bind, R.ofO, toB_bl, toT_bl, addD_ii, subD_ii, cmpI_ii, negD_i, intL_i, lenL_t, lenL_l, lenL_f, absL_i, gcdL_i, toI_int, noP_e, someP_e, slF_e, List.length_cons, List.length_nil]) h1 rfl)]
        show subS _ _ _ _ (st.set 1 (.lst [.ref 0, .int ((a + 1 : Nat) : Int), .int r])) = _
        rw [sub_ok (d := .int v) (st1 := st.set 1 (.lst [.ref 0, .int ((a + 1 : Nat) : Int), .int r])) (st2 := st.set 1 (.lst [.ref 0, .int ((a + 1 : Nat) : Int), .int r])) (n := 1) (m := 2) (ds := [.ref 0, .int ((a + 1 : Nat) : Int), .int r]) (q := 2) (st3 := st.set 1 (.lst [.ref 0, .int ((a + 1 : Nat) : Int), .int r])) (by simp only [varF_0, varF_s, litF_e, op2F_e, op1F_e, opLF_e, consA_e, nilA_e, boolF_e, truF_e, notT_e, orT_e, andT_e, andV_e, notV_e, isiF_e, ifeF_e, callF_e, R.bind, R.ofO, toB_bl, toT_bl, addD_ii, subD_ii, cmpI_ii, negD_i, intL_i, lenL_t, lenL_l, lenL_f, absL_i, gcdL_i, toI_int, noP_e, someP_e, slF_e, List.length_cons, List.length_nil, if_true, hs]) (by simp only [varF_0, varF_s, litF_e, op2F_e, op1F_e, opLF_e, consA_e, nilA_e, boolF_e, truF_e, notT_e, orT_e, andT_e, andV_e, notV_e, isiF_e, ifeF_e, callF_e, R.bind, R.ofO, toB_bl, toT_bl, addD_ii, subD_ii, cmpI_ii, negD_i, intL_i, lenL_t, lenL_l, lenL_f, absL_i, gcdL_i, toI_int, noP_e, someP_e, slF_e, List.length_cons, List.length_nil]) (by simp only [varF_0, varF_s, litF_e, op2F_e, op1F_e, opLF_e, consA_e, nilA_e, boolF_e, truF_e, notT_e, orT_e, andT_e, andV_e, notV_e, isiF_e, ifeF_e, callF_e, R.bind, R.ofO, toB_bl, toT_bl, addD_ii, subD_ii, cmpI_ii, negD_i, intL_i, lenL_t, lenL_l, lenL_f, absL_i, gcdL_i, toI_int, noP_e, someP_e, slF_e, List.length_cons, List.length_nil]) gs rfl]
        rw [List.set_set]
        rfl
      rw [step_of upd]
      exact fin (a + 1) v _ _ _ rfl (by omega) hv
    · rw [step_if (b := false) (st' := st) (by simp only [varF_0, varF_s, litF_e, op2F_e, op1F_e, opLF_e, consA_e, nilA_e, boolF_e, truF_e, notT_e, orT_e, andT_e, andV_e, notV_e, isiF_e, ifeF_e, callF_e, R.bind, R.ofO, toB_bl, toT_bl, addD_ii, subD_ii, cmpI_ii, negD_i, intL_i, lenL_t, lenL_l, lenL_f, absL_i, gcdL_i, toI_int, noP_e, someP_e, slF_e, List.length_cons, List.length_nil, ixD_r h1 i2, decide_eq_false hlt]), if_neg Bool.false_ne_true, step_pass]
      exact fin a r st none none (set_same h1) (by omega) hr
  obtain ⟨q, x, hq, h2, h3, h4⟩ := main
  exact ⟨q, x, fn_rt rfl hq, h2, h3, h4⟩
end Lw

namespace Lw
open PySem PySem.Spec PyProof.Rows L2 Ev
def wh : D → Bool
  | .int _ => true
  | _ => false
theorem is_whole_is (d : D) (st : Sto) : f_is_whole [d] st = .ok (.bl (wh d)) st := by cases d <;> rfl
theorem callF_ok {n : Nat} {F : List D → Sto → R D} {fs : AF} {en : En} {st st1 : Sto} {ds : List D} {r : R D} (h : fs en st = .ok ds st1) (hn : ds.length = n) (hF : F ds st1 = r) : callF n F fs en st = r := by
  rw [callF_e, h]
  show (if ds.length = n then F ds st1 else .bad) = _
  rw [if_pos hn, hF]
theorem callW {n i : Nat} {en : En} {st : Sto} {d : D} (h : varF i en st = .ok d st) : callF 1 f_is_whole (consA (varF i) nilA) en st = .ok (.bl (wh d)) st := callF_ok (consA_ok h nilA_e) rfl (is_whole_is d st)
theorem orT_f {f g : TF} {en : En} {st st1 : Sto} (h : f en st = .ok false st1) : orT f g en st = g en st1 := by
  rw [orT_e, h]
  rfl
theorem orT_t {f g : TF} {en : En} {st st1 : Sto} (h : f en st = .ok true st1) : orT f g en st = .ok true st1 := by
  rw [orT_e, h]
  rfl
theorem andV_t {f g : EF} {en : En} {st st1 : Sto} (h : boolF f en st = .ok true st1) : andV f g en st = g en st1 := by
  rw [andV_e, h]
  rfl
theorem andV_f {f g : EF} {en : En} {st st1 : Sto} (h : boolF f en st = .ok false st1) : andV f g en st = .ok (.bl false) st1 := by
  rw [andV_e, h]
  rfl
/-! the divisor -/
theorem div_loop {st : Sto} : ∀ (m a b : Nat), b < m → loopW (boolF (op2F (cmpI fun i j => decide (j < i)) (varF 1) (litF (.int 0)))) (parS 0 1 (consA (varF 1) (consA (op2F modD (opLF intL (consA (varF 0) nilA)) (varF 1)) nilA))) m [some (.int (a : Nat)), some (.int (b : Nat))] st = .nx [some (.int (Nat.gcd a b : Nat)), some (.int 0)] st
  | 0, _, _, h => absurd h (Nat.not_lt_zero _)
  | m + 1, a, b, h => by
    unfold loopW
    by_cases hb : b = 0
    · subst hb
      have hc : ¬ (0 : Int) < ((0 : Nat) : Int) := by omega
      have e : boolF (op2F (cmpI fun i j => decide (j < i)) (varF 1) (litF (.int 0))) [some (.int (a : Nat)), some (.int ((0 : Nat) : Int))] st = .ok false st := by
        simp only [varF_0, varF_s, litF_e, op2F_e, op1F_e, opLF_e, consA_e, nilA_e, boolF_e, truF_e, notT_e, orT_e, andT_e, andV_e, notV_e, isiF_e, ifeF_e, callF_e, R.bind, R.ofO, toB_bl, toT_bl, addD_ii, subD_ii, cmpI_ii, negD_i, intL_i, lenL_t, lenL_l, lenL_f, absL_i, gcdL_i, toI_int, noP_e, someP_e, slF_e, List.length_cons, List.length_nil, decide_eq_false hc]
      rw [e, bindS_ok, if_neg Bool.false_ne_true, Nat.gcd_zero_right]
      rfl
    · have hc : (0 : Int) < (b : Nat) := by omega
      have hb0 : ((b : Nat) : Int) ≠ 0 := by omega
      have e : boolF (op2F (cmpI fun i j => decide (j < i)) (varF 1) (litF (.int 0))) [some (.int (a : Nat)), some (.int (b : Nat))] st = .ok true st := by
        simp only [varF_0, varF_s, litF_e, op2F_e, op1F_e, opLF_e, consA_e, nilA_e, boolF_e, truF_e, notT_e, orT_e, andT_e, andV_e, notV_e, isiF_e, ifeF_e, callF_e, R.bind, R.ofO, toB_bl, toT_bl, addD_ii, subD_ii, cmpI_ii, negD_i, intL_i, lenL_t, lenL_l, lenL_f, absL_i, gcdL_i, toI_int, noP_e, someP_e, slF_e, List.length_cons, List.length_nil, decide_eq_true hc]
      rw [e, bindS_ok, if_pos rfl]
      have em : ((a : Nat) : Int).fmod (b : Nat) = ((a % b : Nat) : Int) := by
        rw [Int.fmod_eq_emod_of_nonneg _ (by omega)]
        rfl
      rw [par_ok (d := .int (b : Nat)) (e := .int ((a % b : Nat) : Int)) (st' := st) (en' := [some (.int (b : Nat)), some (.int ((a % b : Nat) : Int))]) (by simp only [varF_0, varF_s, litF_e, op2F_e, op1F_e, opLF_e, consA_e, nilA_e, boolF_e, truF_e, notT_e, orT_e, andT_e, andV_e, notV_e, isiF_e, ifeF_e, callF_e, R.bind, R.ofO, toB_bl, toT_bl, addD_ii, subD_ii, cmpI_ii, negD_i, intL_i, lenL_t, lenL_l, lenL_f, absL_i, gcdL_i, toI_int, noP_e, someP_e, slF_e, List.length_cons, List.length_nil, modD_ii hb0, em]) ⟨by simp only [List.length_cons, List.length_nil]; decide, by simp only [List.length_cons, List.length_nil]; decide⟩ rfl]
      have hlt : a % b < m := Nat.lt_of_lt_of_le (Nat.mod_lt a (by omega)) (by omega)
      show loopW _ _ m _ st = _
      rw [div_loop m b (a % b) hlt, Nat.gcd_comm a b, Nat.gcd_rec b a, Nat.gcd_comm]
theorem divisor_is (a b : Int) (st : Sto) (h : b.natAbs < 10 ^ 80) : f_law_divisor [.int a, .int b] st = .ok (.int ((Nat.gcd a.natAbs b.natAbs : Nat) : Int)) st := by
  refine fn_rt (en0 := [some (.int a), some (.int b)]) rfl ?_
  unfold b_law_divisor
  have abs : ∀ i : Int, (if i < 0 then -i else i) = (i.natAbs : Nat) := fun i => by split <;> omega
  rw [step_par (d := .int (a.natAbs : Nat)) (e := .int (b.natAbs : Nat)) (st' := st) (en' := [some (.int (a.natAbs : Nat)), some (.int (b.natAbs : Nat))]) (by simp only [varF_0, varF_s, litF_e, op2F_e, op1F_e, opLF_e, consA_e, nilA_e, boolF_e, truF_e, notT_e, orT_e, andT_e, andV_e, notV_e, isiF_e, ifeF_e, callF_e, R.bind, R.ofO, toB_bl, toT_bl, addD_ii, subD_ii, cmpI_ii, negD_i, intL_i, lenL_t, lenL_l, lenL_f, absL_i, gcdL_i, toI_int, noP_e, someP_e, slF_e, List.length_cons, List.length_nil, abs]) ⟨by simp only [List.length_cons, List.length_nil]; decide, by simp only [List.length_cons, List.length_nil]; decide⟩ rfl]
  have hf : b.natAbs < bigFuel := Nat.lt_of_lt_of_le (Nat.lt_trans h (show 10 ^ 80 < 2 ^ 300 by decide +kernel)) (by unfold bigFuel; exact Nat.pow_le_pow_right (by decide) (by decide))
  rw [step_of (show whileS bigFuel _ _ _ st = _ from div_loop bigFuel a.natAbs b.natAbs hf)]
  exact ret_ok (by simp only [varF_0, varF_s, litF_e, op2F_e, op1F_e, opLF_e, consA_e, nilA_e, boolF_e, truF_e, notT_e, orT_e, andT_e, andV_e, notV_e, isiF_e, ifeF_e, callF_e, R.bind, R.ofO, toB_bl, toT_bl, addD_ii, subD_ii, cmpI_ii, negD_i, intL_i, lenL_t, lenL_l, lenL_f, absL_i, gcdL_i, toI_int, noP_e, someP_e, slF_e, List.length_cons, List.length_nil])
/-! fractions -/
def isFr : D → Bool
  | .tup [.int a, .int b] => decide (1 ≤ b) && decide (Nat.gcd a.natAbs b.natAbs = 1)
  | _ => false
theorem gcd_one {n : Nat} : (((n : Nat) : Int) == 1) = decide (n = 1) := by
  by_cases h : n = 1
  · subst h
    rfl
  · rw [decide_eq_false h]
    exact beq_false_of_ne (by omega)
theorem is_fraction_is (d : D) (st : Sto) : f_is_fraction [d] st = .ok (.bl (isFr d)) st := by
  refine fn_rt (en0 := [some d, none, none]) rfl ?_
  unfold b_is_fraction
  have no : isTup d = false → seqS (ifS (orT (notT (truF (isiF isTup (varF 0)))) (boolF (op2F neD (opLF lenL (consA (varF 0) nilA)) (litF (.int 2)))))
 (retS (litF (.bl false)))
 passS) (seqS (asgS (varF 0) (tupG 2 (consG (nameG 1) (consG (nameG 2) nilG))))
 (seqS (ifS (orT (notT (truF (callF 1 f_is_whole (consA (varF 1) nilA)))) (notT (truF (callF 1 f_is_whole (consA (varF 2) nilA)))))
 (retS (litF (.bl false)))
 passS)
 (retS (andV (op2F (cmpI fun i j => decide (j ≤ i)) (varF 2) (litF (.int 1))) (op2F eqD (opLF gcdL (consA (varF 1) (consA (varF 2) nilA))) (litF (.int 1))))))) [some d, none, none] st = .rt (.bl false) st := fun h => by
    rw [step_if (b := true) (st' := st) (by simp only [varF_0, varF_s, litF_e, op2F_e, op1F_e, opLF_e, consA_e, nilA_e, boolF_e, truF_e, notT_e, orT_e, andT_e, andV_e, notV_e, isiF_e, ifeF_e, callF_e, R.bind, R.ofO, toB_bl, toT_bl, addD_ii, subD_ii, cmpI_ii, negD_i, intL_i, lenL_t, lenL_l, lenL_f, absL_i, gcdL_i, toI_int, noP_e, someP_e, slF_e, List.length_cons, List.length_nil, h, Bool.not_false, if_true]), if_pos rfl]
    exact step_ret rfl
  cases d with
  | tup ds =>
    by_cases hl : ds.length = 2
    · match ds, hl with
      | [x, y], _ =>
        have c1 : orT (notT (truF (isiF isTup (varF 0)))) (boolF (op2F neD (opLF lenL (consA (varF 0) nilA)) (litF (.int 2)))) [some (.tup [x, y]), none, none] st = .ok false st := rfl
        rw [step_if (b := false) c1, if_neg Bool.false_ne_true, step_pass]
        rw [step_asg (d := .tup [x, y]) (st' := st) (en' := [some (.tup [x, y]), some x, some y]) rfl rfl]
        have w1 : callF 1 f_is_whole (consA (varF 1) nilA) [some (.tup [x, y]), some x, some y] st = .ok (.bl (wh x)) st := callW (n := 0) rfl
        have w2 : callF 1 f_is_whole (consA (varF 2) nilA) [some (.tup [x, y]), some x, some y] st = .ok (.bl (wh y)) st := callW (n := 0) rfl
        have c2 : orT (notT (truF (callF 1 f_is_whole (consA (varF 1) nilA)))) (notT (truF (callF 1 f_is_whole (consA (varF 2) nilA)))) [some (.tup [x, y]), some x, some y] st = .ok (!wh x || !wh y) st := by
          simp only [orT_e, notT_e, truF_e, w1, w2, R.bind, toT_bl]
          cases wh x <;> rfl
        rw [step_if c2]
        by_cases hw : (!wh x || !wh y) = true
        · rw [hw, if_pos rfl, step_ret (d := .bl false) (st' := st) rfl]
          cases x <;> cases y <;> first | rfl | cases hw
        · rw [if_neg hw, step_pass]
          match x, y, hw with
          | .int a, .int b, _ =>
            refine ret_ok ?_
            by_cases hb : 1 ≤ b
            · show _ = R.ok (D.bl (decide (1 ≤ b) && decide (Nat.gcd a.natAbs b.natAbs = 1))) st
              rw [decide_eq_true hb, Bool.true_and]
              simp only [varF_0, varF_s, litF_e, op2F_e, op1F_e, opLF_e, consA_e, nilA_e, boolF_e, truF_e, notT_e, orT_e, andT_e, andV_e, notV_e, isiF_e, ifeF_e, callF_e, R.bind, R.ofO, toB_bl, toT_bl, addD_ii, subD_ii, cmpI_ii, negD_i, intL_i, lenL_t, lenL_l, lenL_f, absL_i, gcdL_i, toI_int, noP_e, someP_e, slF_e, List.length_cons, List.length_nil, decide_eq_true hb, if_true, eqD_ii, gcd_one]
            · show _ = R.ok (D.bl (decide (1 ≤ b) && decide (Nat.gcd a.natAbs b.natAbs = 1))) st
              rw [decide_eq_false hb, Bool.false_and]
              simp only [varF_0, varF_s, litF_e, op2F_e, op1F_e, opLF_e, consA_e, nilA_e, boolF_e, truF_e, notT_e, orT_e, andT_e, andV_e, notV_e, isiF_e, ifeF_e, callF_e, R.bind, R.ofO, toB_bl, toT_bl, addD_ii, subD_ii, cmpI_ii, negD_i, intL_i, lenL_t, lenL_l, lenL_f, absL_i, gcdL_i, toI_int, noP_e, someP_e, slF_e, List.length_cons, List.length_nil, decide_eq_false hb, if_neg Bool.false_ne_true]
          | .non, _, h | .bl _, _, h | .str _, _, h | .tup _, _, h | .lst _, _, h | .ref _, _, h | .fro _, _, h => exact absurd rfl h
          | .int _, .non, h | .int _, .bl _, h | .int _, .str _, h | .int _, .tup _, h | .int _, .lst _, h | .int _, .ref _, h | .int _, .fro _, h => exact absurd rfl h
    · have hb : ((((ds.length : Nat) : Int) == 2) : Bool) = false := beq_false_of_ne (by omega)
      have c1 : orT (notT (truF (isiF isTup (varF 0)))) (boolF (op2F neD (opLF lenL (consA (varF 0) nilA)) (litF (.int 2)))) [some (.tup ds), none, none] st = .ok true st := by
        simp only [varF_0, varF_s, litF_e, op2F_e, op1F_e, opLF_e, consA_e, nilA_e, boolF_e, truF_e, notT_e, orT_e, andT_e, andV_e, notV_e, isiF_e, ifeF_e, callF_e, R.bind, R.ofO, toB_bl, toT_bl, addD_ii, subD_ii, cmpI_ii, negD_i, intL_i, lenL_t, lenL_l, lenL_f, absL_i, gcdL_i, toI_int, noP_e, someP_e, slF_e, List.length_cons, List.length_nil, show isTup (.tup ds) = true from rfl, Bool.not_true, if_neg Bool.false_ne_true, neD_ii, hb, Bool.not_false]
      rw [step_if (b := true) c1, if_pos rfl]
      rw [step_ret (d := .bl false) (st' := st) rfl]
      have : isFr (.tup ds) = false := by
        unfold isFr
        split
        · rename_i h
          cases h
          exact absurd rfl hl
        · rfl
      rw [this]
  | _ => exact no rfl
/-! the fraction with a value -/
def frac (a b : Int) : D := let g : Int := if b < 0 then -((Nat.gcd a.natAbs b.natAbs : Nat) : Int) else ((Nat.gcd a.natAbs b.natAbs : Nat) : Int)
  .tup [.int (a.fdiv g), .int (b.fdiv g)]
theorem gcd_ok {a b : Int} (hb : b ≠ 0) (hl : b.natAbs.log2 < 8000) : ((Nat.gcd a.natAbs b.natAbs : Nat) : Int) ≠ 0 ∧ (Nat.gcd a.natAbs b.natAbs).log2 < 9000 := by
  have h0 : b.natAbs ≠ 0 := by omega
  have h1 : Nat.gcd a.natAbs b.natAbs ≤ b.natAbs := Nat.gcd_le_right _ (by omega)
  have h2 : 0 < Nat.gcd a.natAbs b.natAbs := Nat.gcd_pos_of_pos_right _ (by omega)
  have h3 : (Nat.gcd a.natAbs b.natAbs).log2 < 8000 := (Nat.log2_lt (by omega)).2 (Nat.lt_of_le_of_lt h1 ((Nat.log2_lt h0).1 hl))
  exact ⟨by omega, by omega⟩
theorem frac_end {a b : Int} {en : En} {st : Sto} (hb : b ≠ 0) (hl : b.natAbs.log2 < 8000) (h0 : varF 0 en st = .ok (.int a) st) (h1 : varF 1 en st = .ok (.int b) st) (h2 : varF 2 en st = .ok (.int (if b < 0 then -((Nat.gcd a.natAbs b.natAbs : Nat) : Int) else ((Nat.gcd a.natAbs b.natAbs : Nat) : Int))) st) :
    retS (opLF tupL (consA (op2F fdivD (varF 0) (varF 2)) (consA (op2F fdivD (varF 1) (varF 2)) nilA))) en st = .rt (frac a b) st := by
  obtain ⟨g1, g2⟩ := gcd_ok (a := a) hb hl
  unfold frac
  have z : (if b < 0 then -((Nat.gcd a.natAbs b.natAbs : Nat) : Int) else ((Nat.gcd a.natAbs b.natAbs : Nat) : Int)) ≠ 0 := by split <;> omega
  have l : (if b < 0 then -((Nat.gcd a.natAbs b.natAbs : Nat) : Int) else ((Nat.gcd a.natAbs b.natAbs : Nat) : Int)).natAbs.log2 < 9000 := by
    split
    · rw [Int.natAbs_neg, Int.natAbs_natCast]
      exact g2
    · rw [Int.natAbs_natCast]
      exact g2
  exact ret_ok (opLF_ok (consA_ok (op2F_ok h0 h2 (fdivD_ii z l)) (consA_ok (op2F_ok h1 h2 (fdivD_ii z l)) nilA_e)) (tupL_e (by simp only [List.length_cons, List.length_nil]; decide)))
def isInt2 (x y : D) : Bool := match x, y with
  | .int _, .int b => !decide (b = 0)
  | _, _ => false
theorem fraction_no {x y : D} {st : Sto} (h : isInt2 x y = false) : f_fraction [x, y] st = .ex 0 none st := by
  refine fn_ex (en0 := [some x, some y, none]) (en1 := [some x, some y, none]) rfl ?_
  unfold b_fraction
  have w1 : callF 1 f_is_whole (consA (varF 0) nilA) [some x, some y, none] st = .ok (.bl (wh x)) st := callW (n := 0) rfl
  have w2 : callF 1 f_is_whole (consA (varF 1) nilA) [some x, some y, none] st = .ok (.bl (wh y)) st := callW (n := 0) rfl
  have c2 : orT (notT (truF (callF 1 f_is_whole (consA (varF 0) nilA)))) (notT (truF (callF 1 f_is_whole (consA (varF 1) nilA)))) [some x, some y, none] st = .ok (!wh x || !wh y) st := by
    simp only [orT_e, notT_e, truF_e, w1, w2, R.bind, toT_bl]
    cases wh x <;> rfl
  rw [step_if c2]
  by_cases hw : (!wh x || !wh y) = true
  · rw [if_pos hw]
    rfl
  · rw [if_neg hw, step_pass]
    match x, y, hw, h with
    | .int a, .int b, _, h =>
      have hb : b = 0 := by
        have : (!decide (b = 0)) = false := h
        simpa using this
      subst hb
      rfl
    | .non, _, h, _ | .bl _, _, h, _ | .str _, _, h, _ | .tup _, _, h, _ | .lst _, _, h, _ | .ref _, _, h, _ | .fro _, _, h, _ => exact absurd rfl h
    | .int _, .non, h, _ | .int _, .bl _, h, _ | .int _, .str _, h, _ | .int _, .tup _, h, _ | .int _, .lst _, h, _ | .int _, .ref _, h, _ | .int _, .fro _, h, _ => exact absurd rfl h
theorem fraction_is {a b : Int} {st : Sto} (hb : b ≠ 0) (hl : b.natAbs.log2 < 8000) : f_fraction [.int a, .int b] st = .ok (frac a b) st := by
  refine fn_rt (en0 := [some (.int a), some (.int b), none]) rfl ?_
  unfold b_fraction
  have hb' : ((b == 0) : Bool) = false := beq_false_of_ne hb
  rw [step_if (b := false) (st' := st) rfl, if_neg Bool.false_ne_true, step_pass]
  rw [step_if (b := false) (st' := st) (by simp only [varF_0, varF_s, litF_e, op2F_e, op1F_e, opLF_e, consA_e, nilA_e, boolF_e, truF_e, notT_e, orT_e, andT_e, andV_e, notV_e, isiF_e, ifeF_e, callF_e, R.bind, R.ofO, toB_bl, toT_bl, addD_ii, subD_ii, cmpI_ii, negD_i, intL_i, lenL_t, lenL_l, lenL_f, absL_i, gcdL_i, toI_int, noP_e, someP_e, slF_e, List.length_cons, List.length_nil, eqD_ii, hb']), if_neg Bool.false_ne_true, step_pass]
  rw [step_set (en' := [some (.int a), some (.int b), some (.int ((Nat.gcd a.natAbs b.natAbs : Nat) : Int))]) (st' := st) (by simp only [varF_0, varF_s, litF_e, op2F_e, op1F_e, opLF_e, consA_e, nilA_e, boolF_e, truF_e, notT_e, orT_e, andT_e, andV_e, notV_e, isiF_e, ifeF_e, callF_e, R.bind, R.ofO, toB_bl, toT_bl, addD_ii, subD_ii, cmpI_ii, negD_i, intL_i, lenL_t, lenL_l, lenL_f, absL_i, gcdL_i, toI_int, noP_e, someP_e, slF_e, List.length_cons, List.length_nil]) (by simp only [List.length_cons, List.length_nil]; decide) rfl]
  by_cases hn : b < 0
  · rw [step_if (b := true) (st' := st) (by simp only [varF_0, varF_s, litF_e, op2F_e, op1F_e, opLF_e, consA_e, nilA_e, boolF_e, truF_e, notT_e, orT_e, andT_e, andV_e, notV_e, isiF_e, ifeF_e, callF_e, R.bind, R.ofO, toB_bl, toT_bl, addD_ii, subD_ii, cmpI_ii, negD_i, intL_i, lenL_t, lenL_l, lenL_f, absL_i, gcdL_i, toI_int, noP_e, someP_e, slF_e, List.length_cons, List.length_nil, decide_eq_true hn]), if_pos rfl]
    rw [step_set (en' := [some (.int a), some (.int b), some (.int (-((Nat.gcd a.natAbs b.natAbs : Nat) : Int)))]) (st' := st) (by simp only [varF_0, varF_s, litF_e, op2F_e, op1F_e, opLF_e, consA_e, nilA_e, boolF_e, truF_e, notT_e, orT_e, andT_e, andV_e, notV_e, isiF_e, ifeF_e, callF_e, R.bind, R.ofO, toB_bl, toT_bl, addD_ii, subD_ii, cmpI_ii, negD_i, intL_i, lenL_t, lenL_l, lenL_f, absL_i, gcdL_i, toI_int, noP_e, someP_e, slF_e, List.length_cons, List.length_nil]) (by simp only [List.length_cons, List.length_nil]; decide) rfl]
    exact frac_end hb hl rfl rfl (by rw [if_pos hn]; rfl)
  · rw [step_if (b := false) (st' := st) (by simp only [varF_0, varF_s, litF_e, op2F_e, op1F_e, opLF_e, consA_e, nilA_e, boolF_e, truF_e, notT_e, orT_e, andT_e, andV_e, notV_e, isiF_e, ifeF_e, callF_e, R.bind, R.ofO, toB_bl, toT_bl, addD_ii, subD_ii, cmpI_ii, negD_i, intL_i, lenL_t, lenL_l, lenL_f, absL_i, gcdL_i, toI_int, noP_e, someP_e, slF_e, List.length_cons, List.length_nil, decide_eq_false hn]), if_neg Bool.false_ne_true, step_pass]
    exact frac_end hb hl rfl rfl (by rw [if_neg hn]; rfl)
theorem log_of {b : Int} (h : b.natAbs < 10 ^ 80) : b.natAbs.log2 < 8000 := by
  by_cases hz : b.natAbs = 0
  · rw [hz]
    decide
  · have : b.natAbs.log2 < 300 := (Nat.log2_lt hz).2 (Nat.lt_trans h (by decide +kernel))
    omega
theorem law_frac_is {a b : Int} {st : Sto} (hb : b ≠ 0) (h : b.natAbs < 10 ^ 80) : f_law_frac [.int a, .int b] st = .ok (frac a b) st := by
  refine fn_rt (en0 := [some (.int a), some (.int b), none]) rfl ?_
  unfold b_law_frac
  rw [step_set (en' := [some (.int a), some (.int b), some (.int ((Nat.gcd a.natAbs b.natAbs : Nat) : Int))]) (st' := st) (callF_ok (n := 2) (ds := [.int a, .int b]) (st1 := st) (by simp only [varF_0, varF_s, litF_e, op2F_e, op1F_e, opLF_e, consA_e, nilA_e, boolF_e, truF_e, notT_e, orT_e, andT_e, andV_e, notV_e, isiF_e, ifeF_e, callF_e, R.bind, R.ofO, toB_bl, toT_bl, addD_ii, subD_ii, cmpI_ii, negD_i, intL_i, lenL_t, lenL_l, lenL_f, absL_i, gcdL_i, toI_int, noP_e, someP_e, slF_e, List.length_cons, List.length_nil]) rfl (divisor_is a b st h)) (by simp only [List.length_cons, List.length_nil]; decide) rfl]
  by_cases hn : b < 0
  · rw [step_if (b := true) (st' := st) (by simp only [varF_0, varF_s, litF_e, op2F_e, op1F_e, opLF_e, consA_e, nilA_e, boolF_e, truF_e, notT_e, orT_e, andT_e, andV_e, notV_e, isiF_e, ifeF_e, callF_e, R.bind, R.ofO, toB_bl, toT_bl, addD_ii, subD_ii, cmpI_ii, negD_i, intL_i, lenL_t, lenL_l, lenL_f, absL_i, gcdL_i, toI_int, noP_e, someP_e, slF_e, List.length_cons, List.length_nil, decide_eq_true hn]), if_pos rfl]
    rw [step_set (en' := [some (.int a), some (.int b), some (.int (-((Nat.gcd a.natAbs b.natAbs : Nat) : Int)))]) (st' := st) (by simp only [varF_0, varF_s, litF_e, op2F_e, op1F_e, opLF_e, consA_e, nilA_e, boolF_e, truF_e, notT_e, orT_e, andT_e, andV_e, notV_e, isiF_e, ifeF_e, callF_e, R.bind, R.ofO, toB_bl, toT_bl, addD_ii, subD_ii, cmpI_ii, negD_i, intL_i, lenL_t, lenL_l, lenL_f, absL_i, gcdL_i, toI_int, noP_e, someP_e, slF_e, List.length_cons, List.length_nil]) (by simp only [List.length_cons, List.length_nil]; decide) rfl]
    exact frac_end hb (log_of h) rfl rfl (by rw [if_pos hn]; rfl)
  · rw [step_if (b := false) (st' := st) (by simp only [varF_0, varF_s, litF_e, op2F_e, op1F_e, opLF_e, consA_e, nilA_e, boolF_e, truF_e, notT_e, orT_e, andT_e, andV_e, notV_e, isiF_e, ifeF_e, callF_e, R.bind, R.ofO, toB_bl, toT_bl, addD_ii, subD_ii, cmpI_ii, negD_i, intL_i, lenL_t, lenL_l, lenL_f, absL_i, gcdL_i, toI_int, noP_e, someP_e, slF_e, List.length_cons, List.length_nil, decide_eq_false hn]), if_neg Bool.false_ne_true, step_pass]
    exact frac_end hb (log_of h) rfl rfl (by rw [if_neg hn]; rfl)
end Lw

namespace Lw
open PySem PySem.Spec PyProof.Rows L2 Ev
theorem ixN_nat {n q : Nat} (h : q < n) : ixN n (q : Nat) = some q := by
  unfold ixN
  rw [if_pos (Int.natCast_nonneg q), if_pos (by omega), Int.toNat_natCast]
theorem open_loop {s : Option D} : ∀ (r : List Int) (k : Nat) (cs : List Int) (x2 x3 : Option D), cs.length = 12 → ∃ (cs' : List Int) (x2' x3' : Option D), cs'.length = 12 ∧
    loopI (tupG 2 (consG (nameG 2) (consG (nameG 3) nilG))) (subS (op2F addD (op2F ixD (varF 1) (op2F modD (opLF intL (consA (varF 2) nilA)) (litF (.int 12)))) (varF 3)) (varF 1) (op2F modD (opLF intL (consA (varF 2) nilA)) (litF (.int 12)))) (enumF k (r.map .int)) [s, some (.ref 0), x2, x3] [.lst (cs.map .int)]
      = .nx [s, some (.ref 0), x2', x3'] [.lst (cs'.map .int)]
  | [], k, cs, x2, x3, h => ⟨cs, x2, x3, h, rfl⟩
  | i :: r, k, cs, x2, x3, h => by
    have hq : k % 12 < cs.length := by omega
    obtain ⟨cs', y2, y3, h', e⟩ := open_loop r (k + 1) (cs.set (k % 12) (cs[k % 12] + i)) (some (.int (k : Nat))) (some (.int i)) (by rw [List.length_set, h])
    refine ⟨cs', y2, y3, h', ?_⟩
    have em : ((k : Nat) : Int).fmod 12 = ((k % 12 : Nat) : Int) := by
      rw [Int.fmod_eq_emod_of_nonneg _ (by decide)]
      rfl
    have n12 : (12 : Int) ≠ 0 := by decide
    have ix : ∀ st, op2F modD (opLF intL (consA (varF 2) nilA)) (litF (.int 12)) [s, some (.ref 0), some (.int (k : Nat)), some (.int i)] st = .ok (.int ((k % 12 : Nat) : Int)) st := fun st =>
      op2F_ok (a := .int (k : Nat)) (b := .int 12) (st1 := st) (st2 := st) (opLF_ok (ds := [.int (k : Nat)]) (st1 := st) (consA_ok (st1 := st) rfl nilA_e) intL_i) litF_e (modD_x n12 em)
    have at1 : atD (cs.map D.int) ((k % 12 : Nat) : Int) = some (.int cs[k % 12]) := atD_nat (by rw [List.getElem?_map, List.getElem?_eq_getElem hq]; rfl)
    have va : op2F addD (op2F ixD (varF 1) (op2F modD (opLF intL (consA (varF 2) nilA)) (litF (.int 12)))) (varF 3) [s, some (.ref 0), some (.int (k : Nat)), some (.int i)] [.lst (cs.map .int)] = .ok (.int (cs[k % 12] + i)) [.lst (cs.map .int)] :=
      op2F_ok (op2F_ok (a := .ref 0) (st1 := [.lst (cs.map .int)]) rfl (ix _) (ixD_r rfl at1)) (b := .int i) (st2 := [.lst (cs.map .int)]) rfl addD_ii
    have body := sub_ok (en := [s, some (.ref 0), some (.int (k : Nat)), some (.int i)]) (st2 := [.lst (cs.map .int)]) (n := 0) va (o := varF 1) rfl (ix _) rfl (ixN_nat (n := (cs.map D.int).length) (q := k % 12) (by rw [List.length_map]; exact hq))
    have body' : subS (op2F addD (op2F ixD (varF 1) (op2F modD (opLF intL (consA (varF 2) nilA)) (litF (.int 12)))) (varF 3)) (varF 1) (op2F modD (opLF intL (consA (varF 2) nilA)) (litF (.int 12))) [s, some (.ref 0), some (.int (k : Nat)), some (.int i)] [.lst (cs.map .int)] = .nx [s, some (.ref 0), some (.int (k : Nat)), some (.int i)] [.lst ((cs.set (k % 12) (cs[k % 12] + i)).map .int)] := by
      rw [body, List.map_set]
      rfl
    show (match subS _ _ _ [s, some (.ref 0), some (.int (k : Nat)), some (.int i)] [.lst (cs.map .int)] with
        | .nx en2 st2 => loopI _ _ (enumF (k + 1) (r.map .int)) en2 st2
        | .ct en2 st2 => loopI _ _ (enumF (k + 1) (r.map .int)) en2 st2
        | .bk en2 st2 => .nx en2 st2
        | q => q) = _
    rw [body']
    exact e
theorem open_is (ns : List Int) : ∃ cs : List Int, cs.length ≤ 12 ∧ f_law_open [.fro (ns.map .int)] [] = .ok (.ref 1) [.lst (cs.map .int), .lst [.ref 0, .int ((0 : Nat) : Int), .int 0]] := by
  have c1 : Ev.cutD (ns.map D.int) none (some 12) = (ns.take (min 12 ns.length)).map D.int := by
    unfold Ev.cutD
    rw [HT.sIx_none, show (some (12 : Int)) = some ((12 : Nat) : Int) from rfl, HT.sIx_nat, List.drop_zero, List.length_map, Nat.sub_zero, List.map_take]
  have c2 : Ev.cutD (ns.map D.int) (some 12) (some 63) = (((ns.drop (min 12 ns.length)).take (min 63 ns.length - min 12 ns.length)).map D.int) := by
    unfold Ev.cutD
    rw [show (some (12 : Int)) = some ((12 : Nat) : Int) from rfl, show (some (63 : Int)) = some ((63 : Nat) : Int) from rfl, HT.sIx_nat, HT.sIx_nat, List.length_map, List.map_take, List.map_drop]
  have main : ∃ (cs : List Int) (x2 x3 : Option D), cs.length ≤ 12 ∧ loopI (tupG 2 (consG (nameG 2) (consG (nameG 3) nilG))) (subS (op2F addD (op2F ixD (varF 1) (op2F modD (opLF intL (consA (varF 2) nilA)) (litF (.int 12)))) (varF 3)) (varF 1) (op2F modD (opLF intL (consA (varF 2) nilA)) (litF (.int 12)))) (enumF 0 (((ns.drop (min 12 ns.length)).take (min 63 ns.length - min 12 ns.length)).map .int)) [some (.fro (ns.map .int)), some (.ref 0), none, none] [.lst ((ns.take (min 12 ns.length)).map .int)]
      = .nx [some (.fro (ns.map .int)), some (.ref 0), x2, x3] [.lst (cs.map .int)] := by
    by_cases hl : 12 ≤ ns.length
    · obtain ⟨cs, x2, x3, h, e⟩ := open_loop (s := some (.fro (ns.map .int))) ((ns.drop (min 12 ns.length)).take (min 63 ns.length - min 12 ns.length)) 0 (ns.take (min 12 ns.length)) none none (by rw [List.length_take]; omega)
      exact ⟨cs, x2, x3, by omega, e⟩
    · have : (ns.drop (min 12 ns.length)).take (min 63 ns.length - min 12 ns.length) = [] := by
        rw [show min 12 ns.length = ns.length by omega, List.drop_length, List.take_nil]
      rw [this]
      exact ⟨ns.take (min 12 ns.length), none, none, by rw [List.length_take]; omega, rfl⟩
  obtain ⟨cs, x2, x3, h, e⟩ := main
  refine ⟨cs, h, ?_⟩
  refine fn_rt (en0 := [some (.fro (ns.map .int)), none, none, none]) rfl ?_
  unfold b_law_open
  rw [step_set (en' := [some (.fro (ns.map .int)), some (.ref 0), none, none]) (d := .ref 0) (st' := [.lst ((ns.take (min 12 ns.length)).map .int)]) (by
    rw [← c1]
    rfl) (by simp only [List.length_cons, List.length_nil]; decide) rfl]
  have f : (forS (enumI (consA (slF (varF 0) (someP (litF (.int 12))) (someP (litF (.int 63)))) nilA)) (tupG 2 (consG (nameG 2) (consG (nameG 3) nilG)))
 (subS (op2F addD (op2F ixD (varF 1) (op2F modD (opLF intL (consA (varF 2) nilA)) (litF (.int 12)))) (varF 3)) (varF 1) (op2F modD (opLF intL (consA (varF 2) nilA)) (litF (.int 12)))) : SF) [some (.fro (ns.map .int)), some (.ref 0), none, none] [.lst ((ns.take (min 12 ns.length)).map .int)] = .nx [some (.fro (ns.map .int)), some (.ref 0), x2, x3] [.lst (cs.map .int)] := by
    rw [← e, ← c2]
    rfl
  rw [step_of f]
  exact ret_ok rfl
theorem pen0 {cs : List Int} (h : cs.length ≤ 12) : Pen 0 [.lst (cs.map .int), .lst [.ref 0, .int ((0 : Nat) : Int), .int 0]] := ⟨cs, 0, 0, rfl, rfl, Nat.le_refl _, by decide, by omega⟩
/-! the law's takes -/
theorem varF_at {en : En} {i : Nat} {d : D} {st : Sto} (h : en[i]? = some (some d)) : varF i en st = .ok d st := by
  unfold varF
  rw [h]
theorem takeF {en : En} {st : Sto} {n : Nat} {m : Int} (he : en[1]? = some (some (.ref 1))) (hp : Pen n st) (hn : n < 1000000) (hm : 1 ≤ m) (hb : m < 10000000) :
    ∃ r st', callF 2 f_law_take (consA (varF 1) (consA (litF (.int m)) nilA)) en st = .ok (.int r) st' ∧ 0 ≤ r ∧ r < m ∧ Pen (n + 1) st' := by
  obtain ⟨r, x, e, h0, h1, hp'⟩ := take_is hp hn hm hb
  exact ⟨r, _, callF_ok (n := 2) (ds := [.ref 1, .int m]) (consA_ok (varF_at he) (consA_ok litF_e nilA_e)) rfl e, h0, h1, hp'⟩
theorem one_is {st : Sto} {n : Nat} {ds : List D} (hp : Pen n st) (hn : n < 1000000) (hl : 1 ≤ ds.length) (hb : ds.length < 1000) :
    ∃ d st', f_law_one [.ref 1, .lst ds] st = .ok d st' ∧ d ∈ ds ∧ Pen (n + 1) st' := by
  obtain ⟨r, x, e, h0, h1, hp'⟩ := take_is (many := (ds.length : Nat)) hp hn (by omega) (by omega)
  have hq : r.toNat < ds.length := by omega
  have at1 : atD ds r = some ds[r.toNat] := by
    have : r = (r.toNat : Nat) := by omega
    have h := atD_nat (List.getElem?_eq_getElem hq)
    rw [← this] at h
    exact h
  refine ⟨ds[r.toNat], _, fn_rt (en0 := [some (.ref 1), some (.lst ds)]) rfl ?_, List.getElem_mem hq, hp'⟩
  unfold b_law_one
  exact ret_ok (op2F_ok (a := .lst ds) (st1 := st) rfl (callF_ok (n := 2) (ds := [.ref 1, .int (ds.length : Nat)]) (st1 := st) (consA_ok (st1 := st) rfl (consA_ok (opLF_ok (consA_ok (st1 := st) rfl nilA_e) lenL_l) nilA_e)) rfl e) (ixD_l at1))
theorem oneF {en : En} {st : Sto} {n : Nat} {g : EF} {ds : List D} (he : en[1]? = some (some (.ref 1))) (hg : g en st = .ok (.lst ds) st) (hp : Pen n st) (hn : n < 1000000) (hl : 1 ≤ ds.length) (hb : ds.length < 1000) :
    ∃ d st', callF 2 f_law_one (consA (varF 1) (consA g nilA)) en st = .ok d st' ∧ d ∈ ds ∧ Pen (n + 1) st' := by
  obtain ⟨d, st', e, hd, hp'⟩ := one_is hp hn hl hb
  exact ⟨d, st', callF_ok (n := 2) (ds := [.ref 1, .lst ds]) (consA_ok (varF_at he) (consA_ok hg nilA_e)) rfl e, hd, hp'⟩
end Lw

namespace Lw
open PySem PySem.Spec PyProof.Rows L2 Ev
theorem frac_spec (t u : Int) (hu : 1 ≤ u) : ∃ a b : Int, frac t u = .tup [.int a, .int b] ∧ 1 ≤ b ∧ Nat.gcd a.natAbs b.natAbs = 1 ∧ a * u = t * b ∧ a.natAbs ≤ t.natAbs ∧ b.natAbs ≤ u.natAbs := by
  have h2 : 0 < Nat.gcd t.natAbs u.natAbs := Nat.gcd_pos_of_pos_right _ (by omega)
  obtain ⟨g, hg⟩ : ∃ g : Nat, Nat.gcd t.natAbs u.natAbs = g := ⟨_, rfl⟩
  rw [hg] at h2
  have d1 : ((g : Nat) : Int) ∣ t := Int.natAbs_dvd_natAbs.mp (by rw [Int.natAbs_natCast, ← hg]; exact Nat.gcd_dvd_left _ _)
  have d2 : ((g : Nat) : Int) ∣ u := Int.natAbs_dvd_natAbs.mp (by rw [Int.natAbs_natCast, ← hg]; exact Nat.gcd_dvd_right _ _)
  obtain ⟨a, rfl⟩ := d1
  obtain ⟨b, rfl⟩ := d2
  have g0 : ((g : Nat) : Int) ≠ 0 := by omega
  have e1 : (((g : Nat) : Int) * a).fdiv (g : Nat) = a := Int.mul_fdiv_cancel_left _ g0
  have e2 : (((g : Nat) : Int) * b).fdiv (g : Nat) = b := Int.mul_fdiv_cancel_left _ g0
  have hb : 1 ≤ b := by
    by_cases h : 1 ≤ b
    · exact h
    · have : ((g : Nat) : Int) * b ≤ 0 := Int.mul_nonpos_of_nonneg_of_nonpos (by omega) (by omega)
      omega
  refine ⟨a, b, ?_, hb, ?_, by grind, ?_, ?_⟩
  · unfold frac
    rw [hg, if_neg (show ¬ ((g : Nat) : Int) * b < 0 by omega)]
    show D.tup [.int ((((g : Nat) : Int) * a).fdiv (g : Nat)), .int ((((g : Nat) : Int) * b).fdiv (g : Nat))] = _
    rw [e1, e2]
  · rw [Int.natAbs_mul, Int.natAbs_mul, Int.natAbs_natCast, Nat.gcd_mul_left] at hg
    exact Nat.eq_of_mul_eq_mul_left h2 (by rw [hg, Nat.mul_one])
  · rw [Int.natAbs_mul, Int.natAbs_natCast]
    exact Nat.le_mul_of_pos_left _ h2
  · rw [Int.natAbs_mul, Int.natAbs_natCast]
    exact Nat.le_mul_of_pos_left _ h2
theorem uniq {a b c d : Int} (hb : 1 ≤ b) (hd : 1 ≤ d) (h1 : Nat.gcd a.natAbs b.natAbs = 1) (h2 : Nat.gcd c.natAbs d.natAbs = 1) (h : a * d = c * b) : a = c ∧ b = d := by
  have hn : a.natAbs * d.natAbs = c.natAbs * b.natAbs := by rw [← Int.natAbs_mul, ← Int.natAbs_mul, h]
  have x1 : b.natAbs ∣ d.natAbs := by
    have : b.natAbs ∣ a.natAbs * d.natAbs := by rw [hn]; exact Nat.dvd_mul_left _ _
    exact Nat.Coprime.dvd_of_dvd_mul_left (by rw [Nat.coprime_comm]; exact h1) this
  have x2 : d.natAbs ∣ b.natAbs := by
    have : d.natAbs ∣ c.natAbs * b.natAbs := by rw [← hn]; exact Nat.dvd_mul_left _ _
    exact Nat.Coprime.dvd_of_dvd_mul_left (by rw [Nat.coprime_comm]; exact h2) this
  have e : b.natAbs = d.natAbs := Nat.dvd_antisymm x1 x2
  have e : b = d := by omega
  subst e
  exact ⟨Int.eq_of_mul_eq_mul_right (by omega) h, rfl⟩
/-- a fraction in lowest terms with the value p / q -/
def Pr (x : D) (N : Nat) (p q : Int) : Prop := ∃ a b : Int, x = .tup [.int a, .int b] ∧ 1 ≤ b ∧ Nat.gcd a.natAbs b.natAbs = 1 ∧ a * q = p * b ∧ 1 ≤ q ∧ a.natAbs ≤ 2 ^ N ∧ b.natAbs ≤ 2 ^ N
theorem Pr.same {x y : D} {N M : Nat} {p q r s : Int} (h1 : Pr x N p q) (h2 : Pr y M r s) (h : p * s = r * q) : x = y := by
  obtain ⟨a, b, rfl, hb, g1, e1, hq, -, -⟩ := h1
  obtain ⟨c, d, rfl, hd, g2, e2, hs, -, -⟩ := h2
  have k : (a * d) * (q * s) = (c * b) * (q * s) := by grind
  have qs : (0 : Int) < q * s := Int.mul_pos (by omega) (by omega)
  obtain ⟨rfl, rfl⟩ := uniq hb hd g1 g2 (Int.eq_of_mul_eq_mul_right (by omega) k)
  rfl
theorem le_pow {i j : Int} {N M : Nat} (h1 : i.natAbs ≤ 2 ^ N) (h2 : j.natAbs ≤ 2 ^ M) : (i * j).natAbs ≤ 2 ^ (N + M) := by
  rw [Int.natAbs_mul, Nat.pow_add]
  exact Nat.mul_le_mul h1 h2
theorem lt_pow {i : Int} {N : Nat} (h : i.natAbs ≤ 2 ^ N) : i.natAbs < 2 ^ (N + 1) := Nat.lt_of_le_of_lt h (Nat.pow_lt_pow_right (by decide) (by omega))
theorem mul_fit {i j : Int} {N M : Nat} (h1 : i.natAbs ≤ 2 ^ N) (h2 : j.natAbs ≤ 2 ^ M) (hN : N ≤ 3000) (hM : M ≤ 3000) : mulOk i j = true := mulOk_w (lt_pow h1) (lt_pow h2) (by omega) (by omega) (by omega)
theorem log_fit {b : Int} {N : Nat} (h : b.natAbs ≤ 2 ^ N) (hN : N ≤ 3000) : b.natAbs.log2 < 8000 := by
  by_cases hz : b.natAbs = 0
  · rw [hz]
    decide
  · have := (Nat.log2_lt hz).2 (lt_pow h)
    omega
theorem lt80 {b : Int} {N : Nat} (h : b.natAbs ≤ 2 ^ N) (hN : N ≤ 250) : b.natAbs < 10 ^ 80 := Nat.lt_of_le_of_lt (Nat.le_trans h (Nat.pow_le_pow_right (by decide) hN)) (by decide +kernel)
/-! the functions -/
theorem need_ok {d : D} {st : Sto} (h : isFr d = true) : f_need_fraction [d] st = .ok .non st := by
  unfold f_need_fraction fnF b_need_fraction
  have e : notT (truF (callF 1 f_is_fraction (consA (varF 0) nilA))) [some d] st = .ok false st := by
    have q : callF 1 f_is_fraction (consA (varF 0) nilA) [some d] st = .ok (.bl (isFr d)) st := callF_ok (n := 1) (ds := [d]) (consA_ok (varF_at rfl) nilA_e) rfl (is_fraction_is d st)
    rw [notT_e, truF_e, q, h]
    rfl
  show (match ifS _ _ _ [some d] st with | .nx _ st' => R.ok D.non st' | .rt d st' => .ok d st' | .ex c p _ st' => .ex c p st' | _ => .bad) = _
  rw [if_ok e]
  rfl
theorem need_no {d : D} {st : Sto} (h : isFr d = false) : f_need_fraction [d] st = .ex 0 none st := by
  unfold f_need_fraction fnF b_need_fraction
  have e : notT (truF (callF 1 f_is_fraction (consA (varF 0) nilA))) [some d] st = .ok true st := by
    have q : callF 1 f_is_fraction (consA (varF 0) nilA) [some d] st = .ok (.bl (isFr d)) st := callF_ok (n := 1) (ds := [d]) (consA_ok (varF_at rfl) nilA_e) rfl (is_fraction_is d st)
    rw [notT_e, truF_e, q, h]
    rfl
  show (match ifS _ _ _ [some d] st with | .nx _ st' => R.ok D.non st' | .rt d st' => .ok d st' | .ex c p _ st' => .ex c p st' | _ => .bad) = _
  rw [if_ok e]
  rfl
theorem Pr.isFr {x : D} {N : Nat} {p q : Int} (h : Pr x N p q) : isFr x = true := by
  obtain ⟨a, b, rfl, hb, g, -, -, -, -⟩ := h
  show (decide (1 ≤ b) && decide (Nat.gcd a.natAbs b.natAbs = 1)) = true
  rw [decide_eq_true g, decide_eq_true hb]
  rfl
theorem step_ex {e : EF} {r : SF} {en : En} {st st' : Sto} {c : Nat} {p : Pay} (h : e en st = .ex c p st') : seqS (exprS e) r en st = .ex c p en st' := by
  unfold seqS exprS
  rw [h]
  rfl
theorem ix0 {i : Nat} {a b : D} {en : En} {st : Sto} (h : en[i]? = some (some (.tup [a, b]))) : op2F ixD (varF i) (litF (.int 0)) en st = .ok a st := op2F_ok (varF_at h) litF_e (ixD_t rfl)
theorem ix1 {i : Nat} {a b : D} {en : En} {st : Sto} (h : en[i]? = some (some (.tup [a, b]))) : op2F ixD (varF i) (litF (.int 1)) en st = .ok b st := op2F_ok (varF_at h) litF_e (ixD_t rfl)
/-- two checked arguments, then the rest -/
theorem two_ok {x y : D} {en : En} {r : SF} {st : Sto} (h0 : en[0]? = some (some x)) (h1 : en[1]? = some (some y)) (hx : isFr x = true) (hy : isFr y = true) :
    seqS (exprS (callF 1 f_need_fraction (consA (varF 0) nilA))) (seqS (exprS (callF 1 f_need_fraction (consA (varF 1) nilA))) r) en st = r en st := by
  rw [step_expr (callF_ok (n := 1) (ds := [x]) (consA_ok (varF_at h0) nilA_e) rfl (need_ok hx)), step_expr (callF_ok (n := 1) (ds := [y]) (consA_ok (varF_at h1) nilA_e) rfl (need_ok hy))]
theorem two_no {x y : D} {en : En} {r : SF} {st : Sto} (h0 : en[0]? = some (some x)) (h1 : en[1]? = some (some y)) (h : isFr x = false ∨ isFr y = false) :
    seqS (exprS (callF 1 f_need_fraction (consA (varF 0) nilA))) (seqS (exprS (callF 1 f_need_fraction (consA (varF 1) nilA))) r) en st = .ex 0 none en st := by
  by_cases hx : isFr x = true
  · rw [step_expr (callF_ok (n := 1) (ds := [x]) (consA_ok (varF_at h0) nilA_e) rfl (need_ok hx))]
    rcases h with h | h
    · rw [hx] at h
      cases h
    · rw [step_ex (callF_ok (n := 1) (ds := [y]) (consA_ok (varF_at h1) nilA_e) rfl (need_no h))]
  · rw [step_ex (callF_ok (n := 1) (ds := [x]) (consA_ok (varF_at h0) nilA_e) rfl (need_no (by simpa using hx)))]
theorem plus_pr {x y : D} {N M : Nat} {p q r s : Int} (h1 : Pr x N p q) (h2 : Pr y M r s) (hN : N ≤ 600) (hM : M ≤ 600) :
    ∃ z, (∀ st, f_plus [x, y] st = .ok z st) ∧ Pr z (N + M + 1) (p * s + r * q) (q * s) := by
  have f1 := h1.isFr
  have f2 := h2.isFr
  obtain ⟨a, b, rfl, hb, g1, e1, hq, la, lb⟩ := h1
  obtain ⟨c, d, rfl, hd, g2, e2, hs, lc, ld⟩ := h2
  have hbd : (0 : Int) < b * d := Int.mul_pos (by omega) (by omega)
  obtain ⟨t, u, ef, hu, gu, eu, lt, lu⟩ := frac_spec (a * d + c * b) (b * d) (by omega)
  have w1 := le_pow la ld
  have w2 := le_pow lc lb
  have w3 := le_pow lb ld
  have k1 := mul_fit la ld (by omega) (by omega)
  have k2 := mul_fit lc lb (by omega) (by omega)
  have k3 := mul_fit lb ld (by omega) (by omega)
  have top : ∀ st, op2F addD (op2F mulD (op2F ixD (varF 0) (litF (.int 0))) (op2F ixD (varF 1) (litF (.int 1)))) (op2F mulD (op2F ixD (varF 1) (litF (.int 0))) (op2F ixD (varF 0) (litF (.int 1)))) [some (.tup [.int a, .int b]), some (.tup [.int c, .int d])] st = .ok (.int (a * d + c * b)) st := fun st =>
    op2F_ok (op2F_ok (ix0 rfl) (ix1 rfl) (mulD_ii k1)) (op2F_ok (ix0 rfl) (ix1 rfl) (mulD_ii k2)) addD_ii
  have bot : ∀ st, op2F mulD (op2F ixD (varF 0) (litF (.int 1))) (op2F ixD (varF 1) (litF (.int 1))) [some (.tup [.int a, .int b]), some (.tup [.int c, .int d])] st = .ok (.int (b * d)) st := fun st =>
    op2F_ok (ix1 rfl) (ix1 rfl) (mulD_ii k3)
  refine ⟨frac (a * d + c * b) (b * d), fun st => ?_, t, u, ef, hu, gu, ?_, ?_, ?_, ?_⟩
  · refine fn_rt (en0 := [some (.tup [.int a, .int b]), some (.tup [.int c, .int d])]) rfl ?_
    unfold b_plus
    rw [two_ok rfl rfl f1 f2]
    exact ret_ok (callF_ok (n := 2) (ds := [.int (a * d + c * b), .int (b * d)]) (consA_ok (top st) (consA_ok (bot st) nilA_e)) rfl (fraction_is (by omega) (log_fit w3 (by omega))))
  · have k : (t * (q * s)) * (b * d) = ((p * s + r * q) * u) * (b * d) := by grind
    exact Int.eq_of_mul_eq_mul_right (by omega) k
  · have := Int.mul_pos (show (0 : Int) < q by omega) (show (0 : Int) < s by omega)
    omega
  · have w4 : (a * d + c * b).natAbs ≤ 2 ^ (N + M) + 2 ^ (N + M) := Nat.le_trans (Int.natAbs_add_le _ _) (Nat.add_le_add w1 (by rw [Nat.add_comm N M]; exact w2))
    rw [Nat.pow_succ]
    omega
  · rw [Nat.pow_succ]
    omega
end Lw

namespace Lw
open PySem PySem.Spec PyProof.Rows L2 Ev
/-! steps -/
theorem loop_nx {g : GF} {b : SF} {d : D} {r : List D} {en en1 en2 : En} {st st2 : Sto} (hg : g d st en = some en1) (hb : b en1 st = .nx en2 st2) : loopI g b (d :: r) en st = loopI g b r en2 st2 := by
  show (match g d st en with
    | none => SR.bad
    | some en1 => match b en1 st with
      | .nx en2 st2 => loopI g b r en2 st2
      | .ct en2 st2 => loopI g b r en2 st2
      | .bk en2 st2 => .nx en2 st2
      | q => q) = _
  rw [hg]
  simp only [hb]
theorem for_items {it : IF} {g : GF} {b : SF} {ds : List D} {en : En} {st st1 : Sto} (h : it en st = .ok (.items ds) st1) : forS it g b en st = loopI g b ds en st1 := by
  unfold forS
  rw [h]
  rfl
theorem all_true {own : List Nat} {g : GF} {elt : EF} {en : En} {st : Sto} : ∀ {ds : List D}, (∀ d ∈ ds, ∃ en1, g d st (wipeE en own) = some en1 ∧ elt en1 st = .ok (.bl true) st) → allI own g elt ds en st = .ok (.bl true) st
  | [], _ => rfl
  | d :: r, h => by
    obtain ⟨en1, h1, h2⟩ := h d List.mem_cons_self
    show (match g d st (wipeE en own) with
      | none => R.bad
      | some en1 => match elt en1 st with
        | .ok (.bl true) st1 => allI own g elt r en st1
        | .ok (.bl false) st1 => .ok (.bl false) st1
        | _ => .bad) = _
    rw [h1]
    simp only [h2]
    exact all_true fun d hd => h d (List.mem_cons_of_mem _ hd)
theorem chain_t {op op' : O2} {f g h : EF} {en : En} {st : Sto} {a b c : D} {r : Bool} (hf : f en st = .ok a st) (hg : g en st = .ok b st) (h1 : op a b st = some (.bl true, st)) (hh : h en st = .ok c st) (h2 : op' b c st = some (.bl r, st)) : chainF op op' f g h en st = .ok (.bl r) st := by
  unfold chainF
  rw [hf]
  show (g en st).bind _ = _
  rw [hg]
  show (R.ofO (op a b st)).bind _ = _
  rw [h1]
  show (h en st).bind _ = _
  rw [hh]
  show R.ofO (op' b c st) = _
  rw [h2]
  rfl
theorem bool_ok {f : EF} {en : En} {st : Sto} {b : Bool} (h : f en st = .ok (.bl b) st) : boolF f en st = .ok b st := by
  rw [boolF_e, h]
  rfl
theorem tru_ok {f : EF} {en : En} {st : Sto} {b : Bool} (h : f en st = .ok (.bl b) st) : truF f en st = .ok b st := by
  rw [truF_e, h]
  rfl
theorem not_ok {f : TF} {en : En} {st : Sto} {b : Bool} (h : f en st = .ok b st) : notT f en st = .ok (!b) st := by
  rw [notT_e, h]
  rfl
theorem lt_t {i j : Int} {st : Sto} (h : i < j) : (cmpI fun i j => decide (i < j)) (.int i) (.int j) st = some (.bl true, st) := by rw [cmpI_ii, decide_eq_true h]
theorem le_t {i j : Int} {st : Sto} (h : i ≤ j) : (cmpI fun i j => decide (i ≤ j)) (.int i) (.int j) st = some (.bl true, st) := by rw [cmpI_ii, decide_eq_true h]
theorem call1 {F : List D → Sto → R D} {f : EF} {x d : D} {en : En} {st st1 st2 : Sto} (h : f en st = .ok x st1) (hF : F [x] st1 = .ok d st2) : callF 1 F (consA f nilA) en st = .ok d st2 := callF_ok (n := 1) (ds := [x]) (consA_ok h nilA_e) rfl hF
theorem call2 {F : List D → Sto → R D} {f g : EF} {x y d : D} {en : En} {st st1 st2 st3 : Sto} (h : f en st = .ok x st1) (h' : g en st1 = .ok y st2) (hF : F [x, y] st2 = .ok d st3) : callF 2 F (consA f (consA g nilA)) en st = .ok d st3 := callF_ok (n := 2) (ds := [x, y]) (consA_ok h (consA_ok h' nilA_e)) rfl hF
theorem call3 {F : List D → Sto → R D} {f g h : EF} {x y z d : D} {en : En} {st st1 st2 st3 st4 : Sto} (h1 : f en st = .ok x st1) (h2 : g en st1 = .ok y st2) (h3 : h en st2 = .ok z st3) (hF : F [x, y, z] st3 = .ok d st4) : callF 3 F (consA f (consA g (consA h nilA))) en st = .ok d st4 := callF_ok (n := 3) (ds := [x, y, z]) (consA_ok h1 (consA_ok h2 (consA_ok h3 nilA_e))) rfl hF
theorem op1L {op : OL} {f : EF} {x d : D} {en : En} {st st1 st2 : Sto} (h : f en st = .ok x st1) (ho : op [x] st1 = some (d, st2)) : opLF op (consA f nilA) en st = .ok d st2 := opLF_ok (consA_ok h nilA_e) ho
/-! works -/
abbrev Mvs := List (Int × D)
abbrev Rw := D × Mvs
def mvD (m : Int × D) : D := .tup [.int m.1, m.2]
def rowD (r : Rw) : D := .tup [r.1, .tup (r.2.map mvD)]
def wkD (W : List Rw) : D := .tup (W.map rowD)
def Mv (n S : Int) : Int → Int → Mvs → Prop
  | _, acc, [] => acc = S
  | lo, acc, m :: r => lo < m.1 ∧ m.1 < n ∧ ∃ w, 1 ≤ w ∧ Pr m.2 8 w S ∧ Mv n S m.1 (acc + w) r
def RowOk (n : Int) (r : Rw) : Prop := isFr r.1 = true ∧ r.2.length ≤ 6 ∧ ∃ S, 1 ≤ S ∧ S.natAbs ≤ 2 ^ 8 ∧ Mv n S (-1) 0 r.2
def RowP (n : Int) (r : Rw) : Prop := RowOk n r ∧ ∃ p q, Pr r.1 8 p q
def WOk (W : List Rw) : Prop := 1 ≤ W.length ∧ W.length ≤ 6 ∧ ∀ r ∈ W, RowOk W.length r
theorem is_move_ok {s lo n w S : Int} {c : D} {st : Sto} (h1 : lo < s) (h2 : s < n) (hw : 1 ≤ w) (hc : Pr c 8 w S) : f_is_move [mvD (s, c), .int lo, .int n] st = .ok (.bl true) st := by
  have fc := hc.isFr
  obtain ⟨a, b, rfl, hb, g, e, hS, -, -⟩ := hc
  have ha : 0 < a := by
    by_cases h : 0 < a
    · exact h
    · have k1 : a * S ≤ 0 := Int.mul_nonpos_of_nonpos_of_nonneg (by omega) (by omega)
      have k2 : 0 < w * b := Int.mul_pos (by omega) (by omega)
      omega
  refine fn_rt (en0 := [some (mvD (s, .tup [.int a, .int b])), some (.int lo), some (.int n), none, none]) rfl ?_
  unfold b_is_move
  rw [step_if (b := false) (st' := st) rfl, if_neg Bool.false_ne_true, step_pass]
  rw [step_asg (d := mvD (s, .tup [.int a, .int b])) (st' := st) (en' := [some (mvD (s, .tup [.int a, .int b])), some (.int lo), some (.int n), some (.int s), some (.tup [.int a, .int b])]) rfl rfl]
  rw [step_if (b := false) (st' := st) (by
    rw [orT_f (not_ok (tru_ok (callW (n := 0) (d := .int s) rfl)))]
    exact not_ok (bool_ok (chain_t (a := .int lo) (b := .int s) (c := .int n) rfl rfl (lt_t h1) rfl (lt_t h2)))), if_neg Bool.false_ne_true, step_pass]
  refine ret_ok ?_
  rw [andV_t (bool_ok (call1 (x := .tup [.int a, .int b]) (d := .bl true) (st2 := st) rfl (by rw [is_fraction_is, fc])))]
  exact op2F_ok (a := .int a) (b := .int 0) (ix0 rfl) litF_e (by rw [cmpI_ii, decide_eq_true ha])
theorem Pr.re {x : D} {N M : Nat} {p q r s : Int} (h : Pr x N p q) (hs : 1 ≤ s) (e : p * s = r * q) (hM : N ≤ M) : Pr x M r s := by
  obtain ⟨a, b, rfl, hb, g, e1, hq, k1, k2⟩ := h
  refine ⟨a, b, rfl, hb, g, ?_, hs, Nat.le_trans k1 (Nat.pow_le_pow_right (by decide) hM), Nat.le_trans k2 (Nat.pow_le_pow_right (by decide) hM)⟩
  have k : (a * s) * q = (r * b) * q := by grind
  exact Int.eq_of_mul_eq_mul_right (by omega) k
def movesB : SF := (seqS (ifS (notT (truF (callF 3 f_is_move (consA (varF 4) (consA (varF 2) (consA (varF 1) nilA))))))
 (retS (litF (.bl false)))
 passS)
 (seqS (asgS (varF 4) (tupG 2 (consG (nameG 2) (consG (nameG 5) nilG))))
 (setS 3 (callF 2 f_plus (consA (varF 3) (consA (varF 5) nilA))))))
theorem moves_loop {v : Option D} {n S : Int} {st : Sto} (hS : 1 ≤ S) : ∀ (ms : Mvs) (N : Nat) (lo acc : Int) (tot : D) (x4 x5 : Option D), N + 9 * ms.length ≤ 200 → Mv n S lo acc ms → Pr tot N acc S →
    ∃ (y2 : Option D) (tot' : D) (y4 y5 : Option D), loopI (nameG 4) movesB (ms.map mvD) [v, some (.int n), some (.int lo), some tot, x4, x5] st = .nx [v, some (.int n), y2, some tot', y4, y5] st ∧ ∃ M, Pr tot' M S S
  | [], N, lo, acc, tot, x4, x5, _, hm, ht => ⟨_, tot, _, _, rfl, N, by
    have hm : acc = S := hm
    subst hm
    exact ht⟩
  | (s, c) :: r, N, lo, acc, tot, x4, x5, hN, ⟨h1, h2, w, hw, hc, hr⟩, ht => by
    rw [List.length_cons] at hN
    obtain ⟨z, ez, hz⟩ := plus_pr ht hc (by omega) (by decide)
    have hz : Pr z (N + 9) (acc + w) S := hz.re hS (by grind) (by omega)
    obtain ⟨y2, tot', y4, y5, e, hM⟩ := moves_loop (v := v) (n := n) (st := st) hS r (N + 9) s (acc + w) z (some (mvD (s, c))) (some c) (by omega) hr hz
    refine ⟨y2, tot', y4, y5, ?_, hM⟩
    rw [List.map_cons, ← e]
    refine loop_nx rfl ?_
    unfold movesB
    rw [step_if (b := false) (st' := st) (not_ok (tru_ok (call3 (x := mvD (s, c)) (y := .int lo) (z := .int n) (st4 := st) rfl rfl rfl (is_move_ok h1 h2 hw hc)))), if_neg Bool.false_ne_true, step_pass]
    rw [step_asg (d := mvD (s, c)) (st' := st) (en' := [v, some (.int n), some (.int s), some tot, some (mvD (s, c)), some c]) rfl rfl]
    exact set_ok (call2 (x := tot) (y := c) (st3 := st) rfl rfl (ez st)) (show 3 < 6 by decide) rfl
theorem rd11 : Rd 1 802 (.tup [.int 1, .int 1]) (.tuple [.int 1, .int 1]) := Rd.tup (.cons (Rd.int (by decide +kernel)) (.cons (Rd.int (by decide +kernel)) .nil))
theorem are_moves_ok {n S : Int} {ms : Mvs} {st : Sto} (hS : 1 ≤ S) (hl : ms.length ≤ 6) (hm : Mv n S (-1) 0 ms) : f_are_moves [.tup (ms.map mvD), .int n] st = .ok (.bl true) st := by
  have h0 : Pr (.tup [.int 0, .int 1]) 0 0 S := ⟨0, 1, rfl, by decide, by decide, by omega, hS, by decide, by decide⟩
  obtain ⟨y2, tot', y4, y5, e, M, hM⟩ := moves_loop (v := some (.tup (ms.map mvD))) (st := st) hS ms 0 (-1) 0 (.tup [.int 0, .int 1]) none none (by omega) hm h0
  have h1 : Pr (.tup [.int 1, .int 1]) 0 1 1 := ⟨1, 1, rfl, by decide, by decide, by decide, by decide, by decide, by decide⟩
  have := hM.same h1 (by omega)
  subst this
  refine fn_rt (en0 := [some (.tup (ms.map mvD)), some (.int n), none, none, none, none]) rfl ?_
  unfold b_are_moves
  rw [step_if (b := false) (st' := st) rfl, if_neg Bool.false_ne_true, step_pass]
  rw [step_set (d := .int (-1)) (st' := st) (en' := [some (.tup (ms.map mvD)), some (.int n), some (.int (-1)), none, none, none]) rfl (show 2 < 6 by decide) rfl]
  rw [step_set (d := .tup [.int 0, .int 1]) (st' := st) (en' := [some (.tup (ms.map mvD)), some (.int n), some (.int (-1)), some (.tup [.int 0, .int 1]), none, none]) rfl (show 3 < 6 by decide) rfl]
  show seqS (forS (seqI (varF 0)) (nameG 4) movesB) _ _ _ = _
  rw [step_of ((for_items rfl).trans e)]
  refine ret_ok (op2F_ok (a := .tup [.int 1, .int 1]) (b := .tup [.int 1, .int 1]) (st1 := st) (st2 := st) rfl rfl ?_)
  unfold eqD
  rw [eqB_same rd11 (by decide)]
  rfl
theorem is_row_ok {n : Int} {r : Rw} {st : Sto} (h : RowOk n r) : f_is_row [rowD r, .int n] st = .ok (.bl true) st := by
  obtain ⟨hp, hl, S, hS, -, hm⟩ := h
  obtain ⟨pay, ms⟩ := r
  refine fn_rt (en0 := [some (rowD (pay, ms)), some (.int n), none, none]) rfl ?_
  unfold b_is_row
  rw [step_if (b := false) (st' := st) rfl, if_neg Bool.false_ne_true, step_pass]
  rw [step_asg (d := rowD (pay, ms)) (st' := st) (en' := [some (rowD (pay, ms)), some (.int n), some pay, some (.tup (ms.map mvD))]) rfl rfl]
  refine ret_ok ?_
  rw [andV_t (bool_ok (call1 (x := pay) (d := .bl true) (st2 := st) rfl (by rw [is_fraction_is, show isFr pay = true from hp])))]
  exact call2 (x := .tup (ms.map mvD)) (y := .int n) rfl rfl (are_moves_ok hS hl hm)
theorem is_work_ok {W : List Rw} {st : Sto} (h : WOk W) : f_is_work [wkD W] st = .ok (.bl true) st := by
  obtain ⟨h1, h2, h3⟩ := h
  refine fn_rt (en0 := [some (wkD W), none, none]) rfl ?_
  unfold b_is_work
  have eL : ∀ en : En, en[0]? = some (some (wkD W)) → opLF lenL (consA (varF 0) nilA) en st = .ok (.int (W.length : Nat)) st := fun en he => op1L (varF_at he) (by
    show lenL [.tup (W.map rowD)] st = _
    rw [lenL_t, List.length_map])
  rw [step_if (b := false) (st' := st) (by
    rw [orT_f (st1 := st) (not_ok (b := true) (tru_ok rfl))]
    exact not_ok (bool_ok (chain_t (a := .int 1) (b := .int (W.length : Nat)) (c := .int 6) rfl (eL _ rfl) (le_t (by omega)) rfl (le_t (by omega))))), if_neg Bool.false_ne_true, step_pass]
  rw [step_set (en' := [some (wkD W), some (.int (W.length : Nat)), none]) (eL _ rfl) (show 1 < 3 by decide) rfl]
  refine ret_ok ?_
  show allI [2] (nameG 2) _ (W.map rowD) _ st = _
  refine all_true fun d hd => ?_
  obtain ⟨r, hr, rfl⟩ := List.mem_map.mp hd
  exact ⟨[some (wkD W), some (.int (W.length : Nat)), some (rowD r)], rfl, call2 (x := rowD r) (y := .int (W.length : Nat)) rfl rfl (is_row_ok (h3 r hr))⟩
theorem sub_len : ∀ {l m : List Int}, l.Nodup → (∀ x ∈ l, x ∈ m) → l.length ≤ m.length
  | [], _, _, _ => Nat.zero_le _
  | x :: l, m, h, hs => by
    have h' := List.nodup_cons.mp h
    have hx := hs x List.mem_cons_self
    have := sub_len (l := l) (m := m.erase x) h'.2 fun y hy => (List.mem_erase_of_ne (fun e : y = x => h'.1 (by rw [← e]; exact hy))).mpr (hs y (List.mem_cons_of_mem _ hy))
    rw [List.length_erase_of_mem hx] at this
    have := List.length_pos_of_mem hx
    rw [List.length_cons]
    omega
theorem few_len {l : List Int} {n : Nat} (h : l.Nodup) (hr : ∀ x ∈ l, 0 ≤ x ∧ x < (n : Int)) : l.length ≤ n := by
  have := sub_len (m := (List.range n).map fun i : Nat => (i : Int)) h fun x hx => List.mem_map.mpr ⟨x.toNat, List.mem_range.mpr (by have := hr x hx; omega), by have := hr x hx; omega⟩
  rwa [List.length_map, List.length_range] at this
theorem lt_nodup {l : List Int} (h : l.Pairwise (· < ·)) : l.Nodup := h.imp fun h => Int.ne_of_lt h
theorem lc_map {own : List Nat} {g : GF} {elt : EF} {en : En} {st : Sto} {α : Type} {f : α → D} {φ : α → D} : ∀ {xs : List α}, (∀ x ∈ xs, ∃ en1, g (f x) st (wipeE en own) = some en1 ∧ elt en1 st = .ok (φ x) st) → lcI own g yesT elt (xs.map f) en st = .ok (xs.map φ) st
  | [], _ => rfl
  | x :: r, h => by
    obtain ⟨en1, h1, h2⟩ := h x List.mem_cons_self
    have hr := lc_map (own := own) (g := g) (elt := elt) (en := en) (st := st) (f := f) (φ := φ) (xs := r) fun y hy => h y (List.mem_cons_of_mem _ hy)
    rw [List.map_cons, List.map_cons]
    unfold lcI
    rw [h1]
    unfold yesT
    simp only [h2]
    show (lcI own g yesT elt (r.map f) en st).bind _ = _
    rw [hr]
    rfl
theorem lc_all {own : List Nat} {g : GF} {elt : EF} {it : IF} {ds ys : List D} {en : En} {st st1 st2 : Sto} (hi : it en st = .ok (.items ds) st1) (hl : ds.length ≤ 1000) (h : lcI own g yesT elt ds en st1 = .ok ys st2) : lcF own g yesT elt it en st = .ok (.lst ys) st2 := by
  unfold lcF lcG
  rw [hi]
  show R.bind (if ds.length ≤ sizeLine then lcI own g yesT elt ds en st1 else .bad) _ = _
  rw [if_pos (Nat.le_trans hl (by decide)), h]
  rfl
theorem lenF {W : List Rw} {i : Nat} {en : En} {st : Sto} (h : en[i]? = some (some (wkD W))) : opLF lenL (consA (varF i) nilA) en st = .ok (.int (W.length : Nat)) st := op1L (varF_at h) (by
  show lenL [.tup (W.map rowD)] st = _
  rw [lenL_t, List.length_map])
theorem bnd_nat {n : Nat} (hn : n < 1000000) : bnd (n : Nat) = true := by
  unfold bnd
  rw [Bool.and_eq_true, decide_eq_true_eq, decide_eq_true_eq]
  constructor
  · exact Int.le_trans (show -(2 ^ 62) ≤ (0 : Int) by decide) (Int.natCast_nonneg n)
  · exact Int.lt_of_lt_of_le (show ((n : Nat) : Int) < 1000000 by omega) (by decide)
theorem rng_j {f : EF} {j : Int} {en : En} {st st1 : Sto} (h : f en st = .ok (.int j) st1) (hb : bnd j = true) : rng1I (consA f nilA) en st = .ok (.items (rangeD 0 j.toNat)) st1 := by
  unfold rng1I
  rw [consA_ok h nilA_e]
  show (if bnd j then R.ok (ItD.items (rangeD 0 j.toNat)) st1 else .bad) = _
  rw [if_pos hb]
theorem rng_is {f : EF} {n : Nat} {en : En} {st st1 : Sto} (h : f en st = .ok (.int (n : Nat)) st1) (hn : n < 1000000) : rng1I (consA f nilA) en st = .ok (.items (rangeD 0 n)) st1 := by
  have := rng_j h (bnd_nat hn)
  rwa [Int.toNat_natCast] at this
theorem intsO_map : ∀ (is : List Int), intsO (is.map .int) = some is
  | [] => rfl
  | i :: r => by
    show (intsO (r.map .int)).bind _ = _
    rw [intsO_map r]
    rfl
end Lw

namespace Lw
open PySem PySem.Spec PyProof.Rows L2 Ev
/-- where the moves of a right work go -/
theorem Mv.rg {n S : Int} : ∀ {ms : Mvs} {lo acc : Int}, Mv n S lo acc ms → -1 ≤ lo → ∀ m ∈ ms, 0 ≤ m.1 ∧ m.1 < n
  | [], _, _, _, _, m, hm => nomatch hm
  | k :: r, lo, acc, ⟨h1, h2, w, _, _, hr⟩, hl, m, hm => by
    rcases List.mem_cons.mp hm with rfl | hm
    · exact ⟨by omega, h2⟩
    · exact Mv.rg hr (by omega) m hm
/-! stores and the pen -/
structure Sm (st st' : Sto) : Prop where
  len : st'.length = st.length
  at' : ∀ i, i ≠ 1 → st'[i]? = st[i]?
theorem Sm.rfl {st : Sto} : Sm st st := ⟨.refl _, fun _ _ => .refl _⟩
theorem Sm.trans {a b c : Sto} (h : Sm a b) (h' : Sm b c) : Sm a c := ⟨h'.len.trans h.len, fun i hi => (h'.at' i hi).trans (h.at' i hi)⟩
theorem Sm.set {st : Sto} {x : Cell} : Sm st (st.set 1 x) := ⟨List.length_set, fun i hi => List.getElem?_set_ne (fun e => hi e.symm)⟩
structure Sx (e : Nat) (st st' : Sto) : Prop where
  len : st'.length = st.length
  at' : ∀ i, i ≠ 1 → i ≠ e → st'[i]? = st[i]?
theorem Sx.trans {e : Nat} {a b c : Sto} (h : Sx e a b) (h' : Sx e b c) : Sx e a c := ⟨h'.len.trans h.len, fun i hi he => (h'.at' i hi he).trans (h.at' i hi he)⟩
theorem Sx.rfl {e : Nat} {st : Sto} : Sx e st st := ⟨.refl _, fun _ _ _ => .refl _⟩
theorem Pen.up {n m : Nat} {st : Sto} (h : Pen n st) (hm : n ≤ m) : Pen m st := by
  obtain ⟨cs, a, r, h0, h1, ha, hr, hl⟩ := h
  exact ⟨cs, a, r, h0, h1, Nat.le_trans ha hm, hr, hl⟩
theorem Pen.set {n e : Nat} {st : Sto} {x : Cell} (h : Pen n st) (he : 2 ≤ e) : Pen n (st.set e x) := by
  obtain ⟨cs, a, r, h0, h1, ha, hr, hl⟩ := h
  exact ⟨cs, a, r, by rw [List.getElem?_set_ne (by omega)]; exact h0, by rw [List.getElem?_set_ne (by omega)]; exact h1, ha, hr, hl⟩
theorem Pen.len {n : Nat} {st : Sto} (h : Pen n st) : 2 ≤ st.length := by
  obtain ⟨cs, a, r, h0, h1, ha, hr, hl⟩ := h
  have := (List.getElem?_eq_some_iff.mp h1).1
  omega
theorem Pen.app {n : Nat} {st x : Sto} (h : Pen n st) : Pen n (st ++ x) := by
  have hl2 := h.len
  obtain ⟨cs, a, r, h0, h1, ha, hr, hl⟩ := h
  exact ⟨cs, a, r, by rw [List.getElem?_append_left (by omega)]; exact h0, by rw [List.getElem?_append_left (by omega)]; exact h1, ha, hr, hl⟩
section
variable {en : En} {st st1 : Sto} {n : Nat} {f g : EF}
theorem takeS {m : Int} (hf : f en st = .ok (.ref 1) st) (hg : g en st = .ok (.int m) st) (hp : Pen n st) (hn : n < 1000000) (hm : 1 ≤ m) (hb : m < 10000000) :
    ∃ r st', callF 2 f_law_take (consA f (consA g nilA)) en st = .ok (.int r) st' ∧ 0 ≤ r ∧ r < m ∧ Pen (n + 1) st' ∧ Sm st st' := by
  obtain ⟨r, x, e, h0, h1, hp'⟩ := take_is hp hn hm hb
  exact ⟨r, _, call2 hf hg e, h0, h1, hp', .set⟩
theorem oneS {ds : List D} (hf : f en st = .ok (.ref 1) st) (hg : g en st = .ok (.lst ds) st1) (hp : Pen n st1) (hn : n < 1000000) (hl : 1 ≤ ds.length) (hb : ds.length < 1000) :
    ∃ d st', callF 2 f_law_one (consA f (consA g nilA)) en st = .ok d st' ∧ d ∈ ds ∧ Pen (n + 1) st' ∧ Sm st1 st' := by
  obtain ⟨r, x, e, h0, h1, hp'⟩ := take_is (many := (ds.length : Nat)) hp hn (by omega) (by omega)
  have hq : r.toNat < ds.length := by omega
  have at1 : atD ds r = some ds[r.toNat] := by
    have : r = (r.toNat : Nat) := by omega
    have h := atD_nat (List.getElem?_eq_getElem hq)
    rw [← this] at h
    exact h
  refine ⟨ds[r.toNat], _, call2 hf hg (fn_rt (en0 := [some (.ref 1), some (.lst ds)]) rfl ?_), List.getElem_mem hq, hp', .set⟩
  unfold b_law_one
  exact ret_ok (op2F_ok (a := .lst ds) (st1 := st1) rfl (callF_ok (n := 2) (ds := [.ref 1, .int (ds.length : Nat)]) (st1 := st1) (consA_ok (st1 := st1) rfl (consA_ok (opLF_ok (consA_ok (st1 := st1) rfl nilA_e) lenL_l) nilA_e)) rfl e) (ixD_l at1))
theorem app_ok {i e : Nat} {d : D} {es es1 : List D} (h : en[i]? = some (some (.ref e))) (hc : st[e]? = some (.lst es)) (hf : f en st = .ok d st1) (hc1 : st1[e]? = some (.lst es1)) (hl : es1.length < 900) : methF appM (varF i) (consA f nilA) en st = .ok .non (st1.set e (.lst (es1 ++ [d]))) := by
  unfold methF
  rw [varF_at h]
  show (match (match st[e]? with | some (.lst ds) => some ds | _ => none) with
    | some _ => (consA f nilA en st).bind fun ds st2 => R.ofO (appM (.ref e) ds st2)
    | none => R.bad) = _
  rw [hc]
  show (consA f nilA en st).bind _ = _
  rw [consA_ok hf nilA_e]
  show R.ofO (match st1[e]? with
    | some (.lst es) => if es.length < sizeLine then some (D.non, st1.set e (.lst (es ++ [d]))) else none
    | _ => none) = _
  rw [hc1]
  show R.ofO (if es1.length < sizeLine then some (D.non, st1.set e (.lst (es1 ++ [d]))) else none) = _
  rw [if_pos (Nat.lt_of_lt_of_le hl (by decide))]
  rfl
end
theorem frac_pr {t u : Int} (hu : 1 ≤ u) (ht : t.natAbs ≤ 2 ^ 8) (hu8 : u.natAbs ≤ 2 ^ 8) : Pr (frac t u) 8 t u := by
  obtain ⟨a, b, e, hb, g, k, la, lb⟩ := frac_spec t u hu
  exact ⟨a, b, e, hb, g, k, hu, Nat.le_trans la ht, Nat.le_trans lb hu8⟩
theorem small80 {b : Int} (h : b.natAbs ≤ 2 ^ 8) : b.natAbs < 10 ^ 80 := lt80 h (by decide)
/-! drawn fractions -/
theorem drawn_frac_is {st : Sto} {n : Nat} (hp : Pen n st) (hn : n < 900000) : ∃ x st' p q, f_law_drawn_frac [.ref 1, .int 6] st = .ok x st' ∧ Pr x 8 p q ∧ Pen (n + 2) st' ∧ Sm st st' := by
  obtain ⟨r, st1, e1, h0, h1, p1, s1⟩ := takeS (en := [some (.ref 1), some (.int 6), none]) (f := varF 0) (g := op2F addD (op2F mulD (litF (.int 2)) (varF 1)) (litF (.int 1))) (m := 13) rfl rfl hp (by omega) (by decide) (by decide)
  obtain ⟨d, st2, e2, hd, p2, s2⟩ := oneS (en := [some (.ref 1), some (.int 6), some (.int (r - 6))]) (f := varF 0) (g := opLF lstL (consA (litF (.int 1)) (consA (litF (.int 1)) (consA (litF (.int 1)) (consA (litF (.int 2)) (consA (litF (.int 3)) (consA (litF (.int 5)) nilA))))))) (st1 := st1) (ds := [.int 1, .int 1, .int 1, .int 2, .int 3, .int 5]) rfl rfl p1 (by omega) (by decide) (by decide)
  obtain ⟨b, rfl, hb1, hb2⟩ : ∃ b : Int, d = .int b ∧ 1 ≤ b ∧ b ≤ 5 := by
    simp only [List.mem_cons, List.not_mem_nil, or_false] at hd
    rcases hd with h | h | h | h | h | h <;> exact ⟨_, h, by decide, by decide⟩
  have t8 : (r - 6).natAbs ≤ 2 ^ 8 := by omega
  have b8 : b.natAbs ≤ 2 ^ 8 := by omega
  refine ⟨frac (r - 6) b, st2, r - 6, b, fn_rt (en0 := [some (.ref 1), some (.int 6), none]) rfl ?_, frac_pr hb1 t8 b8, p2, s1.trans s2⟩
  unfold b_law_drawn_frac
  rw [step_set (en' := [some (.ref 1), some (.int 6), some (.int (r - 6))]) (op2F_ok e1 (b := .int 6) (st2 := st1) rfl subD_ii) (show 2 < 3 by decide) rfl]
  exact ret_ok (call2 (x := .int (r - 6)) (st1 := st1) rfl e2 (law_frac_is (by omega) (small80 b8)))
/-! drawn works -/
abbrev ED (n k : Int) (w : Nat) (s : Int) (x5 x6 x7 x8 : Option D) : En := [some (.ref 1), some (.int n), some (.int k), some (.ref w), some (.int s), x5, x6, x7, x8, none, none]
def endB : SF := (exprS (methF appM (varF 5) (consA (callF 2 f_law_one (consA (varF 0) (consA (opLF lstL (consA (op2F modD (opLF intL (consA (op2F addD (varF 4) (litF (.int 1))) nilA)) (varF 1)) (consA (callF 2 f_law_take (consA (varF 0) (consA (varF 1) nilA))) (consA (varF 4) nilA)))) nilA))) nilA)))
theorem end_ok {n k s : Int} {w e c : Nat} {x6 x7 x8 : Option D} {st : Sto} {is : List Int} (hp : Pen c st) (hc : c < 900000) (hn : 1 ≤ n) (hn6 : n ≤ 6) (hs : 0 ≤ s) (hsn : s < n) (he : 2 ≤ e) (hi : st[e]? = some (.lst (is.map .int))) (hl : is.length < 100) :
    ∃ i st', endB (ED n k w s (some (.ref e)) x6 x7 x8) st = .nx (ED n k w s (some (.ref e)) x6 x7 x8) st' ∧ 0 ≤ i ∧ i < n ∧ Pen (c + 2) st' ∧ st'[e]? = some (.lst ((is ++ [i]).map .int)) ∧ Sx e st st' := by
  obtain ⟨r, st1, e1, h0, h1, p1, s1⟩ := takeS (en := ED n k w s (some (.ref e)) x6 x7 x8) (f := varF 0) (g := varF 1) (m := n) rfl rfl hp (by omega) hn (by omega)
  have em : (s + 1).fmod n = (s + 1) % n := Int.fmod_eq_emod_of_nonneg _ (by omega)
  have m0 := Int.emod_nonneg (s + 1) (show n ≠ 0 by omega)
  have m1 := Int.emod_lt_of_pos (s + 1) (show 0 < n by omega)
  have ea : op2F modD (opLF intL (consA (op2F addD (varF 4) (litF (.int 1))) nilA)) (varF 1) (ED n k w s (some (.ref e)) x6 x7 x8) st = .ok (.int ((s + 1) % n)) st :=
    op2F_ok (a := .int (s + 1)) (b := .int n) (st1 := st) (st2 := st) (op1L (x := .int (s + 1)) (st1 := st) (op2F_ok (a := .int s) (b := .int 1) (st1 := st) (st2 := st) rfl rfl addD_ii) intL_i) rfl (modD_x (by omega) em)
  obtain ⟨d, st2, e2, hd, p2, s2⟩ := oneS (en := ED n k w s (some (.ref e)) x6 x7 x8) (st := st) (f := varF 0) (g := opLF lstL (consA (op2F modD (opLF intL (consA (op2F addD (varF 4) (litF (.int 1))) nilA)) (varF 1)) (consA (callF 2 f_law_take (consA (varF 0) (consA (varF 1) nilA))) (consA (varF 4) nilA)))) (st1 := st1) (ds := [.int ((s + 1) % n), .int r, .int s]) rfl
    (opLF_ok (consA_ok ea (consA_ok e1 (consA_ok (st1 := st1) rfl nilA_e))) (lstL_e (show 3 ≤ 1000 by decide))) p1 (by omega) (show 1 ≤ 3 by decide) (show 3 < 1000 by decide)
  obtain ⟨i, rfl, hi0, hin⟩ : ∃ i : Int, d = .int i ∧ 0 ≤ i ∧ i < n := by
    simp only [List.mem_cons, List.not_mem_nil, or_false] at hd
    rcases hd with h | h | h
    · exact ⟨_, h, m0, m1⟩
    · exact ⟨_, h, h0, h1⟩
    · exact ⟨_, h, hs, hsn⟩
  have hi2 : st2[e]? = some (.lst (is.map .int)) := by rw [s2.at' e (by omega), s1.at' e (by omega)]; exact hi
  have hel := (List.getElem?_eq_some_iff.mp hi2).1
  refine ⟨i, st2.set e (.lst (is.map .int ++ [.int i])), ?_, hi0, hin, (p2.up (by omega)).set he, ?_, ?_⟩
  · unfold endB exprS
    rw [app_ok (e := e) rfl hi e2 hi2 (by rw [List.length_map]; omega)]
    rfl
  · rw [List.getElem?_set_self hel, List.map_append]
    rfl
  · refine ⟨by rw [List.length_set, s2.len, s1.len], fun j hj hje => ?_⟩
    rw [List.getElem?_set_ne (fun q => hje q.symm), s2.at' j hj, s1.at' j hj]
theorem ends_loop {n k s : Int} {w e : Nat} {x7 x8 : Option D} (hn : 1 ≤ n) (hn6 : n ≤ 6) (hs : 0 ≤ s) (hsn : s < n) (he : 2 ≤ e) : ∀ (ds : List D) (c : Nat) (st : Sto) (is : List Int) (x6 : Option D), Pen c st → c + 2 * ds.length < 900000 → st[e]? = some (.lst (is.map .int)) → is.length + ds.length < 100 → (∀ i ∈ is, 0 ≤ i ∧ i < n) →
    ∃ (is' : List Int) (st' : Sto) (y6 : Option D), loopI (nameG 6) endB ds (ED n k w s (some (.ref e)) x6 x7 x8) st = .nx (ED n k w s (some (.ref e)) y6 x7 x8) st' ∧ Pen (c + 2 * ds.length) st' ∧ st'[e]? = some (.lst (is'.map .int)) ∧ is'.length = is.length + ds.length ∧ (∀ i ∈ is', 0 ≤ i ∧ i < n) ∧ Sx e st st'
  | [], c, st, is, x6, hp, _, hi, _, hr => ⟨is, st, x6, rfl, hp, hi, rfl, hr, .rfl⟩
  | d :: ds, c, st, is, x6, hp, hc, hi, hl, hr => by
    rw [List.length_cons] at hc hl
    obtain ⟨i, st1, e1, hi0, hin, p1, hi1, s1⟩ := end_ok (k := k) (w := w) (x6 := some d) (x7 := x7) (x8 := x8) hp (by omega) hn hn6 hs hsn he hi (by omega)
    obtain ⟨is', st', y6, e2, p2, hi2, hl2, hr2, s2⟩ := ends_loop (k := k) (w := w) (x7 := x7) (x8 := x8) hn hn6 hs hsn he ds (c + 2) st1 (is ++ [i]) (some d) p1 (by omega) hi1 (by rw [List.length_append]; simp; omega) (fun j hj => by
      rcases List.mem_append.mp hj with hj | hj
      · exact hr j hj
      · rw [List.mem_singleton.mp hj]
        exact ⟨hi0, hin⟩)
    refine ⟨is', st', y6, ?_, p2.up (by rw [List.length_cons]; omega), hi2, ?_, hr2, s1.trans s2⟩
    · rw [← e2]
      exact loop_nx rfl e1
    · rw [hl2, List.length_append, List.length_cons, List.length_cons, List.length_nil]
      omega
theorem lc_one {own : List Nat} {g : GF} {elt : EF} {d y : D} {r ys : List D} {en en1 : En} {st st1 st2 : Sto} (hg : g d st (wipeE en own) = some en1) (he : elt en1 st = .ok y st1) (hr : lcI own g yesT elt r en st1 = .ok ys st2) : lcI own g yesT elt (d :: r) en st = .ok (y :: ys) st2 := by
  unfold lcI
  rw [hg]
  unfold yesT
  simp only [he]
  show (lcI own g yesT elt r en st1).bind _ = _
  rw [hr]
  rfl
theorem weights {n k s : Int} {w : Nat} {x5 x6 x7 x8 : Option D} : ∀ (L : List Int) (c : Nat) (st : Sto), Pen c st → c + L.length < 900000 →
    ∃ (ws : List Int) (st' : Sto), lcI [9] (nameG 9) yesT (callF 2 f_law_one (consA (varF 0) (consA (opLF lstL (consA (litF (.int 1)) (consA (litF (.int 1)) (consA (litF (.int 2)) (consA (litF (.int 3)) nilA))))) nilA))) (L.map .int) (ED n k w s x5 x6 x7 x8) st = .ok (ws.map .int) st' ∧ ws.length = L.length ∧ (∀ v ∈ ws, 1 ≤ v ∧ v ≤ 19) ∧ Pen (c + L.length) st' ∧ Sm st st'
  | [], c, st, hp, _ => ⟨[], st, rfl, rfl, fun v h => (nomatch h), hp, .rfl⟩
  | x :: r, c, st, hp, hc => by
    rw [List.length_cons] at hc
    obtain ⟨d, st1, e1, hd, p1, s1⟩ := oneS (en := [some (.ref 1), some (.int n), some (.int k), some (.ref w), some (.int s), x5, x6, x7, x8, some (.int x), none]) (st := st) (st1 := st) (f := varF 0) (g := opLF lstL (consA (litF (.int 1)) (consA (litF (.int 1)) (consA (litF (.int 2)) (consA (litF (.int 3)) nilA))))) (ds := [.int 1, .int 1, .int 2, .int 3]) rfl rfl hp (by omega) (by decide) (by decide)
    obtain ⟨v, rfl, hv⟩ : ∃ b : Int, d = .int b ∧ 1 ≤ b ∧ b ≤ 19 := by
      simp only [List.mem_cons, List.not_mem_nil, or_false] at hd
      rcases hd with h | h | h | h <;> exact ⟨_, h, by decide, by decide⟩
    obtain ⟨ws, st', e2, hl, hw, p2, s2⟩ := weights (n := n) (k := k) (s := s) (w := w) (x5 := x5) (x6 := x6) (x7 := x7) (x8 := x8) r (c + 1) st1 p1 (by omega)
    refine ⟨v :: ws, st', ?_, by rw [List.length_cons, List.length_cons, hl], fun u hu => ?_, p2.up (by rw [List.length_cons]; omega), s1.trans s2⟩
    · rw [List.map_cons, List.map_cons]
      exact lc_one rfl e1 e2
    · rcases List.mem_cons.mp hu with rfl | hu
      · exact hv
      · exact hw u hu
theorem zip_int : ∀ (L M : List Int), zipF (L.map .int) (M.map .int) = (L.zip M).map fun p : Int × Int => D.tup [.int p.1, .int p.2]
  | [], _ => rfl
  | _ :: _, [] => rfl
  | x :: l, y :: m => by
    show D.tup [.int x, .int y] :: zipF (l.map .int) (m.map .int) = _
    rw [zip_int l m]
    rfl
theorem Mv.of {n S : Int} (hS : 1 ≤ S) (hS8 : S.natAbs ≤ 2 ^ 8) : ∀ (L ws : List Int) (lo acc : Int), L.Pairwise (· < ·) → (∀ x ∈ L, lo < x ∧ x < n) → ws.length = L.length → (∀ v ∈ ws, 1 ≤ v ∧ v ≤ 19) → acc + ws.sum = S → Mv n S lo acc ((L.zip ws).map fun p : Int × Int => (p.1, frac p.2 S))
  | [], [], lo, acc, _, _, _, _, h => by
    rw [List.sum_nil] at h
    show acc = S
    omega
  | [], _ :: _, _, _, _, _, h, _, _ => by simp at h
  | _ :: _, [], _, _, _, _, h, _, _ => by simp at h
  | x :: L, v :: ws, lo, acc, hp, hr, hl, hw, h => by
    have hp' := List.pairwise_cons.mp hp
    rw [List.sum_cons] at h
    have hv := hw v List.mem_cons_self
    exact ⟨(hr x List.mem_cons_self).1, (hr x List.mem_cons_self).2, v, hv.1, frac_pr hS (by omega) hS8,
      Mv.of hS hS8 L ws x (acc + v) hp'.2 (fun y hy => ⟨hp'.1 y hy, (hr y (List.mem_cons_of_mem _ hy)).2⟩) (by simpa using hl) (fun u hu => hw u (List.mem_cons_of_mem _ hu)) (by omega)⟩
theorem sum_bd : ∀ {ws : List Int}, (∀ v ∈ ws, 1 ≤ v ∧ v ≤ 19) → (ws.length : Int) ≤ ws.sum ∧ ws.sum ≤ 19 * (ws.length : Int)
  | [], _ => by simp
  | v :: r, h => by
    have := sum_bd (ws := r) fun u hu => h u (List.mem_cons_of_mem _ hu)
    have hv := h v List.mem_cons_self
    rw [List.sum_cons, List.length_cons]
    omega
end Lw

namespace Lw
open PySem PySem.Spec PyProof.Rows L2 Ev
def wtF : EF := lcF [9] (nameG 9) yesT (callF 2 f_law_one (consA (varF 0) (consA (opLF lstL (consA (litF (.int 1)) (consA (litF (.int 1)) (consA (litF (.int 2)) (consA (litF (.int 3)) nilA))))) nilA))) (seqI (varF 5))
def mvF : EF := lcF [9, 10] (tupG 2 (consG (nameG 9) (consG (nameG 10) nilG))) yesT (opLF tupL (consA (varF 9) (consA (callF 2 f_law_frac (consA (varF 10) (consA (opLF sumL (consA (varF 7) nilA)) nilA))) nilA))) (zipI (consA (varF 5) (consA (varF 7) nilA)))
def stateB : SF := (seqS (setS 5 (opLF celL nilA))
 (seqS (forS (rng1I (consA (op2F addD (litF (.int 1)) (callF 2 f_law_take (consA (varF 0) (consA (varF 2) nilA)))) nilA)) (nameG 6) endB)
 (seqS (setS 5 (opLF sortSL (consA (varF 5) nilA)))
 (seqS (setS 7 wtF)
 (seqS (setS 8 mvF)
 (exprS (methF appM (varF 3) (consA (opLF tupL (consA (callF 2 f_law_drawn_frac (consA (varF 0) (consA (litF (.int 6)) nilA))) (consA (opLF tupleL (consA (varF 8) nilA)) nilA))) nilA))))))))
theorem mv_ok {n k s S : Int} {w : Nat} {x6 x8 : Option D} {st : Sto} {L ws : List Int} (hS : 1 ≤ S) (hS8 : S.natAbs ≤ 2 ^ 8) (e : ws.sum = S) (hl : L.length ≤ 900) :
    mvF (ED n k w s (some (.lst (L.map .int))) x6 (some (.lst (ws.map .int))) x8) st = .ok (.lst (((L.zip ws).map fun p : Int × Int => (p.1, frac p.2 S)).map mvD)) st := by
  have hz : zipI (consA (varF 5) (consA (varF 7) nilA)) (ED n k w s (some (.lst (L.map .int))) x6 (some (.lst (ws.map .int))) x8) st = .ok (.items ((L.zip ws).map fun p : Int × Int => D.tup [.int p.1, .int p.2])) st := by
    show R.ok (ItD.items (zipF (L.map .int) (ws.map .int))) st = _
    rw [zip_int]
  have hln : (L.zip ws).length ≤ 900 := by rw [List.length_zip]; omega
  unfold mvF
  rw [List.map_map]
  refine lc_all hz (by rw [List.length_map]; omega) (lc_map (f := fun p : Int × Int => D.tup [.int p.1, .int p.2]) fun p _ => ⟨[some (.ref 1), some (.int n), some (.int k), some (.ref w), some (.int s), some (.lst (L.map .int)), x6, some (.lst (ws.map .int)), x8, some (.int p.1), some (.int p.2)], rfl, ?_⟩)
  have es : opLF sumL (consA (varF 7) nilA) [some (.ref 1), some (.int n), some (.int k), some (.ref w), some (.int s), some (.lst (L.map .int)), x6, some (.lst (ws.map .int)), x8, some (.int p.1), some (.int p.2)] st = .ok (.int S) st := op1L (x := .lst (ws.map .int)) (st1 := st) rfl (by
    show (intsO (ws.map .int)).bind (fun is => some (D.int is.sum, st)) = _
    rw [intsO_map]
    show some (D.int ws.sum, st) = _
    rw [e])
  exact opLF_ok (consA_ok (d := .int p.1) (st1 := st) rfl (consA_ok (call2 (x := .int p.2) (st1 := st) rfl es (law_frac_is (by omega) (small80 hS8))) nilA_e)) (tupL_e (show 2 ≤ 1000 by decide))
theorem state_ok {n k s : Int} {w c : Nat} {x5 x6 x7 x8 : Option D} {st : Sto} {R : List Rw} (hp : Pen c st) (hc : c < 800000) (hn : 1 ≤ n) (hn6 : n ≤ 6) (hk : 1 ≤ k) (hk6 : k ≤ 6) (hs : 0 ≤ s) (hsn : s < n) (hw : 2 ≤ w) (hR : st[w]? = some (.lst (R.map rowD))) (hl : R.length < 100) :
    ∃ (r : Rw) (st' : Sto) (y5 y6 y7 y8 : Option D), stateB (ED n k w s x5 x6 x7 x8) st = .nx (ED n k w s y5 y6 y7 y8) st' ∧ RowP n r ∧ Pen (c + 40) st' ∧ st'[w]? = some (.lst ((R ++ [r]).map rowD)) := by
  have h2 := hp.len
  have hwl := (List.getElem?_eq_some_iff.mp hR).1
  obtain ⟨e, he⟩ : ∃ e, st.length = e := ⟨_, rfl⟩
  have p1 : Pen c (st ++ [.lst []]) := hp.app
  have hR1 : (st ++ [Cell.lst []])[w]? = some (.lst (R.map rowD)) := by rw [List.getElem?_append_left hwl]; exact hR
  have he1 : (st ++ [Cell.lst []])[e]? = some (.lst (([] : List Int).map .int)) := by rw [← he, List.getElem?_append_right (Nat.le_refl _), Nat.sub_self]; rfl
  obtain ⟨r0, st2, e2, r00, r01, p2, s2⟩ := takeS (en := ED n k w s (some (.ref e)) x6 x7 x8) (f := varF 0) (g := varF 2) (m := k) rfl rfl p1 (by omega) hk (by omega)
  obtain ⟨N, hN⟩ : ∃ N : Nat, 1 + r0 = (N : Nat) := ⟨(1 + r0).toNat, by omega⟩
  have hN1 : 1 ≤ N := by omega
  have hN6 : N ≤ 6 := by omega
  have hlr : (rangeD 0 N).length = N := by unfold rangeD; rw [List.length_map, List.length_range]
  have he2 : st2[e]? = some (.lst (([] : List Int).map .int)) := by rw [s2.at' e (by omega)]; exact he1
  have hR2 : st2[w]? = some (.lst (R.map rowD)) := by rw [s2.at' w (by omega)]; exact hR1
  obtain ⟨is, st3, y6, e3, p3, he3, hl3, hr3, s3⟩ := ends_loop (k := k) (w := w) (x7 := x7) (x8 := x8) hn hn6 hs hsn (e := e) (by omega) (rangeD 0 N) (c + 1) st2 [] x6 p2 (by rw [hlr]; omega) he2 (by rw [hlr, List.length_nil]; omega) (fun i h => (nomatch h))
  rw [hlr] at p3 hl3
  rw [List.length_nil, Nat.zero_add] at hl3
  have hR3 : st3[w]? = some (.lst (R.map rowD)) := by rw [s3.at' w (by omega) (by omega)]; exact hR2
  obtain ⟨L, hL⟩ : ∃ L, setI is = L := ⟨_, rfl⟩
  have hLr : ∀ x ∈ L, 0 ≤ x ∧ x < n := fun x hx => hr3 x (setI_mem.mp (hL ▸ hx))
  have hLt : L.Pairwise (· < ·) := hL ▸ setI_lt
  have hL6 : L.length ≤ 6 := by
    have := few_len (n := n.toNat) (lt_nodup hLt) fun x hx => by
      have := hLr x hx
      omega
    omega
  have hL1 : 1 ≤ L.length := by
    cases is with
    | nil => simp at hl3; omega
    | cons i r => exact List.length_pos_of_mem (a := i) (hL ▸ setI_mem.mpr List.mem_cons_self)
  obtain ⟨ws, st4, e4, hl4, hw4, p4, s4⟩ := weights (n := n) (k := k) (s := s) (w := w) (x5 := some (.lst (L.map .int))) (x6 := y6) (x7 := x7) (x8 := x8) L (c + 1 + 2 * N) st3 p3 (by omega)
  have hR4 : st4[w]? = some (.lst (R.map rowD)) := by rw [s4.at' w (by omega)]; exact hR3
  obtain ⟨S, hS⟩ : ∃ S, ws.sum = S := ⟨_, rfl⟩
  have hb := sum_bd hw4
  rw [hS] at hb
  have hS1 : 1 ≤ S := by omega
  have hS8 : S.natAbs ≤ 2 ^ 8 := by omega
  obtain ⟨x, st5, p, q, e5, hx, p5, s5⟩ := drawn_frac_is p4 (by omega)
  have hR5 : st5[w]? = some (.lst (R.map rowD)) := by rw [s5.at' w (by omega)]; exact hR4
  obtain ⟨M, hM⟩ : ∃ M : Mvs, ((L.zip ws).map fun p : Int × Int => (p.1, frac p.2 S)) = M := ⟨_, rfl⟩
  have em := mv_ok (n := n) (k := k) (s := s) (w := w) (x6 := y6) (x8 := x8) (st := st4) (L := L) hS1 hS8 hS (by omega)
  rw [hM] at em
  refine ⟨(x, M), st5.set w (.lst (R.map rowD ++ [rowD (x, M)])), some (.lst (L.map .int)), y6, some (.lst (ws.map .int)), some (.lst (M.map mvD)), ?_, ⟨⟨hx.isFr, ?_, S, hS1, hS8, ?_⟩, p, q, hx⟩, (p5.up (by omega)).set hw, ?_⟩
  · unfold stateB
    rw [step_set (d := .ref e) (st' := st ++ [.lst []]) (en' := ED n k w s (some (.ref e)) x6 x7 x8) (by rw [← he]; rfl) (show 5 < 11 by decide) rfl]
    rw [step_of ((for_items (rng_is (st1 := st2) (n := N) (by
      refine op2F_ok (a := .int 1) (b := .int r0) (st1 := st ++ [.lst []]) (st2 := st2) rfl e2 ?_
      rw [← hN]
      rfl) (by omega))).trans e3)]
    rw [step_set (d := .lst (L.map .int)) (st' := st3) (en' := ED n k w s (some (.lst (L.map .int))) y6 x7 x8) (op1L (x := .ref e) (st1 := st3) rfl (by
      show (match st3[e]? with | some (.lst ds) => some ds | _ => none).bind (fun es => (intsO es).bind fun is => if is.length < 60 then some (D.lst ((setI is).map .int), st3) else none) = _
      rw [he3]
      show (intsO (is.map .int)).bind (fun is => if is.length < 60 then some (D.lst ((setI is).map .int), st3) else none) = _
      rw [intsO_map]
      show (if is.length < 60 then some (D.lst ((setI is).map .int), st3) else none) = _
      rw [if_pos (by omega), hL])) (show 5 < 11 by decide) rfl]
    rw [step_set (e := wtF) (d := .lst (ws.map .int)) (st' := st4) (en' := ED n k w s (some (.lst (L.map .int))) y6 (some (.lst (ws.map .int))) x8) (lc_all (st1 := st3) rfl (by rw [List.length_map]; omega) e4) (show 7 < 11 by decide) rfl]
    rw [step_set (d := .lst (M.map mvD)) (st' := st4) (en' := ED n k w s (some (.lst (L.map .int))) y6 (some (.lst (ws.map .int))) (some (.lst (M.map mvD)))) em (show 8 < 11 by decide) rfl]
    unfold exprS
    rw [app_ok (e := w) (d := rowD (x, M)) (st1 := st5) rfl hR4 (opLF_ok (consA_ok (call2 (x := .ref 1) (y := .int 6) (st1 := st4) (st2 := st4) rfl rfl e5) (consA_ok (d := .tup (M.map mvD)) (st1 := st5) rfl nilA_e)) (tupL_e (show 2 ≤ 1000 by decide))) hR5 (by rw [List.length_map]; omega)]
    rfl
  · rw [← hM, List.length_map, List.length_zip]
    omega
  · rw [← hM]
    exact Mv.of hS1 hS8 L ws (-1) 0 hLt (fun x hx => ⟨by have := hLr x hx; omega, (hLr x hx).2⟩) hl4 hw4 (by omega)
  · rw [List.getElem?_set_self (List.getElem?_eq_some_iff.mp hR5).1, List.map_append]
    rfl
abbrev E4 (n k : Int) (w : Nat) (x4 x5 x6 x7 x8 : Option D) : En := [some (.ref 1), some (.int n), some (.int k), some (.ref w), x4, x5, x6, x7, x8, none, none]
theorem states_loop {n k : Int} {w : Nat} (hn : 1 ≤ n) (hn6 : n ≤ 6) (hk : 1 ≤ k) (hk6 : k ≤ 6) (hw : 2 ≤ w) : ∀ (xs : List Int) (c : Nat) (st : Sto) (R : List Rw) (x4 x5 x6 x7 x8 : Option D), Pen c st → c + 40 * xs.length < 800000 → (∀ x ∈ xs, 0 ≤ x ∧ x < n) → st[w]? = some (.lst (R.map rowD)) → R.length + xs.length < 100 →
    ∃ (R' : List Rw) (st' : Sto) (y4 y5 y6 y7 y8 : Option D), loopI (nameG 4) stateB (xs.map .int) (E4 n k w x4 x5 x6 x7 x8) st = .nx (E4 n k w y4 y5 y6 y7 y8) st' ∧ Pen (c + 40 * xs.length) st' ∧ st'[w]? = some (.lst ((R ++ R').map rowD)) ∧ R'.length = xs.length ∧ ∀ r ∈ R', RowP n r
  | [], c, st, R, x4, x5, x6, x7, x8, hp, _, _, hR, _ => ⟨[], st, x4, x5, x6, x7, x8, rfl, hp, by rw [List.append_nil]; exact hR, rfl, fun r h => (nomatch h)⟩
  | s :: xs, c, st, R, x4, x5, x6, x7, x8, hp, hc, hr, hR, hl => by
    rw [List.length_cons] at hc hl
    obtain ⟨r, st1, z5, z6, z7, z8, e1, hr1, p1, hR1⟩ := state_ok (x5 := x5) (x6 := x6) (x7 := x7) (x8 := x8) hp (by omega) hn hn6 hk hk6 (hr s List.mem_cons_self).1 (hr s List.mem_cons_self).2 hw hR (by omega)
    obtain ⟨R', st', y4, y5, y6, y7, y8, e2, p2, hR2, hl2, hr2⟩ := states_loop hn hn6 hk hk6 hw xs (c + 40) st1 (R ++ [r]) (some (.int s)) z5 z6 z7 z8 p1 (by omega) (fun x hx => hr x (List.mem_cons_of_mem _ hx)) hR1 (by rw [List.length_append]; simp; omega)
    refine ⟨r :: R', st', y4, y5, y6, y7, y8, ?_, p2.up (by rw [List.length_cons]; omega), ?_, by rw [List.length_cons, List.length_cons, hl2], fun q hq => ?_⟩
    · rw [← e2, List.map_cons]
      exact loop_nx rfl e1
    · rw [hR2, List.append_assoc]
      rfl
    · rcases List.mem_cons.mp hq with rfl | hq
      · exact hr1
      · exact hr2 q hq
theorem drawn_work_is {n k : Int} {c : Nat} {st : Sto} (hp : Pen c st) (hc : c < 700000) (hn : 1 ≤ n) (hn6 : n ≤ 6) (hk : 1 ≤ k) (hk6 : k ≤ 6) :
    ∃ (W : List Rw) (st' : Sto), f_law_drawn_work [.ref 1, .int n, .int k] st = .ok (wkD W) st' ∧ WOk W ∧ Pen (c + 240) st' ∧ (W.length : Int) = n ∧ ∀ r ∈ W, ∃ p q, Pr r.1 8 p q := by
  obtain ⟨N, rfl⟩ : ∃ N : Nat, n = (N : Nat) := ⟨n.toNat, by omega⟩
  have h2 := hp.len
  obtain ⟨w, hw⟩ : ∃ w, st.length = w := ⟨_, rfl⟩
  obtain ⟨R, st', y4, y5, y6, y7, y8, e, p, hR, hl, hr⟩ := states_loop (n := (N : Nat)) (k := k) (w := w) hn hn6 hk hk6 (by omega) ((List.range N).map fun i : Nat => (0 + (i : Int))) c (st ++ [.lst []]) [] none none none none none hp.app (by rw [List.length_map, List.length_range]; omega) (fun x hx => by
    obtain ⟨i, hi, rfl⟩ := List.mem_map.mp hx
    have := List.mem_range.mp hi
    omega) (by rw [← hw, List.getElem?_append_right (Nat.le_refl _), Nat.sub_self]; rfl) (by rw [List.length_map, List.length_range, List.length_nil]; omega)
  rw [List.length_map, List.length_range] at hl p
  rw [List.map_map] at e
  refine ⟨R, st', fn_rt (en0 := [some (.ref 1), some (.int (N : Nat)), some (.int k), none, none, none, none, none, none, none, none]) rfl ?_, ⟨by omega, by omega, by rw [hl]; exact fun r h => (hr r h).1⟩, p.up (by omega), by omega, fun r h => (hr r h).2⟩
  unfold b_law_drawn_work
  rw [step_set (d := .ref w) (st' := st ++ [.lst []]) (en' := E4 (N : Nat) k w none none none none none) (by rw [← hw]; rfl) (show 3 < 11 by decide) rfl]
  show seqS (forS (rng1I (consA (varF 1) nilA)) (nameG 4) stateB) _ _ _ = _
  rw [step_of ((for_items (rng_is (n := N) (st1 := st ++ [.lst []]) rfl (by omega))).trans e)]
  refine ret_ok (op1L (x := .ref w) (st1 := st') rfl ?_)
  show (match st'[w]? with | some (.lst ds) => some ds | _ => none).bind (fun es => some (D.tup es, st')) = _
  rw [hR]
  rfl
end Lw

namespace Lw
open PySem PySem.Spec PyProof.Rows L2 Ev
/-! fractions as data -/
def fr (r : Rat) : D := .tup [.int r.num, .int (r.den : Nat)]
def Sz (N : Nat) (r : Rat) : Prop := r.num.natAbs ≤ 2 ^ N ∧ r.den ≤ 2 ^ N
theorem r_nd (r : Rat) : r * ((r.den : Nat) : Int) = (r.num : Int) := by
  have h := Rat.mkRat_self r
  have d : ((r.den : Nat) : Rat) ≠ 0 := by exact_mod_cast r.den_nz
  rw [Rat.mkRat_eq_div] at h
  have e : ((((r.den : Nat) : Int)) : Rat) = ((r.den : Nat) : Rat) := rfl
  rw [e]
  grind
theorem num_den {r : Rat} {a b : Int} (hb : b ≠ 0) (h : r * b = a) : r.num * b = a * (r.den : Nat) := by
  have k := r_nd r
  have : ((r.num * b : Int) : Rat) = ((a * (r.den : Nat) : Int) : Rat) := by
    rw [Rat.intCast_mul, Rat.intCast_mul, ← h, ← k]
    grind
  exact_mod_cast this
theorem div_mul {a b : Int} (hb : b ≠ 0) : ((a : Rat) / (b : Rat)) * b = a := by
  have : (b : Rat) ≠ 0 := by exact_mod_cast hb
  grind
theorem frac_neg {a b : Int} (hb : b < 0) : frac a b = frac (-a) (-b) := by
  unfold frac
  rw [Int.natAbs_neg, Int.natAbs_neg, if_pos hb, if_neg (show ¬ -b < 0 by omega)]
  show D.tup [.int (a.fdiv _), .int (b.fdiv _)] = D.tup [.int ((-a).fdiv _), .int ((-b).fdiv _)]
  rw [← Int.neg_fdiv_neg (-a), ← Int.neg_fdiv_neg (-b), Int.neg_neg, Int.neg_neg]
theorem frac_pos {a b : Int} {r : Rat} (hb : 1 ≤ b) (h : r * b = a) : frac a b = fr r := by
  obtain ⟨t, u, e, hu, g, eu, -, -⟩ := frac_spec a b hb
  have k := num_den (by omega) h
  have : 0 < r.den := r.den_pos
  obtain ⟨x, y⟩ := uniq (a := t) (b := u) (c := r.num) (d := ((r.den : Nat) : Int)) hu (by omega) g (by rw [Int.natAbs_natCast]; exact r.reduced) (by
    have : (t * (r.den : Nat)) * b = (r.num * u) * b := by grind
    exact Int.eq_of_mul_eq_mul_right (by omega) this)
  rw [e, x, y]
  rfl
theorem frac_r {a b : Int} {r : Rat} (hb : b ≠ 0) (h : r * b = a) : frac a b = fr r := by
  by_cases l : b < 0
  · rw [frac_neg l]
    refine frac_pos (by omega) ?_
    rw [Rat.intCast_neg, Rat.intCast_neg]
    grind
  · exact frac_pos (by omega) h
theorem mul_fitB {i j : Int} {N M : Nat} (h1 : i.natAbs ≤ 2 ^ N) (h2 : j.natAbs ≤ 2 ^ M) (hN : N ≤ 100000) (hM : M ≤ 100000) : mulOk i j = true := mulOk_w (lt_pow h1) (lt_pow h2) (by omega) (by omega) (by omega)
theorem log_fitB {b : Int} {N : Nat} (h : b.natAbs ≤ 2 ^ N) (hN : N ≤ 7000) : b.natAbs.log2 < 8000 := by
  by_cases hz : b.natAbs = 0
  · rw [hz]
    decide
  · have := (Nat.log2_lt hz).2 (lt_pow h)
    omega
theorem Sz.of {a b : Int} {r : Rat} {N : Nat} (hb : b ≠ 0) (h : r * b = a) (ha : a.natAbs ≤ 2 ^ N) (hb2 : b.natAbs ≤ 2 ^ N) : Sz N r := by
  have k := num_den hb h
  have kn : r.num.natAbs * b.natAbs = a.natAbs * r.den := by
    have := congrArg Int.natAbs k
    rwa [Int.natAbs_mul, Int.natAbs_mul, Int.natAbs_natCast] at this
  have d1 : r.den ∣ b.natAbs := by
    have : r.den ∣ r.num.natAbs * b.natAbs := ⟨a.natAbs, by rw [kn, Nat.mul_comm]⟩
    exact Nat.Coprime.dvd_of_dvd_mul_left r.reduced.symm this
  have b0 : 0 < b.natAbs := by omega
  refine ⟨?_, Nat.le_trans (Nat.le_of_dvd b0 d1) hb2⟩
  have : r.den ≤ b.natAbs := Nat.le_of_dvd b0 d1
  have : r.num.natAbs * b.natAbs ≤ a.natAbs * b.natAbs := by rw [kn]; exact Nat.mul_le_mul_left _ this
  exact Nat.le_trans (Nat.le_of_mul_le_mul_right this b0) ha
theorem Sz.up {N M : Nat} {r : Rat} (h : Sz N r) (l : N ≤ M) : Sz M r := ⟨Nat.le_trans h.1 (Nat.pow_le_pow_right (by decide) l), Nat.le_trans h.2 (Nat.pow_le_pow_right (by decide) l)⟩
theorem Sz.den {N : Nat} {r : Rat} (h : Sz N r) : (((r.den : Nat) : Int)).natAbs ≤ 2 ^ N := by rw [Int.natAbs_natCast]; exact h.2
theorem dn0 (r : Rat) : (((r.den : Nat) : Int)) ≠ 0 := by
  have := r.den_pos
  omega
theorem dn0' (r : Rat) : ((((r.den : Nat) : Int)) : Rat) ≠ 0 := by exact_mod_cast dn0 r
theorem Pr.fr {x : D} {N : Nat} {p q : Int} (h : Pr x N p q) : ∃ r : Rat, x = fr r ∧ Sz N r ∧ r * q = p := by
  obtain ⟨a, b, rfl, hb, g, e, hq, k1, k2⟩ := h
  have b0 : (b : Rat) ≠ 0 := by
    have : b ≠ 0 := by omega
    exact_mod_cast this
  refine ⟨(a : Rat) / b, ?_, Sz.of (by omega) (div_mul (by omega)) k1 k2, ?_⟩
  · have e1 := frac_pos hb (div_mul (a := a) (b := b) (by omega))
    rw [← e1]
    unfold frac
    rw [if_neg (by omega), g]
    show D.tup [.int a, .int b] = D.tup [.int (a.fdiv 1), .int (b.fdiv 1)]
    rw [Int.fdiv_one, Int.fdiv_one]
  · have e2 : (a : Rat) * q = p * b := by exact_mod_cast e
    grind
theorem isFr_fr (r : Rat) : isFr (fr r) = true := by
  have h := r.den_pos
  have g := r.reduced
  show (decide (1 ≤ (((r.den : Nat) : Int))) && decide (Nat.gcd r.num.natAbs (((r.den : Nat) : Int)).natAbs = 1)) = true
  rw [Int.natAbs_natCast, decide_eq_true (show (1 : Int) ≤ ((r.den : Nat) : Int) by omega), decide_eq_true g]
  rfl
theorem fr_inj {r s : Rat} (h : fr r = fr s) : r = s := by
  have h1 : r.num = s.num := by
    injection h with h
    injection h with h h'
    injection h
  have h2 : ((r.den : Nat) : Int) = (s.den : Nat) := by
    injection h with h
    injection h with h h'
    injection h' with h' _
    injection h'
  exact Rat.ext h1 (by omega)
section
variable {x y : Rat} {N M : Nat} {st : Sto}
theorem add_w (x y : Rat) : (x + y) * ((x.den : Nat) * (y.den : Nat) : Int) = (x.num * (y.den : Nat) + y.num * (x.den : Nat) : Int) := by
  rw [Rat.intCast_add, Rat.intCast_mul, Rat.intCast_mul, Rat.intCast_mul, ← r_nd x, ← r_nd y]
  grind
theorem mul_w (x y : Rat) : (x * y) * ((x.den : Nat) * (y.den : Nat) : Int) = (x.num * y.num : Int) := by
  rw [Rat.intCast_mul, Rat.intCast_mul, ← r_nd x, ← r_nd y]
  grind
theorem div_w (x y : Rat) (h : y ≠ 0) : (x / y) * ((x.den : Nat) * y.num : Int) = (x.num * (y.den : Nat) : Int) := by
  rw [Rat.intCast_mul, Rat.intCast_mul, ← r_nd x, ← r_nd y]
  grind
theorem dd0 (x y : Rat) : ((x.den : Nat) * (y.den : Nat) : Int) ≠ 0 := Int.mul_ne_zero (dn0 x) (dn0 y)
theorem Sz.add (h1 : Sz N x) (h2 : Sz M y) : Sz (N + M + 1) (x + y) := by
  have a := le_pow h1.1 h2.den
  have b := le_pow h2.1 h1.den
  refine Sz.of (dd0 x y) (add_w x y) ?_ (Nat.le_trans (le_pow h1.den h2.den) (Nat.pow_le_pow_right (by decide) (by omega)))
  have := Int.natAbs_add_le (x.num * (y.den : Nat)) (y.num * (x.den : Nat))
  rw [Nat.pow_succ]
  rw [Nat.add_comm M N] at b
  omega
theorem Sz.mul (h1 : Sz N x) (h2 : Sz M y) : Sz (N + M) (x * y) := Sz.of (dd0 x y) (mul_w x y) (le_pow h1.1 h2.1) (le_pow h1.den h2.den)
theorem num0 {y : Rat} (h : y ≠ 0) : y.num ≠ 0 := fun e => h (Rat.num_eq_zero.mp e)
theorem Sz.div (h1 : Sz N x) (h2 : Sz M y) (h : y ≠ 0) : Sz (N + M) (x / y) := Sz.of (Int.mul_ne_zero (dn0 x) (num0 h)) (div_w x y h) (le_pow h1.1 h2.den) (le_pow h1.den h2.1)
theorem need_fr (r : Rat) : f_need_fraction [fr r] st = .ok .non st := need_ok (isFr_fr r)
theorem frNum {en : En} {i : Nat} {r : Rat} (h : en[i]? = some (some (fr r))) : op2F ixD (varF i) (litF (.int 0)) en st = .ok (.int r.num) st := ix0 h
theorem frDen {en : En} {i : Nat} {r : Rat} (h : en[i]? = some (some (fr r))) : op2F ixD (varF i) (litF (.int 1)) en st = .ok (.int (r.den : Nat)) st := ix1 h
theorem over_fr (h1 : Sz N x) (h2 : Sz M y) (h : y ≠ 0) (hN : N + M ≤ 7000) : f_over [fr x, fr y] st = .ok (fr (x / y)) st := by
  refine fn_rt (en0 := [some (fr x), some (fr y)]) rfl ?_
  unfold b_over
  rw [two_ok rfl rfl (isFr_fr x) (isFr_fr y)]
  refine ret_ok (callF_ok (n := 2) (ds := [.int (x.num * (y.den : Nat)), .int ((x.den : Nat) * y.num)]) (consA_ok (op2F_ok (frNum rfl) (frDen rfl) (mulD_ii (mul_fitB h1.1 h2.den (by omega) (by omega)))) (consA_ok (op2F_ok (frDen rfl) (frNum rfl) (mulD_ii (mul_fitB h1.den h2.1 (by omega) (by omega)))) nilA_e)) rfl ?_)
  have z : ((x.den : Nat) * y.num : Int) ≠ 0 := Int.mul_ne_zero (dn0 x) (num0 h)
  rw [fraction_is z (log_fitB (le_pow h1.den h2.1) (by omega)), frac_r z (div_w x y h)]
theorem law_add_fr {a b : Nat} (h1 : Sz N x) (h2 : Sz M y) (hN : N ≤ 100000) (hM : M ≤ 100000) (d1 : x.den ≤ 2 ^ a) (d2 : y.den ≤ 2 ^ b) (h : a + b ≤ 250) : f_law_add [fr x, fr y] st = .ok (fr (x + y)) st := by
  refine fn_rt (en0 := [some (fr x), some (fr y)]) rfl ?_
  unfold b_law_add
  refine ret_ok (callF_ok (n := 2) (ds := [.int (x.num * (y.den : Nat) + y.num * (x.den : Nat)), .int ((x.den : Nat) * (y.den : Nat))]) (consA_ok (op2F_ok (op2F_ok (frNum rfl) (frDen rfl) (mulD_ii (mul_fitB h1.1 h2.den hN hM))) (op2F_ok (frNum rfl) (frDen rfl) (mulD_ii (mul_fitB h2.1 h1.den hM hN))) addD_ii) (consA_ok (op2F_ok (frDen rfl) (frDen rfl) (mulD_ii (mul_fitB h1.den h2.den hN hM))) nilA_e)) rfl ?_)
  have d1 : (((x.den : Nat) : Int)).natAbs ≤ 2 ^ a := by rw [Int.natAbs_natCast]; exact d1
  have d2 : (((y.den : Nat) : Int)).natAbs ≤ 2 ^ b := by rw [Int.natAbs_natCast]; exact d2
  rw [law_frac_is (dd0 x y) (lt80 (le_pow d1 d2) h), frac_r (dd0 x y) (add_w x y)]
theorem law_mul_fr {a b : Nat} (h1 : Sz N x) (h2 : Sz M y) (hN : N ≤ 100000) (hM : M ≤ 100000) (d1 : x.den ≤ 2 ^ a) (d2 : y.den ≤ 2 ^ b) (h : a + b ≤ 250) : f_law_mul [fr x, fr y] st = .ok (fr (x * y)) st := by
  refine fn_rt (en0 := [some (fr x), some (fr y)]) rfl ?_
  unfold b_law_mul
  refine ret_ok (callF_ok (n := 2) (ds := [.int (x.num * y.num), .int ((x.den : Nat) * (y.den : Nat))]) (consA_ok (op2F_ok (frNum rfl) (frNum rfl) (mulD_ii (mul_fitB h1.1 h2.1 hN hM))) (consA_ok (op2F_ok (frDen rfl) (frDen rfl) (mulD_ii (mul_fitB h1.den h2.den hN hM))) nilA_e)) rfl ?_)
  have d1 : (((x.den : Nat) : Int)).natAbs ≤ 2 ^ a := by rw [Int.natAbs_natCast]; exact d1
  have d2 : (((y.den : Nat) : Int)).natAbs ≤ 2 ^ b := by rw [Int.natAbs_natCast]; exact d2
  rw [law_frac_is (dd0 x y) (lt80 (le_pow d1 d2) h), frac_r (dd0 x y) (mul_w x y)]
theorem law_less_fr (h1 : Sz N x) (h2 : Sz M y) (hN : N ≤ 100000) (hM : M ≤ 100000) : f_law_is_less [fr x, fr y] st = .ok (.bl (decide (x < y))) st := by
  refine fn_rt (en0 := [some (fr x), some (fr y)]) rfl ?_
  unfold b_law_is_less
  refine ret_ok (op2F_ok (op2F_ok (frNum rfl) (frDen rfl) (mulD_ii (mul_fitB h1.1 h2.den hN hM))) (op2F_ok (frNum rfl) (frDen rfl) (mulD_ii (mul_fitB h2.1 h1.den hM hN))) ?_)
  rw [cmpI_ii]
  have e : decide (x.num * ((y.den : Nat) : Int) < y.num * ((x.den : Nat) : Int)) = decide (x < y) := decide_eq_decide.mpr (Rat.lt_iff x y).symm
  rw [e]
end
end Lw

namespace Lw
open PySem PySem.Spec PyProof.Rows L2 Ev
/-! defs that drop their cells -/
theorem mapO_frz {st : Sto} {n m : Nat} : ∀ {es : List D}, refBs n es = true → mapO (frzD st n (m + 1)) es = some es
  | [], _ => rfl
  | e :: r, h => by
    unfold refBs at h
    rw [Bool.and_eq_true] at h
    have e1 : frzD st n (m + 1) e = some e := by
      unfold frzD
      rw [if_pos h.1]
    have e2 := mapO_frz (st := st) (m := m) h.2
    simp only [mapO, e1, e2]
    rfl
theorem fnZ_d {n : Nat} {g : SF} {ds : List D} {st : Sto} {d : D} {ex : Sto} {en0 : En} (he : ds.map some ++ List.replicate (n - ds.length) none = en0) (h : g en0 st = .rt d (st ++ ex)) (hd : refB st.length d = true) : fnZ n g ds st = .ok d st := by
  unfold fnZ
  rw [he, h]
  simp only [begB_app, if_true]
  have : frzD (st ++ ex) st.length 12 d = some d := by
    unfold frzD
    rw [if_pos hd]
  rw [this]
theorem fnZ_c {n : Nat} {g : SF} {ds : List D} {st : Sto} {es : List D} {ex : Sto} {en0 : En} (he : ds.map some ++ List.replicate (n - ds.length) none = en0) (h : g en0 st = .rt (.ref st.length) (st ++ .lst es :: ex)) (hd : refBs st.length es = true) : fnZ n g ds st = .ok (.lst es) st := by
  unfold fnZ
  rw [he, h]
  simp only [begB_app, if_true]
  have : frzD (st ++ .lst es :: ex) st.length 12 (.ref st.length) = some (.lst es) := by
    unfold frzD
    rw [if_neg (by unfold refB; simp)]
    have c : (st ++ Cell.lst es :: ex)[st.length]? = some (.lst es) := by
      rw [List.getElem?_append_right (Nat.le_refl _), Nat.sub_self]
      rfl
    simp only [c]
    show (mapO (frzD (st ++ Cell.lst es :: ex) st.length 11) es).map D.lst = _
    rw [mapO_frz hd]
    rfl
  rw [this]
theorem refBs_ints (n : Nat) : ∀ is : List Int, refBs n (is.map .int) = true
  | [] => rfl
  | i :: r => by
    show (true && refBs n (r.map .int)) = true
    rw [refBs_ints n r]
    rfl
theorem refB_fr (n : Nat) (r : Rat) : refB n (fr r) = true := rfl
theorem refBs_frs (n : Nat) : ∀ rs : List Rat, refBs n (rs.map fr) = true
  | [] => rfl
  | i :: r => by
    show (true && refBs n (r.map fr)) = true
    rw [refBs_frs n r]
    rfl
/-! the common bottom -/
def cbF (c : Nat) : List Rat → Nat
  | [] => c
  | r :: l => cbF (c.lcm r.den) l
def cb (l : List Rat) : Nat := cbF 1 l
theorem cbF_spec {N : Nat} : ∀ (l : List Rat) (c k : Nat), 0 < c → c ≤ 2 ^ k → (∀ r ∈ l, r.den ≤ 2 ^ N) → 0 < cbF c l ∧ c ∣ cbF c l ∧ (∀ r ∈ l, r.den ∣ cbF c l) ∧ cbF c l ≤ 2 ^ (k + N * l.length)
  | [], c, k, h0, hk, _ => ⟨h0, Nat.dvd_refl _, fun r h => (nomatch h), by simpa [cbF] using hk⟩
  | r :: l, c, k, h0, hk, h => by
    have d0 := r.den_pos
    have hd := h r List.mem_cons_self
    have p := Nat.lcm_pos h0 d0
    have le : c.lcm r.den ≤ 2 ^ (k + N) := by
      rw [Nat.pow_add]
      exact Nat.le_trans (Nat.le_of_dvd (Nat.mul_pos h0 d0) (Nat.lcm_dvd_mul _ _)) (Nat.mul_le_mul hk hd)
    obtain ⟨a, b, d, e⟩ := cbF_spec l (c.lcm r.den) (k + N) p le fun q hq => h q (List.mem_cons_of_mem _ hq)
    refine ⟨a, Nat.dvd_trans (Nat.dvd_lcm_left _ _) b, fun q hq => ?_, ?_⟩
    · rcases List.mem_cons.mp hq with rfl | hq
      · exact Nat.dvd_trans (Nat.dvd_lcm_right _ _) b
      · exact d q hq
    · rw [List.length_cons]
      show cbF (c.lcm r.den) l ≤ _
      rw [show k + N * (l.length + 1) = k + N + N * l.length from by rw [Nat.mul_add]; omega]
      exact e
theorem cbF_dvd {S : Nat} : ∀ (l : List Rat) (c : Nat), c ∣ S → (∀ r ∈ l, r.den ∣ S) → cbF c l ∣ S
  | [], c, h, _ => h
  | r :: l, c, h, hl => cbF_dvd l _ (Nat.lcm_dvd h (hl r List.mem_cons_self)) fun q hq => hl q (List.mem_cons_of_mem _ hq)
theorem nlog {b N : Nat} (h : b ≤ 2 ^ N) (hN : N ≤ 3000) : (((b : Nat) : Int)).natAbs.log2 < 9000 := by
  have := log_fit (b := (b : Nat)) (N := N) (by rw [Int.natAbs_natCast]; exact h) hN
  omega
def cbB : SF := setS 1 (opLF lcmL (consA (varF 1) (consA (varF 3) nilA)))
theorem cb_loop {N : Nat} {d : Option D} {st : Sto} : ∀ (l : List Rat) (c k : Nat) (x2 x3 : Option D), 0 < c → c ≤ 2 ^ k → (∀ r ∈ l, r.den ≤ 2 ^ N) → k + N * l.length ≤ 3000 → N ≤ 3000 →
    ∃ y2 y3, loopI (tupG 2 (consG (nameG 2) (consG (nameG 3) nilG))) cbB (l.map fr) [d, some (.int (c : Nat)), x2, x3] st = .nx [d, some (.int (cbF c l : Nat)), y2, y3] st
  | [], c, k, x2, x3, _, _, _, _, _ => ⟨x2, x3, rfl⟩
  | r :: l, c, k, x2, x3, h0, hk, h, hl, hN => by
    rw [List.length_cons, Nat.mul_add] at hl
    have d0 := r.den_pos
    have hd := h r List.mem_cons_self
    have p := Nat.lcm_pos h0 d0
    have le : c.lcm r.den ≤ 2 ^ (k + N) := by
      rw [Nat.pow_add]
      exact Nat.le_trans (Nat.le_of_dvd (Nat.mul_pos h0 d0) (Nat.lcm_dvd_mul _ _)) (Nat.mul_le_mul hk hd)
    obtain ⟨y2, y3, e⟩ := cb_loop (d := d) (st := st) l (c.lcm r.den) (k + N) (some (.int r.num)) (some (.int (r.den : Nat))) p le (fun q hq => h q (List.mem_cons_of_mem _ hq)) (by omega) hN
    refine ⟨y2, y3, ?_⟩
    rw [List.map_cons]
    show _ = SR.nx [d, some (.int (cbF (c.lcm r.den) l : Nat)), y2, y3] st
    rw [← e]
    refine loop_nx (en1 := [d, some (.int (c : Nat)), some (.int r.num), some (.int (r.den : Nat))]) rfl ?_
    unfold cbB
    refine set_ok (d := .int (c.lcm r.den : Nat)) (opLF_ok (ds := [.int (c : Nat), .int (r.den : Nat)]) (st1 := st) rfl ?_) (show 1 < 4 by decide) rfl
    show (if (((c : Nat) : Int)).natAbs.log2 < 9000 ∧ (((r.den : Nat) : Int)).natAbs.log2 < 9000 then some (D.int ((Nat.lcm (((c : Nat) : Int)).natAbs (((r.den : Nat) : Int)).natAbs : Nat) : Int), st) else none) = _
    rw [if_pos ⟨nlog hk (by omega), nlog hd hN⟩, Int.natAbs_natCast, Int.natAbs_natCast]
theorem common_is {N : Nat} {l : List Rat} {st : Sto} (h : ∀ r ∈ l, r.den ≤ 2 ^ N) (hl : N * l.length ≤ 3000) (hN : N ≤ 3000) : f_common_bottom [.lst (l.map fr)] st = .ok (.int (cb l : Nat)) st := by
  obtain ⟨y2, y3, e⟩ := cb_loop (d := some (.lst (l.map fr))) (st := st) l 1 0 none none (by decide) (by decide) h (by omega) hN
  refine fn_rt (en0 := [some (.lst (l.map fr)), none, none, none]) rfl ?_
  unfold b_common_bottom
  rw [step_set (d := .int ((1 : Nat) : Int)) (st' := st) (en' := [some (.lst (l.map fr)), some (.int ((1 : Nat) : Int)), none, none]) rfl (show 1 < 4 by decide) rfl]
  show seqS (forS (seqI (varF 0)) (tupG 2 (consG (nameG 2) (consG (nameG 3) nilG))) cbB) _ _ _ = _
  rw [step_of ((for_items rfl).trans e)]
  exact ret_ok rfl
end Lw

namespace Lw
open PySem PySem.Spec PyProof.Rows L2 Ev
/-! one equation -/
def mvR (m : Nat × Rat) : D := .tup [.int (m.1 : Nat), fr m.2]
def mm : List (Nat × Rat) → Nat → Rat
  | [], _ => 0
  | m :: r, j => (if m.1 = j then m.2 else 0) + mm r j
def rowS (b : Rat) (C : Nat) : List (Nat × Rat) → List Int → List Int
  | [], row => row
  | m :: ms, row => rowS b C ms (row.set m.1 (row.getD m.1 0 - b.num * m.2.num * (((C : Nat) : Int).fdiv (m.2.den : Nat))))
theorem rowS_len (b : Rat) (C : Nat) : ∀ (ms : List (Nat × Rat)) (row : List Int), (rowS b C ms row).length = row.length
  | [], _ => rfl
  | m :: ms, row => (rowS_len b C ms _).trans List.length_set
theorem fdiv_dvd {C d : Nat} (hd : 0 < d) (h : d ∣ C) : ∃ q : Nat, ((C : Nat) : Int).fdiv (d : Nat) = (q : Nat) ∧ C = d * q := by
  obtain ⟨q, rfl⟩ := h
  refine ⟨q, ?_, rfl⟩
  rw [Int.natCast_mul]
  exact Int.mul_fdiv_cancel_left _ (by omega)
theorem nat_int_rat (n : Nat) : (((n : Nat) : Int) : Rat) = ((n : Nat) : Rat) := rfl
theorem rowS_at {b : Rat} {C : Nat} : ∀ (ms : List (Nat × Rat)) (row : List Int) (j : Nat), (∀ m ∈ ms, m.1 < row.length ∧ m.2.den ∣ C) → ((rowS b C ms row).getD j 0 : Rat) = (row.getD j 0 : Rat) - b.num * ((C : Nat) : Rat) * mm ms j
  | [], row, j, _ => by
    show _ = _ - _ * (0 : Rat)
    show ((row.getD j 0 : Int) : Rat) = _
    grind
  | m :: ms, row, j, h => by
    obtain ⟨h1, h2⟩ := h m List.mem_cons_self
    have ih := rowS_at (b := b) (C := C) ms (row.set m.1 (row.getD m.1 0 - b.num * m.2.num * (((C : Nat) : Int).fdiv (m.2.den : Nat)))) j fun q hq => by
      have := h q (List.mem_cons_of_mem _ hq)
      rwa [List.length_set]
    show ((rowS b C ms _).getD j 0 : Rat) = _ - _ * ((if m.1 = j then m.2 else 0) + mm ms j)
    rw [ih]
    obtain ⟨q, e1, e2⟩ := fdiv_dvd m.2.den_pos h2
    rw [e1]
    have k := r_nd m.2
    have e3 : ((C : Nat) : Rat) = ((m.2.den : Nat) : Rat) * ((q : Nat) : Rat) := by rw [e2]; exact_mod_cast rfl
    by_cases e : m.1 = j
    · subst e
      rw [if_pos rfl]
      have : (row.set m.1 (row.getD m.1 0 - b.num * m.2.num * ((q : Nat) : Int))).getD m.1 0 = row.getD m.1 0 - b.num * m.2.num * ((q : Nat) : Int) := by
        simp [List.getD, List.getElem?_set_self h1]
      rw [this, Rat.intCast_sub, Rat.intCast_mul, Rat.intCast_mul, ← k, e3]
      have e4 : ((((q : Nat) : Int)) : Rat) = ((q : Nat) : Rat) := rfl
      have e5 : ((((m.2.den : Nat) : Int)) : Rat) = ((m.2.den : Nat) : Rat) := rfl
      rw [e4, e5]
      grind
    · rw [if_neg e]
      have : (row.set m.1 (row.getD m.1 0 - b.num * m.2.num * ((q : Nat) : Int))).getD j 0 = row.getD j 0 := by
        simp [List.getD, List.getElem?_set_ne e]
      rw [this]
      grind
theorem ixLD_r {ds : List D} {i : Int} {n : Nat} {d : D} {st : Sto} (hc : st[n]? = some (.lst ds)) (h : atD ds i = some d) : ixLD (.ref n) (.int i) st = some (d, st) := by
  have := ixD_r (st := st) (d := d) hc h
  exact this
theorem augSub_ok {op : O2} {o i e : EF} {en : En} {st st1 st2 st3 st4 : Sto} {n : Nat} {m : Int} {ds es : List D} {x y w : D} {q : Nat} (h1 : o en st = .ok (.ref n) st1) (h2 : i en st1 = .ok (.int m) st2) (hc : st2[n]? = some (.lst ds)) (hx : atD ds m = some x)
    (h3 : e en st2 = .ok y st3) (h4 : op x y st3 = some (w, st4)) (hc4 : st4[n]? = some (.lst es)) (hq : ixN es.length m = some q) : augSubS op o i e en st = .nx en (st4.set n (.lst (es.set q w))) := by
  unfold augSubS
  simp only [h1, h2, bindS_ok, ixLD_r hc hx, R.ofO, h3, h4, hc4, hq]
def eqnB : SF := (augSubS subD (varF 8) (varF 9) (op2F mulD (op2F mulD (varF 5) (op2F ixD (varF 10) (litF (.int 0)))) (op2F fdivD (varF 7) (op2F ixD (varF 10) (litF (.int 1))))))
theorem getD_map {l : List Int} {i : Nat} (h : i < l.length) : (l.map D.int)[i]? = some (.int (l.getD i 0)) := by
  rw [List.getElem?_map]
  simp [List.getD, List.getElem?_eq_getElem h]
theorem eq_loop {b : Rat} {C : Nat} {d0 d1 d2 d3 d4 d6 x11 : Option D} {st : Sto} (hb : Sz 8 b) (hC : C ≤ 2 ^ 200) : ∀ (ms : List (Nat × Rat)) (row : List Int) (x9 x10 : Option D), (∀ m ∈ ms, m.1 < row.length ∧ m.2.den ∣ C ∧ Sz 8 m.2) →
    ∃ y9 y10, loopI (tupG 2 (consG (nameG 9) (consG (nameG 10) nilG))) eqnB (ms.map mvR) [d0, d1, d2, d3, d4, some (.int b.num), d6, some (.int (C : Nat)), some (.ref st.length), x9, x10, x11] (st ++ [.lst (row.map .int)])
      = .nx [d0, d1, d2, d3, d4, some (.int b.num), d6, some (.int (C : Nat)), some (.ref st.length), y9, y10, x11] (st ++ [.lst ((rowS b C ms row).map .int)])
  | [], row, x9, x10, _ => ⟨x9, x10, rfl⟩
  | m :: ms, row, x9, x10, h => by
    obtain ⟨h1, h2, h3⟩ := h m List.mem_cons_self
    obtain ⟨q, e1, e2⟩ := fdiv_dvd m.2.den_pos h2
    obtain ⟨v, hv⟩ : ∃ v, row.getD m.1 0 - b.num * m.2.num * (((C : Nat) : Int).fdiv (m.2.den : Nat)) = v := ⟨_, rfl⟩
    obtain ⟨y9, y10, e⟩ := eq_loop (d0 := d0) (d1 := d1) (d2 := d2) (d3 := d3) (d4 := d4) (d6 := d6) (x11 := x11) (st := st) hb hC ms (row.set m.1 v) (some (.int (m.1 : Nat))) (some (fr m.2)) fun q hq => by
      have := h q (List.mem_cons_of_mem _ hq)
      rwa [List.length_set]
    refine ⟨y9, y10, ?_⟩
    rw [List.map_cons]
    show _ = SR.nx _ (st ++ [.lst ((rowS b C ms (row.set m.1 (row.getD m.1 0 - b.num * m.2.num * (((C : Nat) : Int).fdiv (m.2.den : Nat))))).map .int)])
    rw [hv, ← e]
    refine loop_nx (en1 := [d0, d1, d2, d3, d4, some (.int b.num), d6, some (.int (C : Nat)), some (.ref st.length), some (.int (m.1 : Nat)), some (fr m.2), x11]) rfl ?_
    have c0 : (st ++ [Cell.lst (row.map .int)])[st.length]? = some (.lst (row.map .int)) := by
      rw [List.getElem?_append_right (Nat.le_refl _), Nat.sub_self]
      rfl
    have q0 : q ≤ 2 ^ 200 := Nat.le_trans (by rw [e2]; exact Nat.le_mul_of_pos_left _ m.2.den_pos) hC
    unfold eqnB
    rw [augSub_ok (st2 := st ++ [.lst (row.map .int)]) (st4 := st ++ [.lst (row.map .int)]) (n := st.length) (m := (m.1 : Nat)) (ds := row.map .int) (es := row.map .int) (q := m.1) (w := .int v) (x := .int (row.getD m.1 0)) (y := .int (b.num * m.2.num * (((C : Nat) : Int).fdiv (m.2.den : Nat)))) rfl rfl c0 (atD_nat (getD_map h1))
      (op2F_ok (op2F_ok rfl (frNum rfl) (mulD_ii (mul_fit hb.1 h3.1 (by decide) (by decide)))) (op2F_ok (a := .int (C : Nat)) rfl (frDen rfl) (fdivD_ii (dn0 m.2) (nlog h3.2 (by decide)))) (mulD_ii (by
        rw [e1]
        exact mul_fit (le_pow hb.1 h3.1) (N := 16) (M := 200) (by rw [Int.natAbs_natCast]; exact q0) (by decide) (by decide)))) (by rw [subD_ii, hv]) c0 (ixN_nat (by rw [List.length_map]; exact h1))]
    have qq : (st ++ [Cell.lst (row.map .int)]).set st.length (.lst ((row.map D.int).set m.1 (.int v))) = st ++ [.lst ((row.set m.1 v).map .int)] := by
      rw [List.set_append_right _ _ (Nat.le_refl _), Nat.sub_self, List.map_set]
      rfl
    rw [qq]
def eqR (b : Rat) (place : Nat) (pay : Int) (ms : List (Nat × Rat)) (n : Nat) : List Int := rowS b (cb (ms.map (·.2))) ms ((List.replicate n 0).set place ((b.den : Nat) * (cb (ms.map (·.2)) : Nat))) ++ [(b.den : Nat) * (cb (ms.map (·.2)) : Nat) * pay]
theorem mulC_e {ds : List D} {j : Int} {st : Sto} (h1 : -(2 ^ 63) ≤ j) (h2 : j < 2 ^ 63) (h3 : ds.length * j.toNat ≤ sizeLine) : mulC (.lst ds) (.int j) st = some (.ref st.length, st ++ [.lst (List.replicate j.toNat ds).flatten]) := by
  have e : (decide (-(2 ^ 63) ≤ j) && decide (j < 2 ^ 63) && decide (ds.length * j.toNat ≤ sizeLine)) = true := by rw [decide_eq_true h1, decide_eq_true h2, decide_eq_true h3]; rfl
  unfold mulC
  exact if_pos e
theorem rep_flat (n : Nat) : (List.replicate n [D.int 0]).flatten = (List.replicate n (0 : Int)).map .int := by
  induction n with
  | zero => rfl
  | succ n ih =>
    rw [List.replicate_succ, List.flatten_cons, ih, List.replicate_succ]
    rfl
theorem mulC_zero {n : Nat} {st : Sto} (hn : n ≤ 1000) : mulC (.lst [.int 0]) (.int (n : Nat)) st = some (.ref st.length, st ++ [.lst ((List.replicate n (0 : Int)).map .int)]) := by
  have hs : sizeLine = 16777216 := sizeLine_eq
  have := mulC_e (ds := [.int 0]) (j := (n : Nat)) (st := st) (Int.le_trans (show -(2 ^ 63) ≤ (0 : Int) by decide) (Int.natCast_nonneg n)) (Int.lt_of_lt_of_le (show ((n : Nat) : Int) < 1001 by omega) (by decide)) (by rw [Int.toNat_natCast, List.length_singleton]; omega)
  rwa [Int.toNat_natCast, rep_flat] at this
theorem lc_snd {own : List Nat} {g : GF} {elt : EF} {it : IF} {en : En} {st : Sto} {ms : List (Nat × Rat)} (hi : it en st = .ok (.items (ms.map mvR)) st) (hl : ms.length ≤ 1000) (h : ∀ m : Nat × Rat, ∃ en1, g (mvR m) st (wipeE en own) = some en1 ∧ elt en1 st = .ok (fr m.2) st) :
    lcF own g yesT elt it en st = .ok (.lst ((ms.map (·.2)).map fr)) st := by
  refine lc_all (ds := ms.map mvR) (st1 := st) hi (by rw [List.length_map]; exact hl) ?_
  rw [List.map_map]
  exact lc_map (f := mvR) (φ := fr ∘ (·.2)) fun m _ => h m
theorem equation_is {b : Rat} {place n : Nat} {pay : Int} {ms : List (Nat × Rat)} {st : Sto} {P : Nat} (hp : place < n) (hn : n ≤ 10) (hl : ms.length ≤ 10) (hb : Sz 8 b) (hm : ∀ m ∈ ms, m.1 < n ∧ Sz 8 m.2) (hP : P ≤ 1000) (hpay : pay.natAbs ≤ 2 ^ P) :
    f_equation [fr b, .int (place : Nat), .int pay, .lst (ms.map mvR), .int (n : Nat)] st = .ok (.lst ((eqR b place pay ms n).map .int)) st := by
  obtain ⟨C, hC⟩ : ∃ C, cb (ms.map (·.2)) = C := ⟨_, rfl⟩
  obtain ⟨c0, -, c2, c3⟩ := cbF_spec (N := 8) (ms.map (·.2)) 1 0 (by decide) (by decide) fun r hr => by
    obtain ⟨m, hm1, rfl⟩ := List.mem_map.mp hr
    exact (hm m hm1).2.2
  have c0 : 0 < C := by rw [← hC]; exact c0
  have c3 : C ≤ 2 ^ 80 := by
    rw [← hC]
    refine Nat.le_trans c3 (Nat.pow_le_pow_right (by decide) ?_)
    rw [List.length_map]
    omega
  have c2 : ∀ m ∈ ms, m.2.den ∣ C := fun m h => by rw [← hC]; exact c2 _ (List.mem_map.mpr ⟨m, h, rfl⟩)
  have cn : (((C : Nat) : Int)).natAbs ≤ 2 ^ 80 := by rw [Int.natAbs_natCast]; exact c3
  have k1 : mulOk (b.den : Nat) (C : Nat) = true := mul_fit hb.den cn (by decide) (by decide)
  have k2 : mulOk ((b.den : Nat) * (C : Nat) : Int) pay = true := mul_fit (le_pow hb.den cn) hpay (by decide) (by omega)
  obtain ⟨y9, y10, e⟩ := eq_loop (d0 := some (fr b)) (d1 := some (.int (place : Nat))) (d2 := some (.int pay)) (d3 := some (.lst (ms.map mvR))) (d4 := some (.int (n : Nat))) (d6 := some (.int (b.den : Nat))) (x11 := none) (st := st) hb (Nat.le_trans c3 (Nat.pow_le_pow_right (by decide) (by decide))) ms ((List.replicate n 0).set place ((b.den : Nat) * (C : Nat))) none none fun m h => ⟨by simp; exact (hm m h).1, c2 m h, (hm m h).2⟩
  refine fnZ_c (en0 := [some (fr b), some (.int (place : Nat)), some (.int pay), some (.lst (ms.map mvR)), some (.int (n : Nat)), none, none, none, none, none, none, none]) (ex := []) rfl ?_ (refBs_ints _ _)
  unfold b_equation
  rw [step_asg (d := fr b) (st' := st) (en' := [some (fr b), some (.int (place : Nat)), some (.int pay), some (.lst (ms.map mvR)), some (.int (n : Nat)), some (.int b.num), some (.int (b.den : Nat)), none, none, none, none, none]) rfl rfl]
  rw [step_set (d := .int (C : Nat)) (st' := st) (en' := [some (fr b), some (.int (place : Nat)), some (.int pay), some (.lst (ms.map mvR)), some (.int (n : Nat)), some (.int b.num), some (.int (b.den : Nat)), some (.int (C : Nat)), none, none, none, none]) (call1 (x := .lst ((ms.map (·.2)).map fr)) (st1 := st) (lc_snd (ms := ms) rfl (by omega) fun m => ⟨_, rfl, rfl⟩) (by
    rw [← hC]
    refine common_is (N := 8) (fun r hr => ?_) (by rw [List.length_map]; omega) (by decide)
    obtain ⟨m, hm1, rfl⟩ := List.mem_map.mp hr
    exact (hm m hm1).2.2)) (show 7 < 12 by decide) rfl]
  rw [step_set (d := .ref st.length) (st' := st ++ [.lst ((List.replicate n (0 : Int)).map .int)]) (en' := [some (fr b), some (.int (place : Nat)), some (.int pay), some (.lst (ms.map mvR)), some (.int (n : Nat)), some (.int b.num), some (.int (b.den : Nat)), some (.int (C : Nat)), some (.ref st.length), none, none, none]) (op2F_ok (a := .lst [.int 0]) (b := .int (n : Nat)) (st1 := st) (st2 := st) rfl rfl (mulC_zero (by omega))) (show 8 < 12 by decide) rfl]
  have q0 : (st ++ [Cell.lst ((List.replicate n (0 : Int)).map .int)])[st.length]? = some (.lst ((List.replicate n (0 : Int)).map .int)) := by
    rw [List.getElem?_append_right (Nat.le_refl _), Nat.sub_self]
    rfl
  rw [step_of (sub_ok (d := .int ((b.den : Nat) * (C : Nat))) (st1 := st ++ [.lst ((List.replicate n (0 : Int)).map .int)]) (st3 := st ++ [.lst ((List.replicate n (0 : Int)).map .int)]) (n := st.length) (m := (place : Nat)) (q := place) (op2F_ok (a := .int (b.den : Nat)) (b := .int (C : Nat)) rfl rfl (mulD_ii k1)) rfl rfl q0 (ixN_nat (by simp; exact hp)))]
  have q1 : (st ++ [Cell.lst ((List.replicate n (0 : Int)).map .int)]).set st.length (.lst (((List.replicate n (0 : Int)).map D.int).set place (.int ((b.den : Nat) * (C : Nat))))) = st ++ [.lst (((List.replicate n (0 : Int)).set place ((b.den : Nat) * (C : Nat))).map .int)] := by
    rw [List.set_append_right _ _ (Nat.le_refl _), Nat.sub_self, List.map_set]
    rfl
  rw [q1]
  show seqS (forS (seqI (varF 3)) (tupG 2 (consG (nameG 9) (consG (nameG 10) nilG))) eqnB) _ _ _ = _
  rw [step_of ((for_items rfl).trans e)]
  obtain ⟨row, hr⟩ : ∃ row, rowS b C ms ((List.replicate n (0 : Int)).set place ((b.den : Nat) * (C : Nat))) = row := ⟨_, rfl⟩
  have rl : row.length = n := by rw [← hr, rowS_len, List.length_set, List.length_replicate]
  rw [hr]
  have q2 : (st ++ [Cell.lst (row.map .int)])[st.length]? = some (.lst (row.map .int)) := by
    rw [List.getElem?_append_right (Nat.le_refl _), Nat.sub_self]
    rfl
  rw [step_expr (app_ok (i := 8) (e := st.length) (d := .int ((b.den : Nat) * (C : Nat) * pay)) (es := row.map .int) (es1 := row.map .int) (st1 := st ++ [.lst (row.map .int)]) rfl q2 (op2F_ok (op2F_ok (a := .int (b.den : Nat)) (b := .int (C : Nat)) rfl rfl (mulD_ii k1)) (b := .int pay) rfl (mulD_ii k2)) q2 (by rw [List.length_map]; omega))]
  have q3 : (st ++ [Cell.lst (row.map .int)]).set st.length (.lst (row.map D.int ++ [.int ((b.den : Nat) * (C : Nat) * pay)])) = st ++ [.lst ((eqR b place pay ms n).map .int)] := by
    rw [List.set_append_right _ _ (Nat.le_refl _), Nat.sub_self]
    unfold eqR
    rw [hC, hr, List.map_append]
    rfl
  rw [q3]
  exact ret_ok rfl
end Lw

namespace Lw
open PySem PySem.Spec PyProof.Rows L2 Ev
/-! elimination -/
def rwD (r : List Int) : D := .lst (r.map .int)
def wo (k : Nat) (d : Int) (row ch : List Int) : List Int := List.zipWith (fun x y => (ch.getD k 0 * x - row.getD k 0 * y).fdiv d) row ch
theorem refB_rw (n : Nat) (r : List Int) : refB n (rwD r) = true := by
  unfold rwD refB
  exact refBs_ints n r
theorem refBs_rws (n : Nat) : ∀ rs : List (List Int), refBs n (rs.map rwD) = true
  | [] => rfl
  | r :: rs => by
    rw [List.map_cons]
    unfold refBs
    rw [refB_rw, refBs_rws n rs]
    rfl
theorem zip_ints : ∀ (a b : List Int), zipF (a.map .int) (b.map .int) = (a.zip b).map fun p : Int × Int => D.tup [.int p.1, .int p.2]
  | [], _ => rfl
  | _ :: _, [] => rfl
  | x :: a, y :: b => by
    show D.tup [.int x, .int y] :: zipF (a.map .int) (b.map .int) = _
    rw [zip_ints a b]
    rfl
theorem wo_zip (k : Nat) (d : Int) (row ch : List Int) : ∀ (a b : List Int), List.zipWith (fun x y => (ch.getD k 0 * x - row.getD k 0 * y).fdiv d) a b = (a.zip b).map fun p : Int × Int => (ch.getD k 0 * p.1 - row.getD k 0 * p.2).fdiv d
  | [], _ => rfl
  | _ :: _, [] => rfl
  | x :: a, y :: b => by
    show _ :: List.zipWith _ a b = _
    rw [wo_zip k d row ch a b]
    rfl
def Bd (N : Nat) (l : List Int) : Prop := ∀ x ∈ l, x.natAbs ≤ 2 ^ N
theorem Bd.at {N : Nat} {l : List Int} (h : Bd N l) (i : Nat) : (l.getD i 0).natAbs ≤ 2 ^ N := by
  by_cases hi : i < l.length
  · rw [List.getD_eq_getElem?_getD, List.getElem?_eq_getElem hi]
    exact h _ (List.getElem_mem hi)
  · rw [List.getD_eq_getElem?_getD, List.getElem?_eq_none (by omega)]
    exact Nat.zero_le _
theorem without_is {row ch : List Int} {k N : Nat} {d : Int} {st : Sto} (h1 : k < row.length) (h2 : k < ch.length) (hd : d ≠ 0) (b1 : Bd N row) (b2 : Bd N ch) (b3 : d.natAbs ≤ 2 ^ N) (hN : N ≤ 3000) (hl : row.length ≤ 1000) :
    f_without [rwD row, rwD ch, .int (k : Nat), .int d] st = .ok (rwD (wo k d row ch)) st := by
  refine fnZ_d (ex := []) (en0 := [some (rwD row), some (rwD ch), some (.int (k : Nat)), some (.int d), none, none, none, none]) rfl ?_ (refB_rw _ _)
  rw [List.append_nil]
  unfold b_without
  rw [step_set (d := .int (ch.getD k 0)) (st' := st) (en' := [some (rwD row), some (rwD ch), some (.int (k : Nat)), some (.int d), some (.int (ch.getD k 0)), none, none, none]) (op2F_ok (a := rwD ch) (b := .int (k : Nat)) (st1 := st) (st2 := st) rfl rfl (ixD_l (atD_nat (getD_map h2)))) (show 4 < 8 by decide) rfl]
  rw [step_set (d := .int (row.getD k 0)) (st' := st) (en' := [some (rwD row), some (rwD ch), some (.int (k : Nat)), some (.int d), some (.int (ch.getD k 0)), some (.int (row.getD k 0)), none, none]) (op2F_ok (a := rwD row) (b := .int (k : Nat)) (st1 := st) (st2 := st) rfl rfl (ixD_l (atD_nat (getD_map h1)))) (show 5 < 8 by decide) rfl]
  refine ret_ok ?_
  have hi : zipI (consA (varF 0) (consA (varF 1) nilA)) [some (rwD row), some (rwD ch), some (.int (k : Nat)), some (.int d), some (.int (ch.getD k 0)), some (.int (row.getD k 0)), none, none] st = .ok (.items ((row.zip ch).map fun p : Int × Int => D.tup [.int p.1, .int p.2])) st := by
    rw [← zip_ints]
    rfl
  refine (lc_all hi (by rw [List.length_map, List.length_zip]; omega) (ys := (wo k d row ch).map .int) ?_)
  unfold wo
  rw [wo_zip, List.map_map]
  refine lc_map fun p hp => ⟨[some (rwD row), some (rwD ch), some (.int (k : Nat)), some (.int d), some (.int (ch.getD k 0)), some (.int (row.getD k 0)), some (.int p.1), some (.int p.2)], rfl, ?_⟩
  have m := List.of_mem_zip (a := p.1) (b := p.2) hp
  exact op2F_ok (op2F_ok (op2F_ok (a := .int (ch.getD k 0)) (b := .int p.1) rfl rfl (mulD_ii (mul_fit (b2.at k) (b1 _ m.1) hN hN))) (op2F_ok (a := .int (row.getD k 0)) (b := .int p.2) rfl rfl (mulD_ii (mul_fit (b1.at k) (b2 _ m.2) hN hN))) subD_ii) (b := .int d) rfl (fdivD_ii hd (by have := log_fit b3 hN; omega))
def stepL (k : Nat) (d : Int) (ch : List Int) : Nat → List (List Int) → List (List Int)
  | _, [] => []
  | i, r :: rs => (if i = k then ch else wo k d r ch) :: stepL k d ch (i + 1) rs
abbrev EAn (d0 x1 : Option D) (d : Int) (k : Nat) (ch : List Int) (x5 x6 : Option D) : En := [d0, x1, some (.int d), some (.int (k : Nat)), some (rwD ch), x5, x6]
def eaElt : EF := (ifeF (boolF (op2F eqD (varF 5) (varF 3))) (varF 4) (callF 4 f_without (consA (varF 6) (consA (varF 4) (consA (varF 3) (consA (varF 2) nilA))))))
theorem call4 {F : List D → Sto → R D} {f g h j : EF} {x y z u d : D} {en : En} {st st1 st2 st3 st4 st5 : Sto} (h1 : f en st = .ok x st1) (h2 : g en st1 = .ok y st2) (h3 : h en st2 = .ok z st3) (h4 : j en st3 = .ok u st4) (hF : F [x, y, z, u] st4 = .ok d st5) : callF 4 F (consA f (consA g (consA h (consA j nilA)))) en st = .ok d st5 := callF_ok (n := 4) (ds := [x, y, z, u]) (consA_ok h1 (consA_ok h2 (consA_ok h3 (consA_ok h4 nilA_e)))) rfl hF
theorem elt_ok {d0 x1 : Option D} {d : Int} {k i N w : Nat} {ch r : List Int} {st : Sto} (hk : k < w) (hc : ch.length = w) (hr : r.length = w) (hd : d ≠ 0) (b1 : Bd N r) (b2 : Bd N ch) (b3 : d.natAbs ≤ 2 ^ N) (hN : N ≤ 3000) (hw : w ≤ 1000) :
    eaElt (EAn d0 x1 d k ch (some (.int (i : Nat))) (some (rwD r))) st = .ok (rwD (if i = k then ch else wo k d r ch)) st := by
  unfold eaElt
  have e : boolF (op2F eqD (varF 5) (varF 3)) (EAn d0 x1 d k ch (some (.int (i : Nat))) (some (rwD r))) st = .ok (((i : Nat) : Int) == ((k : Nat) : Int)) st := by
    rw [boolF_e, op2F_ok (a := .int (i : Nat)) (b := .int (k : Nat)) (st1 := st) (st2 := st) rfl rfl eqD_ii]
    rfl
  rw [ifeF_e, e]
  show (if (((i : Nat) : Int) == ((k : Nat) : Int)) = true then _ else _) = _
  by_cases h : i = k
  · subst h
    rw [if_pos (by simp), if_pos rfl]
    rfl
  · rw [if_neg (by simp; omega), if_neg h]
    exact call4 (x := rwD r) (y := rwD ch) (z := .int (k : Nat)) (u := .int d) rfl rfl rfl rfl (without_is (by omega) (by omega) hd b1 b2 b3 hN (by omega))
theorem ea_items {d0 x1 x5 x6 : Option D} {d : Int} {k N w : Nat} {ch : List Int} {st : Sto} (hk : k < w) (hc : ch.length = w) (hd : d ≠ 0) (b2 : Bd N ch) (b3 : d.natAbs ≤ 2 ^ N) (hN : N ≤ 3000) (hw : w ≤ 1000) : ∀ (rs : List (List Int)) (i : Nat), (∀ r ∈ rs, r.length = w ∧ Bd N r) →
    lcI [5, 6] (tupG 2 (consG (nameG 5) (consG (nameG 6) nilG))) yesT eaElt (enumF i (rs.map rwD)) (EAn d0 x1 d k ch x5 x6) st = .ok ((stepL k d ch i rs).map rwD) st
  | [], i, _ => rfl
  | r :: rs, i, h => by
    obtain ⟨h1, h2⟩ := h r List.mem_cons_self
    have ih := ea_items (d0 := d0) (x1 := x1) (x5 := x5) (x6 := x6) (st := st) hk hc hd b2 b3 hN hw rs (i + 1) fun q hq => h q (List.mem_cons_of_mem _ hq)
    exact lc_one (en1 := EAn d0 x1 d k ch (some (.int (i : Nat))) (some (rwD r))) rfl (elt_ok hk hc h1 hd h2 b2 b3 hN hw) ih
theorem ea_dyn {d0 x1 x5 x6 : Option D} {d : Int} {e k N w : Nat} {ch : List Int} {st : Sto} {all : List (List Int)} (he : st[e]? = some (.lst (all.map rwD))) (hk : k < w) (hc : ch.length = w) (hd : d ≠ 0) (b2 : Bd N ch) (b3 : d.natAbs ≤ 2 ^ N) (hN : N ≤ 3000) (hw : w ≤ 1000) (h : ∀ r ∈ all, r.length = w ∧ Bd N r) : ∀ (rs : List (List Int)) (i fuel : Nat), all.drop i = rs → rs.length < fuel →
    lcY [5, 6] (tupG 2 (consG (nameG 5) (consG (nameG 6) nilG))) yesT eaElt (enumNx e) fuel i (EAn d0 x1 d k ch x5 x6) st = .ok ((stepL k d ch i rs).map rwD) st
  | [], i, 0, _, hf => absurd hf (by simp)
  | [], i, fuel + 1, hr, _ => by
    have hi : all.length ≤ i := by simpa using hr
    unfold lcY
    have : enumNx e i st = some none := by
      unfold enumNx
      simp only [he]
      rw [List.getElem?_eq_none (by rw [List.length_map]; exact hi)]
      rfl
    rw [this]
    rfl
  | r :: rs, i, 0, _, hf => absurd hf (by simp)
  | r :: rs, i, fuel + 1, hr, hf => by
    have hi : i < all.length := by
      rcases Nat.lt_or_ge i all.length with q | q
      · exact q
      · rw [List.drop_eq_nil_of_le q] at hr
        cases hr
    have e1 : all[i] = r ∧ all.drop (i + 1) = rs := by
      rw [List.drop_eq_getElem_cons hi] at hr
      injection hr with a b
      exact ⟨a, b⟩
    obtain ⟨h1, h2⟩ := h r (by rw [← e1.1]; exact List.getElem_mem hi)
    have ih := ea_dyn (d0 := d0) (x1 := x1) (x5 := x5) (x6 := x6) he hk hc hd b2 b3 hN hw h rs (i + 1) fuel e1.2 (by rw [List.length_cons] at hf; omega)
    unfold lcY
    have : enumNx e i st = some (some (.tup [.int (i : Nat), rwD r])) := by
      unfold enumNx
      simp only [he]
      rw [List.getElem?_map, List.getElem?_eq_getElem hi, e1.1]
      rfl
    rw [this]
    show (match eaElt (EAn d0 x1 d k ch (some (.int (i : Nat))) (some (rwD r))) st with
      | .ok y st2 => (lcY _ _ yesT eaElt (enumNx e) fuel (i + 1) (EAn d0 x1 d k ch x5 x6) st2).bind fun ys st3 => .ok (y :: ys) st3
      | _ => .bad) = _
    rw [elt_ok hk hc h1 hd h2 b2 b3 hN hw]
    show (lcY _ _ yesT eaElt (enumNx e) fuel (i + 1) (EAn d0 x1 d k ch x5 x6) st).bind _ = _
    rw [ih]
    rfl
end Lw

namespace Lw
open PySem PySem.Spec PyProof.Rows L2 Ev
def Mx (rows : List (List Int)) : Dt.M := fun i j => (rows.getD i []).getD j 0
theorem stepL_len (k : Nat) (d : Int) (ch : List Int) : ∀ (rs : List (List Int)) (i : Nat), (stepL k d ch i rs).length = rs.length
  | [], _ => rfl
  | r :: rs, i => congrArg (· + 1) (stepL_len k d ch rs (i + 1))
theorem stepL_get (k : Nat) (d : Int) (ch : List Int) : ∀ (rs : List (List Int)) (i j : Nat), j < rs.length → (stepL k d ch i rs).getD j [] = if i + j = k then ch else wo k d (rs.getD j []) ch
  | [], _, _, h => absurd h (by simp)
  | r :: rs, i, 0, _ => rfl
  | r :: rs, i, j + 1, h => by
    have := stepL_get k d ch rs (i + 1) j (by simpa using h)
    show (stepL k d ch (i + 1) rs).getD j [] = if i + (j + 1) = k then ch else wo k d (rs.getD j []) ch
    rw [this, show i + 1 + j = i + (j + 1) from by omega]
theorem wo_len {k : Nat} {d : Int} {row ch : List Int} {w : Nat} (h1 : row.length = w) (h2 : ch.length = w) : (wo k d row ch).length = w := by
  unfold wo
  rw [List.length_zipWith]
  omega
theorem wo_get {k : Nat} {d : Int} {row ch : List Int} {w j : Nat} (h1 : row.length = w) (h2 : ch.length = w) (hj : j < w) : (wo k d row ch).getD j 0 = (ch.getD k 0 * row.getD j 0 - row.getD k 0 * ch.getD j 0).fdiv d := by
  unfold wo
  simp only [List.getD_eq_getElem?_getD, List.getElem?_zipWith]
  rw [List.getElem?_eq_getElem (show j < row.length by omega), List.getElem?_eq_getElem (show j < ch.length by omega)]
  rfl
structure Rs (n : Nat) (N : Nat) (rows : List (List Int)) : Prop where
  len : rows.length = n
  row : ∀ r ∈ rows, r.length = n + 1 ∧ Bd N r
theorem getD_mem {rows : List (List Int)} {i : Nat} (h : i < rows.length) : rows.getD i [] ∈ rows := by
  rw [List.getD_eq_getElem?_getD, List.getElem?_eq_getElem h]
  exact List.getElem_mem h
theorem Rs.of {n N : Nat} {rows : List (List Int)} (h1 : rows.length = n) (h2 : ∀ r ∈ rows, r.length = n + 1) (h3 : ∀ i j, i < n → j < n + 1 → (Mx rows i j).natAbs ≤ 2 ^ N) : Rs n N rows := by
  refine ⟨h1, fun r hr => ⟨h2 r hr, fun x hx => ?_⟩⟩
  obtain ⟨i, hi, rfl⟩ := List.getElem_of_mem hr
  obtain ⟨j, hj, rfl⟩ := List.getElem_of_mem hx
  have := h3 i j (by omega) (by have := h2 _ hr; omega)
  unfold Mx at this
  rw [List.getD_eq_getElem?_getD, List.getD_eq_getElem?_getD, List.getElem?_eq_getElem hi] at this
  simpa [List.getElem?_eq_getElem hj] using this
theorem step_mx {n N k : Nat} {d : Int} {rows : List (List Int)} (hR : Rs n N rows) (hk : k < n) {i j : Nat} (hi : i < n) (hj : j < n + 1) : Mx (stepL k d (rows.getD k []) 0 rows) i j = if i = k then Mx rows k j else (Dt.num k (Mx rows) i j).fdiv d := by
  unfold Mx
  rw [stepL_get _ _ _ _ _ _ (by rw [hR.len]; exact hi), Nat.zero_add]
  by_cases e : i = k
  · rw [if_pos e, if_pos e]
  · rw [if_neg e, if_neg e, wo_get (w := n + 1) (hR.row _ (getD_mem (by rw [hR.len]; exact hi))).1 (hR.row _ (getD_mem (by rw [hR.len]; exact hk))).1 hj]
    rfl
theorem step_bst {n N k : Nat} {A : Dt.M} {d : Int} {rows : List (List Int)} (hR : Rs n N rows) (hk : k < n) (B : Dt.Bst n (n + 1) k A (Mx rows) d) (inj : Dt.Inj n A) : Dt.Bst n (n + 1) (k + 1) A (Mx (stepL k d (rows.getD k []) 0 rows)) (Mx rows k k) := by
  refine B.next hk (by omega) inj (fun j hj => by rw [step_mx hR hk hk hj, if_pos rfl]) fun i j hi hj hn => ?_
  rw [step_mx hR hk hi hj, if_neg hn]
  obtain ⟨q, hq⟩ := B.dvd hk (by omega) inj hi hj hn
  rw [hq, Int.mul_fdiv_cancel_left _ B.d0]
theorem step_rs {n N k K : Nat} {A : Dt.M} {d : Int} {rows : List (List Int)} (hR : Rs n N rows) (hk : k < n) (B : Dt.Bst n (n + 1) (k + 1) A (Mx (stepL k d (rows.getD k []) 0 rows)) (Mx rows k k)) (hA : ∀ r, r < n → (Dt.S (n + 1) fun c => ((A r c).natAbs : Int)) ≤ ((2 ^ K : Nat) : Int)) (hN : (K + 1) * (n + 1) ≤ N) : Rs n N (stepL k d (rows.getD k []) 0 rows) ∧ (Mx rows k k).natAbs ≤ 2 ^ N := by
  obtain ⟨s1, s2⟩ := B.size (by omega) hA (by omega)
  have up : ∀ m, m ≤ n + 1 → (2 * 2 ^ K) ^ m ≤ 2 ^ N := fun m hm => by
    rw [show 2 * 2 ^ K = 2 ^ (K + 1) from by rw [Nat.pow_succ, Nat.mul_comm], ← Nat.pow_mul]
    exact Nat.pow_le_pow_right (by decide) (Nat.le_trans (Nat.mul_le_mul_left _ hm) hN)
  have s2' : ∀ i j, i < n → j < n + 1 → (Mx (stepL k d (rows.getD k []) 0 rows) i j).natAbs ≤ 2 ^ N := fun i j hi hj => by
    by_cases e : k + 1 = n
    · have := s2 i j hi hj
      rcases this with h | ⟨_, h⟩
      · exact Nat.le_trans h (up _ (by omega))
      · exact Nat.le_trans h (up _ (by omega))
    · rcases s2 i j hi hj with h | ⟨_, h⟩
      · exact Nat.le_trans h (up _ (by omega))
      · exact Nat.le_trans h (up _ (by omega))
  refine ⟨Rs.of (by rw [stepL_len, hR.len]) (fun r hr => ?_) s2', Nat.le_trans s1 (up _ (by omega))⟩
  obtain ⟨i, hi, rfl⟩ := List.getElem_of_mem hr
  rw [stepL_len, hR.len] at hi
  have := stepL_get k d (rows.getD k []) rows 0 i (by rw [hR.len]; exact hi)
  rw [List.getD_eq_getElem?_getD, List.getElem?_eq_getElem (by rw [stepL_len, hR.len]; exact hi)] at this
  have e2 : ∀ {l : List Int}, (some l).getD [] = l := rfl
  rw [e2] at this
  rw [this]
  have ck := (hR.row _ (getD_mem (i := k) (by rw [hR.len]; exact hk))).1
  split
  · exact ck
  · exact wo_len (hR.row _ (getD_mem (by rw [hR.len]; exact hi))).1 ck
/-! the def -/
def eaB : SF := (seqS (setS 4 (op2F ixD (varF 1) (varF 3)))
 (seqS (setS 1 (lcF [5, 6] (tupG 2 (consG (nameG 5) (consG (nameG 6) nilG))) yesT eaElt (enumAI (consA (varF 1) nilA))))
 (setS 2 (op2F ixD (varF 4) (varF 3)))))
def Rv (st : Sto) (X : D) (rows : List (List Int)) : Prop := X = .lst (rows.map rwD) ∨ ∃ e, X = .ref e ∧ st[e]? = some (.lst (rows.map rwD))
theorem Rv.ix {st : Sto} {X : D} {rows : List (List Int)} (h : Rv st X rows) {k : Nat} (hk : k < rows.length) : ixD X (.int (k : Nat)) st = some (rwD (rows.getD k []), st) := by
  have e : (rows.map rwD)[k]? = some (rwD (rows.getD k [])) := by
    rw [List.getElem?_map, List.getD_eq_getElem?_getD, List.getElem?_eq_getElem hk]
    rfl
  rcases h with rfl | ⟨e1, rfl, hc⟩
  · exact ixD_l (atD_nat e)
  · exact ixD_r hc (atD_nat e)
theorem ea_body {n N k : Nat} {d0 x4 x5 x6 : Option D} {d : Int} {X : D} {rows : List (List Int)} {st : Sto} (hR : Rs n N rows) (hk : k < n) (hn : n ≤ 100) (hX : Rv st X rows) (hd : d ≠ 0) (b3 : d.natAbs ≤ 2 ^ N) (hN : N ≤ 3000) :
    eaB [d0, some X, some (.int d), some (.int (k : Nat)), x4, x5, x6] st = .nx [d0, some (.lst ((stepL k d (rows.getD k []) 0 rows).map rwD)), some (.int (Mx rows k k)), some (.int (k : Nat)), some (rwD (rows.getD k [])), x5, x6] st := by
  have hkl : k < rows.length := by rw [hR.len]; exact hk
  obtain ⟨c1, c2⟩ := hR.row _ (getD_mem hkl)
  unfold eaB
  rw [step_set (d := rwD (rows.getD k [])) (st' := st) (en' := [d0, some X, some (.int d), some (.int (k : Nat)), some (rwD (rows.getD k [])), x5, x6]) (op2F_ok (a := X) (b := .int (k : Nat)) (st1 := st) (st2 := st) rfl rfl (hX.ix hkl)) (show 4 < 7 by decide) rfl]
  have main : lcF [5, 6] (tupG 2 (consG (nameG 5) (consG (nameG 6) nilG))) yesT eaElt (enumAI (consA (varF 1) nilA)) [d0, some X, some (.int d), some (.int (k : Nat)), some (rwD (rows.getD k [])), x5, x6] st = .ok (.lst ((stepL k d (rows.getD k []) 0 rows).map rwD)) st := by
    rcases hX with rfl | ⟨e, rfl, hc⟩
    · refine lc_all (ds := enumF 0 (rows.map rwD)) (st1 := st) rfl (by rw [enumF_length, List.length_map, hR.len]; omega) ?_
      exact ea_items (by omega) c1 hd c2 b3 hN (by omega) rows 0 hR.row
    · have hi : enumAI (consA (varF 1) nilA) [d0, some (.ref e), some (.int d), some (.int (k : Nat)), some (rwD (rows.getD k [])), x5, x6] st = .ok (.dyn 99999 (enumNx e)) st := by
        show (match st[e]? with
          | some (.lst _) => R.ok (ItD.dyn 99999 (enumNx e)) st
          | _ => .bad) = _
        rw [hc]
      unfold lcF lcG
      rw [hi]
      show R.bind (if 99999 < 1000000 then lcY _ _ yesT eaElt (enumNx e) 99999 0 _ st else .bad) _ = _
      rw [if_pos (by decide), ea_dyn hc (by omega) c1 hd c2 b3 hN (by omega) hR.row rows 0 99999 rfl (by rw [hR.len]; omega)]
      rfl
  rw [step_set (st' := st) (en' := [d0, some (.lst ((stepL k d (rows.getD k []) 0 rows).map rwD)), some (.int d), some (.int (k : Nat)), some (rwD (rows.getD k [])), x5, x6]) main (show 1 < 7 by decide) rfl]
  exact set_ok (op2F_ok (a := rwD (rows.getD k [])) (b := .int (k : Nat)) (st1 := st) (st2 := st) rfl rfl (ixD_l (atD_nat (getD_map (by omega))))) (show 2 < 7 by decide) rfl
theorem ea_loop {n N K : Nat} {A : Dt.M} {d0 : Option D} {st : Sto} (hn : n ≤ 100) (hN : N ≤ 3000) (inj : Dt.Inj n A) (hA : ∀ r, r < n → (Dt.S (n + 1) fun c => ((A r c).natAbs : Int)) ≤ ((2 ^ K : Nat) : Int)) (hK : (K + 1) * (n + 1) ≤ N) : ∀ (m k : Nat) (X : D) (rows : List (List Int)) (d : Int) (x3 x4 x5 x6 : Option D), k + m = n → Rv st X rows → Rs n N rows → Dt.Bst n (n + 1) k A (Mx rows) d → d.natAbs ≤ 2 ^ N →
    ∃ (Y : D) (rows' : List (List Int)) (d' : Int) (y3 y4 y5 y6 : Option D), loopI (nameG 3) eaB ((List.range' k m).map fun i : Nat => D.int (i : Nat)) [d0, some X, some (.int d), x3, x4, x5, x6] st = .nx [d0, some Y, some (.int d'), y3, y4, y5, y6] st ∧ Rv st Y rows' ∧ (0 < m → Y = .lst (rows'.map rwD)) ∧ Rs n N rows' ∧ Dt.Bst n (n + 1) n A (Mx rows') d' ∧ d'.natAbs ≤ 2 ^ N
  | 0, k, X, rows, d, x3, x4, x5, x6, hk, hX, hR, B, hd => ⟨X, rows, d, x3, x4, x5, x6, rfl, hX, fun h => absurd h (by decide), hR, (show k = n by omega) ▸ B, hd⟩
  | m + 1, k, X, rows, d, x3, x4, x5, x6, hk, hX, hR, B, hd => by
    have hkn : k < n := by omega
    have B' := step_bst hR hkn B inj
    obtain ⟨R', d2⟩ := step_rs hR hkn B' hA hK
    obtain ⟨Y, rows', d', y3, y4, y5, y6, e, h1, h2, h3, h4, h5⟩ := ea_loop (d0 := d0) (st := st) hn hN inj hA hK m (k + 1) (.lst ((stepL k d (rows.getD k []) 0 rows).map rwD)) (stepL k d (rows.getD k []) 0 rows) (Mx rows k k) (some (.int (k : Nat))) (some (rwD (rows.getD k []))) x5 x6 (by omega) (.inl rfl) R' B' d2
    refine ⟨Y, rows', d', y3, y4, y5, y6, ?_, h1, fun _ => ?_, h3, h4, h5⟩
    · rw [List.range'_succ, List.map_cons, ← e]
      exact loop_nx (en1 := [d0, some X, some (.int d), some (.int (k : Nat)), x4, x5, x6]) rfl (ea_body hR hkn hn hX B.d0 hd hN)
    · cases m with
      | zero =>
        have e : SR.nx [d0, some (D.lst ((stepL k d (rows.getD k []) 0 rows).map rwD)), some (.int (Mx rows k k)), some (.int (k : Nat)), some (rwD (rows.getD k [])), x5, x6] st = .nx [d0, some Y, some (.int d'), y3, y4, y5, y6] st := e
        injection e with e _
        injection e with _ e
        injection e with e _
        injection e with e
        rcases h1 with h1 | ⟨e1, h1, _⟩
        · exact h1
        · rw [h1] at e
          cases e
      | succ m => exact h2 (by omega)
theorem rangeD_r (n : Nat) : rangeD 0 n = (List.range' 0 n).map fun i : Nat => D.int (i : Nat) := by
  unfold rangeD
  rw [List.range_eq_range']
  refine List.map_congr_left fun i _ => ?_
  rw [Int.zero_add]
theorem each_alone_is {n N K e : Nat} {eqs : List (List Int)} {st : Sto} (hn1 : 1 ≤ n) (hn : n ≤ 100) (hN : N ≤ 3000) (hc : st[e]? = some (.lst (eqs.map rwD))) (hR : Rs n N eqs) (inj : Dt.Inj n (Mx eqs)) (hA : ∀ r, r < n → (Dt.S (n + 1) fun c => ((Mx eqs r c).natAbs : Int)) ≤ ((2 ^ K : Nat) : Int)) (hK : (K + 1) * (n + 1) ≤ N) :
    ∃ (rows : List (List Int)) (d : Int), f_each_alone [.ref e] st = .ok (.lst (rows.map rwD)) st ∧ Rs n N rows ∧ Dt.Bst n (n + 1) n (Mx eqs) (Mx rows) d ∧ d.natAbs ≤ 2 ^ N := by
  obtain ⟨Y, rows, d, y3, y4, y5, y6, e1, h1, h2, h3, h4, h5⟩ := ea_loop (d0 := some (.ref e)) (st := st) hn hN inj hA hK n 0 (.ref e) eqs 1 none none none none (by omega) (.inr ⟨e, rfl, hc⟩) hR Dt.Bst.start (show 1 ≤ 2 ^ N from Nat.one_le_two_pow)
  have h2 := h2 (by omega)
  subst h2
  refine ⟨rows, d, ?_, h3, h4, h5⟩
  refine fnZ_d (ex := []) (en0 := [some (.ref e), none, none, none, none, none, none]) rfl ?_ (by unfold refB; exact refBs_rws _ _)
  rw [List.append_nil]
  unfold b_each_alone
  rw [step_set (d := .ref e) (st' := st) (en' := [some (.ref e), some (.ref e), none, none, none, none, none]) rfl (show 1 < 7 by decide) rfl]
  rw [step_set (d := .int 1) (st' := st) (en' := [some (.ref e), some (.ref e), some (.int 1), none, none, none, none]) rfl (show 2 < 7 by decide) rfl]
  show seqS (forS (rng1I (consA (opLF lenL (consA (varF 0) nilA)) nilA)) (nameG 3) eaB) _ _ _ = _
  have hi : rng1I (consA (opLF lenL (consA (varF 0) nilA)) nilA) [some (.ref e), some (.ref e), some (.int 1), none, none, none, none] st = .ok (.items ((List.range' 0 n).map fun i : Nat => D.int (i : Nat))) st := by
    rw [← rangeD_r]
    refine rng_is (n := n) (op1L (x := .ref e) (st1 := st) rfl ?_) (by omega)
    have := lenL_r (st := st) hc
    rwa [List.length_map, hR.len] at this
  rw [step_of ((for_items hi).trans e1)]
  exact ret_ok rfl
end Lw

namespace Lw
open PySem PySem.Spec PyProof.Rows L2 Ev
open Ch (S Sub Sol Whole)
/-! chains: what the whole equations say -/
abbrev Mvr := List (Nat × Rat)
def msum : Mvr → Rat
  | [] => 0
  | m :: r => m.2 + msum r
def mat (mss : List Mvr) : Nat → Nat → Rat := fun i j => mm (mss.getD i []) j
theorem S_mm {n : Nat} : ∀ (ms : Mvr), (∀ m ∈ ms, m.1 < n) → S n (mm ms) = msum ms
  | [], _ => Ch.S_const0 n
  | m :: r, h => by
    show S n (fun j => (if m.1 = j then m.2 else 0) + mm r j) = m.2 + msum r
    rw [Ch.S_add, S_mm r fun q hq => h q (List.mem_cons_of_mem _ hq), Ch.S_single (h m List.mem_cons_self) _ fun i _ hn => if_neg (Ne.symm hn), if_pos rfl]
theorem mm_nn : ∀ (ms : Mvr), (∀ m ∈ ms, 0 ≤ m.2) → ∀ j, 0 ≤ mm ms j
  | [], _, _ => Rat.le_refl
  | m :: r, h, j => by
    have a := mm_nn r (fun q hq => h q (List.mem_cons_of_mem _ hq)) j
    have b := h m List.mem_cons_self
    show 0 ≤ (if m.1 = j then m.2 else 0) + mm r j
    split <;> grind
structure ChOk (n B Q P : Nat) (b : Rat) (ps : List Rat) (mss : List Mvr) : Prop where
  n1 : 1 ≤ n
  n10 : n ≤ 10
  lp : ps.length = n
  lm : mss.length = n
  b0 : 0 < b
  b1 : b < 1
  sb : Sz B b
  sp : ∀ p ∈ ps, Sz P p
  ms : ∀ ms ∈ mss, ms.length ≤ 10 ∧ (∀ m ∈ ms, m.1 < n ∧ Sz 8 m.2 ∧ 0 ≤ m.2) ∧ cb (ms.map (·.2)) ≤ 2 ^ Q ∧ msum ms ≤ 1
  B8 : B ≤ 8
  P1 : P ≤ 100
  PP : P + P * n ≤ 1000
  lim : (6 + B + Q + P + P * n + 1) * (n + 1) + P * n ≤ 3000
section
variable {n B Q P : Nat} {b : Rat} {ps : List Rat} {mss : List Mvr}
theorem ChOk.row (h : ChOk n B Q P b ps mss) {i : Nat} (hi : i < n) : mss.getD i [] ∈ mss := by
  have : i < mss.length := by rw [h.lm]; exact hi
  rw [List.getD_eq_getElem?_getD, List.getElem?_eq_getElem this]
  exact List.getElem_mem this
theorem ChOk.pay (h : ChOk n B Q P b ps mss) {i : Nat} (hi : i < n) : ps.getD i 0 ∈ ps := by
  have : i < ps.length := by rw [h.lp]; exact hi
  rw [List.getD_eq_getElem?_getD, List.getElem?_eq_getElem this]
  exact List.getElem_mem this
theorem ChOk.sub (h : ChOk n B Q P b ps mss) : Sub n (mat mss) := by
  have cases : ∀ i, mss.getD i [] = [] ∨ mss.getD i [] ∈ mss := fun i => by
    by_cases hi : i < n
    · exact .inr (h.row hi)
    · refine .inl ?_
      rw [List.getD_eq_getElem?_getD, List.getElem?_eq_none (by rw [h.lm]; omega)]
      rfl
  refine ⟨fun i j => ?_, fun i => ?_⟩
  · rcases cases i with e | e
    · show 0 ≤ mm (mss.getD i []) j
      rw [e]
      exact Rat.le_refl
    · exact mm_nn _ (fun m hm => ((h.ms _ e).2.1 m hm).2.2) j
  · show S n (mm (mss.getD i [])) ≤ 1
    rcases cases i with e | e
    · rw [e]
      show S n (fun _ => 0) ≤ 1
      rw [Ch.S_const0]
      decide
    · rw [S_mm _ fun m hm => ((h.ms _ e).2.1 m hm).1]
      exact (h.ms _ e).2.2.2
def cbp (ps : List Rat) : Nat := cb ps
def payI (C : Nat) (p : Rat) : Int := p.num * (((C : Nat) : Int).fdiv (p.den : Nat))
def eqsF (b : Rat) (C n : Nat) (mss : List Mvr) : Nat → List Rat → List (List Int)
  | _, [] => []
  | k, p :: r => eqR b k (payI C p) (mss.getD k []) n :: eqsF b C n mss (k + 1) r
theorem eqsF_len (b : Rat) (C n : Nat) (mss : List Mvr) : ∀ (r : List Rat) (k : Nat), (eqsF b C n mss k r).length = r.length
  | [], _ => rfl
  | _ :: r, k => congrArg (· + 1) (eqsF_len b C n mss r (k + 1))
theorem eqsF_get (b : Rat) (C n : Nat) (mss : List Mvr) : ∀ (r : List Rat) (k i : Nat), i < r.length → (eqsF b C n mss k r).getD i [] = eqR b (k + i) (payI C (r.getD i 0)) (mss.getD (k + i) []) n
  | [], _, _, h => absurd h (by simp)
  | p :: r, k, 0, _ => rfl
  | p :: r, k, i + 1, h => by
    have := eqsF_get b C n mss r (k + 1) i (by simpa using h)
    show (eqsF b C n mss (k + 1) r).getD i [] = _
    rw [this, show k + 1 + i = k + (i + 1) from by omega]
    rfl
def Lw_ (b : Rat) (mss : List Mvr) (i : Nat) : Rat := ((b.den : Nat) : Rat) * ((cb ((mss.getD i []).map (·.2)) : Nat) : Rat)
theorem eqR_len {place n : Nat} {pay : Int} {ms : Mvr} : (eqR b place pay ms n).length = n + 1 := by
  unfold eqR
  rw [List.length_append, rowS_len, List.length_set, List.length_replicate]
  rfl
theorem cb_pos (l : List Rat) : 0 < cb l ∧ ∀ r ∈ l, r.den ∣ cb l := by
  have bd : ∃ N, ∀ r ∈ l, r.den ≤ 2 ^ N := by
    induction l with
    | nil => exact ⟨0, fun r h => nomatch h⟩
    | cons r l ih =>
      obtain ⟨N, hN⟩ := ih
      refine ⟨N + r.den, fun q hq => ?_⟩
      rcases List.mem_cons.mp hq with rfl | hq
      · exact Nat.le_trans (Nat.le_of_lt (Nat.lt_two_pow_self)) (Nat.pow_le_pow_right (by decide) (by omega))
      · exact Nat.le_trans (hN q hq) (Nat.pow_le_pow_right (by decide) (by omega))
  obtain ⟨N, hN⟩ := bd
  obtain ⟨a, -, c, -⟩ := cbF_spec (N := N) l 1 0 (by decide) (by decide) hN
  exact ⟨a, c⟩
theorem natR (n : Nat) : (((n : Nat) : Int) : Rat) = ((n : Nat) : Rat) := rfl
theorem eqR_lo {place n : Nat} {pay : Int} {ms : Mvr} (hms : ∀ m ∈ ms, m.1 < n) {j : Nat} (hj : j < n) : ((eqR b place pay ms n).getD j 0 : Rat) = (((b.den : Nat) : Rat) * ((cb (ms.map (·.2)) : Nat) : Rat)) * ((if place = j then 1 else 0) - b * mm ms j) := by
  have c := (cb_pos (ms.map (·.2))).2
  have l : (rowS b (cb (ms.map (·.2))) ms ((List.replicate n (0 : Int)).set place ((b.den : Nat) * (cb (ms.map (·.2)) : Nat)))).length = n := by rw [rowS_len, List.length_set, List.length_replicate]
  have e1 : (eqR b place pay ms n).getD j 0 = (rowS b (cb (ms.map (·.2))) ms ((List.replicate n (0 : Int)).set place ((b.den : Nat) * (cb (ms.map (·.2)) : Nat)))).getD j 0 := by
    unfold eqR
    rw [List.getD_eq_getElem?_getD, List.getD_eq_getElem?_getD, List.getElem?_append_left (by rw [l]; exact hj)]
  rw [e1, rowS_at _ _ _ fun m hm => ⟨by rw [List.length_set, List.length_replicate]; exact hms m hm, c _ (List.mem_map.mpr ⟨m, hm, rfl⟩)⟩]
  have e2 : ((List.replicate n (0 : Int)).set place ((b.den : Nat) * (cb (ms.map (·.2)) : Nat))).getD j 0 = if place = j then ((b.den : Nat) * (cb (ms.map (·.2)) : Nat) : Int) else 0 := by
    rw [List.getD_eq_getElem?_getD]
    by_cases e : place = j
    · subst e
      rw [List.getElem?_set_self (by rw [List.length_replicate]; exact hj), if_pos rfl]
      rfl
    · rw [List.getElem?_set_ne e, if_neg e, List.getElem?_replicate, if_pos hj]
      rfl
  rw [e2]
  have k := r_nd b
  rw [natR] at k
  by_cases e : place = j
  · rw [if_pos e, if_pos e, Rat.intCast_mul, natR, natR, ← k]
    generalize ((cb (ms.map (·.2)) : Nat) : Rat) = c
    grind
  · rw [if_neg e, if_neg e, ← k]
    show (0 : Rat) - _ = _
    generalize ((cb (ms.map (·.2)) : Nat) : Rat) = c
    grind
theorem eqR_hi {place n : Nat} {pay : Int} {ms : Mvr} : (eqR b place pay ms n).getD n 0 = (b.den : Nat) * (cb (ms.map (·.2)) : Nat) * pay := by
  have l : (rowS b (cb (ms.map (·.2))) ms ((List.replicate n (0 : Int)).set place ((b.den : Nat) * (cb (ms.map (·.2)) : Nat)))).length = n := by rw [rowS_len, List.length_set, List.length_replicate]
  unfold eqR
  rw [List.getD_eq_getElem?_getD, List.getElem?_append_right (by rw [l]; exact Nat.le_refl _), l, Nat.sub_self]
  rfl
theorem payI_is {C : Nat} {p : Rat} (h : p.den ∣ C) : (payI C p : Rat) = ((C : Nat) : Rat) * p := by
  obtain ⟨q, e1, e2⟩ := fdiv_dvd p.den_pos h
  unfold payI
  rw [e1, Rat.intCast_mul, ← r_nd p, natR, natR, e2]
  have : (((p.den * q : Nat)) : Rat) = ((p.den : Nat) : Rat) * ((q : Nat) : Rat) := by exact_mod_cast rfl
  rw [this]
  grind
theorem payI_sz {C c P : Nat} {p : Rat} (h : p.den ∣ C) (hC : C ≤ 2 ^ c) (hp : Sz P p) : (payI C p).natAbs ≤ 2 ^ (P + c) := by
  obtain ⟨q, e1, e2⟩ := fdiv_dvd p.den_pos h
  unfold payI
  rw [e1]
  exact le_pow hp.1 (by rw [Int.natAbs_natCast]; exact Nat.le_trans (by rw [e2]; exact Nat.le_mul_of_pos_left _ p.den_pos) hC)
theorem ChOk.cp (h : ChOk n B Q P b ps mss) : cb ps ≤ 2 ^ (P * n) := by
  have := (cbF_spec (N := P) ps 1 0 (by decide) (by decide) fun r hr => (h.sp r hr).2).2.2.2
  rw [h.lp, Nat.zero_add] at this
  exact this
theorem ChOk.whole (h : ChOk n B Q P b ps mss) : Whole n (mat mss) b (fun i => ps.getD i 0) ((cb ps : Nat) : Rat) (Lw_ b mss) (Mx (eqsF b (cb ps) n mss 0 ps)) := by
  have c1 := cb_pos ps
  have get : ∀ i, i < n → (eqsF b (cb ps) n mss 0 ps).getD i [] = eqR b i (payI (cb ps) (ps.getD i 0)) (mss.getD i []) n := fun i hi => by
    have := eqsF_get b (cb ps) n mss ps 0 i (by rw [h.lp]; exact hi)
    rwa [Nat.zero_add] at this
  refine ⟨fun i hi => ?_, ?_, fun i j hi hj => ?_, fun i hi => ?_⟩
  · unfold Lw_
    have a : (0 : Rat) < ((b.den : Nat) : Rat) := by exact_mod_cast b.den_pos
    have c : (0 : Rat) < ((cb ((mss.getD i []).map (·.2)) : Nat) : Rat) := by exact_mod_cast (cb_pos _).1
    exact Rat.mul_pos a c
  · exact_mod_cast c1.1
  · show (((eqsF b (cb ps) n mss 0 ps).getD i []).getD j 0 : Rat) = _
    rw [get i hi, eqR_lo (fun m hm => ((h.ms _ (h.row hi)).2.1 m hm).1) hj]
    rfl
  · show (((eqsF b (cb ps) n mss 0 ps).getD i []).getD n 0 : Rat) = _
    rw [get i hi, eqR_hi, Rat.intCast_mul, Rat.intCast_mul, payI_is (c1.2 _ (h.pay hi))]
    rfl
theorem abs_q {x : Int} {L d t : Rat} (h : (x : Rat) = L * (d - t)) (hL : 0 ≤ L) (hd : 0 ≤ d) (ht : 0 ≤ t) : ((((x.natAbs : Nat) : Int)) : Rat) ≤ L * (d + t) := by
  have a := Rat.mul_nonneg hL hd
  have c := Rat.mul_nonneg hL ht
  rcases Int.natAbs_eq x with e | e
  · rw [← e, h]
    grind
  · have : ((x.natAbs : Nat) : Int) = -x := by omega
    rw [this, Rat.intCast_neg, h]
    grind
theorem ChOk.rows (h : ChOk n B Q P b ps mss) {i : Nat} (hi : i < n) : (Dt.S n fun c => (((Mx (eqsF b (cb ps) n mss 0 ps)) i c).natAbs : Int)) ≤ ((2 ^ (1 + B + Q) : Nat) : Int) := by
  have w := h.whole
  have sub := h.sub
  have l0 := w.l0 i hi
  have e1 : (((Dt.S n fun c => (((Mx (eqsF b (cb ps) n mss 0 ps)) i c).natAbs : Int) : Int)) : Rat) ≤ S n fun c => Lw_ b mss i * ((if i = c then 1 else 0) + b * mat mss i c) := by
    rw [Ch.cast_S]
    refine Ch.S_le fun c hc => abs_q (w.co i c hi hc) (Rat.le_of_lt l0) (by split <;> decide) (Rat.mul_nonneg (Rat.le_of_lt h.b0) (sub.nn i c))
  rw [Ch.S_mul, Ch.S_add, Ch.S_mul, Ch.S_single hi _ fun j _ hn => if_neg (Ne.symm hn), if_pos rfl] at e1
  have s1 := sub.le i
  have b1 := h.b1
  have s2 : b * S n (mat mss i) ≤ 1 := by
    have := Ch.mul_le (Rat.le_of_lt h.b0) s1
    grind
  have s3 := Ch.mul_le (a := Lw_ b mss i) (Rat.le_of_lt l0) s2
  have s4 : (((Dt.S n fun c => (((Mx (eqsF b (cb ps) n mss 0 ps)) i c).natAbs : Int) : Int)) : Rat) ≤ 2 * Lw_ b mss i := by grind
  have e2 : 2 * Lw_ b mss i = (((2 * (b.den * cb ((mss.getD i []).map (·.2))) : Nat) : Int) : Rat) := by
    unfold Lw_
    rw [natR]
    exact_mod_cast rfl
  rw [e2] at s4
  have s5 := Rat.intCast_le_intCast.mp s4
  refine Int.le_trans s5 ?_
  have c1 := (h.ms _ (h.row hi)).2.2.1
  have := Nat.mul_le_mul h.sb.2 c1
  rw [← Nat.pow_add] at this
  have p : 2 ^ (1 + B + Q) = 2 * 2 ^ (B + Q) := by rw [show 1 + B + Q = B + Q + 1 from by omega, Nat.pow_succ, Nat.mul_comm]
  rw [p]
  omega
theorem ChOk.last (h : ChOk n B Q P b ps mss) {i : Nat} (hi : i < n) : (Mx (eqsF b (cb ps) n mss 0 ps) i n).natAbs ≤ 2 ^ (B + Q + P + P * n) := by
  have get : (eqsF b (cb ps) n mss 0 ps).getD i [] = eqR b i (payI (cb ps) (ps.getD i 0)) (mss.getD i []) n := by
    have := eqsF_get b (cb ps) n mss ps 0 i (by rw [h.lp]; exact hi)
    rwa [Nat.zero_add] at this
  show (((eqsF b (cb ps) n mss 0 ps).getD i []).getD n 0).natAbs ≤ _
  rw [get, eqR_hi]
  have a := payI_sz ((cb_pos ps).2 _ (h.pay hi)) h.cp (h.sp _ (h.pay hi))
  have c := le_pow (le_pow h.sb.den (show (((cb ((mss.getD i []).map (·.2)) : Nat) : Int)).natAbs ≤ 2 ^ Q by rw [Int.natAbs_natCast]; exact (h.ms _ (h.row hi)).2.2.1)) a
  exact Nat.le_trans c (Nat.pow_le_pow_right (by decide) (by omega))
theorem ChOk.size (h : ChOk n B Q P b ps mss) {i : Nat} (hi : i < n) : (Dt.S (n + 1) fun c => (((Mx (eqsF b (cb ps) n mss 0 ps)) i c).natAbs : Int)) ≤ ((2 ^ (2 + B + Q + P + P * n) : Nat) : Int) := by
  rw [Dt.S_succ]
  have a := h.rows hi
  have c := h.last hi
  have p1 : 2 ^ (1 + B + Q) ≤ 2 ^ (1 + B + Q + P + P * n) := Nat.pow_le_pow_right (by decide) (by omega)
  have p2 : 2 ^ (B + Q + P + P * n) ≤ 2 ^ (1 + B + Q + P + P * n) := Nat.pow_le_pow_right (by decide) (by omega)
  have p3 : 2 ^ (2 + B + Q + P + P * n) = 2 * 2 ^ (1 + B + Q + P + P * n) := by rw [show 2 + B + Q + P + P * n = 1 + B + Q + P + P * n + 1 from by omega, Nat.pow_succ, Nat.mul_comm]
  rw [p3]
  omega
theorem ChOk.det (h : ChOk n B Q P b ps mss) : (Dt.det n (Mx (eqsF b (cb ps) n mss 0 ps))).natAbs ≤ 2 ^ ((1 + B + Q) * n) := by
  have := Dt.det_le n (Mx (eqsF b (cb ps) n mss 0 ps)) (2 ^ (1 + B + Q)) fun r hr => h.rows hr
  rwa [← Nat.pow_mul] at this
end
end Lw

namespace Lw
open PySem PySem.Spec PyProof.Rows L2 Ev
open Ch (S Sub Sol Whole)
theorem den_dvd {r : Rat} {a b : Int} (hb : b ≠ 0) (h : r * b = a) : r.den ∣ b.natAbs := by
  have k := num_den hb h
  have kn : r.num.natAbs * b.natAbs = a.natAbs * r.den := by
    have := congrArg Int.natAbs k
    rwa [Int.natAbs_mul, Int.natAbs_mul, Int.natAbs_natCast] at this
  have : r.den ∣ r.num.natAbs * b.natAbs := ⟨a.natAbs, by rw [kn, Nat.mul_comm]⟩
  exact Nat.Coprime.dvd_of_dvd_mul_left r.reduced.symm this
def msD (ms : Mvr) : D := .lst (ms.map mvR)
theorem expr_ok {e : EF} {en : En} {st st' : Sto} {d : D} (h : e en st = .ok d st') : exprS e en st = .nx en st' := by
  unfold exprS
  rw [h]
  rfl
theorem call5 {F : List D → Sto → R D} {f g h j l : EF} {x y z u v d : D} {en : En} {st st1 st2 st3 st4 st5 st6 : Sto} (h1 : f en st = .ok x st1) (h2 : g en st1 = .ok y st2) (h3 : h en st2 = .ok z st3) (h4 : j en st3 = .ok u st4) (h5 : l en st4 = .ok v st5) (hF : F [x, y, z, u, v] st5 = .ok d st6) : callF 5 F (consA f (consA g (consA h (consA j (consA l nilA))))) en st = .ok d st6 := callF_ok (n := 5) (ds := [x, y, z, u, v]) (consA_ok h1 (consA_ok h2 (consA_ok h3 (consA_ok h4 (consA_ok h5 nilA_e))))) rfl hF
def smB : SF := (exprS (methF appM (varF 4) (consA (callF 5 f_equation (consA (varF 0) (consA (varF 5) (consA (op2F mulD (varF 6) (op2F fdivD (varF 3) (varF 7))) (consA (op2F ixD (varF 2) (varF 5)) (consA (opLF lenL (consA (varF 1) nilA)) nilA)))))) nilA)))
theorem getD_ix {α : Type} {l : List α} {f : α → D} {i : Nat} {z : α} (h : i < l.length) : (l.map f)[i]? = some (f (l.getD i z)) := by
  rw [List.getElem?_map, List.getD_eq_getElem?_getD, List.getElem?_eq_getElem h]
  rfl
theorem last_c {st : Sto} {c : Cell} : (st ++ [c])[st.length]? = some c := by
  rw [List.getElem?_append_right (Nat.le_refl _), Nat.sub_self]
  rfl
theorem set_last {st : Sto} {c d : Cell} : (st ++ [c]).set st.length d = st ++ [d] := by
  rw [List.set_append_right _ _ (Nat.le_refl _), Nat.sub_self]
  rfl
section
variable {n B Q P : Nat} {b : Rat} {ps : List Rat} {mss : List Mvr}
abbrev SMn (b : Rat) (ps : List Rat) (mss : List Mvr) (e : Nat) (x5 x6 x7 : Option D) : En := [some (fr b), some (.lst (ps.map fr)), some (.lst (mss.map msD)), some (.int (cb ps : Nat)), some (.ref e), x5, x6, x7, none]
theorem sm_loop (h : ChOk n B Q P b ps mss) {st : Sto} : ∀ (rest : List Rat) (k : Nat) (acc : List (List Int)) (x5 x6 x7 : Option D), k + rest.length = n → acc.length = k → (∀ p ∈ rest, p ∈ ps) →
    ∃ y5 y6 y7, loopI (tupG 2 (consG (nameG 5) (consG (tupG 2 (consG (nameG 6) (consG (nameG 7) nilG))) nilG))) smB (enumF k (rest.map fr)) (SMn b ps mss st.length x5 x6 x7) (st ++ [.lst (acc.map rwD)]) = .nx (SMn b ps mss st.length y5 y6 y7) (st ++ [.lst ((acc ++ eqsF b (cb ps) n mss k rest).map rwD)])
  | [], k, acc, x5, x6, x7, _, _, _ => ⟨x5, x6, x7, by
    show _ = SR.nx _ (st ++ [.lst ((acc ++ []).map rwD)])
    rw [List.append_nil]
    rfl⟩
  | p :: rest, k, acc, x5, x6, x7, hk, ha, hp => by
    rw [List.length_cons] at hk
    have n10 := h.n10
    obtain ⟨y5, y6, y7, e⟩ := sm_loop h (st := st) rest (k + 1) (acc ++ [eqR b k (payI (cb ps) p) (mss.getD k []) n]) (some (.int (k : Nat))) (some (.int p.num)) (some (.int (p.den : Nat))) (by omega) (by rw [List.length_append, ha]; rfl) fun q hq => hp q (List.mem_cons_of_mem _ hq)
    refine ⟨y5, y6, y7, ?_⟩
    have e2 : acc ++ eqsF b (cb ps) n mss k (p :: rest) = (acc ++ [eqR b k (payI (cb ps) p) (mss.getD k []) n]) ++ eqsF b (cb ps) n mss (k + 1) rest := by
      rw [List.append_assoc]
      rfl
    rw [e2, ← e, List.map_cons]
    refine loop_nx (en1 := SMn b ps mss st.length (some (.int (k : Nat))) (some (.int p.num)) (some (.int (p.den : Nat)))) rfl ?_
    have hkn : k < n := by omega
    have hps := hp p List.mem_cons_self
    have szp := h.sp p hps
    have c1 := cb_pos ps
    obtain ⟨q, q1, q2⟩ := fdiv_dvd p.den_pos (c1.2 p hps)
    have lims := h.lim
    have P1 := h.P1
    have B8 := h.B8
    have Pn : P * n ≤ 1000 := Nat.mul_le_mul P1 n10
    have PP := h.PP
    have q0 : q ≤ 2 ^ (P * n) := Nat.le_trans (by rw [q2]; exact Nat.le_mul_of_pos_left _ p.den_pos) h.cp
    have k1 : mulOk p.num (((cb ps : Nat) : Int).fdiv (p.den : Nat)) = true := by
      rw [q1]
      exact mul_fitB szp.1 (by rw [Int.natAbs_natCast]; exact q0) (by omega) (by omega)
    have hms := h.ms _ (h.row hkn)
    have hpay : (payI (cb ps) p).natAbs ≤ 2 ^ (P + P * n) := payI_sz (c1.2 p hps) h.cp szp
    have eqn := equation_is (b := b) (place := k) (n := n) (pay := payI (cb ps) p) (ms := mss.getD k []) (st := st ++ [.lst (acc.map rwD)]) (P := P + P * n) hkn n10 hms.1 (h.sb.up B8) (fun m hm => ⟨(hms.2.1 m hm).1, (hms.2.1 m hm).2.1⟩) PP hpay
    have hf : callF 5 f_equation (consA (varF 0) (consA (varF 5) (consA (op2F mulD (varF 6) (op2F fdivD (varF 3) (varF 7))) (consA (op2F ixD (varF 2) (varF 5)) (consA (opLF lenL (consA (varF 1) nilA)) nilA))))) (SMn b ps mss st.length (some (.int (k : Nat))) (some (.int p.num)) (some (.int (p.den : Nat)))) (st ++ [.lst (acc.map rwD)]) = .ok (rwD (eqR b k (payI (cb ps) p) (mss.getD k []) n)) (st ++ [.lst (acc.map rwD)]) := by
      refine call5 (st3 := st ++ [.lst (acc.map rwD)]) (st4 := st ++ [.lst (acc.map rwD)]) (x := fr b) (y := .int (k : Nat)) (z := .int (payI (cb ps) p)) (u := msD (mss.getD k [])) (v := .int (n : Nat)) rfl rfl ?_ ?_ ?_ eqn
      · exact op2F_ok (a := .int p.num) rfl (op2F_ok (a := .int (cb ps : Nat)) (b := .int (p.den : Nat)) rfl rfl (fdivD_ii (dn0 p) (nlog szp.2 (by omega)))) (mulD_ii k1)
      · exact op2F_ok (a := .lst (mss.map msD)) (b := .int (k : Nat)) rfl rfl (ixD_l (atD_nat (getD_ix (by rw [h.lm]; exact hkn))))
      · refine op1L (x := .lst (ps.map fr)) rfl ?_
        rw [lenL_l, List.length_map, h.lp]
    unfold smB
    rw [expr_ok (app_ok (i := 4) (e := st.length) (es := acc.map rwD) (es1 := acc.map rwD) rfl last_c hf last_c (by rw [List.length_map]; omega)), set_last, List.map_append]
    rfl
def outF (C n : Nat) : Nat → List (List Int) → List Rat
  | _, [] => []
  | i, r :: rs => ((r.getD n 0 : Int) : Rat) / (((r.getD i 0 * ((C : Nat) : Int)) : Int) : Rat) :: outF C n (i + 1) rs
theorem outF_len (C n : Nat) : ∀ (rs : List (List Int)) (i : Nat), (outF C n i rs).length = rs.length
  | [], _ => rfl
  | _ :: rs, i => congrArg (· + 1) (outF_len C n rs (i + 1))
theorem outF_get (C n : Nat) : ∀ (rs : List (List Int)) (i j : Nat), j < rs.length → (outF C n i rs).getD j 0 = (((rs.getD j []).getD n 0 : Int) : Rat) / ((((rs.getD j []).getD (i + j) 0 * ((C : Nat) : Int)) : Int) : Rat)
  | [], _, _, h => absurd h (by simp)
  | r :: rs, i, 0, _ => rfl
  | r :: rs, i, j + 1, h => by
    have := outF_get C n rs (i + 1) j (by simpa using h)
    show (outF C n (i + 1) rs).getD j 0 = _
    rw [this, show i + 1 + j = i + (j + 1) from by omega]
    rfl
def outE : EF := (callF 2 f_fraction (consA (op2F ixD (varF 8) (op1F negD (litF (.int 1)))) (consA (op2F mulD (op2F ixD (varF 8) (varF 5)) (varF 3)) nilA)))
theorem atD_last {r : List Int} {n : Nat} (h : r.length = n + 1) : atD (r.map D.int) (-1) = some (.int (r.getD n 0)) := by
  unfold atD
  have : ixN (r.map D.int).length (-1) = some n := by
    unfold ixN
    rw [List.length_map, h, if_neg (by decide)]
    have : (-1 : Int) + ((n + 1 : Nat) : Int) = (n : Nat) := by omega
    rw [if_pos (by omega), this, Int.toNat_natCast]
  rw [this]
  show (r.map D.int)[n]? = _
  exact getD_map (by omega)
theorem out_items {N : Nat} {C c : Nat} {d : Int} {d0 d1 d2 d4 x5 x6 x7 x8 : Option D} {st : Sto} (hC0 : 0 < C) (hC : C ≤ 2 ^ c) (hd : d ≠ 0) (hdN : d.natAbs ≤ 2 ^ N) (hN : N + c ≤ 3000) : ∀ (rs : List (List Int)) (i : Nat), (∀ r ∈ rs, r.length = n + 1) → (∀ j, j < rs.length → (rs.getD j []).getD (i + j) 0 = d) → i + rs.length ≤ n →
    lcI [5, 8] (tupG 2 (consG (nameG 5) (consG (nameG 8) nilG))) yesT outE (enumF i (rs.map rwD)) [d0, d1, d2, some (.int (C : Nat)), d4, x5, x6, x7, x8] st = .ok ((outF C n i rs).map fr) st
  | [], i, _, _, _ => rfl
  | r :: rs, i, h1, h2, h3 => by
    rw [List.length_cons] at h3
    have ih := out_items (d0 := d0) (d1 := d1) (d2 := d2) (d4 := d4) (x5 := x5) (x6 := x6) (x7 := x7) (x8 := x8) (st := st) hC0 hC hd hdN hN rs (i + 1) (fun q hq => h1 q (List.mem_cons_of_mem _ hq)) (fun j hj => by
      have := h2 (j + 1) (by rw [List.length_cons]; omega)
      rw [show i + 1 + j = i + (j + 1) from by omega]
      exact this) (by omega)
    have rl := h1 r List.mem_cons_self
    have rd : r.getD i 0 = d := h2 0 (by rw [List.length_cons]; omega)
    refine lc_one (en1 := [d0, d1, d2, some (.int (C : Nat)), d4, some (.int (i : Nat)), x6, x7, some (rwD r)]) rfl ?_ ih
    have cn : (((C : Nat) : Int)).natAbs ≤ 2 ^ c := by rw [Int.natAbs_natCast]; exact hC
    have z : r.getD i 0 * ((C : Nat) : Int) ≠ 0 := by
      rw [rd]
      exact Int.mul_ne_zero hd (by omega)
    unfold outE
    refine call2 (x := .int (r.getD n 0)) (y := .int (r.getD i 0 * ((C : Nat) : Int))) (st1 := st) (st2 := st) ?_ ?_ ?_
    · refine op2F_ok (a := rwD r) (b := .int (-1)) (st1 := st) (st2 := st) rfl rfl (ixD_l (atD_last rl))
    · refine op2F_ok (a := .int (r.getD i 0)) (b := .int (C : Nat)) (st1 := st) (st2 := st) (op2F_ok (a := rwD r) (b := .int (i : Nat)) (st1 := st) (st2 := st) rfl rfl (ixD_l (atD_nat (getD_map (by omega))))) rfl (mulD_ii ?_)
      rw [rd]
      exact mul_fitB hdN cn (by omega) (by omega)
    · rw [fraction_is z (log_fitB (N := N + c) (by rw [rd]; exact le_pow hdN cn) (by omega)), frac_r z (div_mul z)]
theorem sums_is (h : ChOk n B Q P b ps mss) (st : Sto) : ∃ xs : List Rat, f_sums [fr b, .lst (ps.map fr), .lst (mss.map msD)] st = .ok (.lst (xs.map fr)) st ∧ xs.length = n ∧ Sol n (mat mss) b (fun i => ps.getD i 0) (fun i => xs.getD i 0) ∧ ∀ x ∈ xs, Sz 3000 x ∧ x.den ≤ 2 ^ ((1 + B + Q) * n + P * n) := by
  have n1 := h.n1
  have n10 := h.n10
  have P1 := h.P1
  obtain ⟨N, hN⟩ : ∃ N, (2 + B + Q + P + P * n + 1) * (n + 1) = N := ⟨_, rfl⟩
  have lN : N + P * n ≤ 3000 := by
    have := Nat.mul_le_mul_right (n + 1) (show 2 + B + Q + P + P * n + 1 ≤ 6 + B + Q + P + P * n + 1 by omega)
    have := h.lim
    omega
  have c1 := cb_pos ps
  have sub := h.sub
  have inj := h.whole.inj sub h.b0 h.b1
  have hl : (eqsF b (cb ps) n mss 0 ps).length = n := by rw [eqsF_len, h.lp]
  have hrow : ∀ r ∈ eqsF b (cb ps) n mss 0 ps, r.length = n + 1 := fun r hr => by
    obtain ⟨i, hi, rfl⟩ := List.getElem_of_mem hr
    rw [eqsF_len] at hi
    have := eqsF_get b (cb ps) n mss ps 0 i hi
    rw [List.getD_eq_getElem?_getD, List.getElem?_eq_getElem (by rw [eqsF_len]; exact hi)] at this
    have e2 : ∀ {l : List Int}, (some l).getD [] = l := rfl
    rw [e2] at this
    rw [this, eqR_len]
  have R0 : Rs n N (eqsF b (cb ps) n mss 0 ps) := by
    refine Rs.of hl hrow fun i j hi hj => ?_
    have a := h.size hi
    have o := Dt.S_one (f := fun c => (Mx (eqsF b (cb ps) n mss 0 ps) i c).natAbs) hj
    have : (Mx (eqsF b (cb ps) n mss 0 ps) i j).natAbs ≤ 2 ^ (2 + B + Q + P + P * n) := by
      have := Int.le_trans o a
      omega
    refine Nat.le_trans this (Nat.pow_le_pow_right (by decide) ?_)
    rw [← hN]
    have := Nat.le_mul_of_pos_right (2 + B + Q + P + P * n + 1) (show 0 < n + 1 by omega)
    omega
  obtain ⟨y5, y6, y7, e1⟩ := sm_loop h (st := st) ps 0 [] none none none (by rw [h.lp]; omega) rfl fun p hp => hp
  rw [List.nil_append] at e1
  obtain ⟨rows, d, e2, R1, Bs, hd⟩ := each_alone_is (n := n) (N := N) (K := 2 + B + Q + P + P * n) (e := st.length) (eqs := eqsF b (cb ps) n mss 0 ps) (st := st ++ [.lst ((eqsF b (cb ps) n mss 0 ps).map rwD)]) n1 (by omega) (by omega) last_c R0 inj (fun r hr => h.size hr) (by omega)
  have sol := h.whole.sol Bs
  have dg : ∀ j, j < rows.length → (rows.getD j []).getD (0 + j) 0 = d := fun j hj => by
    rw [Nat.zero_add]
    have := Bs.p3 j j (by rw [← R1.len]; exact hj) (by rw [← R1.len]; exact hj)
    rwa [if_pos rfl] at this
  have e3 := out_items (n := n) (N := N) (C := cb ps) (c := P * n) (d := d) (d0 := some (fr b)) (d1 := some (.lst (ps.map fr))) (d2 := some (.lst (mss.map msD))) (d4 := some (.ref st.length)) (x5 := y5) (x6 := y6) (x7 := y7) (x8 := none) (st := st ++ [.lst ((eqsF b (cb ps) n mss 0 ps).map rwD)]) c1.1 h.cp Bs.d0 hd lN rows 0 (fun r hr => (R1.row r hr).1) dg (by rw [R1.len]; omega)
  have xget : ∀ i, i < n → (outF (cb ps) n 0 rows).getD i 0 = ((Mx rows i n : Int) : Rat) / (((d * ((cb ps : Nat) : Int)) : Int) : Rat) := fun i hi => by
    rw [outF_get _ _ _ _ _ (by rw [R1.len]; exact hi), dg i (by rw [R1.len]; exact hi)]
    rfl
  have dc0 : d * ((cb ps : Nat) : Int) ≠ 0 := Int.mul_ne_zero Bs.d0 (by have := c1.1; omega)
  refine ⟨outF (cb ps) n 0 rows, ?_, by rw [outF_len, R1.len], fun i hi => ?_, fun x hx => ?_⟩
  · refine fnZ_d (ex := [.lst ((eqsF b (cb ps) n mss 0 ps).map rwD)]) (en0 := [some (fr b), some (.lst (ps.map fr)), some (.lst (mss.map msD)), none, none, none, none, none, none]) rfl ?_ (by unfold refB; exact refBs_frs _ _)
    unfold b_sums
    rw [step_set (d := .int (cb ps : Nat)) (st' := st) (en' := [some (fr b), some (.lst (ps.map fr)), some (.lst (mss.map msD)), some (.int (cb ps : Nat)), none, none, none, none, none]) (call1 (x := .lst (ps.map fr)) (st1 := st) rfl (common_is (N := P) (fun r hr => (h.sp r hr).2) (by
      rw [h.lp]
      omega) (by omega))) (show 3 < 9 by decide) rfl]
    rw [step_set (d := .ref st.length) (st' := st ++ [.lst []]) (en' := SMn b ps mss st.length none none none) rfl (show 4 < 9 by decide) rfl]
    show seqS (forS (enumI (consA (varF 1) nilA)) (tupG 2 (consG (nameG 5) (consG (tupG 2 (consG (nameG 6) (consG (nameG 7) nilG))) nilG))) smB) (retS (lcF [5, 8] (tupG 2 (consG (nameG 5) (consG (nameG 8) nilG))) yesT outE (enumI (consA (callF 1 f_each_alone (consA (varF 4) nilA)) nilA)))) _ _ = _
    rw [step_of ((for_items (st1 := st ++ [.lst []]) (ds := enumF 0 (ps.map fr)) rfl).trans e1)]
    refine ret_ok (lc_all (ds := enumF 0 (rows.map rwD)) (st1 := st ++ [.lst ((eqsF b (cb ps) n mss 0 ps).map rwD)]) ?_ (by rw [enumF_length, List.length_map, R1.len]; omega) e3)
    unfold enumI
    rw [consA_ok (call1 (x := .ref st.length) (st1 := st ++ [.lst ((eqsF b (cb ps) n mss 0 ps).map rwD)]) rfl e2) nilA_e]
    rfl
  · show (outF (cb ps) n 0 rows).getD i 0 = ps.getD i 0 + b * S n fun j => mat mss i j * (outF (cb ps) n 0 rows).getD j 0
    rw [xget i hi, Ch.S_congr (g := fun j => mat mss i j * (((Mx rows j n : Int) : Rat) / (((d : Int) : Rat) * ((cb ps : Nat) : Rat)))) fun j hj => by rw [xget j hj, Rat.intCast_mul, natR], Rat.intCast_mul, natR]
    exact sol i hi
  · obtain ⟨i, hi, rfl⟩ := List.getElem_of_mem hx
    rw [outF_len, R1.len] at hi
    have xe : (outF (cb ps) n 0 rows)[i]'(by rw [outF_len, R1.len]; exact hi) = ((Mx rows i n : Int) : Rat) / (((d * ((cb ps : Nat) : Int)) : Int) : Rat) := by
      have := xget i hi
      rw [List.getD_eq_getElem?_getD, List.getElem?_eq_getElem (by rw [outF_len, R1.len]; exact hi)] at this
      exact this
    rw [xe]
    have cn : (((cb ps : Nat) : Int)).natAbs ≤ 2 ^ (P * n) := by rw [Int.natAbs_natCast]; exact h.cp
    have w := div_mul (a := Mx rows i n) dc0
    have big : (Mx rows i n).natAbs ≤ 2 ^ N := by
      have m := getD_mem (rows := rows) (i := i) (by rw [R1.len]; exact hi)
      exact (R1.row _ m).2.at n
    refine ⟨(Sz.of dc0 w (Nat.le_trans big (Nat.pow_le_pow_right (by decide) (show N ≤ 3000 by omega))) (Nat.le_trans (le_pow hd cn) (Nat.pow_le_pow_right (by decide) lN))), ?_⟩
    have dd : d.natAbs ≤ 2 ^ ((1 + B + Q) * n) := by
      rw [Bs.dd]
      exact h.det
    have d1 := den_dvd dc0 w
    exact Nat.le_trans (Nat.le_of_dvd (by omega) d1) (le_pow dd cn)
end
end Lw

namespace Lw
open PySem PySem.Spec PyProof.Rows L2 Ev
open Ch (S Sub Sol Whole)
/-! plain data compared -/
structure Pt (k : Nat) (d : D) (p : PyData) : Prop where
  at' : ∀ n st, k < n → toP n st d = some p
  can : p.canLay0 = true
  dep : p.depth ≤ k
structure Pts (k : Nat) (ds : List D) (ps : List PyData) : Prop where
  at' : ∀ n st, k < n → mapO (toP n st) ds = some ps
  can : PyData.canLayAll0 ps = true
  dep : PyData.depthAll ps ≤ k
theorem Pts.nil {k : Nat} : Pts k [] [] := ⟨fun _ _ _ => rfl, by simp [PyData.canLayAll0], by simp [PyData.depthAll]⟩
theorem Pts.cons {k : Nat} {d : D} {p : PyData} {ds : List D} {ps : List PyData} (h : Pt k d p) (hs : Pts k ds ps) : Pts k (d :: ds) (p :: ps) := by
  refine ⟨fun n st hn => ?_, ?_, ?_⟩
  · show (toP n st d).bind (fun b => (mapO (toP n st) ds).bind fun bs => some (b :: bs)) = _
    rw [h.at' n st hn, hs.at' n st hn]
    rfl
  · simp [PyData.canLayAll0, h.can, hs.can]
  · have := h.dep
    have := hs.dep
    simp only [PyData.depthAll]
    omega
theorem Pt.tup {k : Nat} {ds : List D} {ps : List PyData} (h : Pts k ds ps) : Pt (k + 1) (.tup ds) (.tuple ps) := by
  refine ⟨fun n st hn => ?_, by simp [PyData.canLay0, h.can], by have := h.dep; simp only [PyData.depth]; omega⟩
  cases n with
  | zero => omega
  | succ n =>
    show (mapO (toP n st) ds).map PyData.tuple = _
    rw [h.at' n st (by omega)]
    rfl
theorem Pt.lst {k : Nat} {ds : List D} {ps : List PyData} (h : Pts k ds ps) : Pt (k + 1) (.lst ds) (.list ps) := by
  refine ⟨fun n st hn => ?_, by simp [PyData.canLay0, h.can], by have := h.dep; simp only [PyData.depth]; omega⟩
  cases n with
  | zero => omega
  | succ n =>
    show (mapO (toP n st) ds).map PyData.list = _
    rw [h.at' n st (by omega)]
    rfl
theorem Pt.int {k : Nat} {i : Int} : Pt k (.int i) (.int i) := ⟨fun n st hn => by cases n with | zero => omega | succ n => rfl, by simp [PyData.canLay0], by simp [PyData.depth]⟩
theorem Pt.fr {k : Nat} {r : Rat} : Pt (k + 1) (fr r) (.tuple [.int r.num, .int (r.den : Nat)]) := Pt.tup (.cons .int (.cons .int .nil))
theorem Pts.frs {k : Nat} : ∀ rs : List Rat, Pts (k + 1) (rs.map Lw.fr) (rs.map fun r => PyData.tuple [.int r.num, .int (r.den : Nat)])
  | [] => .nil
  | _ :: rs => .cons .fr (Pts.frs rs)
theorem Pt.shaped {k : Nat} {d : D} {p : PyData} (h : Pt k d p) (hk : k ≤ 15) : SeqAt.shaped p = true := by
  have := h.dep
  show (p.canLay0 && decide (p.depth ≤ 64)) = true
  rw [h.can, decide_eq_true (by omega)]
  rfl
theorem eq_pt {k : Nat} {d e : D} {p q : PyData} {st : Sto} (h : Pt k d p) (h' : Pt k e q) (hk : k ≤ 15) : eqB d e st = some (PyData.eqv p q) := by
  unfold eqB
  rw [h.at' 16 st (by omega), h'.at' 16 st (by omega)]
  show (if SeqAt.shaped p && SeqAt.shaped q then some (PyData.eqv p q) else none) = _
  rw [h.shaped hk, h'.shaped hk]
  rfl
theorem ne_same {k : Nat} {d : D} {p : PyData} {st : Sto} (h : Pt k d p) (hk : k ≤ 15) : neD d d st = some (.bl false, st) := by
  unfold neD
  rw [eq_pt h h hk, SeqAt.eqv_refl p h.can]
  rfl
theorem eq_nil {k : Nat} {d : D} {ds : List D} {st : Sto} {p : PyData} {ps : List PyData} (h : Pts k (d :: ds) (p :: ps)) (hk : k ≤ 14) : eqD (.lst (d :: ds)) (.lst []) st = some (.bl false, st) := by
  unfold eqD
  rw [eq_pt (Pt.lst h) (Pt.lst .nil) (by omega)]
  simp [PyData.eqv, PyData.eqvAll]
/-! works with rational pays and chances -/
abbrev Wr := List (Rat × Mvr)
def rwR (r : Rat × Mvr) : D := .tup [fr r.1, .tup (r.2.map mvR)]
def wrD (w : Wr) : D := .tup (w.map rwR)
structure RrOk (n P : Nat) (r : Rat × Mvr) : Prop where
  pay : Sz P r.1
  len : r.2.length ≤ 6
  mv : ∀ m ∈ r.2, m.1 < n ∧ Sz 8 m.2 ∧ 0 ≤ m.2
  s : ∃ S : Nat, 0 < S ∧ S ≤ 2 ^ 8 ∧ ∀ m ∈ r.2, m.2.den ∣ S
  sum : msum r.2 = 1
structure WrOk (P : Nat) (w : Wr) : Prop where
  l1 : 1 ≤ w.length
  l6 : w.length ≤ 6
  rows : ∀ r ∈ w, RrOk w.length P r
  isw : ∀ st, f_is_work [wrD w] st = .ok (.bl true) st
theorem mv_of {N : Nat} {S : Int} (hS : 1 ≤ S) : ∀ (ms : Mvs) (lo acc : Int), -1 ≤ lo → Mv (N : Nat) S lo acc ms → ∃ ms' : Mvr, ms.map mvD = ms'.map mvR ∧ ms'.length = ms.length ∧ (∀ m ∈ ms', m.1 < N ∧ Sz 8 m.2 ∧ 0 ≤ m.2 ∧ m.2.den ∣ S.natAbs) ∧ msum ms' * S = ((S - acc : Int) : Rat)
  | [], lo, acc, _, h => ⟨[], rfl, rfl, fun m hm => (nomatch hm), by
    have h : acc = S := h
    subst h
    show (0 : Rat) * _ = _
    rw [Int.sub_self]
    show (0 : Rat) * _ = (0 : Rat)
    grind⟩
  | (s, c) :: ms, lo, acc, hlo, ⟨h1, h2, w, hw, hc, hr⟩ => by
    have h1 : lo < s := h1
    have h2 : s < (N : Nat) := h2
    obtain ⟨ms', e, l, hm, hs⟩ := mv_of hS ms s (acc + w) (by omega) hr
    obtain ⟨r, rfl, sz, er⟩ := hc.fr
    have S0 : (S : Rat) ≠ 0 := by
      have : S ≠ 0 := by omega
      exact_mod_cast this
    refine ⟨(s.toNat, r) :: ms', ?_, by rw [List.length_cons, List.length_cons, l], fun m hm' => ?_, ?_⟩
    · rw [List.map_cons, List.map_cons, ← e]
      unfold mvR
      rw [Int.toNat_of_nonneg (by omega)]
      rfl
    · rcases List.mem_cons.mp hm' with rfl | hm'
      · refine ⟨by show s.toNat < N; omega, sz, ?_, den_dvd (by omega) er⟩
        show 0 ≤ r
        have hw' : (0 : Rat) ≤ (w : Rat) := by
          have : (0 : Int) ≤ w := by omega
          exact_mod_cast this
        have hS' : (0 : Rat) < (S : Rat) := by
          have : (0 : Int) < S := by omega
          exact_mod_cast this
        rcases (Rat.le_total : (0 : Rat) ≤ r ∨ r ≤ 0) with q | q
        · exact q
        · have : r * (S : Rat) ≤ 0 := by
            have := Rat.mul_le_mul_of_nonneg_right q (Rat.le_of_lt hS')
            grind
          have : (w : Rat) = 0 := by grind
          have : w = 0 := by exact_mod_cast this
          omega
      · exact hm m hm'
    · show (r + msum ms') * (S : Rat) = _
      have : (r + msum ms') * (S : Rat) = r * S + msum ms' * S := by grind
      rw [this, er, hs, ← Rat.intCast_add]
      congr 1
      omega
theorem row_of {N : Nat} {r : Rw} {q : Rat} {P : Nat} (h : RowOk (N : Nat) r) (hq : Sz P q) : ∃ r' : Rat × Mvr, .tup [fr q, .tup (r.2.map mvD)] = rwR r' ∧ r'.1 = q ∧ r.2.map mvD = r'.2.map mvR ∧ RrOk N P r' := by
  obtain ⟨-, hl, S, hS, hS8, hm⟩ := h
  obtain ⟨ms, e, l, hms, hs⟩ := mv_of hS r.2 (-1) 0 (by omega) hm
  have S0 : (S : Rat) ≠ 0 := by
    have : S ≠ 0 := by omega
    exact_mod_cast this
  refine ⟨(q, ms), ?_, rfl, e, ⟨hq, by show ms.length ≤ 6; omega, fun m h => ⟨(hms m h).1, (hms m h).2.1, (hms m h).2.2.1⟩, ⟨S.natAbs, by omega, hS8, fun m h => (hms m h).2.2.2⟩, ?_⟩⟩
  · unfold rwR
    rw [e]
  · rw [Int.sub_zero] at hs
    show msum ms = 1
    grind
/-- a drawn work's rows with other pays -/
theorem rows_of {N P : Nat} : ∀ (W : List Rw) (qs : List Rat), qs.length = W.length → (∀ r ∈ W, RowOk (N : Nat) r) → (∀ q ∈ qs, Sz P q) →
    ∃ w : Wr, w.map rwR = (List.zipWith (fun (q : Rat) (r : Rw) => D.tup [fr q, .tup (r.2.map mvD)]) qs W) ∧ w.map (·.1) = qs ∧ w.map (fun r => D.tup (r.2.map mvR)) = W.map (fun r => D.tup (r.2.map mvD)) ∧ w.length = W.length ∧ ∀ r ∈ w, RrOk N P r
  | [], [], _, _, _ => ⟨[], rfl, rfl, rfl, rfl, fun r h => nomatch h⟩
  | r :: W, q :: qs, hl, h, hq => by
    obtain ⟨w, e1, e2, e3, e4, e5⟩ := rows_of W qs (by simpa using hl) (fun r hr => h r (List.mem_cons_of_mem _ hr)) fun q h => hq q (List.mem_cons_of_mem _ h)
    obtain ⟨r', a, b, c, d⟩ := row_of (h r List.mem_cons_self) (hq q List.mem_cons_self)
    refine ⟨r' :: w, ?_, ?_, ?_, ?_, fun x hx => ?_⟩
    · rw [List.map_cons, ← a, e1]
      rfl
    · rw [List.map_cons, b, e2]
    · rw [List.map_cons, List.map_cons, e3, ← c]
    · rw [List.length_cons, List.length_cons, e4]
    · rcases List.mem_cons.mp hx with rfl | hx
      · exact d
      · exact e5 x hx
  | [], _ :: _, hl, _, _ => by simp at hl
  | _ :: _, [], hl, _, _ => by simp at hl
theorem work_of {W : List Rw} {P : Nat} {qs : List Rat} (hW : WOk W) (hl : qs.length = W.length) (hq : ∀ q ∈ qs, Sz P q) :
    ∃ w : Wr, WrOk P w ∧ w.map rwR = (List.zipWith (fun (q : Rat) (r : Rw) => D.tup [fr q, .tup (r.2.map mvD)]) qs W) ∧ w.map (·.1) = qs ∧ w.map (fun r => D.tup (r.2.map mvR)) = W.map (fun r => D.tup (r.2.map mvD)) ∧ w.length = W.length := by
  obtain ⟨w, e1, e2, e3, e4, e5⟩ := rows_of (N := W.length) W qs hl hW.2.2 hq
  have W' : WOk (List.zipWith (fun (q : Rat) (r : Rw) => ((fr q, r.2) : Rw)) qs W) := by
    have l : (List.zipWith (fun (q : Rat) (r : Rw) => ((fr q, r.2) : Rw)) qs W).length = W.length := by rw [List.length_zipWith]; omega
    refine ⟨by rw [l]; exact hW.1, by rw [l]; exact hW.2.1, fun r hr => ?_⟩
    rw [l]
    obtain ⟨i, hi, rfl⟩ := List.getElem_of_mem hr
    rw [List.getElem_zipWith]
    obtain ⟨-, a, b⟩ := hW.2.2 W[i] (List.getElem_mem _)
    exact ⟨isFr_fr _, a, b⟩
  have e : wkD (List.zipWith (fun (q : Rat) (r : Rw) => ((fr q, r.2) : Rw)) qs W) = wrD w := by
    unfold wkD wrD
    rw [e1, List.map_zipWith]
    rfl
  refine ⟨w, ⟨by rw [e4]; exact hW.1, by rw [e4]; exact hW.2.1, by rw [e4]; exact e5, fun st => ?_⟩, e1, e2, e3, e4⟩
  rw [← e]
  exact is_work_ok W'
end Lw

namespace Lw
open PySem PySem.Spec PyProof.Rows L2 Ev
open Ch (S Sub Sol Whole)
/-! the checks -/
theorem need_run {n c : Nat} {t : TF} {ds : List D} {st : Sto} {en0 : En} (he : ds.map some ++ List.replicate (n - ds.length) none = en0) (h : t en0 st = .ok false st) : fnF n (ifS t (raiseS c) passS) ds st = .ok .non st := by
  unfold fnF
  rw [he, if_ok h]
  rfl
theorem need_work_r {P : Nat} {w : Wr} {st : Sto} (h : WrOk P w) : f_need_work [wrD w] st = .ok .non st := need_run (en0 := [some (wrD w)]) rfl (not_ok (b := true) (tru_ok (call1 (x := wrD w) (st1 := st) rfl (h.isw st))))
theorem share_r {b : Rat} {st : Sto} (h0 : 0 < b) (h1 : b < 1) : f_is_share [fr b] st = .ok (.bl true) st := by
  have n0 : 0 < b.num := by
    have := (Rat.lt_iff 0 b).mp h0
    simpa using this
  have n1 : b.num < (b.den : Nat) := by
    have := (Rat.lt_iff b 1).mp h1
    simpa using this
  refine fn_rt (en0 := [some (fr b), none, none]) rfl ?_
  unfold b_is_share
  rw [step_if (b := false) (st' := st) (not_ok (b := true) (tru_ok (call1 (x := fr b) (st1 := st) rfl (by rw [is_fraction_is, isFr_fr])))), if_neg Bool.false_ne_true, step_pass]
  rw [step_asg (d := fr b) (st' := st) (en' := [some (fr b), some (.int b.num), some (.int (b.den : Nat))]) rfl rfl]
  exact ret_ok (chain_t (a := .int 0) (b := .int b.num) (c := .int (b.den : Nat)) rfl rfl (lt_t n0) rfl (lt_t n1))
theorem need_share_r {b : Rat} {st : Sto} (h0 : 0 < b) (h1 : b < 1) : f_need_share [fr b] st = .ok .non st := need_run (en0 := [some (fr b)]) rfl (not_ok (b := true) (tru_ok (call1 (x := fr b) (st1 := st) rfl (share_r h0 h1))))
theorem lenR {w : Wr} {i : Nat} {en : En} {st : Sto} (h : en[i]? = some (some (wrD w))) : opLF lenL (consA (varF i) nilA) en st = .ok (.int (w.length : Nat)) st := op1L (varF_at h) (by
  show lenL [.tup (w.map rwR)] st = _
  rw [lenL_t, List.length_map])
theorem is_state_r {w : Wr} {a : Int} {st : Sto} (h0 : 0 ≤ a) (h1 : a < (w.length : Nat)) : f_is_state [wrD w, .int a] st = .ok (.bl true) st := by
  refine fn_rt (en0 := [some (wrD w), some (.int a)]) rfl ?_
  unfold b_is_state
  refine ret_ok ?_
  rw [andV_t (bool_ok (callW (n := 1) (d := .int a) rfl))]
  exact chain_t (a := .int 0) (b := .int a) (c := .int (w.length : Nat)) rfl rfl (le_t h0) (lenR rfl) (lt_t h1)
theorem need_state_r {w : Wr} {a : Int} {st : Sto} (h0 : 0 ≤ a) (h1 : a < (w.length : Nat)) : f_need_state [wrD w, .int a] st = .ok .non st := need_run (en0 := [some (wrD w), some (.int a)]) rfl (not_ok (b := true) (tru_ok (call2 (x := wrD w) (y := .int a) (st1 := st) (st2 := st) rfl rfl (is_state_r h0 h1))))
def Asc (n : Int) : Int → List Int → Prop
  | _, [] => True
  | lo, x :: r => lo < x ∧ x < n ∧ Asc n x r
def asB : SF := (seqS (ifS (orT (notT (truF (callF 2 f_is_state (consA (varF 0) (consA (varF 3) nilA))))) (boolF (op2F (cmpI fun i j => decide (i ≤ j)) (varF 3) (varF 2))))
 (retS (litF (.bl false)))
 passS)
 (setS 2 (varF 3)))
theorem as_loop {w : Wr} {d1 : Option D} {st : Sto} : ∀ (T : List Int) (lo : Int) (x3 : Option D), -1 ≤ lo → Asc (w.length : Nat) lo T → ∃ y2 y3, loopI (nameG 3) asB (T.map .int) [some (wrD w), d1, some (.int lo), x3] st = .nx [some (wrD w), d1, y2, y3] st
  | [], lo, x3, _, _ => ⟨_, _, rfl⟩
  | x :: T, lo, x3, hl, ⟨h1, h2, h3⟩ => by
    obtain ⟨y2, y3, e⟩ := as_loop (d1 := d1) (st := st) T x (some (.int x)) (by omega) h3
    refine ⟨y2, y3, ?_⟩
    rw [List.map_cons, ← e]
    refine loop_nx (en1 := [some (wrD w), d1, some (.int lo), some (.int x)]) rfl ?_
    unfold asB
    rw [step_if (b := false) (st' := st) (by
      rw [orT_f (not_ok (b := true) (tru_ok (call2 (x := wrD w) (y := .int x) (st1 := st) (st2 := st) rfl rfl (is_state_r (by omega) h2))))]
      refine bool_ok (op2F_ok (a := .int x) (b := .int lo) (st1 := st) (st2 := st) rfl rfl ?_)
      rw [cmpI_ii, decide_eq_false (by omega)]), if_neg Bool.false_ne_true, step_pass]
    exact set_ok (d := .int x) rfl (show 2 < 4 by decide) rfl
theorem are_states_r {w : Wr} {T : List Int} {st : Sto} (h : Asc (w.length : Nat) (-1) T) : f_are_states [wrD w, .tup (T.map .int)] st = .ok (.bl true) st := by
  obtain ⟨y2, y3, e⟩ := as_loop (d1 := some (.tup (T.map .int))) (st := st) T (-1) none (by omega) h
  refine fn_rt (en0 := [some (wrD w), some (.tup (T.map .int)), none, none]) rfl ?_
  unfold b_are_states
  rw [step_if (b := false) (st' := st) rfl, if_neg Bool.false_ne_true, step_pass]
  rw [step_set (d := .int (-1)) (st' := st) (en' := [some (wrD w), some (.tup (T.map .int)), some (.int (-1)), none]) rfl (show 2 < 4 by decide) rfl]
  show seqS (forS (seqI (varF 1)) (nameG 3) asB) _ _ _ = _
  rw [step_of ((for_items rfl).trans e)]
  exact ret_ok rfl
theorem need_states_r {w : Wr} {T : List Int} {st : Sto} (h : Asc (w.length : Nat) (-1) T) : f_need_states [wrD w, .tup (T.map .int)] st = .ok .non st := need_run (en0 := [some (wrD w), some (.tup (T.map .int))]) rfl (not_ok (b := true) (tru_ok (call2 (x := wrD w) (y := .tup (T.map .int)) (st1 := st) (st2 := st) rfl rfl (are_states_r h))))
/-! going on within states -/
def fl (T : List Int) (ms : Mvr) : Mvr := ms.filter fun m => inSq (m.1 : Nat) T
def flw (T : List Int) (w : Wr) : List Mvr := w.map fun r => fl T r.2
theorem lc_filt {own : List Nat} {g : GF} {t : TF} {elt : EF} {en : En} {st : Sto} {α : Type} {f φ : α → D} {p : α → Bool} : ∀ {xs : List α}, (∀ x ∈ xs, ∃ en1, g (f x) st (wipeE en own) = some en1 ∧ t en1 st = .ok (p x) st ∧ elt en1 st = .ok (φ x) st) → lcI own g t elt (xs.map f) en st = .ok ((xs.filter p).map φ) st
  | [], _ => rfl
  | x :: r, h => by
    obtain ⟨en1, h1, h2, h3⟩ := h x List.mem_cons_self
    have hr := lc_filt (own := own) (g := g) (t := t) (elt := elt) (en := en) (st := st) (f := f) (φ := φ) (p := p) (xs := r) fun y hy => h y (List.mem_cons_of_mem _ hy)
    rw [List.map_cons]
    unfold lcI
    rw [h1]
    simp only [h2]
    cases e : p x with
    | true =>
      simp only [h3]
      show (lcI own g t elt (r.map f) en st).bind _ = _
      rw [hr, List.filter_cons_of_pos e]
      rfl
    | false =>
      show lcI own g t elt (r.map f) en st = _
      rw [hr, List.filter_cons_of_neg (by rw [e]; exact Bool.false_ne_true)]
theorem lcF_it {own : List Nat} {g : GF} {t : TF} {elt : EF} {it : IF} {ds ys : List D} {en : En} {st st1 st2 : Sto} (hi : it en st = .ok (.items ds) st1) (hl : ds.length ≤ 1000) (h : lcI own g t elt ds en st1 = .ok ys st2) : lcF own g t elt it en st = .ok (.lst ys) st2 := by
  unfold lcF lcG
  rw [hi]
  show R.bind (if ds.length ≤ sizeLine then lcI own g t elt ds en st1 else .bad) _ = _
  rw [if_pos (Nat.le_trans hl (by decide)), h]
  rfl
theorem inQ_t {i : Int} {T : List Int} {st : Sto} : inQD false (.int i) (.tup (T.map .int)) st = some (.bl (inSq i T), st) := by
  show (intsO (T.map .int)).bind (fun is => some (D.bl (inSq i is), st)) = _
  rw [intsO_map]
  rfl
theorem msum_fl (T : List Int) : ∀ ms : Mvr, (∀ m ∈ ms, 0 ≤ m.2) → msum (fl T ms) ≤ msum ms
  | [], _ => Rat.le_refl
  | m :: r, h => by
    have a := msum_fl T r fun q hq => h q (List.mem_cons_of_mem _ hq)
    have c := h m List.mem_cons_self
    unfold fl at a ⊢
    rw [List.filter_cons]
    split
    · show m.2 + msum _ ≤ m.2 + msum r
      grind
    · show _ ≤ m.2 + msum r
      grind
section
variable {P P' B : Nat} {w : Wr} {b : Rat} {T : List Int} {ps : List Rat} {st : Sto}
theorem chok (hw : WrOk P' w) (hb0 : 0 < b) (hb1 : b < 1) (sb : Sz B b) (B8 : B ≤ 8) (hl : ps.length = w.length) (hp : ∀ p ∈ ps, Sz P p) (hP : P ≤ 30) : ChOk w.length B 8 P b ps (flw T w) := by
  have l6 := hw.l6
  have Pn : P * w.length ≤ 30 * 6 := Nat.mul_le_mul hP l6
  refine ⟨hw.l1, by omega, hl, by unfold flw; rw [List.length_map], hb0, hb1, sb, hp, fun ms hms => ?_, B8, by omega, by omega, ?_⟩
  · obtain ⟨r, hr, rfl⟩ := List.mem_map.mp hms
    have R := hw.rows r hr
    obtain ⟨S, s0, s8, sd⟩ := R.s
    refine ⟨?_, fun m hm => R.mv m (List.mem_filter.mp hm).1, ?_, ?_⟩
    · have := List.length_filter_le (fun m : Nat × Rat => inSq (m.1 : Nat) T) r.2
      have := R.len
      unfold fl
      omega
    · refine Nat.le_trans (Nat.le_of_dvd s0 (cbF_dvd _ 1 (Nat.one_dvd _) fun x hx => ?_)) s8
      obtain ⟨m, hm, rfl⟩ := List.mem_map.mp hx
      exact sd m (List.mem_filter.mp hm).1
    · have := msum_fl T r.2 fun m hm => (R.mv m hm).2.2
      rw [R.sum] at this
      exact this
  · have h1 : 6 + B + 8 + P + P * w.length + 1 ≤ 233 := by omega
    have h2 := Nat.mul_le_mul h1 (show w.length + 1 ≤ 7 by omega)
    omega
theorem going_on_r {TD : D} (hT : ∀ i : Int, inQD false (.int i) TD st = some (.bl (inSq i T), st)) (hw : WrOk P' w) : callF 3 f_sums (consA (varF 1) (consA (varF 2) (consA (varF 4) nilA))) [some (wrD w), some (fr b), some (.lst (ps.map fr)), some TD, some (.lst ((flw T w).map msD)), none, none, none] st = f_sums [fr b, .lst (ps.map fr), .lst ((flw T w).map msD)] st → f_going_on [wrD w, fr b, .lst (ps.map fr), TD] st = f_sums [fr b, .lst (ps.map fr), .lst ((flw T w).map msD)] st := fun hc => by
  have l6 := hw.l6
  have e : lcF [5, 6] (tupG 2 (consG (nameG 5) (consG (nameG 6) nilG))) yesT (lcF [7] (nameG 7) (boolF (op2F (inQD false) (op2F ixD (varF 7) (litF (.int 0))) (varF 3))) (varF 7) (seqI (varF 6))) (seqI (varF 0)) [some (wrD w), some (fr b), some (.lst (ps.map fr)), some TD, none, none, none, none] st = .ok (.lst ((flw T w).map msD)) st := by
    refine lc_all (ds := w.map rwR) (st1 := st) rfl (by rw [List.length_map]; omega) ?_
    unfold flw
    rw [List.map_map]
    refine lc_map (f := rwR) fun r hr => ⟨[some (wrD w), some (fr b), some (.lst (ps.map fr)), some TD, none, some (fr r.1), some (.tup (r.2.map mvR)), none], rfl, ?_⟩
    have := (hw.rows r hr).len
    refine lcF_it (ds := r.2.map mvR) (st1 := st) rfl (by rw [List.length_map]; omega) ?_
    refine lc_filt (f := mvR) (φ := mvR) (p := fun m => inSq (m.1 : Nat) T) fun m hm => ⟨[some (wrD w), some (fr b), some (.lst (ps.map fr)), some TD, none, some (fr r.1), some (.tup (r.2.map mvR)), some (mvR m)], rfl, ?_, rfl⟩
    exact bool_ok (op2F_ok (a := .int (m.1 : Nat)) (b := TD) (st1 := st) (st2 := st) (ix0 rfl) rfl (hT _))
  unfold f_going_on fnF b_going_on
  show (match seqS (setS 4 _) _ [some (wrD w), some (fr b), some (.lst (ps.map fr)), some TD, none, none, none, none] st with | .nx _ st' => R.ok D.non st' | .rt d st' => .ok d st' | .ex c p _ st' => .ex c p st' | _ => .bad) = _
  rw [step_set (en' := [some (wrD w), some (fr b), some (.lst (ps.map fr)), some TD, some (.lst ((flw T w).map msD)), none, none, none]) e (show 4 < 8 by decide) rfl]
  unfold retS
  rw [hc]
  cases f_sums [fr b, .lst (ps.map fr), .lst ((flw T w).map msD)] st <;> rfl
theorem mulD_l {ds : List D} {j : Int} {st : Sto} (h1 : -(2 ^ 63) ≤ j) (h2 : j < 2 ^ 63) (h3 : ds.length * j.toNat ≤ sizeLine) : mulD (.lst ds) (.int j) st = some (.lst (List.replicate j.toNat ds).flatten, st) := by
  have e : (decide (-(2 ^ 63) ≤ j) && decide (j < 2 ^ 63) && decide (ds.length * j.toNat ≤ sizeLine)) = true := by rw [decide_eq_true h1, decide_eq_true h2, decide_eq_true h3]; rfl
  show (if decide (-(2 ^ 63) ≤ j) && decide (j < 2 ^ 63) && decide (ds.length * j.toNat ≤ sizeLine) then some (D.lst (List.replicate j.toNat ds).flatten, st) else none) = _
  exact if_pos e
theorem rep_one (d : D) (n : Nat) : (List.replicate n [d]).flatten = List.replicate n d := by
  induction n with
  | zero => rfl
  | succ n ih =>
    rw [List.replicate_succ, List.flatten_cons, ih, List.replicate_succ]
    rfl
theorem fr_one : fr 1 = .tup [.int 1, .int 1] := rfl
theorem ones_is {n : Nat} (hn : n ≤ 1000) : mulD (.lst [.tup [.int 1, .int 1]]) (.int (n : Nat)) st = some (.lst ((List.replicate n (1 : Rat)).map fr), st) := by
  have hs : sizeLine = 16777216 := sizeLine_eq
  have := mulD_l (ds := [.tup [.int 1, .int 1]]) (j := (n : Nat)) (st := st) (Int.le_trans (show -(2 ^ 63) ≤ (0 : Int) by decide) (Int.natCast_nonneg n)) (Int.lt_of_lt_of_le (show ((n : Nat) : Int) < 1001 by omega) (by decide)) (by rw [Int.toNat_natCast, List.length_singleton]; omega)
  rw [Int.toNat_natCast, rep_one, ← fr_one] at this
  rw [List.map_replicate]
  exact this
end
end Lw

namespace Lw
open PySem PySem.Spec PyProof.Rows L2 Ev
open Ch (S Sub Sol Whole)
def pw (w : Wr) (j : Nat) : Rat := (w.map (·.1)).getD j 0
structure Hy (P B : Nat) (w : Wr) (b : Rat) (T : List Int) : Prop where
  hw : WrOk P w
  b0 : 0 < b
  b1 : b < 1
  sb : Sz B b
  B8 : B ≤ 8
  P30 : P ≤ 30
  asc : Asc (w.length : Nat) (-1) T
section
variable {P B : Nat} {w : Wr} {b : Rat} {T : List Int}
theorem Hy.ch (h : Hy P B w b T) : ChOk w.length B 8 P b (w.map (·.1)) (flw T w) := chok h.hw h.b0 h.b1 h.sb h.B8 (List.length_map _) (fun p hp => by
  obtain ⟨r, hr, rfl⟩ := List.mem_map.mp hp
  exact (h.hw.rows r hr).pay) h.P30
theorem sz1 : Sz 0 1 := ⟨by decide, by decide⟩
theorem Hy.ch1 (h : Hy P B w b T) : ChOk w.length B 8 0 b (List.replicate w.length 1) (flw T w) := chok h.hw h.b0 h.b1 h.sb h.B8 (List.length_replicate) (fun p hp => by
  rw [(List.mem_replicate.mp hp).2]
  exact sz1) (by decide)
theorem going_is {TD : D} {st : Sto} (hT : ∀ i : Int, inQD false (.int i) TD st = some (.bl (inSq i T), st)) (hw : WrOk P w) {ps : List Rat} {xs : List Rat} (e : f_sums [fr b, .lst (ps.map fr), .lst ((flw T w).map msD)] st = .ok (.lst (xs.map fr)) st) : f_going_on [wrD w, fr b, .lst (ps.map fr), TD] st = .ok (.lst (xs.map fr)) st := by
  rw [going_on_r hT hw (call3 (x := fr b) (y := .lst (ps.map fr)) (z := .lst ((flw T w).map msD)) (st1 := st) (st2 := st) (st3 := st) rfl rfl rfl e |>.trans e.symm)]
  exact e
theorem zip_get {xs ys : List Rat} {i : Nat} (h1 : i < xs.length) (h2 : i < ys.length) : (zipF (xs.map fr) (ys.map fr))[i]? = some (.tup [fr (xs.getD i 0), fr (ys.getD i 0)]) := by
  have : ∀ (as bs : List D) (i : Nat) (a c : D), as[i]? = some a → bs[i]? = some c → (zipF as bs)[i]? = some (.tup [a, c]) := fun as => by
    induction as with
    | nil => intro bs i a c ha; simp at ha
    | cons x as ih =>
      intro bs i a c ha hc
      cases bs with
      | nil => simp at hc
      | cons y bs =>
        cases i with
        | zero =>
          simp at ha hc
          subst ha hc
          rfl
        | succ i => exact ih bs i a c (by simpa using ha) (by simpa using hc)
  exact this _ _ _ _ _ (getD_ix h1) (getD_ix h2)
/-- for all states: within T, as TD tells it -/
theorem all_is (hw : WrOk P w) (b0 : 0 < b) (b1 : b < 1) (sb : Sz B b) (B8 : B ≤ 8) (P30 : P ≤ 30) {TD : D} {st : Sto} (hT : ∀ i : Int, inQD false (.int i) TD st = some (.bl (inSq i T), st)) :
    ∃ xs ys : List Rat, f_all_spent [wrD w, fr b, TD] st = .ok (.lst (zipF (xs.map fr) (ys.map fr))) st ∧ xs.length = w.length ∧ ys.length = w.length ∧ Sol w.length (mat (flw T w)) b (pw w) (fun i => xs.getD i 0) ∧ Sol w.length (mat (flw T w)) b (fun _ => 1) (fun i => ys.getD i 0) ∧
    (∀ x ∈ xs, Sz 3000 x ∧ x.den ≤ 2 ^ ((9 + B) * w.length + P * w.length)) ∧ ∀ y ∈ ys, Sz 3000 y ∧ y.den ≤ 2 ^ ((9 + B) * w.length) := by
  have l6 := hw.l6
  have ch : ChOk w.length B 8 P b (w.map (·.1)) (flw T w) := chok hw b0 b1 sb B8 (List.length_map _) (fun p hp => by
    obtain ⟨r, hr, rfl⟩ := List.mem_map.mp hp
    exact (hw.rows r hr).pay) P30
  have ch1 : ChOk w.length B 8 0 b (List.replicate w.length 1) (flw T w) := chok hw b0 b1 sb B8 (List.length_replicate) (fun p hp => by
    rw [(List.mem_replicate.mp hp).2]
    exact sz1) (by decide)
  obtain ⟨xs, e1, lx, sx, bx⟩ := sums_is ch st
  obtain ⟨ys, e2, ly, sy, by_⟩ := sums_is ch1 st
  have g1 := going_is hT hw e1
  have g2 := going_is hT hw e2
  have sy' : Sol w.length (mat (flw T w)) b (fun _ => 1) (fun i => ys.getD i 0) := fun j hj => by
    have q : ys.getD j 0 = (List.replicate w.length (1 : Rat)).getD j 0 + b * S w.length (fun k => mat (flw T w) j k * ys.getD k 0) := sy j hj
    rw [show (List.replicate w.length (1 : Rat)).getD j 0 = 1 from by rw [List.getD_eq_getElem?_getD, List.getElem?_replicate, if_pos hj]; rfl] at q
    exact q
  rw [show 1 + B + 8 = 9 + B from by omega] at bx by_
  rw [Nat.zero_mul, Nat.add_zero] at by_
  refine ⟨xs, ys, ?_, lx, ly, sx, sy', bx, by_⟩
  refine fn_rt (en0 := [some (wrD w), some (fr b), some TD, none, none, none, none]) rfl ?_
  unfold b_all_spent
  have p1 : lcF [5, 6] (tupG 2 (consG (nameG 5) (consG (nameG 6) nilG))) yesT (varF 5) (seqI (varF 0)) [some (wrD w), some (fr b), some TD, none, none, none, none] st = .ok (.lst ((w.map (·.1)).map fr)) st := by
    refine lc_all (ds := w.map rwR) (st1 := st) rfl (by rw [List.length_map]; omega) ?_
    rw [List.map_map]
    exact lc_map (f := rwR) (φ := fr ∘ (·.1)) fun r hr => ⟨[some (wrD w), some (fr b), some TD, none, none, some (fr r.1), some (.tup (r.2.map mvR))], rfl, rfl⟩
  rw [step_set (en' := [some (wrD w), some (fr b), some TD, some (.lst (xs.map fr)), none, none, none]) (call4 (x := wrD w) (y := fr b) (st1 := st) (st2 := st) rfl rfl p1 (u := TD) (st4 := st) rfl g1) (show 3 < 7 by decide) rfl]
  rw [step_set (en' := [some (wrD w), some (fr b), some TD, some (.lst (xs.map fr)), some (.lst (ys.map fr)), none, none]) (call4 (x := wrD w) (y := fr b) (st1 := st) (st2 := st) (st3 := st) rfl rfl (op2F_ok (a := .lst [.tup [.int 1, .int 1]]) (b := .int (w.length : Nat)) (st1 := st) (st2 := st) rfl (lenR rfl) (ones_is (by omega))) (u := TD) (st4 := st) rfl g2) (show 4 < 7 by decide) rfl]
  refine ret_ok ?_
  unfold lzipF
  rw [consA_ok (d := .lst (xs.map fr)) (st1 := st) rfl (consA_ok (d := .lst (ys.map fr)) (st1 := st) rfl nilA_e)]
  show (if (zipF (xs.map fr) (ys.map fr)).length ≤ 1000 then R.ok (D.lst (zipF (xs.map fr) (ys.map fr))) st else .bad) = _
  rw [if_pos (by rw [zipF_length, List.length_map]; omega)]
theorem spent_is (h : Hy P B w b T) {i : Nat} (hi : i < w.length) (st : Sto) : ∃ X Y : Nat → Rat, f_spent [wrD w, fr b, .int (i : Nat), .tup (T.map .int)] st = .ok (.tup [fr (X i), fr (Y i)]) st ∧ Sol w.length (mat (flw T w)) b (pw w) X ∧ Sol w.length (mat (flw T w)) b (fun _ => 1) Y ∧
    Sz 3000 (X i) ∧ (X i).den ≤ 2 ^ ((9 + B) * w.length + P * w.length) ∧ Sz 3000 (Y i) ∧ (Y i).den ≤ 2 ^ ((9 + B) * w.length) := by
  have l6 := h.hw.l6
  obtain ⟨xs, ys, all, lx, ly, sx, sy', bx, by_⟩ := all_is (T := T) (TD := .tup (T.map .int)) (st := st) h.hw h.b0 h.b1 h.sb h.B8 h.P30 fun i => inQ_t
  have mx : xs.getD i 0 ∈ xs := by
    rw [List.getD_eq_getElem?_getD, List.getElem?_eq_getElem (by omega)]
    exact List.getElem_mem _
  have my : ys.getD i 0 ∈ ys := by
    rw [List.getD_eq_getElem?_getD, List.getElem?_eq_getElem (by omega)]
    exact List.getElem_mem _
  have bx := bx _ mx
  have by_ := by_ _ my
  refine ⟨fun i => xs.getD i 0, fun i => ys.getD i 0, ?_, sx, sy', bx.1, bx.2, by_.1, by_.2⟩
  refine fn_rt (en0 := [some (wrD w), some (fr b), some (.int (i : Nat)), some (.tup (T.map .int))]) rfl ?_
  unfold b_spent
  rw [step_expr (call1 (x := wrD w) (st1 := st) rfl (need_work_r h.hw))]
  rw [step_expr (call1 (x := fr b) (st1 := st) rfl (need_share_r h.b0 h.b1))]
  rw [step_expr (call2 (x := wrD w) (y := .int (i : Nat)) (st1 := st) (st2 := st) rfl rfl (need_state_r (by omega) (by omega)))]
  rw [step_expr (call2 (x := wrD w) (y := .tup (T.map .int)) (st1 := st) (st2 := st) rfl rfl (need_states_r h.asc))]
  exact ret_ok (op2F_ok (call3 (x := wrD w) (y := fr b) (z := .tup (T.map .int)) (st1 := st) (st2 := st) (st3 := st) rfl rfl rfl all) (b := .int (i : Nat)) (st2 := st) rfl (ixD_l (atD_nat (zip_get (by omega) (by omega)))))
/-! what solves the steps is at least 1 -/
theorem nonneg {n : Nat} {m : Nat → Nat → Rat} (hm : Sub n m) {b : Rat} (b0 : 0 < b) (b1 : b < 1) {p x : Nat → Rat} (hx : Sol n m b p x) (hp : ∀ i, i < n → 0 ≤ p i) : ∀ i, i < n → 0 ≤ x i := by
  intro i hi
  have := Ch.max0 hm b0 b1 (y := fun i => - x i) (fun i hi => by
    show - x i ≤ b * S n (fun j => m i j * - x j)
    rw [Ch.S_congr (g := fun j => (-1) * (m i j * x j)) fun j _ => by grind, Ch.S_mul, hx i hi]
    have := hp i hi
    grind) i hi
  have : -x i ≤ 0 := this
  grind
theorem S_nn {n : Nat} {f : Nat → Rat} (h : ∀ i, i < n → 0 ≤ f i) : 0 ≤ S n f := by
  have := Ch.S_le (n := n) (f := fun _ => 0) (g := f) h
  rwa [Ch.S_const0] at this
theorem ge_pay {n : Nat} {m : Nat → Nat → Rat} (hm : Sub n m) {b : Rat} (b0 : 0 < b) (b1 : b < 1) {p x : Nat → Rat} (hx : Sol n m b p x) (hp : ∀ i, i < n → 0 ≤ p i) : ∀ i, i < n → p i ≤ x i := by
  intro i hi
  have nn := nonneg hm b0 b1 hx hp
  have s := S_nn (n := n) (f := fun j => m i j * x j) fun j hj => Rat.mul_nonneg (hm.nn i j) (nn j hj)
  have := Rat.mul_nonneg (Rat.le_of_lt b0) s
  have e := hx i hi
  grind
/-- a greater share brings no less -/
theorem more {n : Nat} {m : Nat → Nat → Rat} (hm : Sub n m) {b c : Rat} (b0 : 0 < b) (bc : b ≤ c) (c1 : c < 1) {p x y : Nat → Rat} (hx : Sol n m b p x) (hy : Sol n m c p y) (hp : ∀ i, i < n → 0 ≤ p i) : ∀ i, i < n → x i ≤ y i := by
  have nn := nonneg hm b0 (by grind) hx hp
  intro i hi
  have := Ch.max0 hm (b := c) (by grind) c1 (y := fun i => x i - y i) (fun i hi => by
    show x i - y i ≤ c * S n (fun j => m i j * (x j - y j))
    rw [Ch.S_congr (g := fun j => m i j * x j - m i j * y j) fun j _ => by grind, Ch.S_sub, hx i hi, hy i hi]
    have s := S_nn (n := n) (f := fun j => m i j * x j) fun j hj => Rat.mul_nonneg (hm.nn i j) (nn j hj)
    have := Rat.mul_le_mul_of_nonneg_right bc s
    grind) i hi
  have : x i - y i ≤ 0 := this
  grind
/-- pays met within T are at least lo: so is the rate -/
theorem low {n : Nat} {m : Nat → Nat → Rat} (hm : Sub n m) {b : Rat} (b0 : 0 < b) (b1 : b < 1) {p x y : Nat → Rat} (hx : Sol n m b p x) (hy : Sol n m b (fun _ => 1) y) {In : Nat → Bool} (hIn : ∀ i j, In j = false → m i j = 0) {lo : Rat} (hlo : ∀ j, j < n → In j = true → lo ≤ p j) {i : Nat} (hi : i < n) (hpi : lo ≤ p i) : lo * y i ≤ x i := by
  have eq : ∀ k, k < n → lo * y k - x k = (lo - p k) + b * S n (fun j => m k j * (lo * y j - x j)) := fun k hk => by
    rw [Ch.S_congr (g := fun j => lo * (m k j * y j) - m k j * x j) fun j _ => by grind, Ch.S_sub, Ch.S_mul, hx k hk, hy k hk]
    grind
  have same : ∀ (z : Nat → Rat), (∀ j, j < n → In j = true → z j = lo * y j - x j) → ∀ k, S n (fun j => m k j * z j) = S n (fun j => m k j * (lo * y j - x j)) := fun z hz k => Ch.S_congr fun j hj => by
    cases e : In j with
    | true => rw [hz j hj e]
    | false =>
      rw [hIn k j e]
      grind
  obtain ⟨Z, hZ⟩ : ∃ Z : Nat → Rat, ∀ k, Z k = if In k = true then lo * y k - x k else b * S n (fun j => m k j * (lo * y j - x j)) := ⟨_, fun _ => rfl⟩
  have main := Ch.max0 hm b0 b1 (y := Z) (fun k hk => by
    rw [same Z (fun j _ e => by rw [hZ, if_pos e]) k, hZ k]
    split
    · rename_i e
      have := hlo k hk e
      rw [eq k hk]
      grind
    · exact Rat.le_refl)
  have sl : S n (fun j => m i j * (lo * y j - x j)) ≤ 0 := by
    have := Ch.S_le (n := n) (f := fun j => m i j * (lo * y j - x j)) (g := fun _ => 0) fun j hj => by
      cases e : In j with
      | true =>
        have := main j hj
        rw [hZ, if_pos e] at this
        have := Ch.mul_le (hm.nn i j) this
        grind
      | false =>
        rw [hIn i j e]
        grind
    rwa [Ch.S_const0] at this
  have := Ch.mul_le (Rat.le_of_lt b0) sl
  have := eq i hi
  grind
end
end Lw

namespace Lw
open PySem PySem.Spec PyProof.Rows L2 Ev
open Ch (S Sub Sol Whole)
/-! same moves -/
theorem mvR_inj {a c : Nat × Rat} (h : mvR a = mvR c) : a = c := by
  unfold mvR at h
  injection h with h
  injection h with h1 h2
  injection h2 with h2 _
  injection h1 with h1
  have := fr_inj h2
  exact Prod.ext (by omega) this
theorem mvs_inj : ∀ {a c : Mvr}, a.map mvR = c.map mvR → a = c
  | [], [], _ => rfl
  | [], _ :: _, h => by cases h
  | _ :: _, [], h => by cases h
  | x :: a, y :: c, h => by
    rw [List.map_cons, List.map_cons] at h
    injection h with h1 h2
    rw [mvR_inj h1, mvs_inj h2]
theorem flw_eq {T : List Int} : ∀ {w v : Wr}, w.map (fun r => D.tup (r.2.map mvR)) = v.map (fun r => D.tup (r.2.map mvR)) → flw T w = flw T v
  | [], [], _ => rfl
  | [], _ :: _, h => by cases h
  | _ :: _, [], h => by cases h
  | x :: w, y :: v, h => by
    rw [List.map_cons, List.map_cons] at h
    injection h with h1 h2
    injection h1 with h1
    have e := mvs_inj h1
    have ih := flw_eq (T := T) h2
    unfold flw at ih ⊢
    rw [List.map_cons, List.map_cons, e, ih]
theorem out0 {T : List Int} : ∀ (ms : Mvr) (j : Nat), inSq (j : Nat) T = false → mm (fl T ms) j = 0
  | [], _, _ => rfl
  | m :: r, j, h => by
    have ih := out0 r j h
    unfold fl at ih ⊢
    rw [List.filter_cons]
    split
    · rename_i e
      show (if m.1 = j then m.2 else 0) + mm _ j = 0
      rw [if_neg, ih]
      · grind
      · intro q
        rw [q, h] at e
        cases e
    · exact ih
theorem flw0 {T : List Int} {w : Wr} (i j : Nat) (h : inSq (j : Nat) T = false) : mat (flw T w) i j = 0 := by
  show mm ((flw T w).getD i []) j = 0
  by_cases hi : i < w.length
  · have : (flw T w).getD i [] = fl T (w[i]).2 := by
      unfold flw
      rw [List.getD_eq_getElem?_getD, List.getElem?_map, List.getElem?_eq_getElem hi]
      rfl
    rw [this]
    exact out0 _ j h
  · have : (flw T w).getD i [] = [] := by
      unfold flw
      rw [List.getD_eq_getElem?_getD, List.getElem?_eq_none (by rw [List.length_map]; omega)]
      rfl
    rw [this]
    rfl
/-! draws -/
theorem anew_ok {st : Sto} {c : Nat} (hp : Pen c st) : ∃ st', f_law_anew [.ref 1] st = .ok (.ref 1) st' ∧ Pen c st' := by
  obtain ⟨cs, a, r, h0, h1, ha, hr, hl⟩ := hp
  refine ⟨st.set 1 (.lst [.ref 0, .int (a : Nat), .int 0]), fn_rt (en0 := [some (.ref 1)]) rfl ?_, ?_⟩
  · unfold b_law_anew
    rw [step_of (sub_ok (d := .int 0) (st1 := st) (st2 := st) (st3 := st) (n := 1) (m := 2) (ds := [.ref 0, .int (a : Nat), .int r]) (q := 2) rfl rfl rfl h1 rfl)]
    exact ret_ok rfl
  · exact ⟨cs, a, 0, by rw [List.getElem?_set_ne (by decide)]; exact h0, List.getElem?_set_self (List.getElem?_eq_some_iff.mp h1).1, ha, by decide, hl⟩
theorem drawnR {st : Sto} {n : Nat} {m : Int} (hp : Pen n st) (hn : n < 900000) (h1 : 1 ≤ m) (h6 : m ≤ 6) : ∃ r st', f_law_drawn_frac [.ref 1, .int m] st = .ok (fr r) st' ∧ Sz 3 r ∧ Pen (n + 2) st' := by
  obtain ⟨r, st1, e1, h0, h1', p1, s1⟩ := takeS (en := [some (.ref 1), some (.int m), none]) (f := varF 0) (g := op2F addD (op2F mulD (litF (.int 2)) (varF 1)) (litF (.int 1))) (m := 2 * m + 1) rfl (op2F_ok (op2F_ok (a := .int 2) (b := .int m) (st1 := st) (st2 := st) rfl rfl (mulD_ii (mulOk_l (by decide) (by decide)))) (b := .int 1) (st2 := st) rfl addD_ii) hp (by omega) (by omega) (by omega)
  obtain ⟨d, st2, e2, hd, p2, s2⟩ := oneS (en := [some (.ref 1), some (.int m), some (.int (r - m))]) (f := varF 0) (g := opLF lstL (consA (litF (.int 1)) (consA (litF (.int 1)) (consA (litF (.int 1)) (consA (litF (.int 2)) (consA (litF (.int 3)) (consA (litF (.int 5)) nilA))))))) (st1 := st1) (ds := [.int 1, .int 1, .int 1, .int 2, .int 3, .int 5]) rfl rfl p1 (by omega) (by decide) (by decide)
  obtain ⟨b, rfl, hb1, hb2⟩ : ∃ b : Int, d = .int b ∧ 1 ≤ b ∧ b ≤ 5 := by
    simp only [List.mem_cons, List.not_mem_nil, or_false] at hd
    rcases hd with h | h | h | h | h | h <;> exact ⟨_, h, by decide, by decide⟩
  have t8 : (r - m).natAbs ≤ 2 ^ 3 := by omega
  have b8 : b.natAbs ≤ 2 ^ 3 := by omega
  have b0 : b ≠ 0 := by omega
  refine ⟨((r - m : Int) : Rat) / (b : Rat), st2, fn_rt (en0 := [some (.ref 1), some (.int m), none]) rfl ?_, Sz.of b0 (div_mul b0) t8 b8, p2⟩
  unfold b_law_drawn_frac
  rw [step_set (en' := [some (.ref 1), some (.int m), some (.int (r - m))]) (op2F_ok e1 (b := .int m) (st2 := st1) rfl subD_ii) (show 2 < 3 by decide) rfl]
  refine ret_ok (call2 (x := .int (r - m)) (st1 := st1) rfl e2 ?_)
  rw [law_frac_is b0 (lt80 b8 (by decide)), frac_r b0 (div_mul b0)]
theorem drawnF {en : En} {st : Sto} {n : Nat} {m : Int} (he : en[1]? = some (some (.ref 1))) (hp : Pen n st) (hn : n < 900000) (h1 : 1 ≤ m) (h6 : m ≤ 6) : ∃ r st', callF 2 f_law_drawn_frac (consA (varF 1) (consA (litF (.int m)) nilA)) en st = .ok (fr r) st' ∧ Sz 3 r ∧ Pen (n + 2) st' := by
  obtain ⟨r, st', e, s, p⟩ := drawnR hp hn h1 h6
  exact ⟨r, st', call2 (varF_at he) (st2 := st) rfl e, s, p⟩
theorem share_draw {st : Sto} {n : Nat} (hp : Pen n st) (hn : n < 900000) : ∃ b st', f_law_drawn_share [.ref 1] st = .ok (fr b) st' ∧ 0 < b ∧ b < 1 ∧ Sz 4 b ∧ Pen (n + 1) st' := by
  obtain ⟨d, st', e, hd, p, -⟩ := oneS (en := [some (.ref 1)]) (f := varF 0) (g := (opLF lstL (consA (opLF tupL (consA (litF (.int 1)) (consA (litF (.int 2)) nilA))) (consA (opLF tupL (consA (litF (.int 1)) (consA (litF (.int 2)) nilA))) (consA (opLF tupL (consA (litF (.int 2)) (consA (litF (.int 3)) nilA))) (consA (opLF tupL (consA (litF (.int 1)) (consA (litF (.int 3)) nilA))) (consA (opLF tupL (consA (litF (.int 3)) (consA (litF (.int 4)) nilA))) (consA (opLF tupL (consA (litF (.int 9)) (consA (litF (.int 10)) nilA))) (consA (opLF tupL (consA (litF (.int 1)) (consA (litF (.int 10)) nilA))) (consA (opLF tupL (consA (litF (.int 3)) (consA (litF (.int 5)) nilA))) nilA)))))))))) (st := st) (st1 := st)
    (ds := [.tup [.int 1, .int 2], .tup [.int 1, .int 2], .tup [.int 2, .int 3], .tup [.int 1, .int 3], .tup [.int 3, .int 4], .tup [.int 9, .int 10], .tup [.int 1, .int 10], .tup [.int 3, .int 5]]) rfl rfl hp (by omega) (by decide) (by decide)
  obtain ⟨p', q, hpr, h0, h1⟩ : ∃ p q : Int, Pr d 4 p q ∧ 0 < p ∧ p < q := by
    have pr : ∀ p q : Int, 1 ≤ q → Nat.gcd p.natAbs q.natAbs = 1 → p.natAbs ≤ 2 ^ 4 → q.natAbs ≤ 2 ^ 4 → Pr (.tup [.int p, .int q]) 4 p q := fun p q h1 h2 h3 h4 => ⟨p, q, rfl, h1, h2, rfl, h1, h3, h4⟩
    simp only [List.mem_cons, List.not_mem_nil, or_false] at hd
    rcases hd with h | h | h | h | h | h | h | h <;> subst h <;> exact ⟨_, _, pr _ _ (by decide) (by decide) (by decide) (by decide), by decide, by decide⟩
  obtain ⟨b, rfl, sb, eb⟩ := hpr.fr
  have q0 : (0 : Rat) < (q : Rat) := by
    have : 0 < q := by omega
    exact_mod_cast this
  have p0 : (0 : Rat) < (p' : Rat) := by exact_mod_cast h0
  have pq : (p' : Rat) < (q : Rat) := by exact_mod_cast h1
  refine ⟨b, st', fn_rt (en0 := [some (.ref 1)]) rfl (ret_ok e), ?_, ?_, sb, p⟩
  · rcases (Rat.le_total : b ≤ 0 ∨ 0 ≤ b) with h | h
    · have := Rat.mul_le_mul_of_nonneg_right h (Rat.le_of_lt q0)
      grind
    · rcases Rat.le_iff_lt_or_eq.mp h with h | h
      · exact h
      · rw [← h] at eb
        grind
  · rcases (Rat.le_total : b ≤ 1 ∨ 1 ≤ b) with h | h
    · rcases Rat.le_iff_lt_or_eq.mp h with h | h
      · exact h
      · rw [h] at eb
        grind
    · have := Rat.mul_le_mul_of_nonneg_right h (Rat.le_of_lt q0)
      grind
/-- the share with one more above and below -/
theorem more_is {b : Rat} (h0 : 0 < b) (h1 : b < 1) (sb : Sz 4 b) : ∃ c : Rat, (∀ st, f_law_frac [.int (b.num + 1), .int ((b.den : Nat) + 1)] st = .ok (fr c) st) ∧ b ≤ c ∧ c < 1 ∧ Sz 5 c := by
  have d0 := b.den_pos
  have z : (((b.den : Nat) : Int) + 1) ≠ 0 := by omega
  have sd := sb.den
  have sn := sb.1
  have e := r_nd b
  have w := div_mul (a := b.num + 1) z
  refine ⟨((b.num + 1 : Int) : Rat) / (((b.den : Nat) : Int) + 1 : Int), fun st => ?_, ?_, ?_, Sz.of z w (by omega) (by omega)⟩
  · rw [law_frac_is z (lt80 (N := 5) (by omega) (by decide)), frac_r z w]
  · generalize ((b.num + 1 : Int) : Rat) / (((b.den : Nat) : Int) + 1 : Int) = c at w
    rw [Rat.intCast_add, Rat.intCast_add, ← e] at w
    have dp : (0 : Rat) < ((b.den : Nat) : Int) := by
      have : (0 : Int) < ((b.den : Nat) : Int) := by omega
      exact_mod_cast this
    have w : c * ((((b.den : Nat) : Int) : Rat) + 1) = b * (((b.den : Nat) : Int) : Rat) + 1 := w
    generalize (((b.den : Nat) : Int) : Rat) = d at *
    rcases (Rat.le_total : b ≤ c ∨ c ≤ b) with h | h
    · exact h
    · have := Rat.mul_le_mul_of_nonneg_right h (show (0 : Rat) ≤ d + 1 by grind)
      grind
  · generalize ((b.num + 1 : Int) : Rat) / (((b.den : Nat) : Int) + 1 : Int) = c at w
    rw [Rat.intCast_add, Rat.intCast_add, ← e] at w
    have dp : (0 : Rat) < ((b.den : Nat) : Int) := by
      have : (0 : Int) < ((b.den : Nat) : Int) := by omega
      exact_mod_cast this
    have w : c * ((((b.den : Nat) : Int) : Rat) + 1) = b * (((b.den : Nat) : Int) : Rat) + 1 := w
    generalize (((b.den : Nat) : Int) : Rat) = d at *
    rcases (Rat.le_total : 1 ≤ c ∨ c ≤ 1) with h | h
    · have := Rat.mul_le_mul_of_nonneg_right h (show (0 : Rat) ≤ d + 1 by grind)
      have : b * d < d := by
        have := Rat.mul_lt_mul_of_pos_right h1 dp
        grind
      grind
    · rcases Rat.le_iff_lt_or_eq.mp h with h | h
      · exact h
      · rw [h] at w
        have : b * d < d := by
          have := Rat.mul_lt_mul_of_pos_right h1 dp
          grind
        grind
end Lw

namespace Lw
open PySem PySem.Spec PyProof.Rows L2 Ev
open Ch (S Sub Sol Whole)
/-! how great sums are -/
theorem sol_le {n : Nat} {m : Nat → Nat → Rat} (hm : Sub n m) {b : Rat} (b0 : 0 < b) (b1 : b < 1) {p x : Nat → Rat} (hx : Sol n m b p x) {K : Rat} (hK : 0 ≤ K) (h : ∀ i, i < n → p i ≤ K * (1 - b)) : ∀ i, i < n → x i ≤ K := by
  intro i hi
  have := Ch.max0 hm b0 b1 (y := fun i => x i - K) (fun i hi => by
    show x i - K ≤ b * S n (fun j => m i j * (x j - K))
    rw [Ch.S_congr (g := fun j => m i j * x j - K * m i j) fun j _ => by grind, Ch.S_sub, Ch.S_mul, hx i hi]
    have h1 := h i hi
    have h2 := Ch.mul_le hK (hm.le i)
    have h3 := Ch.mul_le (Rat.le_of_lt b0) h2
    grind) i hi
  have : x i - K ≤ 0 := this
  grind
theorem num_le {r : Rat} {k : Nat} (h1 : r ≤ ((2 ^ k : Nat) : Rat)) (h2 : -r ≤ ((2 ^ k : Nat) : Rat)) {d : Nat} (hd : r.den ≤ 2 ^ d) : Sz (k + d) r := by
  have e := r_nd r
  have dp : (0 : Rat) ≤ ((r.den : Nat) : Rat) := by exact_mod_cast Nat.zero_le _
  have a1 := Rat.mul_le_mul_of_nonneg_right h1 dp
  have a2 := Rat.mul_le_mul_of_nonneg_right h2 dp
  have e' : r * ((r.den : Nat) : Rat) = (r.num : Rat) := e
  have c1 : (r.num : Rat) ≤ (((2 ^ k * r.den : Nat) : Int) : Rat) := by
    have : (((2 ^ k * r.den : Nat) : Int) : Rat) = ((2 ^ k : Nat) : Rat) * ((r.den : Nat) : Rat) := by
      rw [natR]
      exact_mod_cast rfl
    rw [this, ← e']
    exact a1
  have c2 : ((-r.num : Int) : Rat) ≤ (((2 ^ k * r.den : Nat) : Int) : Rat) := by
    have : (((2 ^ k * r.den : Nat) : Int) : Rat) = ((2 ^ k : Nat) : Rat) * ((r.den : Nat) : Rat) := by
      rw [natR]
      exact_mod_cast rfl
    rw [this, Rat.intCast_neg, ← e']
    grind
  have i1 := Rat.intCast_le_intCast.mp c1
  have i2 := Rat.intCast_le_intCast.mp c2
  have m : 2 ^ k * r.den ≤ 2 ^ (k + d) := by
    rw [Nat.pow_add]
    exact Nat.mul_le_mul_left _ hd
  exact ⟨by omega, Nat.le_trans hd (Nat.pow_le_pow_right (by decide) (by omega))⟩
theorem abs_le {r : Rat} {P : Nat} (h : Sz P r) : r ≤ ((2 ^ P : Nat) : Rat) ∧ -r ≤ ((2 ^ P : Nat) : Rat) := by
  have e := r_nd r
  have e' : r * ((r.den : Nat) : Rat) = (r.num : Rat) := e
  have d1 : (1 : Rat) ≤ ((r.den : Nat) : Rat) := by exact_mod_cast r.den_pos
  have n1 : (r.num : Rat) ≤ ((2 ^ P : Nat) : Rat) := by
    have : r.num ≤ ((2 ^ P : Nat) : Int) := by have := h.1; omega
    have := Rat.intCast_le_intCast.mpr this
    exact this
  have n2 : -(r.num : Rat) ≤ ((2 ^ P : Nat) : Rat) := by
    have : -r.num ≤ ((2 ^ P : Nat) : Int) := by have := h.1; omega
    have := Rat.intCast_le_intCast.mpr this
    rw [Rat.intCast_neg] at this
    exact this
  have p0 : (0 : Rat) ≤ ((2 ^ P : Nat) : Rat) := by exact_mod_cast Nat.zero_le _
  constructor
  · rcases (Rat.le_total : r ≤ 0 ∨ 0 ≤ r) with q | q
    · grind
    · have := Ch.mul_le q d1
      grind
  · rcases (Rat.le_total : r ≤ 0 ∨ 0 ≤ r) with q | q
    · have := Ch.mul_le (show (0 : Rat) ≤ -r by grind) d1
      grind
    · grind
/-- sums: their size -/
theorem sol_sz {n : Nat} {m : Nat → Nat → Rat} (hm : Sub n m) {b : Rat} (b0 : 0 < b) (b1 : b < 1) {p x : Nat → Rat} (hx : Sol n m b p x) {P B d : Nat} (hp : ∀ i, i < n → Sz P (p i)) (sb : Sz B b) {i : Nat} (hi : i < n) (hd : (x i).den ≤ 2 ^ d) : Sz (P + B + d) (x i) := by
  have p0 : (0 : Rat) ≤ ((2 ^ P : Nat) : Rat) := by exact_mod_cast Nat.zero_le _
  have K0 : (0 : Rat) ≤ ((2 ^ (P + B) : Nat) : Rat) := by exact_mod_cast Nat.zero_le _
  have key : ((2 ^ P : Nat) : Rat) ≤ ((2 ^ (P + B) : Nat) : Rat) * (1 - b) := by
    have e : b * ((b.den : Nat) : Rat) = (b.num : Rat) := r_nd b
    have nd : b.num < (b.den : Nat) := by
      have := (Rat.lt_iff b 1).mp b1
      simpa using this
    have one : (1 : Rat) ≤ ((b.den : Nat) : Rat) * (1 - b) := by
      have h1 : ((1 : Int) : Rat) ≤ ((((b.den : Nat) : Int) - b.num : Int) : Rat) := Rat.intCast_le_intCast.mpr (by omega)
      rw [Rat.intCast_sub, natR] at h1
      have h1 : (1 : Rat) ≤ ((b.den : Nat) : Rat) - (b.num : Rat) := h1
      grind
    have dB : ((b.den : Nat) : Rat) ≤ ((2 ^ B : Nat) : Rat) := by exact_mod_cast sb.2
    have two : (1 : Rat) ≤ ((2 ^ B : Nat) : Rat) * (1 - b) := Rat.le_trans one (Rat.mul_le_mul_of_nonneg_right dB (by grind))
    have e2 : ((2 ^ (P + B) : Nat) : Rat) = ((2 ^ P : Nat) : Rat) * ((2 ^ B : Nat) : Rat) := by
      rw [Nat.pow_add]
      exact_mod_cast rfl
    rw [e2]
    have := Ch.mul_le p0 two
    grind
  have u := sol_le hm b0 b1 hx K0 (fun j hj => Rat.le_trans (abs_le (hp j hj)).1 key) i hi
  have hn : Sol n m b (fun j => - p j) (fun j => - x j) := fun j hj => by
    show - x j = - p j + b * S n fun k => m j k * - x k
    rw [Ch.S_congr (g := fun k => (-1) * (m j k * x k)) fun k _ => by grind, Ch.S_mul, hx j hj]
    grind
  have v := sol_le hm b0 b1 hn K0 (fun j hj => Rat.le_trans (abs_le (hp j hj)).2 key) i hi
  exact num_le u v hd
/-! the law's fractions, great ones too -/
theorem divisor_big (a b : Int) (st : Sto) (h : b.natAbs.log2 < 8000) : f_law_divisor [.int a, .int b] st = .ok (.int ((Nat.gcd a.natAbs b.natAbs : Nat) : Int)) st := by
  refine fn_rt (en0 := [some (.int a), some (.int b)]) rfl ?_
  unfold b_law_divisor
  have abs : ∀ i : Int, (if i < 0 then -i else i) = (i.natAbs : Nat) := fun i => by split <;> omega
  rw [step_par (d := .int (a.natAbs : Nat)) (e := .int (b.natAbs : Nat)) (st' := st) (en' := [some (.int (a.natAbs : Nat)), some (.int (b.natAbs : Nat))]) (by simp only [varF_0, varF_s, litF_e, op2F_e, op1F_e, opLF_e, consA_e, nilA_e, boolF_e, truF_e, notT_e, orT_e, andT_e, andV_e, notV_e, isiF_e, ifeF_e, callF_e, R.bind, R.ofO, toB_bl, toT_bl, addD_ii, subD_ii, cmpI_ii, negD_i, intL_i, lenL_t, lenL_l, lenL_f, absL_i, gcdL_i, toI_int, noP_e, someP_e, slF_e, List.length_cons, List.length_nil, abs]) ⟨by simp only [List.length_cons, List.length_nil]; decide, by simp only [List.length_cons, List.length_nil]; decide⟩ rfl]
  have hf : b.natAbs < bigFuel := by
    refine Nat.lt_of_lt_of_le (Nat.lt_log2_self (n := b.natAbs)) ?_
    unfold bigFuel
    exact Nat.pow_le_pow_right (by decide) (by omega)
  rw [step_of (show whileS bigFuel _ _ _ st = _ from div_loop bigFuel a.natAbs b.natAbs hf)]
  exact ret_ok (by simp only [varF_0, varF_s, litF_e, op2F_e, op1F_e, opLF_e, consA_e, nilA_e, boolF_e, truF_e, notT_e, orT_e, andT_e, andV_e, notV_e, isiF_e, ifeF_e, callF_e, R.bind, R.ofO, toB_bl, toT_bl, addD_ii, subD_ii, cmpI_ii, negD_i, intL_i, lenL_t, lenL_l, lenL_f, absL_i, gcdL_i, toI_int, noP_e, someP_e, slF_e, List.length_cons, List.length_nil])
theorem law_frac_big {a b : Int} {st : Sto} (hb : b ≠ 0) (h : b.natAbs.log2 < 8000) : f_law_frac [.int a, .int b] st = .ok (frac a b) st := by
  refine fn_rt (en0 := [some (.int a), some (.int b), none]) rfl ?_
  unfold b_law_frac
  rw [step_set (en' := [some (.int a), some (.int b), some (.int ((Nat.gcd a.natAbs b.natAbs : Nat) : Int))]) (st' := st) (callF_ok (n := 2) (ds := [.int a, .int b]) (st1 := st) (by simp only [varF_0, varF_s, litF_e, op2F_e, op1F_e, opLF_e, consA_e, nilA_e, boolF_e, truF_e, notT_e, orT_e, andT_e, andV_e, notV_e, isiF_e, ifeF_e, callF_e, R.bind, R.ofO, toB_bl, toT_bl, addD_ii, subD_ii, cmpI_ii, negD_i, intL_i, lenL_t, lenL_l, lenL_f, absL_i, gcdL_i, toI_int, noP_e, someP_e, slF_e, List.length_cons, List.length_nil]) rfl (divisor_big a b st h)) (by simp only [List.length_cons, List.length_nil]; decide) rfl]
  by_cases hn : b < 0
  · rw [step_if (b := true) (st' := st) (by simp only [varF_0, varF_s, litF_e, op2F_e, op1F_e, opLF_e, consA_e, nilA_e, boolF_e, truF_e, notT_e, orT_e, andT_e, andV_e, notV_e, isiF_e, ifeF_e, callF_e, R.bind, R.ofO, toB_bl, toT_bl, addD_ii, subD_ii, cmpI_ii, negD_i, intL_i, lenL_t, lenL_l, lenL_f, absL_i, gcdL_i, toI_int, noP_e, someP_e, slF_e, List.length_cons, List.length_nil, decide_eq_true hn]), if_pos rfl]
    rw [step_set (en' := [some (.int a), some (.int b), some (.int (-((Nat.gcd a.natAbs b.natAbs : Nat) : Int)))]) (st' := st) (by simp only [varF_0, varF_s, litF_e, op2F_e, op1F_e, opLF_e, consA_e, nilA_e, boolF_e, truF_e, notT_e, orT_e, andT_e, andV_e, notV_e, isiF_e, ifeF_e, callF_e, R.bind, R.ofO, toB_bl, toT_bl, addD_ii, subD_ii, cmpI_ii, negD_i, intL_i, lenL_t, lenL_l, lenL_f, absL_i, gcdL_i, toI_int, noP_e, someP_e, slF_e, List.length_cons, List.length_nil]) (by simp only [List.length_cons, List.length_nil]; decide) rfl]
    exact frac_end hb h rfl rfl (by rw [if_pos hn]; rfl)
  · rw [step_if (b := false) (st' := st) (by simp only [varF_0, varF_s, litF_e, op2F_e, op1F_e, opLF_e, consA_e, nilA_e, boolF_e, truF_e, notT_e, orT_e, andT_e, andV_e, notV_e, isiF_e, ifeF_e, callF_e, R.bind, R.ofO, toB_bl, toT_bl, addD_ii, subD_ii, cmpI_ii, negD_i, intL_i, lenL_t, lenL_l, lenL_f, absL_i, gcdL_i, toI_int, noP_e, someP_e, slF_e, List.length_cons, List.length_nil, decide_eq_false hn]), if_neg Bool.false_ne_true, step_pass]
    exact frac_end hb h rfl rfl (by rw [if_neg hn]; rfl)
section
variable {x y : Rat} {N M : Nat} {st : Sto}
theorem law_add_big (h1 : Sz N x) (h2 : Sz M y) (h : N + M ≤ 7000) : f_law_add [fr x, fr y] st = .ok (fr (x + y)) st := by
  refine fn_rt (en0 := [some (fr x), some (fr y)]) rfl ?_
  unfold b_law_add
  refine ret_ok (callF_ok (n := 2) (ds := [.int (x.num * (y.den : Nat) + y.num * (x.den : Nat)), .int ((x.den : Nat) * (y.den : Nat))]) (consA_ok (op2F_ok (op2F_ok (frNum rfl) (frDen rfl) (mulD_ii (mul_fitB h1.1 h2.den (by omega) (by omega)))) (op2F_ok (frNum rfl) (frDen rfl) (mulD_ii (mul_fitB h2.1 h1.den (by omega) (by omega)))) addD_ii) (consA_ok (op2F_ok (frDen rfl) (frDen rfl) (mulD_ii (mul_fitB h1.den h2.den (by omega) (by omega)))) nilA_e)) rfl ?_)
  rw [law_frac_big (dd0 x y) (log_fitB (le_pow h1.den h2.den) h), frac_r (dd0 x y) (add_w x y)]
theorem law_mul_big (h1 : Sz N x) (h2 : Sz M y) (h : N + M ≤ 7000) : f_law_mul [fr x, fr y] st = .ok (fr (x * y)) st := by
  refine fn_rt (en0 := [some (fr x), some (fr y)]) rfl ?_
  unfold b_law_mul
  refine ret_ok (callF_ok (n := 2) (ds := [.int (x.num * y.num), .int ((x.den : Nat) * (y.den : Nat))]) (consA_ok (op2F_ok (frNum rfl) (frNum rfl) (mulD_ii (mul_fitB h1.1 h2.1 (by omega) (by omega)))) (consA_ok (op2F_ok (frDen rfl) (frDen rfl) (mulD_ii (mul_fitB h1.den h2.den (by omega) (by omega)))) nilA_e)) rfl ?_)
  rw [law_frac_big (dd0 x y) (log_fitB (le_pow h1.den h2.den) h), frac_r (dd0 x y) (mul_w x y)]
/-! the program's order -/
def ordR (x y : Rat) : Int := if x < y then -1 else if y < x then 1 else 0
theorem compare_fr (h1 : Sz N x) (h2 : Sz M y) (hN : N ≤ 100000) (hM : M ≤ 100000) : f_compare [fr x, fr y] st = .ok (.int (ordR x y)) st := by
  refine fn_rt (en0 := [some (fr x), some (fr y), none, none]) rfl ?_
  unfold b_compare
  rw [two_ok rfl rfl (isFr_fr x) (isFr_fr y)]
  rw [step_set (en' := [some (fr x), some (fr y), some (.int (x.num * (y.den : Nat))), none]) (op2F_ok (frNum rfl) (frDen rfl) (mulD_ii (mul_fitB h1.1 h2.den hN hM))) (show 2 < 4 by decide) rfl]
  rw [step_set (en' := [some (fr x), some (fr y), some (.int (x.num * (y.den : Nat))), some (.int (y.num * (x.den : Nat)))]) (op2F_ok (frNum rfl) (frDen rfl) (mulD_ii (mul_fitB h2.1 h1.den hM hN))) (show 3 < 4 by decide) rfl]
  have l1 := Rat.lt_iff x y
  have l2 := Rat.lt_iff y x
  unfold ordR
  generalize x.num * ((y.den : Nat) : Int) = m at *
  generalize y.num * ((x.den : Nat) : Int) = n at *
  by_cases h : m < n
  · rw [if_pos (l1.mpr h), step_if (b := true) (st' := st) (by simp only [varF_0, varF_s, litF_e, op2F_e, op1F_e, opLF_e, consA_e, nilA_e, boolF_e, truF_e, notT_e, orT_e, andT_e, andV_e, notV_e, isiF_e, ifeF_e, callF_e, R.bind, R.ofO, toB_bl, toT_bl, addD_ii, subD_ii, cmpI_ii, negD_i, intL_i, lenL_t, lenL_l, lenL_f, absL_i, gcdL_i, toI_int, noP_e, someP_e, slF_e, List.length_cons, List.length_nil, decide_eq_true h]), if_pos rfl]
    exact step_ret rfl
  · rw [if_neg (fun q => h (l1.mp q)), step_if (b := false) (st' := st) (by simp only [varF_0, varF_s, litF_e, op2F_e, op1F_e, opLF_e, consA_e, nilA_e, boolF_e, truF_e, notT_e, orT_e, andT_e, andV_e, notV_e, isiF_e, ifeF_e, callF_e, R.bind, R.ofO, toB_bl, toT_bl, addD_ii, subD_ii, cmpI_ii, negD_i, intL_i, lenL_t, lenL_l, lenL_f, absL_i, gcdL_i, toI_int, noP_e, someP_e, slF_e, List.length_cons, List.length_nil, decide_eq_false h]), if_neg Bool.false_ne_true, step_pass]
    by_cases h' : n < m
    · rw [if_pos (l2.mpr h'), step_if (b := true) (st' := st) (by simp only [varF_0, varF_s, litF_e, op2F_e, op1F_e, opLF_e, consA_e, nilA_e, boolF_e, truF_e, notT_e, orT_e, andT_e, andV_e, notV_e, isiF_e, ifeF_e, callF_e, R.bind, R.ofO, toB_bl, toT_bl, addD_ii, subD_ii, cmpI_ii, negD_i, intL_i, lenL_t, lenL_l, lenL_f, absL_i, gcdL_i, toI_int, noP_e, someP_e, slF_e, List.length_cons, List.length_nil, decide_eq_true h']), if_pos rfl]
      exact step_ret rfl
    · rw [if_neg (fun q => h' (l2.mp q)), step_if (b := false) (st' := st) (by simp only [varF_0, varF_s, litF_e, op2F_e, op1F_e, opLF_e, consA_e, nilA_e, boolF_e, truF_e, notT_e, orT_e, andT_e, andV_e, notV_e, isiF_e, ifeF_e, callF_e, R.bind, R.ofO, toB_bl, toT_bl, addD_ii, subD_ii, cmpI_ii, negD_i, intL_i, lenL_t, lenL_l, lenL_f, absL_i, gcdL_i, toI_int, noP_e, someP_e, slF_e, List.length_cons, List.length_nil, decide_eq_false h']), if_neg Bool.false_ne_true, step_pass]
      rfl
theorem eq_fr (x y : Rat) : eqD (fr x) (fr y) st = some (.bl (decide (x = y)), st) := by
  unfold eqD
  rw [eq_pt (Pt.fr (k := 0)) (Pt.fr (k := 0)) (by decide)]
  show some (D.bl (PyData.eqv (.tuple [.int x.num, .int (x.den : Nat)]) (.tuple [.int y.num, .int (y.den : Nat)])), st) = _
  have : PyData.eqv (.tuple [.int x.num, .int (x.den : Nat)]) (.tuple [.int y.num, .int (y.den : Nat)]) = decide (x = y) := by
    simp only [PyData.eqv, PyData.eqvAll]
    by_cases e : x = y
    · subst e
      simp
    · rw [decide_eq_false e]
      cases q : (x.num == y.num && (((x.den : Nat) : Int) == ((y.den : Nat) : Int) && true)) with
      | false => rfl
      | true =>
        simp at q
        exact absurd (Rat.ext q.1 (by omega)) e
  rw [this]
end
/-! the greatest -/
def gmx (m : Rat) : List Rat → Rat
  | [] => m
  | v :: l => gmx (if m < v then v else m) l
def gB : SF := (ifS (boolF (op2F (cmpI fun i j => decide (j < i)) (callF 2 f_compare (consA (varF 2) (consA (varF 1) nilA))) (litF (.int 0))))
 (setS 1 (varF 2))
 passS)
theorem g_loop {d0 : Option D} {st : Sto} {N : Nat} (hN : N ≤ 100000) : ∀ (l : List Rat) (m : Rat) (x2 : Option D), Sz N m → (∀ v ∈ l, Sz N v) → ∃ y2, loopI (nameG 2) gB (l.map fr) [d0, some (fr m), x2] st = .nx [d0, some (fr (gmx m l)), y2] st
  | [], m, x2, _, _ => ⟨x2, rfl⟩
  | v :: l, m, x2, hm, h => by
    have hv := h v List.mem_cons_self
    obtain ⟨y2, e⟩ := g_loop (d0 := d0) (st := st) hN l (if m < v then v else m) (some (fr v)) (by split <;> assumption) fun q hq => h q (List.mem_cons_of_mem _ hq)
    refine ⟨y2, ?_⟩
    rw [List.map_cons]
    show _ = SR.nx [d0, some (fr (gmx (if m < v then v else m) l)), y2] st
    rw [← e]
    refine loop_nx (en1 := [d0, some (fr m), some (fr v)]) rfl ?_
    have c : boolF (op2F (cmpI fun i j => decide (j < i)) (callF 2 f_compare (consA (varF 2) (consA (varF 1) nilA))) (litF (.int 0))) [d0, some (fr m), some (fr v)] st = .ok (decide (m < v)) st := by
      refine bool_ok (op2F_ok (a := .int (ordR v m)) (b := .int 0) (st1 := st) (st2 := st) (call2 (x := fr v) (y := fr m) (st1 := st) (st2 := st) rfl rfl (compare_fr hv hm hN hN)) rfl ?_)
      rw [cmpI_ii]
      have : decide ((0 : Int) < ordR v m) = decide (m < v) := by
        unfold ordR
        by_cases q : m < v
        · rw [if_neg (fun w => by grind), if_pos q, decide_eq_true q]
          rfl
        · rw [if_neg q, decide_eq_false q]
          split <;> rfl
      rw [this]
    unfold gB
    rw [if_ok c]
    by_cases q : m < v
    · rw [decide_eq_true q, if_pos rfl, if_pos q]
      exact set_ok (d := fr v) rfl (show 1 < 3 by decide) rfl
    · rw [decide_eq_false q, if_neg Bool.false_ne_true, if_neg q]
      rfl
theorem gmx_spec : ∀ (l : List Rat) (m : Rat), gmx m l ∈ m :: l ∧ ∀ y ∈ m :: l, y ≤ gmx m l
  | [], m => ⟨List.mem_cons_self, fun y hy => by
    rw [List.mem_singleton.mp hy]
    exact Rat.le_refl⟩
  | v :: l, m => by
    obtain ⟨h1, h2⟩ := gmx_spec l (if m < v then v else m)
    have up : m ≤ (if m < v then v else m) ∧ v ≤ (if m < v then v else m) := by
      split
      · rename_i q
        exact ⟨Rat.le_of_lt q, Rat.le_refl⟩
      · rename_i q
        exact ⟨Rat.le_refl, Rat.not_lt.mp q⟩
    have top := h2 _ List.mem_cons_self
    refine ⟨?_, fun y hy => ?_⟩
    · rcases List.mem_cons.mp h1 with e | e
      · show gmx (if m < v then v else m) l ∈ _
        rw [e]
        split
        · exact List.mem_cons_of_mem _ List.mem_cons_self
        · exact List.mem_cons_self
      · exact List.mem_cons_of_mem _ (List.mem_cons_of_mem _ e)
    · rcases List.mem_cons.mp hy with rfl | hy
      · exact Rat.le_trans up.1 top
      · rcases List.mem_cons.mp hy with rfl | hy
        · exact Rat.le_trans up.2 top
        · exact h2 y (List.mem_cons_of_mem _ hy)
theorem greatest_is {l : List Rat} {a : Rat} {N : Nat} {st : Sto} (hN : N ≤ 100000) (h : ∀ v ∈ a :: l, Sz N v) : f_greatest [.lst ((a :: l).map fr)] st = .ok (fr (gmx a (a :: l))) st := by
  obtain ⟨y2, e⟩ := g_loop (d0 := some (.lst ((a :: l).map fr))) (st := st) hN (a :: l) a none (h a List.mem_cons_self) h
  refine fn_rt (en0 := [some (.lst ((a :: l).map fr)), none, none]) rfl ?_
  unfold b_greatest
  rw [step_set (d := fr a) (st' := st) (en' := [some (.lst ((a :: l).map fr)), some (fr a), none]) (op2F_ok (a := .lst ((a :: l).map fr)) (b := .int 0) (st1 := st) (st2 := st) rfl rfl (ixD_l (atD_nat (n := 0) rfl))) (show 1 < 3 by decide) rfl]
  show seqS (forS (seqI (varF 0)) (nameG 2) gB) _ _ _ = _
  rw [step_of ((for_items rfl).trans e)]
  exact ret_ok rfl
end Lw

namespace Lw
open PySem PySem.Spec PyProof.Rows L2 Ev
open Ch (S Sub Sol Whole cut Gr St Nums tell)
/-! groups of states -/
theorem div_back {x y : Rat} (h : 0 < y) : x = x / y * y := by grind
theorem lt_mul {g g' y : Rat} (h : 0 < y) (q : g * y < g' * y) : g < g' := by
  rcases (Rat.le_total : g' ≤ g ∨ g ≤ g') with t | t
  · have := Rat.mul_le_mul_of_nonneg_right t (Rat.le_of_lt h)
    grind
  · rcases Rat.le_iff_lt_or_eq.mp t with t | t
    · exact t
    · rw [t] at q
      grind
theorem eq_mul {g g' y : Rat} (h : 0 < y) (q : g * y = g' * y) : g = g' := by
  have : (g - g') * y = 0 := by grind
  rcases Rat.mul_eq_zero.mp this with t | t
  · grind
  · grind
abbrev inA (A : List Int) : Nat → Bool := fun j => inSq (j : Nat) A
theorem inSq_app (i : Int) (A G : List Int) : inSq i (A ++ G) = (inSq i A || inSq i G) := by
  unfold inSq
  by_cases h : i ∈ A
  · simp [h]
  · by_cases h' : i ∈ G
    · simp [h, h']
    · simp [h, h']
theorem inA_app (A G : List Int) : inA (A ++ G) = fun j => inA A j || inA G j := funext fun j => inSq_app _ _ _
theorem mm_fl (T : List Int) : ∀ (ms : Mvr) (j : Nat), mm (fl T ms) j = if inSq (j : Nat) T = true then mm ms j else 0
  | [], j => by split <;> rfl
  | m :: r, j => by
    have ih := mm_fl T r j
    unfold fl at ih ⊢
    rw [List.filter_cons]
    cases e : inSq (m.1 : Nat) T with
    | true =>
      rw [if_pos rfl]
      show (if m.1 = j then m.2 else 0) + mm _ j = if _ then (if m.1 = j then m.2 else 0) + mm r j else 0
      rw [ih]
      by_cases q : m.1 = j
      · subst q
        rw [if_pos e, if_pos rfl, if_pos e]
      · rw [if_neg q]
        split <;> grind
    | false =>
      rw [if_neg Bool.false_ne_true, ih]
      show _ = if _ then (if m.1 = j then m.2 else 0) + mm r j else 0
      by_cases q : m.1 = j
      · subst q
        rw [e, if_neg Bool.false_ne_true, if_neg Bool.false_ne_true]
      · rw [if_neg q]
        split <;> grind
abbrev mxw (w : Wr) : Nat → Nat → Rat := mat (w.map (·.2))
theorem flw_cut (T : List Int) (w : Wr) : mat (flw T w) = cut (mxw w) (inA T) := by
  funext i j
  show mm ((flw T w).getD i []) j = if inSq (j : Nat) T = true then mm ((w.map (·.2)).getD i []) j else 0
  by_cases hi : i < w.length
  · have e1 : (flw T w).getD i [] = fl T (w[i]).2 := by
      unfold flw
      rw [List.getD_eq_getElem?_getD, List.getElem?_map, List.getElem?_eq_getElem hi]
      rfl
    have e2 : (w.map (·.2)).getD i [] = (w[i]).2 := by
      rw [List.getD_eq_getElem?_getD, List.getElem?_map, List.getElem?_eq_getElem hi]
      rfl
    rw [e1, e2, mm_fl]
  · have e1 : (flw T w).getD i [] = [] := by
      unfold flw
      rw [List.getD_eq_getElem?_getD, List.getElem?_eq_none (by rw [List.length_map]; omega)]
      rfl
    have e2 : (w.map (·.2)).getD i [] = [] := by
      rw [List.getD_eq_getElem?_getD, List.getElem?_eq_none (by rw [List.length_map]; omega)]
      rfl
    rw [e1, e2]
    split <;> rfl
theorem sub_w {P : Nat} {w : Wr} (h : WrOk P w) : Sub w.length (mxw w) := by
  have cases : ∀ i, (w.map (·.2)).getD i [] = [] ∨ ∃ r ∈ w, (w.map (·.2)).getD i [] = r.2 := fun i => by
    by_cases hi : i < w.length
    · refine .inr ⟨w[i], List.getElem_mem hi, ?_⟩
      rw [List.getD_eq_getElem?_getD, List.getElem?_map, List.getElem?_eq_getElem hi]
      rfl
    · refine .inl ?_
      rw [List.getD_eq_getElem?_getD, List.getElem?_eq_none (by rw [List.length_map]; omega)]
      rfl
  refine ⟨fun i j => ?_, fun i => ?_⟩
  · show 0 ≤ mm ((w.map (·.2)).getD i []) j
    rcases cases i with e | ⟨r, hr, e⟩
    · rw [e]
      exact Rat.le_refl
    · rw [e]
      exact mm_nn _ (fun m hm => ((h.rows r hr).mv m hm).2.2) j
  · show S w.length (mm ((w.map (·.2)).getD i [])) ≤ 1
    rcases cases i with e | ⟨r, hr, e⟩
    · rw [e]
      show S w.length (fun _ => 0) ≤ 1
      rw [Ch.S_const0]
      decide
    · rw [e, S_mm _ fun m hm => ((h.rows r hr).mv m hm).1, (h.rows r hr).sum]
      exact Rat.le_refl
/-! one stage on data -/
def stg (F : List (Rat × List Int)) : List (Rat × (Nat → Bool)) := (F.map fun x => (x.1, inA x.2)).reverse
theorem stg_app (F : List (Rat × List Int)) (x : Rat × List Int) : stg (F ++ [x]) = (x.1, inA x.2) :: stg F := by
  unfold stg
  rw [List.map_append, List.reverse_append]
  rfl
structure GI (w : Wr) (b : Rat) (N : Nat) (F : List (Rat × List Int)) (A : List Int) : Prop where
  gr : Gr w.length (mxw w) b (pw w) (stg F) (inA A)
  nd : A.Nodup
  rg : ∀ i ∈ A, 0 ≤ i ∧ i < (w.length : Nat)
  sz : ∀ f ∈ F, Sz N f.1 ∧ (∀ i ∈ f.2, 0 ≤ i ∧ i < (w.length : Nat)) ∧ f.2.length ≤ w.length
  fl : F.length ≤ A.length
  low : F = [] ∧ A = [] ∨ ∃ g, (∀ f ∈ stg F, g ≤ f.1) ∧ ∀ X Y, Sol w.length (cut (mxw w) (inA A)) b (pw w) X → Sol w.length (cut (mxw w) (inA A)) b (fun _ => 1) Y → ∀ j, j < w.length → (inA A j = true → g * Y j ≤ X j) ∧ (inA A j = false → X j < g * Y j)
def rts (xs ys : List Rat) : List Rat := (xs.zip ys).map fun p => p.1 / p.2
theorem rts_get : ∀ (xs ys : List Rat) (j : Nat), j < xs.length → j < ys.length → (rts xs ys).getD j 0 = xs.getD j 0 / ys.getD j 0
  | [], _, _, h, _ => absurd h (by simp)
  | _ :: _, [], _, _, h => absurd h (by simp)
  | x :: xs, y :: ys, 0, _, _ => rfl
  | x :: xs, y :: ys, j + 1, h1, h2 => rts_get xs ys j (by simpa using h1) (by simpa using h2)
theorem zip_frs : ∀ (xs ys : List Rat), zipF (xs.map fr) (ys.map fr) = (xs.zip ys).map fun p : Rat × Rat => D.tup [fr p.1, fr p.2]
  | [], _ => rfl
  | _ :: _, [] => rfl
  | x :: xs, y :: ys => by
    show D.tup [fr x, fr y] :: zipF (xs.map fr) (ys.map fr) = _
    rw [zip_frs xs ys]
    rfl
def lft (n : Nat) (A : List Int) : List Int := ((List.range' 0 n).map fun i : Nat => (i : Int)).filter fun i => !inSq i A
theorem lft_mem {n : Nat} {A : List Int} {i : Int} : i ∈ lft n A ↔ (0 ≤ i ∧ i < (n : Nat)) ∧ inSq i A = false := by
  unfold lft
  rw [List.mem_filter]
  constructor
  · rintro ⟨h1, h2⟩
    obtain ⟨k, hk, rfl⟩ := List.mem_map.mp h1
    rw [List.mem_range'] at hk
    obtain ⟨j, hj, rfl⟩ := hk
    exact ⟨⟨by omega, by omega⟩, by simpa using h2⟩
  · rintro ⟨⟨h0, h1⟩, h2⟩
    refine ⟨List.mem_map.mpr ⟨i.toNat, ?_, by omega⟩, by rw [h2]; rfl⟩
    rw [List.mem_range']
    exact ⟨i.toNat, by omega, by omega⟩
theorem rng_nd (n : Nat) : ((List.range' 0 n).map fun i : Nat => (i : Int)).Nodup := by
  unfold List.Nodup
  rw [List.pairwise_map]
  exact (List.pairwise_lt_range' (s := 0) (n := n)).imp fun h e => by omega
theorem lft_ne {n : Nat} {A : List Int} (hl : A.length < n) : ∃ a r, lft n A = a :: r := by
  cases e : lft n A with
  | cons a r => exact ⟨a, r, rfl⟩
  | nil =>
    exfalso
    have : ((List.range' 0 n).map fun i : Nat => (i : Int)).length ≤ A.length := by
      refine sub_len ?_ fun x hx => ?_
      · exact rng_nd n
      · obtain ⟨k, hk, rfl⟩ := List.mem_map.mp hx
        rw [List.mem_range'] at hk
        obtain ⟨j, hj, rfl⟩ := hk
        cases q : inSq (((0 + 1 * j : Nat)) : Int) A with
        | true => exact of_decide_eq_true q
        | false =>
          have : (((0 + 1 * j : Nat)) : Int) ∈ lft n A := lft_mem.mpr ⟨⟨by omega, by omega⟩, q⟩
          rw [e] at this
          cases this
    rw [List.length_map, List.length_range'] at this
    omega
def grp (n : Nat) (A : List Int) (rs : List Rat) (g : Rat) : List Int := (lft n A).filter fun i => decide (rs.getD i.toNat 0 = g)
theorem y_pos {P : Nat} {w : Wr} {b : Rat} (hw : WrOk P w) (b0 : 0 < b) (b1 : b < 1) {In : Nat → Bool} {Y : Nat → Rat} (hY : Sol w.length (cut (mxw w) In) b (fun _ => 1) Y) {j : Nat} (hj : j < w.length) : 0 < Y j := by
  have h1 : (1 : Rat) ≤ Y j := Ch.ge_pay' ((sub_w hw).cut In) b0 b1 hY (fun _ _ => by decide) j hj
  grind
theorem GI.step {P N : Nat} {w : Wr} {b : Rat} (hw : WrOk P w) (b0 : 0 < b) (b1 : b < 1) {F : List (Rat × List Int)} {A : List Int} (h : GI w b N F A) (hl : A.length < w.length) {xs ys : List Rat} (lx : xs.length = w.length) (ly : ys.length = w.length)
    (sx : Sol w.length (cut (mxw w) (inA A)) b (pw w) (fun i => xs.getD i 0)) (sy : Sol w.length (cut (mxw w) (inA A)) b (fun _ => 1) (fun i => ys.getD i 0)) (hz : ∀ r ∈ rts xs ys, Sz N r) {a : Int} {r : List Int} (hL : lft w.length A = a :: r) :
    let R := fun i : Int => (rts xs ys).getD i.toNat 0
    let g := gmx (R a) ((a :: r).map R)
    GI w b N (F ++ [(g, grp w.length A (rts xs ys) g)]) (A ++ grp w.length A (rts xs ys) g) ∧ A.length < (A ++ grp w.length A (rts xs ys) g).length := by
  intro R g
  have hsub := sub_w hw
  obtain ⟨m1, m2⟩ := gmx_spec ((a :: r).map R) (R a)
  have Rj : ∀ j, j < w.length → R (j : Nat) = xs.getD j 0 / ys.getD j 0 := fun j hj => by
    show (rts xs ys).getD ((j : Nat) : Int).toNat 0 = _
    rw [Int.toNat_natCast]
    exact rts_get xs ys j (by omega) (by omega)
  have ypos : ∀ j, j < w.length → 0 < ys.getD j 0 := fun j hj => y_pos hw b0 b1 sy hj
  have Rx : ∀ j, j < w.length → xs.getD j 0 = R (j : Nat) * ys.getD j 0 := fun j hj => by
    rw [Rj j hj]
    exact div_back (ypos j hj)
  have inL : ∀ j : Nat, j < w.length → inA A j = false → ((j : Nat) : Int) ∈ a :: r := fun j hj e => by
    rw [← hL]
    exact lft_mem.mpr ⟨⟨by omega, by omega⟩, e⟩
  have gtop : ∀ j : Nat, j < w.length → inA A j = false → R (j : Nat) ≤ g := fun j hj e => m2 _ (List.mem_cons_of_mem _ (List.mem_map.mpr ⟨_, inL j hj e, rfl⟩))
  obtain ⟨i0, hi0, ei0⟩ : ∃ i ∈ a :: r, R i = g := by
    rcases List.mem_cons.mp m1 with e | e
    · exact ⟨a, List.mem_cons_self, e.symm⟩
    · obtain ⟨i, hi, e⟩ := List.mem_map.mp e
      exact ⟨i, hi, e⟩
  have l0 := lft_mem.mp (by rw [hL]; exact hi0 : i0 ∈ lft w.length A)
  obtain ⟨j0, rfl⟩ : ∃ j0 : Nat, i0 = (j0 : Nat) := ⟨i0.toNat, by omega⟩
  have j0n : j0 < w.length := by omega
  have G_iff : ∀ j : Nat, j < w.length → (inA (grp w.length A (rts xs ys) g) j = true ↔ inA A j = false ∧ R (j : Nat) = g) := fun j hj => by
    show decide _ = true ↔ _
    rw [decide_eq_true_eq]
    unfold grp
    rw [List.mem_filter, lft_mem, decide_eq_true_eq]
    exact ⟨fun q => ⟨q.1.2, q.2⟩, fun q => ⟨⟨⟨by omega, by omega⟩, q.1⟩, q.2⟩⟩
  have uX : ∀ X, Sol w.length (cut (mxw w) (inA A)) b (pw w) X → ∀ j, j < w.length → X j = xs.getD j 0 := fun X hX => Sol.uniq (hsub.cut _) b0 b1 hX sx
  have uY : ∀ Y, Sol w.length (cut (mxw w) (inA A)) b (fun _ => 1) Y → ∀ j, j < w.length → Y j = ys.getD j 0 := fun Y hY => Sol.uniq (hsub.cut _) b0 b1 hY sy
  have below : ∀ f ∈ stg F, g < f.1 := by
    rcases h.low with ⟨e, _⟩ | ⟨g', hg', hlow⟩
    · subst e
      intro f hf
      cases hf
    · intro f hf
      have q : xs.getD j0 0 < g' * ys.getD j0 0 := (hlow _ _ sx sy j0 j0n).2 l0.2
      rw [Rx j0 j0n, ei0] at q
      have yp := ypos j0 j0n
      have k := lt_mul yp q
      have := hg' f hf
      exact Std.lt_of_lt_of_le k this
  have st : St w.length (mxw w) b (pw w) (inA A) g (inA (grp w.length A (rts xs ys) g)) := by
    refine ⟨fun X Y hX hY => ⟨fun j hj e => ?_, fun j hj e => ?_⟩, fun j hj e => ((G_iff j hj).mp e).1⟩
    · rcases h.low with ⟨_, e2⟩ | ⟨g', hg', hlow⟩
      · subst e2
        cases e
      · have q := (hlow X Y hX hY j hj).1 e
        have yp := y_pos hw b0 b1 hY hj
        have gg : g ≤ g' := by
          have q : xs.getD j0 0 < g' * ys.getD j0 0 := (hlow _ _ sx sy j0 j0n).2 l0.2
          rw [Rx j0 j0n, ei0] at q
          exact Rat.le_of_lt (lt_mul (ypos j0 j0n) q)
        exact Rat.le_trans (Rat.mul_le_mul_of_nonneg_right gg (Rat.le_of_lt yp)) q
    · rw [uX X hX j hj, uY Y hY j hj, Rx j hj, G_iff j hj]
      have yp := ypos j hj
      refine ⟨Rat.mul_le_mul_of_nonneg_right (gtop j hj e) (Rat.le_of_lt yp), ⟨fun q => by rw [q.2], fun q => ⟨e, eq_mul yp q⟩⟩⟩
  have gsub : ∀ i ∈ grp w.length A (rts xs ys) g, (0 ≤ i ∧ i < (w.length : Nat)) ∧ inSq i A = false := fun i hi => lft_mem.mp (List.mem_filter.mp hi).1
  have gnd : (grp w.length A (rts xs ys) g).Nodup := by
    unfold grp lft
    exact ((rng_nd w.length).filter _).filter _
  have glen : (grp w.length A (rts xs ys) g).length ≤ w.length := few_len gnd fun i hi => (gsub i hi).1
  have gpos : 0 < (grp w.length A (rts xs ys) g).length := List.length_pos_of_mem (a := ((j0 : Nat) : Int)) (of_decide_eq_true ((G_iff j0 j0n).mpr ⟨l0.2, ei0⟩))
  have gr' : Gr w.length (mxw w) b (pw w) (stg (F ++ [(g, grp w.length A (rts xs ys) g)])) (inA (A ++ grp w.length A (rts xs ys) g)) := by
    rw [stg_app, inA_app]
    exact .cons h.gr below st
  refine ⟨⟨gr', ?_, fun i hi => ?_, fun f hf => ?_, ?_, .inr ⟨g, fun f hf => ?_, fun X Y hX hY j hj => ?_⟩⟩, by rw [List.length_append]; omega⟩
  · refine List.nodup_append.mpr ⟨h.nd, gnd, fun x hx y hy e => ?_⟩
    subst e
    have := (gsub _ hy).2
    have t : inSq x A = true := decide_eq_true hx
    rw [t] at this
    cases this
  · rcases List.mem_append.mp hi with hi | hi
    · exact h.rg i hi
    · exact (gsub i hi).1
  · rcases List.mem_append.mp hf with hf | hf
    · exact h.sz f hf
    · rw [List.mem_singleton.mp hf]
      refine ⟨?_, fun i hi => (gsub i hi).1, glen⟩
      have : g ∈ rts xs ys := by
        rw [← ei0]
        show (rts xs ys).getD ((j0 : Nat) : Int).toNat 0 ∈ _
        have lr : (rts xs ys).length = w.length := by
          unfold rts
          rw [List.length_map, List.length_zip]
          omega
        rw [Int.toNat_natCast, List.getD_eq_getElem?_getD, List.getElem?_eq_getElem (by omega)]
        exact List.getElem_mem _
      exact hz _ this
  · rw [List.length_append, List.length_append]
    have := h.fl
    show F.length + 1 ≤ _
    omega
  · rw [stg_app] at hf
    rcases List.mem_cons.mp hf with rfl | hf
    · exact Rat.le_refl
    · exact Rat.le_of_lt (below f hf)
  · rw [inA_app] at hX hY ⊢
    obtain ⟨k1, k2⟩ := st.next hsub b0 b1 sx sy hX hY
    exact ⟨k1 j hj, k2 j hj⟩
end Lw

namespace Lw
open PySem PySem.Spec PyProof.Rows L2 Ev
open Ch (S Sub Sol Whole cut Gr St Nums tell)
/-! groups on data -/
theorem loopW_go {c : TF} {b : SF} {m : Nat} {en en2 : En} {st st1 st2 : Sto} (hc : c en st = .ok true st1) (hb : b en st1 = .nx en2 st2) : loopW c b (m + 1) en st = loopW c b m en2 st2 := by
  conv => lhs; unfold loopW
  rw [hc, bindS_ok, if_pos rfl, hb]
theorem loopW_end {c : TF} {b : SF} {m : Nat} {en : En} {st st1 : Sto} (hc : c en st = .ok false st1) : loopW c b (m + 1) en st = .nx en st1 := by
  conv => lhs; unfold loopW
  rw [hc, bindS_ok, if_neg Bool.false_ne_true]
def gpD (f : Rat × List Int) : D := .tup [fr f.1, .lst (f.2.map .int)]
abbrev E11 (w : Wr) (b : Rat) (e : Nat) (A : List Int) (x4 x5 x6 x7 x8 x9 x10 : Option D) : En := [some (wrD w), some (fr b), some (.ref e), some (.lst (A.map .int)), x4, x5, x6, x7, x8, x9, x10]
def gpB : SF := (seqS (setS 4 (lcF [8, 9] (tupG 2 (consG (nameG 8) (consG (nameG 9) nilG))) yesT (callF 2 f_over (consA (varF 8) (consA (varF 9) nilA))) (seqI (callF 3 f_all_spent (consA (varF 0) (consA (varF 1) (consA (varF 3) nilA)))))))
 (seqS (setS 5 (lcF [10] (nameG 10) (boolF (op2F (inQD true) (varF 10) (varF 3))) (varF 10) (rng1I (consA (opLF lenL (consA (varF 0) nilA)) nilA))))
 (seqS (setS 6 (callF 1 f_greatest (consA (lcF [10] (nameG 10) yesT (op2F ixD (varF 4) (varF 10)) (seqI (varF 5))) nilA)))
 (seqS (setS 7 (lcF [10] (nameG 10) (boolF (op2F eqD (op2F ixD (varF 4) (varF 10)) (varF 6))) (varF 10) (seqI (varF 5))))
 (seqS (exprS (methF appM (varF 2) (consA (opLF tupL (consA (varF 6) (consA (varF 7) nilA))) nilA)))
 (setS 3 (op2F addD (varF 3) (varF 7))))))))
theorem inQ_l {i : Int} {A : List Int} {neg : Bool} {st : Sto} : inQD neg (.int i) (.lst (A.map .int)) st = some (.bl (if neg then !inSq i A else inSq i A), st) := by
  show (intsO (A.map .int)).bind (fun is => some (D.bl (if neg then !inSq i is else inSq i is), st)) = _
  rw [intsO_map]
  rfl
theorem ix_rts {rs : List Rat} {i : Int} {k j : Nat} {en : En} {st : Sto} (h1 : en[k]? = some (some (.lst (rs.map fr)))) (h2 : en[j]? = some (some (.int i))) (h0 : 0 ≤ i) (hi : i < (rs.length : Nat)) : op2F ixD (varF k) (varF j) en st = .ok (fr (rs.getD i.toNat 0)) st := by
  obtain ⟨q, rfl⟩ : ∃ q : Nat, i = (q : Nat) := ⟨i.toNat, by omega⟩
  rw [Int.toNat_natCast]
  exact op2F_ok (varF_at h1) (varF_at h2) (ixD_l (atD_nat (getD_ix (by omega))))
theorem eqF {f g : EF} {x y : Rat} {en : En} {st : Sto} (h1 : f en st = .ok (fr x) st) (h2 : g en st = .ok (fr y) st) : boolF (op2F eqD f g) en st = .ok (decide (x = y)) st := bool_ok (op2F_ok h1 h2 (eq_fr x y))
theorem i5_ok {w : Wr} {b : Rat} {e : Nat} {A : List Int} {x4 x5 x6 x7 x8 x9 x10 : Option D} {st : Sto} (hl : w.length ≤ 900) :
    lcF [10] (nameG 10) (boolF (op2F (inQD true) (varF 10) (varF 3))) (varF 10) (rng1I (consA (opLF lenL (consA (varF 0) nilA)) nilA)) (E11 w b e A x4 x5 x6 x7 x8 x9 x10) st = .ok (.lst ((lft w.length A).map .int)) st := by
  have hi : rng1I (consA (opLF lenL (consA (varF 0) nilA)) nilA) (E11 w b e A x4 x5 x6 x7 x8 x9 x10) st = .ok (.items (((List.range' 0 w.length).map fun i : Nat => (i : Int)).map D.int)) st := by
    rw [List.map_map]
    have := rng_is (n := w.length) (f := opLF lenL (consA (varF 0) nilA)) (en := E11 w b e A x4 x5 x6 x7 x8 x9 x10) (st := st) (lenR rfl) (by omega)
    rw [rangeD_r] at this
    exact this
  refine lcF_it hi (by rw [List.length_map, List.length_map, List.length_range']; omega) ?_
  unfold lft
  exact lc_filt (f := D.int) (φ := D.int) (p := fun i => !inSq i A) fun i hi => ⟨E11 w b e A x4 x5 x6 x7 x8 x9 (some (.int i)), rfl, bool_ok (op2F_ok (a := .int i) (b := .lst (A.map .int)) (st1 := st) (st2 := st) rfl rfl inQ_l), rfl⟩
theorem i6_ok {w : Wr} {b : Rat} {e : Nat} {A : List Int} {rs : List Rat} {L : List Int} {x6 x7 x8 x9 x10 : Option D} {st : Sto} (hl : L.length ≤ 1000) (hL : ∀ i ∈ L, 0 ≤ i ∧ i < (rs.length : Nat)) :
    lcF [10] (nameG 10) yesT (op2F ixD (varF 4) (varF 10)) (seqI (varF 5)) (E11 w b e A (some (.lst (rs.map fr))) (some (.lst (L.map .int))) x6 x7 x8 x9 x10) st = .ok (.lst ((L.map fun i => rs.getD i.toNat 0).map fr)) st := by
  refine lc_all (ds := L.map .int) (st1 := st) rfl (by rw [List.length_map]; exact hl) ?_
  rw [List.map_map]
  exact lc_map (f := D.int) (φ := fr ∘ fun i => rs.getD i.toNat 0) fun i hi => ⟨E11 w b e A (some (.lst (rs.map fr))) (some (.lst (L.map .int))) x6 x7 x8 x9 (some (.int i)), rfl, ix_rts rfl rfl (hL i hi).1 (hL i hi).2⟩
theorem i7_ok {w : Wr} {b : Rat} {e : Nat} {A : List Int} {rs : List Rat} {L : List Int} {g : Rat} {x7 x8 x9 x10 : Option D} {st : Sto} (hl : L.length ≤ 1000) (hL : ∀ i ∈ L, 0 ≤ i ∧ i < (rs.length : Nat)) :
    lcF [10] (nameG 10) (boolF (op2F eqD (op2F ixD (varF 4) (varF 10)) (varF 6))) (varF 10) (seqI (varF 5)) (E11 w b e A (some (.lst (rs.map fr))) (some (.lst (L.map .int))) (some (fr g)) x7 x8 x9 x10) st = .ok (.lst ((L.filter fun i => decide (rs.getD i.toNat 0 = g)).map .int)) st := by
  refine lcF_it (ds := L.map .int) (st1 := st) rfl (by rw [List.length_map]; exact hl) ?_
  exact lc_filt (f := D.int) (φ := D.int) (p := fun i => decide (rs.getD i.toNat 0 = g)) fun i hi => ⟨E11 w b e A (some (.lst (rs.map fr))) (some (.lst (L.map .int))) (some (fr g)) x7 x8 x9 (some (.int i)), rfl, eqF (ix_rts rfl rfl (hL i hi).1 (hL i hi).2) rfl, rfl⟩
theorem add_ints {A G : List Int} {st : Sto} (h : A.length + G.length ≤ 1000) : addD (.lst (A.map .int)) (.lst (G.map .int)) st = some (.lst ((A ++ G).map .int), st) := by
  rw [List.map_append]
  exact (if_pos (Nat.le_trans (show (A.map D.int).length + (G.map D.int).length ≤ 1000 by rw [List.length_map, List.length_map]; exact h) (by decide)) : (if (A.map D.int).length + (G.map D.int).length ≤ sizeLine then some (D.lst (A.map D.int ++ G.map D.int), st) else none) = _)
theorem zip_m {n : Nat} {xs ys : List Rat} (lx : xs.length = n) (ly : ys.length = n) : ∀ p ∈ xs.zip ys, ∃ j, j < n ∧ p.1 = xs.getD j 0 ∧ p.2 = ys.getD j 0 := fun p hp => by
  obtain ⟨j, hj, rfl⟩ := List.getElem_of_mem hp
  rw [List.length_zip] at hj
  refine ⟨j, by omega, ?_, ?_⟩
  · rw [List.getElem_zip, List.getD_eq_getElem?_getD, List.getElem?_eq_getElem (by omega)]
    rfl
  · rw [List.getElem_zip, List.getD_eq_getElem?_getD, List.getElem?_eq_getElem (by omega)]
    rfl
theorem i4_ok {w : Wr} {b : Rat} {e : Nat} {A : List Int} {xs ys : List Rat} {x4 x5 x6 x7 x8 x9 x10 : Option D} {st : Sto} {n N M : Nat} (lx : xs.length = n) (ly : ys.length = n) (hn : n ≤ 900) (e1 : f_all_spent [wrD w, fr b, .lst (A.map .int)] st = .ok (.lst (zipF (xs.map fr) (ys.map fr))) st)
    (szx : ∀ j, j < n → Sz N (xs.getD j 0)) (szy : ∀ j, j < n → Sz M (ys.getD j 0)) (ypos : ∀ j, j < n → 0 < ys.getD j 0) (hNM : N + M ≤ 7000) :
    lcF [8, 9] (tupG 2 (consG (nameG 8) (consG (nameG 9) nilG))) yesT (callF 2 f_over (consA (varF 8) (consA (varF 9) nilA))) (seqI (callF 3 f_all_spent (consA (varF 0) (consA (varF 1) (consA (varF 3) nilA))))) (E11 w b e A x4 x5 x6 x7 x8 x9 x10) st = .ok (.lst ((rts xs ys).map fr)) st := by
  have hi : seqI (callF 3 f_all_spent (consA (varF 0) (consA (varF 1) (consA (varF 3) nilA)))) (E11 w b e A x4 x5 x6 x7 x8 x9 x10) st = .ok (.items ((xs.zip ys).map fun p : Rat × Rat => D.tup [fr p.1, fr p.2])) st := by
    unfold seqI
    rw [call3 (x := wrD w) (y := fr b) (z := .lst (A.map .int)) (st1 := st) (st2 := st) (st3 := st) rfl rfl rfl e1, zip_frs]
    rfl
  refine lc_all hi (by rw [List.length_map, List.length_zip]; omega) ?_
  unfold rts
  rw [List.map_map]
  refine lc_map (φ := fr ∘ fun p : Rat × Rat => p.1 / p.2) fun p hp => ⟨E11 w b e A x4 x5 x6 x7 (some (fr p.1)) (some (fr p.2)) x10, rfl, ?_⟩
  obtain ⟨j, hj, q1, q2⟩ := zip_m lx ly p hp
  have yp := ypos j hj
  have z1 := szx j hj
  have z2 := szy j hj
  rw [← q1] at z1
  rw [← q2] at z2 yp
  exact call2 (x := fr p.1) (y := fr p.2) (st1 := st) (st2 := st) rfl rfl (over_fr z1 z2 (fun w => by rw [w] at yp; exact absurd yp (by decide)) hNM)
theorem gp_body {P B N : Nat} {w : Wr} {b : Rat} (hw : WrOk P w) (b0 : 0 < b) (b1 : b < 1) (sb : Sz B b) (B8 : B ≤ 8) (P30 : P ≤ 30) (hN : N = (P + B + ((9 + B) * w.length + P * w.length)) + (0 + B + (9 + B) * w.length)) (N7 : N ≤ 3000) {F : List (Rat × List Int)} {A : List Int} (h : GI w b N F A) (hl : A.length < w.length) {st : Sto} {x4 x5 x6 x7 x8 x9 x10 : Option D} :
    ∃ (F' : List (Rat × List Int)) (A' : List Int) (y4 y5 y6 y7 : Option D), gpB (E11 w b st.length A x4 x5 x6 x7 x8 x9 x10) (st ++ [.lst (F.map gpD)]) = .nx (E11 w b st.length A' y4 y5 y6 y7 x8 x9 x10) (st ++ [.lst (F'.map gpD)]) ∧ GI w b N F' A' ∧ A.length < A'.length := by
  have l6 := hw.l6
  obtain ⟨xs, ys, e1, lx, ly, sx, sy, bx, by_⟩ := all_is (T := A) (TD := .lst (A.map .int)) (st := st ++ [.lst (F.map gpD)]) hw b0 b1 sb B8 P30 fun i => inQ_l
  rw [flw_cut] at sx sy
  have hsub := (sub_w hw).cut (inA A)
  have ypos : ∀ j, j < w.length → 0 < ys.getD j 0 := fun j hj => y_pos hw b0 b1 sy hj
  have szx : ∀ j, j < w.length → Sz (P + B + ((9 + B) * w.length + P * w.length)) (xs.getD j 0) := fun j hj => by
    have m : xs.getD j 0 ∈ xs := by
      rw [List.getD_eq_getElem?_getD, List.getElem?_eq_getElem (by omega)]
      exact List.getElem_mem _
    refine sol_sz (p := pw w) hsub b0 b1 sx (fun i hi => ?_) sb hj (bx _ m).2
    unfold pw
    rw [List.getD_eq_getElem?_getD, List.getElem?_map, List.getElem?_eq_getElem hi]
    exact (hw.rows _ (List.getElem_mem hi)).pay
  have szy : ∀ j, j < w.length → Sz (0 + B + (9 + B) * w.length) (ys.getD j 0) := fun j hj => by
    have m : ys.getD j 0 ∈ ys := by
      rw [List.getD_eq_getElem?_getD, List.getElem?_eq_getElem (by omega)]
      exact List.getElem_mem _
    exact sol_sz hsub b0 b1 sy (fun i hi => sz1) sb hj (by_ _ m).2
  have zm := zip_m lx ly
  have lr : (rts xs ys).length = w.length := by
    unfold rts
    rw [List.length_map, List.length_zip]
    omega
  have hz : ∀ r ∈ rts xs ys, Sz N r := fun r hr => by
    obtain ⟨p, hp, rfl⟩ := List.mem_map.mp hr
    obtain ⟨j, hj, q1, q2⟩ := zm p hp
    have := ypos j hj
    rw [q1, q2, hN]
    exact (szx j hj).div (szy j hj) (fun w => by rw [w] at this; exact absurd this (by decide))
  obtain ⟨a, r, hL⟩ := lft_ne hl
  obtain ⟨R, hR⟩ : ∃ R : Int → Rat, R = fun i => (rts xs ys).getD i.toNat 0 := ⟨_, rfl⟩
  obtain ⟨g, hg⟩ : ∃ g, g = gmx (R a) ((a :: r).map R) := ⟨_, rfl⟩
  have step := h.step hw b0 b1 hl lx ly sx sy hz hL
  have step : GI w b N (F ++ [(gmx (R a) ((a :: r).map R), grp w.length A (rts xs ys) (gmx (R a) ((a :: r).map R)))]) (A ++ grp w.length A (rts xs ys) (gmx (R a) ((a :: r).map R))) ∧ A.length < (A ++ grp w.length A (rts xs ys) (gmx (R a) ((a :: r).map R))).length := by
    rw [hR]
    exact step
  rw [← hg] at step
  obtain ⟨gi, gl⟩ := step
  have Lr : ∀ i ∈ a :: r, 0 ≤ i ∧ i < ((rts xs ys).length : Nat) := fun i hi => by
    rw [← hL] at hi
    have := (lft_mem.mp hi).1
    rw [lr]
    exact this
  have Rs : ∀ i ∈ a :: r, Sz N (R i) := fun i hi => by
    have := Lr i hi
    rw [hR]
    refine hz _ ?_
    show (rts xs ys).getD i.toNat 0 ∈ _
    rw [List.getD_eq_getElem?_getD, List.getElem?_eq_getElem (show i.toNat < (rts xs ys).length by omega)]
    exact List.getElem_mem _
  have Ll : (a :: r).length ≤ 1000 := by
    have : (lft w.length A).length ≤ w.length := by
      unfold lft
      refine Nat.le_trans (List.length_filter_le _ _) ?_
      rw [List.length_map, List.length_range']
      exact Nat.le_refl _
    rw [hL] at this
    omega
  refine ⟨_, _, some (.lst ((rts xs ys).map fr)), some (.lst ((a :: r).map .int)), some (fr g), some (.lst ((grp w.length A (rts xs ys) g).map .int)), ?_, gi, gl⟩
  unfold gpB
  have i4 := i4_ok (b := b) (e := st.length) (A := A) (x4 := x4) (x5 := x5) (x6 := x6) (x7 := x7) (x8 := x8) (x9 := x9) (x10 := x10) lx ly (by omega) e1 szx szy ypos (by rw [← hN]; omega)
  rw [step_set (st' := st ++ [.lst (F.map gpD)]) (en' := E11 w b st.length A (some (.lst ((rts xs ys).map fr))) x5 x6 x7 x8 x9 x10) i4 (show 4 < 11 by decide) rfl]
  have i5 := i5_ok (b := b) (e := st.length) (A := A) (x4 := some (.lst ((rts xs ys).map fr))) (x5 := x5) (x6 := x6) (x7 := x7) (x8 := x8) (x9 := x9) (x10 := x10) (st := st ++ [.lst (F.map gpD)]) (w := w) (by omega)
  rw [hL] at i5
  rw [step_set (st' := st ++ [.lst (F.map gpD)]) (en' := E11 w b st.length A (some (.lst ((rts xs ys).map fr))) (some (.lst ((a :: r).map .int))) x6 x7 x8 x9 x10) i5 (show 5 < 11 by decide) rfl]
  have gt := greatest_is (N := N) (l := r.map R) (a := R a) (st := st ++ [.lst (F.map gpD)]) (by omega) fun v hv => by
    obtain ⟨i, hi, rfl⟩ := List.mem_map.mp (show v ∈ (a :: r).map R from hv)
    exact Rs i hi
  have gt : f_greatest [.lst (((a :: r).map R).map fr)] (st ++ [.lst (F.map gpD)]) = .ok (fr g) (st ++ [.lst (F.map gpD)]) := by
    rw [hg]
    exact gt
  rw [hR] at gt
  have i6 := call1 (i6_ok (w := w) (b := b) (e := st.length) (A := A) (x6 := x6) (x7 := x7) (x8 := x8) (x9 := x9) (x10 := x10) (st := st ++ [.lst (F.map gpD)]) Ll Lr) gt
  rw [step_set (st' := st ++ [.lst (F.map gpD)]) (en' := E11 w b st.length A (some (.lst ((rts xs ys).map fr))) (some (.lst ((a :: r).map .int))) (some (fr g)) x7 x8 x9 x10) i6 (show 6 < 11 by decide) rfl]
  have i7 := i7_ok (w := w) (b := b) (e := st.length) (A := A) (g := g) (x7 := x7) (x8 := x8) (x9 := x9) (x10 := x10) (st := st ++ [.lst (F.map gpD)]) Ll Lr
  rw [← hL] at i7
  have i7 : lcF [10] (nameG 10) (boolF (op2F eqD (op2F ixD (varF 4) (varF 10)) (varF 6))) (varF 10) (seqI (varF 5)) (E11 w b st.length A (some (.lst ((rts xs ys).map fr))) (some (.lst ((lft w.length A).map .int))) (some (fr g)) x7 x8 x9 x10) (st ++ [.lst (F.map gpD)]) = .ok (.lst ((grp w.length A (rts xs ys) g).map .int)) (st ++ [.lst (F.map gpD)]) := i7
  rw [hL] at i7
  rw [step_set (st' := st ++ [.lst (F.map gpD)]) (en' := E11 w b st.length A (some (.lst ((rts xs ys).map fr))) (some (.lst ((a :: r).map .int))) (some (fr g)) (some (.lst ((grp w.length A (rts xs ys) g).map .int))) x8 x9 x10) i7 (show 7 < 11 by decide) rfl]
  have Fl : F.length < 900 := by
    have := h.fl
    omega
  rw [step_expr (app_ok (i := 2) (e := st.length) (d := gpD (g, grp w.length A (rts xs ys) g)) (es := F.map gpD) (es1 := F.map gpD) (st1 := st ++ [.lst (F.map gpD)]) rfl last_c (opLF_ok (ds := [fr g, .lst ((grp w.length A (rts xs ys) g).map .int)]) (st1 := st ++ [.lst (F.map gpD)]) rfl (tupL_e (ds := [fr g, .lst ((grp w.length A (rts xs ys) g).map .int)]) (show 2 ≤ 1000 by decide))) last_c (by rw [List.length_map]; exact Fl)), set_last]
  have gll : (grp w.length A (rts xs ys) g).length ≤ w.length := (gi.sz (g, grp w.length A (rts xs ys) g) (List.mem_append.mpr (.inr (List.mem_singleton.mpr rfl)))).2.2
  have e9 : F.map gpD ++ [gpD (g, grp w.length A (rts xs ys) g)] = (F ++ [(g, grp w.length A (rts xs ys) g)]).map gpD := by rw [List.map_append]; rfl
  rw [e9]
  exact set_ok (d := .lst ((A ++ grp w.length A (rts xs ys) g).map .int)) (op2F_ok (a := .lst (A.map .int)) (b := .lst ((grp w.length A (rts xs ys) g).map .int)) (st1 := st ++ [.lst ((F ++ [(g, grp w.length A (rts xs ys) g)]).map gpD)]) (st2 := st ++ [.lst ((F ++ [(g, grp w.length A (rts xs ys) g)]).map gpD)]) rfl rfl (add_ints (by omega))) (show 3 < 11 by decide) rfl
end Lw

namespace Lw
open PySem PySem.Spec PyProof.Rows L2 Ev
open Ch (S Sub Sol Whole cut Gr St Nums tell)
def gpC : TF := (boolF (op2F (cmpI fun i j => decide (i < j)) (opLF lenL (consA (varF 3) nilA)) (opLF lenL (consA (varF 0) nilA))))
theorem gpC_ok {w : Wr} {b : Rat} {e : Nat} {A : List Int} {x4 x5 x6 x7 x8 x9 x10 : Option D} {st : Sto} : gpC (E11 w b e A x4 x5 x6 x7 x8 x9 x10) st = .ok (decide (A.length < w.length)) st := by
  unfold gpC
  have l : opLF lenL (consA (varF 3) nilA) (E11 w b e A x4 x5 x6 x7 x8 x9 x10) st = .ok (.int (A.length : Nat)) st := op1L (x := .lst (A.map .int)) (st1 := st) rfl (by rw [lenL_l, List.length_map])
  refine bool_ok (op2F_ok l (lenR rfl) ?_)
  rw [cmpI_ii]
  have : decide (((A.length : Nat) : Int) < ((w.length : Nat) : Int)) = decide (A.length < w.length) := decide_eq_decide.mpr (by omega)
  rw [this]
section
variable {P B N : Nat} {w : Wr} {b : Rat}
theorem gp_loop (hw : WrOk P w) (b0 : 0 < b) (b1 : b < 1) (sb : Sz B b) (B8 : B ≤ 8) (P30 : P ≤ 30) (hN : N = (P + B + ((9 + B) * w.length + P * w.length)) + (0 + B + (9 + B) * w.length)) (N7 : N ≤ 3000) {st : Sto} : ∀ (k m : Nat) (F : List (Rat × List Int)) (A : List Int) (x4 x5 x6 x7 x8 x9 x10 : Option D), GI w b N F A → w.length - A.length = k → k < m →
    ∃ (F' : List (Rat × List Int)) (A' : List Int) (y4 y5 y6 y7 : Option D), loopW gpC gpB m (E11 w b st.length A x4 x5 x6 x7 x8 x9 x10) (st ++ [.lst (F.map gpD)]) = .nx (E11 w b st.length A' y4 y5 y6 y7 x8 x9 x10) (st ++ [.lst (F'.map gpD)]) ∧ GI w b N F' A' ∧ w.length ≤ A'.length := by
  intro k
  induction k using Nat.strongRecOn with
  | _ k ih =>
    intro m F A x4 x5 x6 x7 x8 x9 x10 h hk hm
    obtain ⟨m, rfl⟩ : ∃ q, m = q + 1 := ⟨m - 1, by omega⟩
    by_cases hl : A.length < w.length
    · obtain ⟨F1, A1, y4, y5, y6, y7, e1, h1, l1⟩ := gp_body hw b0 b1 sb B8 P30 hN N7 h hl (st := st) (x4 := x4) (x5 := x5) (x6 := x6) (x7 := x7) (x8 := x8) (x9 := x9) (x10 := x10)
      obtain ⟨F2, A2, z4, z5, z6, z7, e2, h2, l2⟩ := ih (w.length - A1.length) (by omega) m F1 A1 y4 y5 y6 y7 x8 x9 x10 h1 rfl (by omega)
      refine ⟨F2, A2, z4, z5, z6, z7, ?_, h2, l2⟩
      rw [loopW_go (by rw [gpC_ok, decide_eq_true hl]) e1]
      exact e2
    · exact ⟨F, A, x4, x5, x6, x7, loopW_end (by rw [gpC_ok, decide_eq_false hl]), h, by omega⟩
theorem refBs_gp (n : Nat) : ∀ F : List (Rat × List Int), refBs n (F.map gpD) = true
  | [] => rfl
  | f :: F => by
    rw [List.map_cons]
    unfold refBs
    rw [refBs_gp n F]
    have : refB n (gpD f) = true := by
      show (refB n (fr f.1) && (refBs n (f.2.map .int) && true)) = true
      rw [refB_fr, refBs_ints]
      rfl
    rw [this]
    rfl
theorem groups_is (hw : WrOk P w) (b0 : 0 < b) (b1 : b < 1) (sb : Sz B b) (B8 : B ≤ 8) (P30 : P ≤ 30) (hN : N = (P + B + ((9 + B) * w.length + P * w.length)) + (0 + B + (9 + B) * w.length)) (N7 : N ≤ 3000) (st : Sto) :
    ∃ (F : List (Rat × List Int)) (A : List Int), f_groups [wrD w, fr b] st = .ok (.lst (F.map gpD)) st ∧ GI w b N F A ∧ ∀ j, j < w.length → inA A j = true := by
  have g0 : GI w b N [] [] := ⟨.nil, .nil, fun i hi => (nomatch hi), fun f hf => (nomatch hf), Nat.le_refl _, .inl ⟨rfl, rfl⟩⟩
  obtain ⟨F, A, y4, y5, y6, y7, e, h, l⟩ := gp_loop hw b0 b1 sb B8 P30 hN N7 (st := st) w.length bigFuel [] [] none none none none none none none g0 (by simp) (Nat.lt_of_lt_of_le (show w.length < 2 ^ 16 by have := hw.l6; omega) (by unfold bigFuel; exact Nat.pow_le_pow_right (by decide) (by decide)))
  refine ⟨F, A, fnZ_c (ex := []) (en0 := [some (wrD w), some (fr b), none, none, none, none, none, none, none, none, none]) rfl ?_ (refBs_gp _ _), h, fun j hj => ?_⟩
  · unfold b_groups
    rw [step_set (d := .ref st.length) (st' := st ++ [.lst []]) (en' := [some (wrD w), some (fr b), some (.ref st.length), none, none, none, none, none, none, none, none]) rfl (show 2 < 11 by decide) rfl]
    rw [step_set (d := .lst []) (st' := st ++ [.lst []]) (en' := E11 w b st.length [] none none none none none none none) rfl (show 3 < 11 by decide) rfl]
    show seqS (whileS bigFuel gpC gpB) _ _ _ = _
    have e' : whileS bigFuel gpC gpB (E11 w b st.length [] none none none none none none none) (st ++ [.lst []]) = .nx (E11 w b st.length A y4 y5 y6 y7 none none none) (st ++ [.lst (F.map gpD)]) := e
    rw [step_of e']
    exact ret_ok rfl
  · cases q : inA A j with
    | true => rfl
    | false =>
      have ni : ((j : Nat) : Int) ∉ A := of_decide_eq_false q
      have := few_len (l := ((j : Nat) : Int) :: A) (n := w.length) (List.nodup_cons.mpr ⟨ni, h.nd⟩) fun x hx => by
        rcases List.mem_cons.mp hx with rfl | hx
        · exact ⟨by omega, by omega⟩
        · exact h.rg x hx
      rw [List.length_cons] at this
      omega
/-! numbers -/
def put (g : Rat) (row : List Rat) (G : List Int) : List Rat := G.foldl (fun r i => r.set i.toNat g) row
theorem put_len (g : Rat) : ∀ (G : List Int) (row : List Rat), (put g row G).length = row.length
  | [], _ => rfl
  | i :: G, row => (put_len g G _).trans List.length_set
theorem put_get (g : Rat) : ∀ (G : List Int) (row : List Rat) (j : Nat), j < row.length → (∀ i ∈ G, 0 ≤ i) → (put g row G).getD j 0 = if inA G j = true then g else row.getD j 0
  | [], _, _, _, _ => rfl
  | i :: G, row, j, hj, h => by
    have ih := put_get g G (row.set i.toNat g) j (by rw [List.length_set]; exact hj) fun k hk => h k (List.mem_cons_of_mem _ hk)
    have i0 := h i List.mem_cons_self
    show (put g (row.set i.toNat g) G).getD j 0 = _
    rw [ih]
    have c : inA (i :: G) j = (decide (((j : Nat) : Int) = i) || inA G j) := by
      show decide _ = (_ || decide _)
      by_cases e : ((j : Nat) : Int) = i
      · simp [e]
      · simp [e]
    rw [c]
    cases q : inA G j with
    | true => simp
    | false =>
      rw [Bool.or_false, if_neg Bool.false_ne_true]
      by_cases e : ((j : Nat) : Int) = i
      · subst e
        rw [decide_eq_true rfl, if_pos rfl, Int.toNat_natCast]
        simp [List.getD, List.getElem?_set_self hj]
      · rw [decide_eq_false e, if_neg Bool.false_ne_true]
        have : i.toNat ≠ j := by omega
        simp [List.getD, List.getElem?_set_ne this]
def putF (row : List Rat) (F : List (Rat × List Int)) : List Rat := F.foldl (fun r f => put f.1 r f.2) row
theorem putF_len : ∀ (F : List (Rat × List Int)) (row : List Rat), (putF row F).length = row.length
  | [], _ => rfl
  | f :: F, row => (putF_len F _).trans (put_len _ _ _)
theorem putF_app (row : List Rat) (F : List (Rat × List Int)) (f : Rat × List Int) : putF row (F ++ [f]) = put f.1 (putF row F) f.2 := by
  unfold putF
  rw [List.foldl_append]
  rfl
theorem putF_get {row : List Rat} (h0 : ∀ j, row.getD j 0 = 0) : ∀ (k : Nat) (F : List (Rat × List Int)), F.length = k → (∀ f ∈ F, ∀ i ∈ f.2, 0 ≤ i) → ∀ j, j < row.length → (putF row F).getD j 0 = tell (stg F) j
  | 0, F, hk, h, j, hj => by
    have : F = [] := List.eq_nil_of_length_eq_zero hk
    subst this
    exact h0 j
  | k + 1, F, hk, h, j, hj => by
    obtain ⟨F', f, rfl⟩ : ∃ F' f, F = F' ++ [f] := by
      have ne : F ≠ [] := by
        intro e
        rw [e] at hk
        cases hk
      exact ⟨F.dropLast, F.getLast ne, (List.dropLast_concat_getLast ne).symm⟩
    rw [List.length_append] at hk
    have ih := putF_get h0 k F' (by simpa using hk) (fun g hg => h g (List.mem_append.mpr (.inl hg))) j hj
    rw [putF_app, stg_app, put_get _ _ _ _ (by rw [putF_len]; exact hj) (h f (List.mem_append.mpr (.inr (List.mem_singleton.mpr rfl)))), ih]
    rfl
def nsB : SF := (subS (varF 3) (varF 2) (varF 5))
theorem ns_loop {d0 d1 x4 : Option D} {g : Rat} {st : Sto} {n : Nat} : ∀ (G : List Int) (row : List Rat) (x5 : Option D), row.length = n → (∀ i ∈ G, 0 ≤ i ∧ i < (n : Nat)) → ∃ y5, loopI (nameG 5) nsB (G.map .int) [d0, d1, some (.ref st.length), some (fr g), x4, x5] (st ++ [.lst (row.map fr)]) = .nx [d0, d1, some (.ref st.length), some (fr g), x4, y5] (st ++ [.lst ((put g row G).map fr)])
  | [], row, x5, _, _ => ⟨x5, rfl⟩
  | i :: G, row, x5, hl, h => by
    obtain ⟨i0, i1⟩ := h i List.mem_cons_self
    obtain ⟨y5, e⟩ := ns_loop (d0 := d0) (d1 := d1) (x4 := x4) (g := g) (st := st) G (row.set i.toNat g) (some (.int i)) (by rw [List.length_set, hl]) fun k hk => h k (List.mem_cons_of_mem _ hk)
    refine ⟨y5, ?_⟩
    rw [List.map_cons]
    show _ = SR.nx _ (st ++ [.lst ((put g (row.set i.toNat g) G).map fr)])
    rw [← e]
    refine loop_nx (en1 := [d0, d1, some (.ref st.length), some (fr g), x4, some (.int i)]) rfl ?_
    unfold nsB
    obtain ⟨q, rfl⟩ : ∃ q : Nat, i = (q : Nat) := ⟨i.toNat, by omega⟩
    rw [sub_ok (d := fr g) (st1 := st ++ [.lst (row.map fr)]) (st2 := st ++ [.lst (row.map fr)]) (st3 := st ++ [.lst (row.map fr)]) (n := st.length) (m := (q : Nat)) (q := q) rfl rfl rfl last_c (ixN_nat (by rw [List.length_map]; omega)), set_last, Int.toNat_natCast, List.map_set]
def nfB : SF := (forS (seqI (varF 4)) (nameG 5) nsB)
theorem nf_loop {d0 d1 : Option D} {st : Sto} {n : Nat} : ∀ (F : List (Rat × List Int)) (row : List Rat) (x3 x4 x5 : Option D), row.length = n → (∀ f ∈ F, ∀ i ∈ f.2, 0 ≤ i ∧ i < (n : Nat)) → ∃ y3 y4 y5, loopI (tupG 2 (consG (nameG 3) (consG (nameG 4) nilG))) nfB (F.map gpD) [d0, d1, some (.ref st.length), x3, x4, x5] (st ++ [.lst (row.map fr)]) = .nx [d0, d1, some (.ref st.length), y3, y4, y5] (st ++ [.lst ((putF row F).map fr)])
  | [], row, x3, x4, x5, _, _ => ⟨x3, x4, x5, rfl⟩
  | f :: F, row, x3, x4, x5, hl, h => by
    obtain ⟨z5, e1⟩ := ns_loop (d0 := d0) (d1 := d1) (x4 := some (.lst (f.2.map .int))) (g := f.1) (st := st) f.2 row x5 hl (h f List.mem_cons_self)
    obtain ⟨y3, y4, y5, e2⟩ := nf_loop (d0 := d0) (d1 := d1) (st := st) F (put f.1 row f.2) (some (fr f.1)) (some (.lst (f.2.map .int))) z5 (by rw [put_len, hl]) fun g hg => h g (List.mem_cons_of_mem _ hg)
    refine ⟨y3, y4, y5, ?_⟩
    rw [List.map_cons]
    show _ = SR.nx _ (st ++ [.lst ((putF (put f.1 row f.2) F).map fr)])
    rw [← e2]
    refine loop_nx (en1 := [d0, d1, some (.ref st.length), some (fr f.1), some (.lst (f.2.map .int)), x5]) rfl ?_
    unfold nfB
    exact (for_items (ds := f.2.map .int) (st1 := st ++ [.lst (row.map fr)]) rfl).trans e1
theorem fr_zero : fr 0 = .tup [.int 0, .int 1] := rfl
theorem zeros_is {n : Nat} {st : Sto} (hn : n ≤ 1000) : mulC (.lst [.tup [.int 0, .int 1]]) (.int (n : Nat)) st = some (.ref st.length, st ++ [.lst ((List.replicate n (0 : Rat)).map fr)]) := by
  have hs : sizeLine = 16777216 := sizeLine_eq
  have := mulC_e (ds := [.tup [.int 0, .int 1]]) (j := (n : Nat)) (st := st) (Int.le_trans (show -(2 ^ 63) ≤ (0 : Int) by decide) (Int.natCast_nonneg n)) (Int.lt_of_lt_of_le (show ((n : Nat) : Int) < 1001 by omega) (by decide)) (by rw [Int.toNat_natCast, List.length_singleton]; omega)
  rw [Int.toNat_natCast, rep_one, ← fr_zero] at this
  rw [List.map_replicate]
  exact this
theorem cg_ok {w : Wr} {b : Rat} {st : Sto} {F : List D} {x2 x3 x4 x5 : Option D} (e1 : f_groups [wrD w, fr b] st = .ok (.lst F) st) : seqI (callF 2 f_groups (consA (varF 0) (consA (varF 1) nilA))) [some (wrD w), some (fr b), x2, x3, x4, x5] st = .ok (.items F) st := by
  have cg : callF 2 f_groups (consA (varF 0) (consA (varF 1) nilA)) [some (wrD w), some (fr b), x2, x3, x4, x5] st = .ok (.lst F) st := call2 (x := wrD w) (y := fr b) (st1 := st) (st2 := st) rfl rfl e1
  unfold seqI
  rw [cg]
  rfl
theorem numbers_is (hw : WrOk P w) (b0 : 0 < b) (b1 : b < 1) (sb : Sz B b) (B8 : B ≤ 8) (P30 : P ≤ 30) (hN : N = (P + B + ((9 + B) * w.length + P * w.length)) + (0 + B + (9 + B) * w.length)) (N7 : N ≤ 3000) (st : Sto) :
    ∃ gs : List Rat, f_numbers [wrD w, fr b] st = .ok (.tup (gs.map fr)) st ∧ gs.length = w.length ∧ Nums w.length (mxw w) b (pw w) (fun j => gs.getD j 0) ∧ ∀ g ∈ gs, Sz N g := by
  have l6 := hw.l6
  obtain ⟨F, A, e1, h, all⟩ := groups_is hw b0 b1 sb B8 P30 hN N7 (st ++ [.lst ((List.replicate w.length (0 : Rat)).map fr)])
  have lr : (List.replicate w.length (0 : Rat)).length = w.length := List.length_replicate
  obtain ⟨y3, y4, y5, e2⟩ := nf_loop (d0 := some (wrD w)) (d1 := some (fr b)) (st := st) (n := w.length) F (List.replicate w.length 0) none none none lr fun f hf => (h.sz f hf).2.1
  have get : ∀ j, j < w.length → (putF (List.replicate w.length 0) F).getD j 0 = tell (stg F) j := fun j hj => putF_get (fun j => by
    rw [List.getD_eq_getElem?_getD, List.getElem?_replicate]
    split <;> rfl) F.length F rfl (fun f hf i hi => ((h.sz f hf).2.1 i hi).1) j (by rw [lr]; exact hj)
  have nums := h.gr.nums all
  refine ⟨putF (List.replicate w.length 0) F, fnZ_d (ex := [.lst ((putF (List.replicate w.length 0) F).map fr)]) (en0 := [some (wrD w), some (fr b), none, none, none, none]) rfl ?_ (by unfold refB; exact refBs_frs _ _), by rw [putF_len, lr], ⟨fun s hs X Y hX hY => ?_⟩, fun g hg => ?_⟩
  · unfold b_numbers
    rw [step_expr (call1 (x := wrD w) (st1 := st) rfl (need_work_r hw))]
    rw [step_expr (call1 (x := fr b) (st1 := st) rfl (need_share_r b0 b1))]
    rw [step_set (d := .ref st.length) (st' := st ++ [.lst ((List.replicate w.length (0 : Rat)).map fr)]) (en' := [some (wrD w), some (fr b), some (.ref st.length), none, none, none]) (op2F_ok (a := .lst [.tup [.int 0, .int 1]]) (b := .int (w.length : Nat)) (st1 := st) (st2 := st) rfl (lenR rfl) (zeros_is (by omega))) (show 2 < 6 by decide) rfl]
    show seqS (forS (seqI (callF 2 f_groups (consA (varF 0) (consA (varF 1) nilA)))) (tupG 2 (consG (nameG 3) (consG (nameG 4) nilG))) nfB) _ _ _ = _
    rw [step_of ((for_items (cg_ok e1)).trans e2)]
    refine ret_ok (op1L (x := .ref st.length) (st1 := st ++ [.lst ((putF (List.replicate w.length 0) F).map fr)]) rfl ?_)
    show (match (st ++ [Cell.lst ((putF (List.replicate w.length 0) F).map fr)])[st.length]? with | some (.lst ds) => some ds | _ => none).bind (fun es => some (D.tup es, st ++ [Cell.lst ((putF (List.replicate w.length 0) F).map fr)])) = _
    rw [last_c]
    rfl
  · have eqv : ∀ i j, i < w.length → j < w.length → (decide ((putF (List.replicate w.length 0) F).getD i 0 < (putF (List.replicate w.length 0) F).getD j 0)) = decide (tell (stg F) i < tell (stg F) j) := fun i j hi hj => by rw [get i hi, get j hj]
    obtain ⟨k1, k2, k3⟩ := nums.at' s hs X Y (hX.cut_congr fun j hj => eqv s j hs hj) (hY.cut_congr fun j hj => eqv s j hs hj)
    refine ⟨?_, fun j hj l => ?_, fun j hj l => ?_⟩
    · show X s = (putF (List.replicate w.length 0) F).getD s 0 * Y s
      rw [get s hs]
      exact k1
    · show (putF (List.replicate w.length 0) F).getD s 0 * Y j ≤ X j
      rw [get s hs]
      refine k2 j hj ?_
      have l : (putF (List.replicate w.length 0) F).getD s 0 < (putF (List.replicate w.length 0) F).getD j 0 := l
      rwa [get s hs, get j hj] at l
    · show X j ≤ (putF (List.replicate w.length 0) F).getD s 0 * Y j
      rw [get s hs]
      refine k3 j hj fun q => l ?_
      show (putF (List.replicate w.length 0) F).getD s 0 < (putF (List.replicate w.length 0) F).getD j 0
      rwa [get s hs, get j hj]
  · have z0 : Sz N 0 := ⟨Nat.zero_le _, Nat.one_le_two_pow⟩
    have put_sz : ∀ (G : List Int) (g : Rat) (row : List Rat), Sz N g → (∀ x ∈ row, Sz N x) → ∀ x ∈ put g row G, Sz N x := fun G => by
      induction G with
      | nil => intro g row _ h; exact h
      | cons i G ih =>
        intro g row hg h
        refine ih g _ hg fun x hx => ?_
        rcases List.mem_or_eq_of_mem_set hx with hx | rfl
        · exact h x hx
        · exact hg
    have putF_sz : ∀ (F : List (Rat × List Int)) (row : List Rat), (∀ f ∈ F, Sz N f.1) → (∀ x ∈ row, Sz N x) → ∀ x ∈ putF row F, Sz N x := fun F => by
      induction F with
      | nil => intro row _ h; exact h
      | cons f F ih =>
        intro row hf h
        exact ih _ (fun g hg => hf g (List.mem_cons_of_mem _ hg)) (put_sz f.2 f.1 row (hf f List.mem_cons_self) h)
    exact putF_sz F _ (fun f hf => (h.sz f hf).1) (fun x hx => by rw [(List.mem_replicate.mp hx).2]; exact z0) g hg
end
end Lw

namespace Lw
open PySem PySem.Spec PyProof.Rows L2 Ev
open Ch (S Sub Sol Whole cut Gr St Nums tell)
/-! pay and steps by steps -/
def prD (p : Rat × Rat) : D := .tup [fr p.1, fr p.2]
def tD (T : List Int) : D := .tup (T.map .int)
abbrev Tl := List (Rat × Rat)
def accP (b : Rat) (T : List Int) (tl : Tl) : Mvr → Rat × Rat → Rat × Rat
  | [], a => a
  | m :: ms, a => accP b T tl ms (if inSq (m.1 : Nat) T = true then (a.1 + b * m.2 * (tl.getD m.1 (0, 0)).1, a.2 + b * m.2 * (tl.getD m.1 (0, 0)).2) else a)
theorem accP_1 {b : Rat} {T : List Int} {tl : Tl} {n : Nat} : ∀ (ms : Mvr) (a : Rat × Rat), (∀ m ∈ ms, m.1 < n) → (accP b T tl ms a).1 = a.1 + b * S n (fun j => mm (fl T ms) j * (tl.getD j (0, 0)).1) ∧ (accP b T tl ms a).2 = a.2 + b * S n (fun j => mm (fl T ms) j * (tl.getD j (0, 0)).2)
  | [], a, _ => by
    have z : ∀ f : Nat → Rat, S n (fun j => mm (fl T []) j * f j) = 0 := fun f => by
      rw [Ch.S_congr (g := fun _ => 0) fun j _ => (by show (0 : Rat) * f j = 0; grind), Ch.S_const0]
    show a.1 = a.1 + b * _ ∧ a.2 = a.2 + b * _
    rw [z, z]
    grind
  | m :: ms, a, h => by
    have hm := h m List.mem_cons_self
    have c : ∀ f : Nat → Rat, S n (fun j => mm (fl T (m :: ms)) j * f j) = (if inSq (m.1 : Nat) T = true then m.2 * f m.1 else 0) + S n (fun j => mm (fl T ms) j * f j) := fun f => by
      unfold fl
      rw [List.filter_cons]
      split
      · rw [Ch.S_congr (g := fun j => (if m.1 = j then m.2 * f j else 0) + mm (List.filter (fun m => inSq (m.1 : Nat) T) ms) j * f j) fun j _ => (by
          show ((if m.1 = j then m.2 else 0) + mm _ j) * f j = _
          split <;> grind), Ch.S_add, Ch.S_single hm _ fun j _ hn => if_neg (Ne.symm hn), if_pos rfl]
      · grind
    have ih := accP_1 (b := b) (T := T) (tl := tl) ms (if inSq (m.1 : Nat) T = true then (a.1 + b * m.2 * (tl.getD m.1 (0, 0)).1, a.2 + b * m.2 * (tl.getD m.1 (0, 0)).2) else a) fun q hq => h q (List.mem_cons_of_mem _ hq)
    show (accP b T tl ms _).1 = _ ∧ (accP b T tl ms _).2 = _
    rw [ih.1, ih.2, c, c]
    cases e : inSq (m.1 : Nat) T with
    | true =>
      simp only [if_true]
      constructor <;> grind
    | false =>
      simp only [Bool.false_eq_true, if_false]
      constructor <;> grind
def Tv (st : Sto) (X : D) (tl : Tl) : Prop := X = .lst (tl.map prD) ∨ ∃ e, X = .ref e ∧ st[e]? = some (.lst (tl.map prD))
theorem Tv.app {st ex : Sto} {X : D} {tl : Tl} (h : Tv st X tl) : Tv (st ++ ex) X tl := by
  rcases h with h | ⟨e, h, hc⟩
  · exact .inl h
  · refine .inr ⟨e, h, ?_⟩
    rw [List.getElem?_append_left (List.getElem?_eq_some_iff.mp hc).1]
    exact hc
theorem Tv.ix {st : Sto} {X : D} {tl : Tl} (h : Tv st X tl) {k : Nat} (hk : k < tl.length) : ixD X (.int (k : Nat)) st = some (prD (tl.getD k (0, 0)), st) := by
  have e : (tl.map prD)[k]? = some (prD (tl.getD k (0, 0))) := by
    rw [List.getElem?_map, List.getD_eq_getElem?_getD, List.getElem?_eq_getElem hk]
    rfl
  rcases h with rfl | ⟨e1, rfl, hc⟩
  · exact ixD_l (atD_nat e)
  · exact ixD_r hc (atD_nat e)
/-! bottoms and greatness -/
structure Bg (d k : Nat) (D : Nat) (x : Rat) : Prop where
  dv : x.den ∣ D
  up : x ≤ ((2 ^ k : Nat) : Rat)
  lo : -x ≤ ((2 ^ k : Nat) : Rat)
theorem den_add {x y : Rat} {D : Nat} (D0 : 0 < D) (h1 : x.den ∣ D) (h2 : y.den ∣ D) : (x + y).den ∣ D := by
  obtain ⟨p, hp⟩ := h1
  obtain ⟨q, hq⟩ := h2
  have e1 : x * ((D : Nat) : Rat) = ((x.num * (p : Nat) : Int) : Rat) := by
    rw [Rat.intCast_mul, ← r_nd x, natR, natR, hp]
    have : ((x.den * p : Nat) : Rat) = ((x.den : Nat) : Rat) * ((p : Nat) : Rat) := by exact_mod_cast rfl
    rw [this]
    grind
  have e2 : y * ((D : Nat) : Rat) = ((y.num * (q : Nat) : Int) : Rat) := by
    rw [Rat.intCast_mul, ← r_nd y, natR, natR, hq]
    have : ((y.den * q : Nat) : Rat) = ((y.den : Nat) : Rat) * ((q : Nat) : Rat) := by exact_mod_cast rfl
    rw [this]
    grind
  have := den_dvd (r := x + y) (b := ((D : Nat) : Int)) (a := x.num * (p : Nat) + y.num * (q : Nat)) (by omega) (by
    rw [Rat.intCast_add, ← e1, ← e2, natR]
    grind)
  rwa [Int.natAbs_natCast] at this
theorem den_mul' {x y : Rat} {D E : Nat} (h1 : x.den ∣ D) (h2 : y.den ∣ E) : (x * y).den ∣ D * E := by
  have := den_dvd (dd0 x y) (mul_w x y)
  rw [Int.natAbs_mul, Int.natAbs_natCast, Int.natAbs_natCast] at this
  exact Nat.dvd_trans this (Nat.mul_dvd_mul h1 h2)
end Lw

namespace Lw
open PySem PySem.Spec PyProof.Rows L2 Ev
open Ch (S Sub Sol Whole cut Gr St Nums tell)
def p2 (K : Nat) : Rat := ((2 ^ K : Nat) : Rat)
theorem p2_pos (K : Nat) : 0 < p2 K := by
  unfold p2
  exact_mod_cast Nat.two_pow_pos K
theorem p2_s (K : Nat) : p2 (K + 1) = 2 * p2 K := by
  unfold p2
  rw [Nat.pow_succ, Nat.mul_comm]
  exact_mod_cast rfl
structure Ac (K E : Nat) (s x : Rat) : Prop where
  dv : x.den ∣ E
  up : x ≤ p2 K * (1 + s)
  lo : -x ≤ p2 K * (1 + s)
theorem Ac.sz {K E e : Nat} {s x : Rat} (h : Ac K E s x) (s1 : s ≤ 1) (E0 : 0 < E) (hE : E ≤ 2 ^ e) : Sz (K + 1 + e) x := by
  have k := Ch.mul_le (Rat.le_of_lt (p2_pos K)) (show 1 + s ≤ 2 by grind)
  have q := p2_s K
  have u := h.up
  have l := h.lo
  refine num_le (k := K + 1) ?_ ?_ (Nat.le_trans (Nat.le_of_dvd E0 h.dv) hE)
  · show x ≤ p2 (K + 1)
    grind
  · show -x ≤ p2 (K + 1)
    grind
/-- what is told at one time -/
structure Tk (K D : Nat) (tl : Tl) : Prop where
  all : ∀ p ∈ tl, (p.1.den ∣ D ∧ p.1 ≤ p2 K ∧ -p.1 ≤ p2 K) ∧ (p.2.den ∣ D ∧ p.2 ≤ p2 K ∧ -p.2 ≤ p2 K)
theorem Ac.step {K D Q : Nat} {s a x b c : Rat} (h : Ac K (D * Q) s a) (E0 : 0 < D * Q) (b0 : 0 < b) (b1 : b < 1) (c0 : 0 ≤ c) (hq : b.den * c.den ∣ Q) (h1 : x.den ∣ D) (h2 : x ≤ p2 K) (h3 : -x ≤ p2 K) : Ac K (D * Q) (s + c) (a + b * c * x) := by
  have dt : (b * c * x).den ∣ D * Q := by
    have := den_mul' (den_mul' (x := b) (y := c) (Nat.dvd_refl _) (Nat.dvd_refl _)) h1
    rw [Nat.mul_comm D Q]
    exact Nat.dvd_trans this (Nat.mul_dvd_mul hq (Nat.dvd_refl _))
  have p0 := p2_pos K
  have bc0 : 0 ≤ b * c := Rat.mul_nonneg (Rat.le_of_lt b0) c0
  have bc : b * c ≤ c := by
    have := Rat.mul_le_mul_of_nonneg_right (Rat.le_of_lt b1) c0
    grind
  have m1 := Ch.mul_le bc0 h2
  have m2 := Ch.mul_le bc0 h3
  have m3 := Rat.mul_le_mul_of_nonneg_right bc (Rat.le_of_lt p0)
  have u := h.up
  have l := h.lo
  exact ⟨den_add E0 h.dv dt, by grind, by grind⟩
def mvB : SF := (ifS (boolF (op2F (inQD false) (varF 10) (varF 4)))
 (seqS (setS 12 (callF 2 f_law_mul (consA (varF 1) (consA (varF 11) nilA))))
 (seqS (setS 6 (callF 2 f_law_add (consA (varF 6) (consA (callF 2 f_law_mul (consA (varF 12) (consA (op2F ixD (op2F ixD (varF 3) (varF 10)) (litF (.int 0))) nilA))) nilA))))
 (setS 9 (callF 2 f_law_add (consA (varF 9) (consA (callF 2 f_law_mul (consA (varF 12) (consA (op2F ixD (op2F ixD (varF 3) (varF 10)) (litF (.int 1))) nilA))) nilA))))))
 passS)
def rowB : SF := (seqS (setS 9 (opLF tupL (consA (litF (.int 1)) (consA (litF (.int 1)) nilA))))
 (seqS (forS (seqI (varF 7)) (tupG 2 (consG (nameG 10) (consG (nameG 11) nilG)))
 mvB)
 (exprS (methF appM (varF 5) (consA (opLF tupL (consA (varF 6) (consA (varF 9) nilA))) nilA)))))
def stB : SF := (seqS (setS 5 (opLF celL nilA))
 (seqS (forS (seqI (varF 0)) (tupG 2 (consG (nameG 6) (consG (nameG 7) nilG)))
 rowB)
 (setS 3 (varF 5))))
abbrev E13 (w : Wr) (b : Rat) (x2 : Option D) (X : D) (x4 x5 x6 x7 x8 x9 x10 x11 x12 : Option D) : En := [some (wrD w), some (fr b), x2, some X, x4, x5, x6, x7, x8, x9, x10, x11, x12]
section
variable {w : Wr} {b : Rat} {x2 : Option D} {X : D} {T : List Int} {tl : Tl} {K D' Q e : Nat}
theorem mv_loop (b0 : 0 < b) (b1 : b < 1) (sb : Sz 8 b) (hT : Tk K D' tl) (E0 : 0 < D' * Q) (hE : D' * Q ≤ 2 ^ e) (hs : K + 1 + e ≤ 3000) {st : Sto} (hX : Tv st X tl) {x5 x7 x8 : Option D} : ∀ (ms : Mvr) (a : Rat × Rat) (s : Rat) (x10 x11 x12 : Option D), (∀ m ∈ ms, m.1 < tl.length ∧ Sz 8 m.2 ∧ 0 ≤ m.2 ∧ b.den * m.2.den ∣ Q) → s + msum ms ≤ 1 → Ac K (D' * Q) s a.1 → Ac K (D' * Q) s a.2 →
    ∃ (y10 y11 y12 : Option D), loopI (tupG 2 (consG (nameG 10) (consG (nameG 11) nilG))) mvB (ms.map mvR) (E13 w b x2 X (some (tD T)) x5 (some (fr a.1)) x7 x8 (some (fr a.2)) x10 x11 x12) st = .nx (E13 w b x2 X (some (tD T)) x5 (some (fr (accP b T tl ms a).1)) x7 x8 (some (fr (accP b T tl ms a).2)) y10 y11 y12) st ∧ Ac K (D' * Q) 1 (accP b T tl ms a).1 ∧ Ac K (D' * Q) 1 (accP b T tl ms a).2
  | [], a, s, x10, x11, x12, _, h1, ha, ha2 => by
    have s1 : s ≤ 1 := by
      have : s + 0 ≤ 1 := h1
      grind
    have k := Ch.mul_le (Rat.le_of_lt (p2_pos K)) (show 1 + s ≤ 1 + 1 by grind)
    exact ⟨x10, x11, x12, rfl, ⟨ha.dv, Rat.le_trans ha.up k, Rat.le_trans ha.lo k⟩, ⟨ha2.dv, Rat.le_trans ha2.up k, Rat.le_trans ha2.lo k⟩⟩
  | m :: ms, a, s, x10, x11, x12, h, h1, ha, ha2 => by
    obtain ⟨ml, sm, m0, mq⟩ := h m List.mem_cons_self
    have nn : 0 ≤ msum ms := by
      have : ∀ ms : Mvr, (∀ m ∈ ms, 0 ≤ m.2) → 0 ≤ msum ms := fun ms => by
        induction ms with
        | nil => intro _; exact Rat.le_refl
        | cons m ms ih =>
          intro h
          have a := h m List.mem_cons_self
          have b := ih fun q hq => h q (List.mem_cons_of_mem _ hq)
          show 0 ≤ m.2 + msum ms
          grind
      exact this ms fun q hq => (h q (List.mem_cons_of_mem _ hq)).2.2.1
    have h1 : s + (m.2 + msum ms) ≤ 1 := h1
    have inq : boolF (op2F (inQD false) (varF 10) (varF 4)) (E13 w b x2 X (some (tD T)) x5 (some (fr a.1)) x7 x8 (some (fr a.2)) (some (.int (m.1 : Nat))) (some (fr m.2)) x12) st = .ok (inSq (m.1 : Nat) T) st := bool_ok (op2F_ok (a := .int (m.1 : Nat)) (b := tD T) (st1 := st) (st2 := st) rfl rfl inQ_t)
    cases q : inSq (m.1 : Nat) T with
    | false =>
      have k := Ch.mul_le (Rat.le_of_lt (p2_pos K)) (show 1 + s ≤ 1 + (s + m.2) by grind)
      obtain ⟨y10, y11, y12, er, a1, a2⟩ := mv_loop (x5 := x5) (x7 := x7) (x8 := x8) b0 b1 sb hT E0 hE hs hX ms a (s + m.2) (some (.int (m.1 : Nat))) (some (fr m.2)) x12 (fun q hq => h q (List.mem_cons_of_mem _ hq)) (by grind) ⟨ha.dv, Rat.le_trans ha.up k, Rat.le_trans ha.lo k⟩ ⟨ha2.dv, Rat.le_trans ha2.up k, Rat.le_trans ha2.lo k⟩
      have ea : accP b T tl (m :: ms) a = accP b T tl ms a := by
        show accP b T tl ms (if inSq (m.1 : Nat) T = true then _ else a) = _
        rw [q, if_neg Bool.false_ne_true]
      rw [ea]
      refine ⟨y10, y11, y12, ?_, a1, a2⟩
      rw [List.map_cons, ← er]
      refine loop_nx (en1 := E13 w b x2 X (some (tD T)) x5 (some (fr a.1)) x7 x8 (some (fr a.2)) (some (.int (m.1 : Nat))) (some (fr m.2)) x12) rfl ?_
      unfold mvB
      rw [if_ok inq, q, if_neg Bool.false_ne_true]
      rfl
    | true =>
      have mem : tl.getD m.1 (0, 0) ∈ tl := by
        rw [List.getD_eq_getElem?_getD, List.getElem?_eq_getElem ml]
        exact List.getElem_mem _
      obtain ⟨u, hu⟩ : ∃ u, tl.getD m.1 (0, 0) = u := ⟨_, rfl⟩
      rw [hu] at mem
      obtain ⟨⟨d1, u1, l1⟩, d2, u2, l2⟩ := hT.all u mem
      have n1 := ha.step E0 b0 b1 m0 mq d1 u1 l1
      have n2 := ha2.step E0 b0 b1 m0 mq d2 u2 l2
      have D0 : 0 < D' := Nat.pos_of_mul_pos_right E0
      have Q0 : 0 < Q := Nat.pos_of_mul_pos_left E0
      have s1 : s ≤ 1 := by grind
      have szt : ∀ x : Rat, x.den ∣ D' → x ≤ p2 K → -x ≤ p2 K → Sz (K + e) x := fun x a b c => num_le b c (Nat.le_trans (Nat.le_of_dvd D0 a) (Nat.le_trans (Nat.le_mul_of_pos_right _ Q0) hE))
      have wz : Sz 16 (b * m.2) := sb.mul sm
      obtain ⟨y10, y11, y12, er, a1, a2⟩ := mv_loop (x5 := x5) (x7 := x7) (x8 := x8) b0 b1 sb hT E0 hE hs hX ms (a.1 + b * m.2 * u.1, a.2 + b * m.2 * u.2) (s + m.2) (some (.int (m.1 : Nat))) (some (fr m.2)) (some (fr (b * m.2))) (fun q hq => h q (List.mem_cons_of_mem _ hq)) (by grind) n1 n2
      have ea : accP b T tl (m :: ms) a = accP b T tl ms (a.1 + b * m.2 * u.1, a.2 + b * m.2 * u.2) := by
        show accP b T tl ms (if inSq (m.1 : Nat) T = true then _ else a) = _
        rw [q, if_pos rfl, hu]
      rw [ea]
      refine ⟨y10, y11, y12, ?_, a1, a2⟩
      rw [List.map_cons, ← er]
      refine loop_nx (en1 := E13 w b x2 X (some (tD T)) x5 (some (fr a.1)) x7 x8 (some (fr a.2)) (some (.int (m.1 : Nat))) (some (fr m.2)) x12) rfl ?_
      have ix : ∀ en : En, en[3]? = some (some X) → en[10]? = some (some (.int (m.1 : Nat))) → op2F ixD (varF 3) (varF 10) en st = .ok (prD u) st := fun en g1 g2 => by
        have := hX.ix ml
        rw [hu] at this
        exact op2F_ok (varF_at g1) (varF_at g2) this
      unfold mvB
      rw [if_ok inq, q, if_pos rfl]
      rw [step_set (d := fr (b * m.2)) (st' := st) (en' := E13 w b x2 X (some (tD T)) x5 (some (fr a.1)) x7 x8 (some (fr a.2)) (some (.int (m.1 : Nat))) (some (fr m.2)) (some (fr (b * m.2)))) (call2 (x := fr b) (y := fr m.2) (st1 := st) (st2 := st) rfl rfl (law_mul_big sb sm (by decide))) (show 12 < 13 by decide) rfl]
      rw [step_set (d := fr (a.1 + b * m.2 * u.1)) (st' := st) (en' := E13 w b x2 X (some (tD T)) x5 (some (fr (a.1 + b * m.2 * u.1))) x7 x8 (some (fr a.2)) (some (.int (m.1 : Nat))) (some (fr m.2)) (some (fr (b * m.2)))) (call2 (x := fr a.1) (y := fr (b * m.2 * u.1)) (st1 := st) (st2 := st) rfl (call2 (x := fr (b * m.2)) (y := fr u.1) (st1 := st) (st2 := st) rfl (op2F_ok (ix _ rfl rfl) (b := .int 0) (st2 := st) rfl (ixD_t (atD_nat (n := 0) rfl))) (law_mul_big wz (szt _ d1 u1 l1) (by omega))) (law_add_big (ha.sz s1 E0 hE) (wz.mul (szt _ d1 u1 l1)) (by omega))) (show 6 < 13 by decide) rfl]
      exact set_ok (d := fr (a.2 + b * m.2 * u.2)) (call2 (x := fr a.2) (y := fr (b * m.2 * u.2)) (st1 := st) (st2 := st) rfl (call2 (x := fr (b * m.2)) (y := fr u.2) (st1 := st) (st2 := st) rfl (op2F_ok (ix _ rfl rfl) (b := .int 1) (st2 := st) rfl (ixD_t (atD_nat (n := 1) rfl))) (law_mul_big wz (szt _ d2 u2 l2) (by omega))) (law_add_big (ha2.sz s1 E0 hE) (wz.mul (szt _ d2 u2 l2)) (by omega))) (show 9 < 13 by decide) rfl
end
end Lw

namespace Lw
open PySem PySem.Spec PyProof.Rows L2 Ev
open Ch (S Sub Sol Whole cut Gr St Nums tell)
def stepV (w : Wr) (b : Rat) (T : List Int) (tl : Tl) : Tl := w.map fun r => accP b T tl r.2 (r.1, 1)
structure QOk (w : Wr) (b : Rat) (Q : Nat) : Prop where
  q0 : 0 < Q
  row : ∀ r ∈ w, r.1.den ∣ Q ∧ ∀ m ∈ r.2, b.den * m.2.den ∣ Q
theorem p2_mono {K L : Nat} (h : K ≤ L) : p2 K ≤ p2 L := by
  unfold p2
  exact_mod_cast Nat.pow_le_pow_right (by decide) h
theorem one_p2 (K : Nat) : 1 ≤ p2 K := by
  have := p2_mono (Nat.zero_le K)
  exact this
theorem Ac.fin {K E : Nat} {x : Rat} (h : Ac K E 1 x) : x.den ∣ E ∧ x ≤ p2 (K + 1) ∧ -x ≤ p2 (K + 1) := by
  have := p2_s K
  have u := h.up
  have l := h.lo
  exact ⟨h.dv, by grind, by grind⟩
section
variable {w : Wr} {b : Rat} {x2 : Option D} {X : D} {T : List Int} {tl : Tl} {K D' Q e : Nat}
theorem rows_loop (hw : WrOk 8 w) (b0 : 0 < b) (b1 : b < 1) (sb : Sz 8 b) (hK : 8 ≤ K) (hT : Tk K D' tl) (D0 : 0 < D') (hQ : QOk w b Q) (hE : D' * Q ≤ 2 ^ e) (hs : K + 1 + e ≤ 3000) (ltl : tl.length = w.length) {st : Sto} (hX : Tv st X tl) : ∀ (rs : List (Rat × Mvr)) (out : Tl) (x6 x7 x8 x9 x10 x11 x12 : Option D), (∀ r ∈ rs, r ∈ w) → out.length + rs.length ≤ 100 →
    ∃ (y6 y7 y9 y10 y11 y12 : Option D), loopI (tupG 2 (consG (nameG 6) (consG (nameG 7) nilG))) rowB (rs.map rwR) (E13 w b x2 X (some (tD T)) (some (.ref st.length)) x6 x7 x8 x9 x10 x11 x12) (st ++ [.lst (out.map prD)]) = .nx (E13 w b x2 X (some (tD T)) (some (.ref st.length)) y6 y7 x8 y9 y10 y11 y12) (st ++ [.lst ((out ++ rs.map fun r => accP b T tl r.2 (r.1, 1)).map prD)]) ∧ ∀ r ∈ rs, Ac K (D' * Q) 1 (accP b T tl r.2 (r.1, 1)).1 ∧ Ac K (D' * Q) 1 (accP b T tl r.2 (r.1, 1)).2
  | [], out, x6, x7, x8, x9, x10, x11, x12, _, _ => ⟨x6, x7, x9, x10, x11, x12, by
    show _ = SR.nx _ (st ++ [.lst ((out ++ []).map prD)])
    rw [List.append_nil]
    rfl, fun r h => nomatch h⟩
  | r :: rs, out, x6, x7, x8, x9, x10, x11, x12, hr, hl => by
    rw [List.length_cons] at hl
    have rm := hr r List.mem_cons_self
    have R := hw.rows r rm
    have E0 : 0 < D' * Q := Nat.mul_pos D0 hQ.q0
    have pk := p2_mono hK
    have ab := abs_le R.pay
    have ab1 : r.1 ≤ p2 8 := ab.1
    have ab2 : -r.1 ≤ p2 8 := ab.2
    have o1 := one_p2 K
    have ha : Ac K (D' * Q) 0 r.1 := ⟨Nat.dvd_trans (hQ.row r rm).1 (Nat.dvd_mul_left _ _), by grind, by grind⟩
    have ha2 : Ac K (D' * Q) 0 1 := ⟨Nat.one_dvd _, by grind, by grind⟩
    obtain ⟨y10, y11, y12, e1, a1, a2⟩ := mv_loop (w := w) (x2 := x2) (T := T) b0 b1 sb hT E0 hE hs (hX.app (ex := [.lst (out.map prD)])) (x5 := some (.ref st.length)) (x7 := some (.tup (r.2.map mvR))) (x8 := x8) r.2 (r.1, 1) 0 x10 x11 x12 (fun m hm => ⟨by rw [ltl]; exact (R.mv m hm).1, (R.mv m hm).2.1, (R.mv m hm).2.2, (hQ.row r rm).2 m hm⟩) (by rw [R.sum]; grind) ha ha2
    obtain ⟨a, hacc⟩ : ∃ a, accP b T tl r.2 (r.1, 1) = a := ⟨_, rfl⟩
    rw [hacc] at e1 a1 a2
    obtain ⟨z6, z7, z9, z10, z11, z12, e2, h2⟩ := rows_loop hw b0 b1 sb hK hT D0 hQ hE hs ltl hX rs (out ++ [a]) (some (fr a.1)) (some (.tup (r.2.map mvR))) x8 (some (fr a.2)) y10 y11 y12 (fun q hq => hr q (List.mem_cons_of_mem _ hq)) (by rw [List.length_append]; simp; omega)
    refine ⟨z6, z7, z9, z10, z11, z12, ?_, fun q hq => ?_⟩
    · have eo : out ++ ((r :: rs).map fun r => accP b T tl r.2 (r.1, 1)) = (out ++ [a]) ++ rs.map fun r => accP b T tl r.2 (r.1, 1) := by
        rw [List.map_cons, hacc, List.append_assoc]
        rfl
      rw [eo, ← e2, List.map_cons]
      refine loop_nx (en1 := E13 w b x2 X (some (tD T)) (some (.ref st.length)) (some (fr r.1)) (some (.tup (r.2.map mvR))) x8 x9 x10 x11 x12) rfl ?_
      unfold rowB
      rw [step_set (d := fr 1) (st' := st ++ [.lst (out.map prD)]) (en' := E13 w b x2 X (some (tD T)) (some (.ref st.length)) (some (fr r.1)) (some (.tup (r.2.map mvR))) x8 (some (fr 1)) x10 x11 x12) rfl (show 9 < 13 by decide) rfl]
      rw [step_of ((for_items (ds := r.2.map mvR) (st1 := st ++ [.lst (out.map prD)]) rfl).trans e1)]
      rw [expr_ok (app_ok (i := 5) (e := st.length) (d := prD a) (es := out.map prD) (es1 := out.map prD) (st1 := st ++ [.lst (out.map prD)]) rfl last_c (opLF_ok (ds := [fr a.1, fr a.2]) (st1 := st ++ [.lst (out.map prD)]) rfl (tupL_e (ds := [fr a.1, fr a.2]) (show 2 ≤ 1000 by decide))) last_c (by rw [List.length_map]; omega)), set_last, List.map_append]
      rfl
    · rcases List.mem_cons.mp hq with rfl | hq
      · rw [hacc]
        exact ⟨a1, a2⟩
      · exact h2 q hq
theorem st_ok (hw : WrOk 8 w) (b0 : 0 < b) (b1 : b < 1) (sb : Sz 8 b) (hK : 8 ≤ K) (hT : Tk K D' tl) (D0 : 0 < D') (hQ : QOk w b Q) (hE : D' * Q ≤ 2 ^ e) (hs : K + 1 + e ≤ 3000) (ltl : tl.length = w.length) {st : Sto} (hX : Tv st X tl) {x5 x6 x7 x8 x9 x10 x11 x12 : Option D} :
    ∃ (y6 y7 y9 y10 y11 y12 : Option D), stB (E13 w b x2 X (some (tD T)) x5 x6 x7 x8 x9 x10 x11 x12) st = .nx (E13 w b x2 (.ref st.length) (some (tD T)) (some (.ref st.length)) y6 y7 x8 y9 y10 y11 y12) (st ++ [.lst ((stepV w b T tl).map prD)]) ∧ Tk (K + 1) (D' * Q) (stepV w b T tl) := by
  have l6 := hw.l6
  obtain ⟨y6, y7, y9, y10, y11, y12, e1, h1⟩ := rows_loop (x2 := x2) (T := T) hw b0 b1 sb hK hT D0 hQ hE hs ltl hX w [] x6 x7 x8 x9 x10 x11 x12 (fun r h => h) (by simp; omega)
  rw [List.nil_append] at e1
  refine ⟨y6, y7, y9, y10, y11, y12, ?_, ⟨fun p hp => ?_⟩⟩
  · unfold stB
    rw [step_set (d := .ref st.length) (st' := st ++ [.lst []]) (en' := E13 w b x2 X (some (tD T)) (some (.ref st.length)) x6 x7 x8 x9 x10 x11 x12) rfl (show 5 < 13 by decide) rfl]
    rw [step_of ((for_items (ds := w.map rwR) (st1 := st ++ [.lst []]) rfl).trans e1)]
    exact set_ok (d := .ref st.length) rfl (show 3 < 13 by decide) rfl
  · obtain ⟨r, hr, rfl⟩ := List.mem_map.mp hp
    exact ⟨(h1 r hr).1.fin, (h1 r hr).2.fin⟩
theorem sets_loop (hw : WrOk 8 w) (b0 : 0 < b) (b1 : b < 1) (sb : Sz 8 b) (hQ : QOk w b Q) {q : Nat} (hq : Q ≤ 2 ^ q) : ∀ (Ts : List (List Int)) (tl : Tl) (X : D) (st : Sto) (K D' d : Nat) (x4 x5 x6 x7 x8 x9 x10 x11 x12 : Option D), 8 ≤ K → Tk K D' tl → 0 < D' → D' ≤ 2 ^ d → K + Ts.length + 1 + (d + q * Ts.length) ≤ 3000 → tl.length = w.length → Tv st X tl →
    ∃ (Y : D) (ex : Sto) (en : En), loopI (nameG 4) stB (Ts.map tD) (E13 w b x2 X x4 x5 x6 x7 x8 x9 x10 x11 x12) st = .nx en (st ++ ex) ∧ en[3]? = some (some Y) ∧ Tv (st ++ ex) Y (Ts.foldl (fun tl T => stepV w b T tl) tl) ∧ (Y = X ∨ ∃ k, Y = .ref k ∧ st.length ≤ k) ∧ ∃ K' d' D2, Tk K' D2 (Ts.foldl (fun tl T => stepV w b T tl) tl) ∧ 0 < D2 ∧ D2 ≤ 2 ^ d' ∧ K' + d' ≤ 3000
  | [], tl, X, st, K, D', d, x4, x5, x6, x7, x8, x9, x10, x11, x12, hK, hT, D0, hd, hl, ltl, hX => ⟨X, [], _, by rw [List.append_nil]; rfl, rfl, by rw [List.append_nil]; exact hX, .inl rfl, K, d, D', hT, D0, hd, by simp at hl; omega⟩
  | T :: Ts, tl, X, st, K, D', d, x4, x5, x6, x7, x8, x9, x10, x11, x12, hK, hT, D0, hd, hl, ltl, hX => by
    rw [List.length_cons] at hl
    have hm : q * (Ts.length + 1) = q * Ts.length + q := by rw [Nat.mul_add, Nat.mul_one]
    have hE : D' * Q ≤ 2 ^ (d + q) := by
      rw [Nat.pow_add]
      exact Nat.mul_le_mul hd hq
    obtain ⟨y6, y7, y9, y10, y11, y12, e1, t1⟩ := st_ok (x2 := x2) (T := T) (x5 := x5) (x6 := x6) (x7 := x7) (x8 := x8) (x9 := x9) (x10 := x10) (x11 := x11) (x12 := x12) hw b0 b1 sb hK hT D0 hQ hE (by omega) ltl hX
    obtain ⟨Y, ex, en, e2, i3, tv, yk, big⟩ := sets_loop hw b0 b1 sb hQ hq Ts (stepV w b T tl) (.ref st.length) (st ++ [.lst ((stepV w b T tl).map prD)]) (K + 1) (D' * Q) (d + q) (some (tD T)) (some (.ref st.length)) y6 y7 x8 y9 y10 y11 y12 (by omega) t1 (Nat.mul_pos D0 hQ.q0) hE (by omega) (by unfold stepV; rw [List.length_map]) (.inr ⟨_, rfl, last_c⟩)
    refine ⟨Y, [.lst ((stepV w b T tl).map prD)] ++ ex, en, ?_, i3, by rw [← List.append_assoc]; exact tv, .inr ?_, big⟩
    · rw [List.map_cons, ← List.append_assoc, ← e2]
      exact loop_nx rfl e1
    · rcases yk with rfl | ⟨k, rfl, hk⟩
      · exact ⟨_, rfl, Nat.le_refl _⟩
      · exact ⟨k, rfl, by rw [List.length_append] at hk; omega⟩
end
end Lw

namespace Lw
open PySem PySem.Spec PyProof.Rows L2 Ev
open Ch (S Sub Sol Whole cut Gr St Nums tell)
theorem q_rows {n : Nat} : ∀ (rs : List (Rat × Mvr)), (∀ r ∈ rs, RrOk n 8 r) → ∃ M : Nat, 0 < M ∧ M ≤ 2 ^ (16 * rs.length) ∧ ∀ r ∈ rs, r.1.den ∣ M ∧ ∀ m ∈ r.2, m.2.den ∣ M
  | [], _ => ⟨1, by decide, by decide, fun r h => nomatch h⟩
  | r :: rs, h => by
    obtain ⟨M, m0, ml, hM⟩ := q_rows rs fun q hq => h q (List.mem_cons_of_mem _ hq)
    have R := h r List.mem_cons_self
    obtain ⟨S, s0, s8, sd⟩ := R.s
    have pd := r.1.den_pos
    refine ⟨M * (r.1.den * S), Nat.mul_pos m0 (Nat.mul_pos pd s0), ?_, fun q hq => ?_⟩
    · rw [List.length_cons, show 16 * (rs.length + 1) = 16 * rs.length + (8 + 8) from by omega, Nat.pow_add, Nat.pow_add]
      exact Nat.mul_le_mul ml (Nat.mul_le_mul R.pay.2 s8)
    · rcases List.mem_cons.mp hq with rfl | hq
      · exact ⟨Nat.dvd_trans (Nat.dvd_mul_right _ _) (Nat.dvd_mul_left _ _), fun m hm => Nat.dvd_trans (Nat.dvd_trans (sd m hm) (Nat.dvd_mul_left _ _)) (Nat.dvd_mul_left _ _)⟩
      · obtain ⟨a, c⟩ := hM q hq
        exact ⟨Nat.dvd_trans a (Nat.dvd_mul_right _ _), fun m hm => Nat.dvd_trans (c m hm) (Nat.dvd_mul_right _ _)⟩
theorem q_ex {w : Wr} {b : Rat} (hw : WrOk 8 w) (sb : Sz 4 b) (n4 : w.length ≤ 4) : ∃ Q, QOk w b Q ∧ Q ≤ 2 ^ 68 := by
  obtain ⟨M, m0, ml, hM⟩ := q_rows w hw.rows
  refine ⟨b.den * M, ⟨Nat.mul_pos b.den_pos m0, fun r hr => ⟨Nat.dvd_trans (hM r hr).1 (Nat.dvd_mul_left _ _), fun m hm => Nat.mul_dvd_mul (Nat.dvd_refl _) ((hM r hr).2 m hm)⟩⟩, ?_⟩
  rw [show 68 = 4 + 64 from rfl, Nat.pow_add]
  exact Nat.mul_le_mul sb.2 (Nat.le_trans ml (Nat.pow_le_pow_right (by decide) (by omega)))
theorem d_ex {k : Nat} : ∀ (tl : Tl), (∀ p ∈ tl, p.1.den ≤ 2 ^ k ∧ p.2.den ≤ 2 ^ k) → ∃ D : Nat, 0 < D ∧ D ≤ 2 ^ (2 * k * tl.length) ∧ ∀ p ∈ tl, p.1.den ∣ D ∧ p.2.den ∣ D
  | [], _ => ⟨1, by decide, by simp, fun p h => nomatch h⟩
  | p :: tl, h => by
    obtain ⟨D, d0, dl, hD⟩ := d_ex tl fun q hq => h q (List.mem_cons_of_mem _ hq)
    obtain ⟨h1, h2⟩ := h p List.mem_cons_self
    refine ⟨D * (p.1.den * p.2.den), Nat.mul_pos d0 (Nat.mul_pos p.1.den_pos p.2.den_pos), ?_, fun q hq => ?_⟩
    · rw [List.length_cons, show 2 * k * (tl.length + 1) = 2 * k * tl.length + (k + k) from by rw [Nat.mul_add]; omega, Nat.pow_add, Nat.pow_add]
      exact Nat.mul_le_mul dl (Nat.mul_le_mul h1 h2)
    · rcases List.mem_cons.mp hq with rfl | hq
      · exact ⟨Nat.dvd_trans (Nat.dvd_mul_right _ _) (Nat.dvd_mul_left _ _), Nat.dvd_trans (Nat.dvd_mul_left _ _) (Nat.dvd_mul_left _ _)⟩
      · exact ⟨Nat.dvd_trans (hD q hq).1 (Nat.dvd_mul_right _ _), Nat.dvd_trans (hD q hq).2 (Nat.dvd_mul_right _ _)⟩
theorem refBs_pr (n : Nat) : ∀ tl : Tl, refBs n (tl.map prD) = true
  | [] => rfl
  | p :: tl => by
    rw [List.map_cons]
    unfold refBs
    rw [refBs_pr n tl]
    rfl
theorem fnZ_k {n : Nat} {g : SF} {ds : List D} {st : Sto} {es : List D} {ex : Sto} {en0 : En} {k : Nat} (he : ds.map some ++ List.replicate (n - ds.length) none = en0) (h : g en0 st = .rt (.ref k) (st ++ ex)) (hk : st.length ≤ k) (hc : (st ++ ex)[k]? = some (.lst es)) (hd : refBs st.length es = true) : fnZ n g ds st = .ok (.lst es) st := by
  unfold fnZ
  rw [he, h]
  simp only [begB_app, if_true]
  have : frzD (st ++ ex) st.length 12 (.ref k) = some (.lst es) := by
    unfold frzD
    rw [if_neg (by unfold refB; simp; omega)]
    simp only [hc]
    show (mapO (frzD (st ++ ex) st.length 11) es).map D.lst = _
    rw [mapO_frz hd]
    rfl
  rw [this]
theorem atD_end {ds : List D} {d : D} : atD (ds ++ [d]) (-1) = some d := by
  unfold atD
  have : ixN (ds ++ [d]).length (-1) = some ds.length := by
    unfold ixN
    rw [List.length_append, List.length_singleton, if_neg (by decide)]
    have : (-1 : Int) + ((ds.length + 1 : Nat) : Int) = (ds.length : Nat) := by omega
    rw [if_pos (by omega), this, Int.toNat_natCast]
  rw [this]
  show (ds ++ [d])[ds.length]? = _
  rw [List.getElem?_append_right (Nat.le_refl _), Nat.sub_self]
  rfl
theorem cut_end {ds : List D} {d : D} : Ev.cutD (ds ++ [d]) none (some (-1)) = ds := by
  unfold Ev.cutD
  rw [HT.sIx_none]
  have : HT.sIx (ds ++ [d]).length (ds ++ [d]).length (some (-1)) = ds.length := by
    show (if (-1 : Int) < 0 then ((-1 : Int) + (((ds ++ [d]).length : Nat) : Int)).toNat else min (-1 : Int).toNat (ds ++ [d]).length) = _
    rw [if_pos (by decide), List.length_append, List.length_singleton]
    omega
  rw [this, List.drop_zero, Nat.sub_zero, List.take_append_of_le_length (Nat.le_refl _), List.take_length]
def stepsB : SF := b_law_by_steps
theorem by_steps_is {w : Wr} {b : Rat} (hw : WrOk 8 w) (b0 : 0 < b) (b1 : b < 1) (sb : Sz 4 b) (n4 : w.length ≤ 4) {Ts : List (List Int)} {T0 : List Int} (hT : Asc (w.length : Nat) (-1) T0) (hl : Ts.length ≤ 5) (st : Sto) :
    ∃ t0 tl : Tl, f_law_by_steps [wrD w, fr b, .lst ((Ts ++ [T0]).map tD)] st = .ok (.lst (tl.map prD)) st ∧ tl = Ts.reverse.foldl (fun tl T => stepV w b T tl) t0 ∧ t0.length = w.length ∧
    Sol w.length (cut (mxw w) (inA T0)) b (pw w) (fun j => (t0.getD j (0, 0)).1) ∧ Sol w.length (cut (mxw w) (inA T0)) b (fun _ => 1) (fun j => (t0.getD j (0, 0)).2) ∧ ∀ p ∈ tl, Sz 3000 p.1 ∧ Sz 3000 p.2 := by
  obtain ⟨xs, ys, -, lx, ly, sx, sy, bx, by_⟩ := all_is (T := T0) (TD := .tup (T0.map .int)) (st := st) hw b0 b1 sb (by decide) (by decide) fun i => inQ_t
  obtain ⟨f, hf⟩ : ∃ f : Nat → Rat × Rat, f = fun i => (xs.getD i 0, ys.getD i 0) := ⟨_, rfl⟩
  have H : Hy 8 4 w b T0 := ⟨hw, b0, b1, sb, by decide, by decide, hT⟩
  have hsub := (sub_w hw).cut (inA T0)
  have sx' := sx
  have sy' := sy
  rw [flw_cut] at sx sy
  have lt0 : ((List.range' 0 w.length).map f).length = w.length := by rw [List.length_map, List.length_range']
  have get : ∀ j, j < w.length → ((List.range' 0 w.length).map f).getD j (0, 0) = f j := fun j hj => by
    rw [List.getD_eq_getElem?_getD, List.getElem?_map, List.getElem?_range' hj]
    simp
  have dens : ∀ p ∈ (List.range' 0 w.length).map f, (p.1.den ≤ 2 ^ 84 ∧ p.2.den ≤ 2 ^ 84) ∧ (p.1 ≤ p2 200 ∧ -p.1 ≤ p2 200) ∧ p.2 ≤ p2 200 ∧ -p.2 ≤ p2 200 := fun p hp => by
    obtain ⟨i, hi, rfl⟩ := List.mem_map.mp hp
    rw [List.mem_range'] at hi
    obtain ⟨j, hj, rfl⟩ := hi
    have hj' : 0 + 1 * j < w.length := by omega
    have m1 : xs.getD (0 + 1 * j) 0 ∈ xs := by
      rw [List.getD_eq_getElem?_getD, List.getElem?_eq_getElem (by omega)]
      exact List.getElem_mem _
    have m2 : ys.getD (0 + 1 * j) 0 ∈ ys := by
      rw [List.getD_eq_getElem?_getD, List.getElem?_eq_getElem (by omega)]
      exact List.getElem_mem _
    have d1 := (bx _ m1).2
    have d2 := (by_ _ m2).2
    have d1' : (xs.getD (0 + 1 * j) 0).den ≤ 2 ^ 84 := Nat.le_trans d1 (Nat.pow_le_pow_right (by decide) (by omega))
    have d2' : (ys.getD (0 + 1 * j) 0).den ≤ 2 ^ 84 := Nat.le_trans d2 (Nat.pow_le_pow_right (by decide) (by omega))
    have z1 := sol_sz (P := 8) (p := pw w) hsub b0 b1 sx (fun i hi => (by
      unfold pw
      rw [List.getD_eq_getElem?_getD, List.getElem?_map, List.getElem?_eq_getElem hi]
      exact (hw.rows _ (List.getElem_mem hi)).pay)) sb hj' d1'
    have z2 := sol_sz (P := 0) hsub b0 b1 sy (fun i hi => sz1) sb hj' d2'
    have a1 := abs_le (z1.up (show 8 + 4 + 84 ≤ 200 by decide))
    have a2 := abs_le (z2.up (show 0 + 4 + 84 ≤ 200 by decide))
    rw [hf]
    exact ⟨⟨d1', d2'⟩, a1, a2⟩
  obtain ⟨D0, dp, dl, hD⟩ := d_ex (k := 84) _ fun p hp => (dens p hp).1
  obtain ⟨Q, hQ, qq⟩ := q_ex hw sb n4
  have tk : Tk 200 D0 ((List.range' 0 w.length).map f) := ⟨fun p hp => ⟨⟨(hD p hp).1, (dens p hp).2.1⟩, (hD p hp).2, (dens p hp).2.2⟩⟩
  obtain ⟨Y, ex, en, e1, i3, tv, yk, K', d', D2, tk2, D20, D2l, big⟩ := sets_loop (x2 := some (.lst ((Ts ++ [T0]).map tD))) hw b0 b1 (sb.up (by decide)) hQ qq Ts.reverse ((List.range' 0 w.length).map f) (.lst (((List.range' 0 w.length).map f).map prD)) st 200 D0 672 none none none none none none none none none (by decide) tk dp (Nat.le_trans dl (Nat.pow_le_pow_right (by decide) (by rw [lt0]; omega))) (by rw [List.length_reverse]; omega) lt0 (.inl rfl)
  refine ⟨(List.range' 0 w.length).map f, _, ?_, rfl, lt0, fun j hj => ?_, fun j hj => ?_, fun p hp => ?_⟩
  · have c1 : lcF [8] (nameG 8) yesT (callF 4 f_spent (consA (varF 0) (consA (varF 1) (consA (varF 8) (consA (op2F ixD (varF 2) (op1F negD (litF (.int 1)))) nilA))))) (rng1I (consA (opLF lenL (consA (varF 0) nilA)) nilA)) [some (wrD w), some (fr b), some (.lst ((Ts ++ [T0]).map tD)), none, none, none, none, none, none, none, none, none, none] st = .ok (.lst (((List.range' 0 w.length).map f).map prD)) st := by
      have hi : rng1I (consA (opLF lenL (consA (varF 0) nilA)) nilA) [some (wrD w), some (fr b), some (.lst ((Ts ++ [T0]).map tD)), none, none, none, none, none, none, none, none, none, none] st = .ok (.items ((List.range' 0 w.length).map fun i : Nat => D.int (i : Nat))) st := by
        have := rng_is (n := w.length) (f := opLF lenL (consA (varF 0) nilA)) (en := [some (wrD w), some (fr b), some (.lst ((Ts ++ [T0]).map tD)), none, none, none, none, none, none, none, none, none, none]) (st := st) (lenR rfl) (by omega)
        rw [rangeD_r] at this
        exact this
      refine lc_all hi (by rw [List.length_map, List.length_range']; omega) ?_
      rw [List.map_map]
      refine lc_map (f := fun i : Nat => D.int (i : Nat)) (φ := prD ∘ f) fun i hi => ⟨[some (wrD w), some (fr b), some (.lst ((Ts ++ [T0]).map tD)), none, none, none, none, none, some (.int (i : Nat)), none, none, none, none], rfl, ?_⟩
      rw [List.mem_range'] at hi
      obtain ⟨j, hj, rfl⟩ := hi
      have hj' : 0 + 1 * j < w.length := by omega
      obtain ⟨X', Y', es, s1, s2, -⟩ := spent_is H hj' st
      have u1 : X' (0 + 1 * j) = xs.getD (0 + 1 * j) 0 := Sol.uniq H.ch.sub b0 b1 s1 sx' _ hj'
      have u2 : Y' (0 + 1 * j) = ys.getD (0 + 1 * j) 0 := Sol.uniq H.ch.sub b0 b1 s2 sy' _ hj'
      have ev : (prD ∘ f) (0 + 1 * j) = .tup [fr (X' (0 + 1 * j)), fr (Y' (0 + 1 * j))] := by
        rw [u1, u2, hf]
        rfl
      rw [ev]
      refine call4 (x := wrD w) (y := fr b) (z := .int ((0 + 1 * j : Nat))) (u := .tup (T0.map .int)) (st1 := st) (st2 := st) (st3 := st) (st4 := st) rfl rfl rfl (op2F_ok (a := .lst ((Ts ++ [T0]).map tD)) (b := .int (-1)) (st1 := st) (st2 := st) rfl rfl (ixD_l ?_)) es
      rw [List.map_append]
      exact atD_end
    have run : b_law_by_steps [some (wrD w), some (fr b), some (.lst ((Ts ++ [T0]).map tD)), none, none, none, none, none, none, none, none, none, none] st = .rt Y (st ++ ex) := by
      unfold b_law_by_steps
      rw [step_set (st' := st) (en' := E13 w b (some (.lst ((Ts ++ [T0]).map tD))) (.lst (((List.range' 0 w.length).map f).map prD)) none none none none none none none none none) c1 (show 3 < 13 by decide) rfl]
      have hi : seqI (revLF (slF (varF 2) noP (someP (op1F negD (litF (.int 1)))))) (E13 w b (some (.lst ((Ts ++ [T0]).map tD))) (.lst (((List.range' 0 w.length).map f).map prD)) none none none none none none none none none) st = .ok (.items (Ts.reverse.map tD)) st := by
        have : (revLF (slF (varF 2) noP (someP (op1F negD (litF (.int 1)))))) (E13 w b (some (.lst ((Ts ++ [T0]).map tD))) (.lst (((List.range' 0 w.length).map f).map prD)) none none none none none none none none none) st = .ok (.lst (Ev.cutD ((Ts ++ [T0]).map tD) none (some (-1))).reverse) st := rfl
        unfold seqI
        rw [this, List.map_append]
        show R.ok (ItD.items (Ev.cutD (Ts.map tD ++ [tD T0]) none (some (-1))).reverse) st = _
        rw [cut_end, List.map_reverse]
      show seqS (forS (seqI (revLF (slF (varF 2) noP (someP (op1F negD (litF (.int 1))))))) (nameG 4) stB) _ _ _ = _
      rw [step_of ((for_items hi).trans e1)]
      exact ret_ok (varF_at i3)
    rcases tv with rfl | ⟨k, rfl, hc⟩
    · exact fnZ_d (ex := ex) rfl run (by unfold refB; exact refBs_pr _ _)
    · rcases yk with q | ⟨k', q, hk⟩
      · cases q
      · cases q
        exact fnZ_k rfl run hk hc (refBs_pr _ _)
  · have e : ∀ k, k < w.length → (((List.range' 0 w.length).map f).getD k (0, 0)).1 = xs.getD k 0 := fun k hk => by rw [get k hk, hf]
    show (((List.range' 0 w.length).map f).getD j (0, 0)).1 = pw w j + b * S w.length fun k => cut (mxw w) (inA T0) j k * (((List.range' 0 w.length).map f).getD k (0, 0)).1
    rw [e j hj, Ch.S_congr (g := fun k => cut (mxw w) (inA T0) j k * xs.getD k 0) fun k hk => by rw [e k hk]]
    exact sx j hj
  · have e : ∀ k, k < w.length → (((List.range' 0 w.length).map f).getD k (0, 0)).2 = ys.getD k 0 := fun k hk => by rw [get k hk, hf]
    show (((List.range' 0 w.length).map f).getD j (0, 0)).2 = 1 + b * S w.length fun k => cut (mxw w) (inA T0) j k * (((List.range' 0 w.length).map f).getD k (0, 0)).2
    rw [e j hj, Ch.S_congr (g := fun k => cut (mxw w) (inA T0) j k * ys.getD k 0) fun k hk => by rw [e k hk]]
    exact sy j hj
  · obtain ⟨⟨a1, a2, a3⟩, c1, c2, c3⟩ := tk2.all p hp
    exact ⟨(num_le a2 a3 (Nat.le_trans (Nat.le_of_dvd D20 a1) D2l)).up big, (num_le c2 c3 (Nat.le_trans (Nat.le_of_dvd D20 c1) D2l)).up big⟩
end Lw

namespace Lw
open PySem PySem.Spec PyProof.Rows L2 Ev
open Ch (S Sub Sol Whole cut Gr St Nums tell)
theorem stepV_get {w : Wr} {b : Rat} {T : List Int} {tl : Tl} {P : Nat} (hw : WrOk P w) {j : Nat} (hj : j < w.length) : ((stepV w b T tl).getD j (0, 0)).1 = pw w j + b * S w.length (fun k => cut (mxw w) (inA T) j k * (tl.getD k (0, 0)).1) ∧ ((stepV w b T tl).getD j (0, 0)).2 = 1 + b * S w.length (fun k => cut (mxw w) (inA T) j k * (tl.getD k (0, 0)).2) := by
  have e : (stepV w b T tl).getD j (0, 0) = accP b T tl (w[j]).2 ((w[j]).1, 1) := by
    unfold stepV
    rw [List.getD_eq_getElem?_getD, List.getElem?_map, List.getElem?_eq_getElem hj]
    rfl
  have ep : pw w j = (w[j]).1 := by
    unfold pw
    rw [List.getD_eq_getElem?_getD, List.getElem?_map, List.getElem?_eq_getElem hj]
    rfl
  have em : ∀ k, mm (fl T (w[j]).2) k = cut (mxw w) (inA T) j k := fun k => by
    rw [← flw_cut]
    show _ = mm ((flw T w).getD j []) k
    have : (flw T w).getD j [] = fl T (w[j]).2 := by
      unfold flw
      rw [List.getD_eq_getElem?_getD, List.getElem?_map, List.getElem?_eq_getElem hj]
      rfl
    rw [this]
  have a := accP_1 (b := b) (T := T) (tl := tl) (n := w.length) (w[j]).2 ((w[j]).1, 1) fun m hm => ((hw.rows _ (List.getElem_mem hj)).mv m hm).1
  have c1 : S w.length (fun k => mm (fl T (w[j]).2) k * (tl.getD k (0, 0)).1) = S w.length (fun k => cut (mxw w) (inA T) j k * (tl.getD k (0, 0)).1) := Ch.S_congr fun k _ => by rw [em]
  have c2 : S w.length (fun k => mm (fl T (w[j]).2) k * (tl.getD k (0, 0)).2) = S w.length (fun k => cut (mxw w) (inA T) j k * (tl.getD k (0, 0)).2) := Ch.S_congr fun k _ => by rw [em]
  rw [e, ep, a.1, a.2, c1, c2]
  exact ⟨rfl, rfl⟩
structure Vok (w : Wr) (b g : Rat) (v : Nat → Rat) : Prop where
  v0 : ∀ j, j < w.length → 0 ≤ v j
  vp : ∀ j, j < w.length → pw w j - g + b * S w.length (fun k => mxw w j k * v k) ≤ v j
section
variable {w : Wr} {b g : Rat} {v : Nat → Rat} {P : Nat}
theorem cut_le (hw : WrOk P w) (hv : Vok w b g v) (In : Nat → Bool) (j : Nat) : S w.length (fun k => cut (mxw w) In j k * v k) ≤ S w.length (fun k => mxw w j k * v k) := Ch.S_le fun k hk => by
  have a := (sub_w hw).nn j k
  have c := Rat.mul_nonneg a (hv.v0 k hk)
  unfold cut
  split
  · exact Rat.le_refl
  · grind
theorem le_base (hw : WrOk P w) (b0 : 0 < b) (b1 : b < 1) (hv : Vok w b g v) {In : Nat → Bool} {X Y : Nat → Rat} (hX : Sol w.length (cut (mxw w) In) b (pw w) X) (hY : Sol w.length (cut (mxw w) In) b (fun _ => 1) Y) : ∀ j, j < w.length → X j - g * Y j ≤ v j := by
  have u := Ch.Sol.beyond hX hY g
  intro j hj
  have := Ch.max0 ((sub_w hw).cut In) b0 b1 (y := fun i => (X i - g * Y i) - v i) (fun i hi => by
    show (X i - g * Y i) - v i ≤ b * S w.length (fun k => cut (mxw w) In i k * ((X k - g * Y k) - v k))
    rw [Ch.S_congr (g := fun k => cut (mxw w) In i k * (X k - g * Y k) - cut (mxw w) In i k * v k) fun k _ => by grind, Ch.S_sub]
    have q : X i - g * Y i = pw w i - g + b * S w.length (fun k => cut (mxw w) In i k * (X k - g * Y k)) := u i hi
    have c := Ch.mul_le (Rat.le_of_lt b0) (cut_le hw hv In i)
    have d := hv.vp i hi
    grind) j hj
  have : (X j - g * Y j) - v j ≤ 0 := this
  grind
theorem le_step (hw : WrOk P w) (b0 : 0 < b) (hv : Vok w b g v) {T : List Int} {tl : Tl} (h : ∀ j, j < w.length → (tl.getD j (0, 0)).1 - g * (tl.getD j (0, 0)).2 ≤ v j) : ∀ j, j < w.length → ((stepV w b T tl).getD j (0, 0)).1 - g * ((stepV w b T tl).getD j (0, 0)).2 ≤ v j := by
  intro j hj
  obtain ⟨e1, e2⟩ := stepV_get (b := b) (T := T) (tl := tl) hw hj
  rw [e1, e2]
  have s : S w.length (fun k => cut (mxw w) (inA T) j k * ((tl.getD k (0, 0)).1 - g * (tl.getD k (0, 0)).2)) ≤ S w.length (fun k => cut (mxw w) (inA T) j k * v k) := Ch.S_le fun k hk => Ch.mul_le (((sub_w hw).cut (inA T)).nn j k) (h k hk)
  rw [Ch.S_congr (g := fun k => cut (mxw w) (inA T) j k * (tl.getD k (0, 0)).1 - g * (cut (mxw w) (inA T) j k * (tl.getD k (0, 0)).2)) fun k _ => by grind, Ch.S_sub, Ch.S_mul] at s
  have c := Ch.mul_le (Rat.le_of_lt b0) (Rat.le_trans s (cut_le hw hv (inA T) j))
  have d := hv.vp j hj
  grind
theorem le_all (hw : WrOk P w) (b0 : 0 < b) (hv : Vok w b g v) : ∀ (Ts : List (List Int)) (tl : Tl), (∀ j, j < w.length → (tl.getD j (0, 0)).1 - g * (tl.getD j (0, 0)).2 ≤ v j) → ∀ j, j < w.length → ((Ts.foldl (fun tl T => stepV w b T tl) tl).getD j (0, 0)).1 - g * ((Ts.foldl (fun tl T => stepV w b T tl) tl).getD j (0, 0)).2 ≤ v j
  | [], tl, h => h
  | T :: Ts, tl, h => le_all hw b0 hv Ts (stepV w b T tl) (le_step hw b0 hv h)
theorem same_all (hw : WrOk P w) {T : List Int} {X Y : Nat → Rat} (hX : Sol w.length (cut (mxw w) (inA T)) b (pw w) X) (hY : Sol w.length (cut (mxw w) (inA T)) b (fun _ => 1) Y) : ∀ (Ts : List (List Int)) (tl : Tl), (∀ T' ∈ Ts, T' = T) → (∀ j, j < w.length → (tl.getD j (0, 0)).1 = X j ∧ (tl.getD j (0, 0)).2 = Y j) → ∀ j, j < w.length → ((Ts.foldl (fun tl T => stepV w b T tl) tl).getD j (0, 0)).1 = X j ∧ ((Ts.foldl (fun tl T => stepV w b T tl) tl).getD j (0, 0)).2 = Y j
  | [], tl, _, h => h
  | T' :: Ts, tl, ht, h => by
    have e := ht T' List.mem_cons_self
    subst e
    refine same_all hw hX hY Ts (stepV w b T' tl) (fun q hq => ht q (List.mem_cons_of_mem _ hq)) fun j hj => ?_
    obtain ⟨e1, e2⟩ := stepV_get (b := b) (T := T') (tl := tl) hw hj
    have c1 : S w.length (fun k => cut (mxw w) (inA T') j k * (tl.getD k (0, 0)).1) = S w.length (fun k => cut (mxw w) (inA T') j k * X k) := Ch.S_congr fun k hk => by rw [(h k hk).1]
    have c2 : S w.length (fun k => cut (mxw w) (inA T') j k * (tl.getD k (0, 0)).2) = S w.length (fun k => cut (mxw w) (inA T') j k * Y k) := Ch.S_congr fun k hk => by rw [(h k hk).2]
    rw [e1, e2, c1, c2]
    exact ⟨(hX j hj).symm, (hY j hj).symm⟩
/-- above s -/
def ovr (gs : List Rat) (n s : Nat) : List Int := ((List.range' 0 n).map fun i : Nat => (i : Int)).filter fun i => decide (gs.getD s 0 < gs.getD i.toNat 0)
theorem ovr_in {gs : List Rat} {n s j : Nat} (hj : j < n) : inA (ovr gs n s) j = decide (gs.getD s 0 < gs.getD j 0) := by
  show decide (((j : Nat) : Int) ∈ ovr gs n s) = _
  refine decide_eq_decide.mpr ?_
  unfold ovr
  rw [List.mem_filter, decide_eq_true_eq, Int.toNat_natCast]
  refine ⟨fun h => h.2, fun h => ⟨List.mem_map.mpr ⟨j, ?_, rfl⟩, h⟩⟩
  rw [List.mem_range']
  exact ⟨j, hj, by omega⟩
theorem Asc.up {n lo lo' : Int} : ∀ {T : List Int}, Asc n lo T → lo' ≤ lo → Asc n lo' T
  | [], _, _ => trivial
  | x :: T, ⟨h1, h2, h3⟩, h => ⟨by omega, h2, h3⟩
theorem asc_filt {n : Nat} {p : Int → Bool} : ∀ (m k : Nat), k + m = n → Asc (n : Nat) ((k : Nat) - 1) (((List.range' k m).map fun i : Nat => (i : Int)).filter p)
  | 0, _, _ => trivial
  | m + 1, k, h => by
    have ih := asc_filt (n := n) (p := p) m (k + 1) (by omega)
    rw [List.range'_succ, List.map_cons, List.filter_cons]
    split
    · exact ⟨show ((k : Nat) : Int) - 1 < (k : Nat) by omega, show ((k : Nat) : Int) < (n : Nat) by omega, ih.up (show ((k : Nat) : Int) ≤ ((k + 1 : Nat) : Int) - 1 by omega)⟩
    · exact ih.up (show ((k : Nat) : Int) - 1 ≤ ((k + 1 : Nat) : Int) - 1 by omega)
theorem v_ex {B : Nat} (hw : WrOk P w) (b0 : 0 < b) (b1 : b < 1) (sb : Sz B b) (B8 : B ≤ 8) (P30 : P ≤ 30) {gs : List Rat} (hn : Nums w.length (mxw w) b (pw w) (fun j => gs.getD j 0)) {s : Nat} (hs : s < w.length) : ∃ v, Vok w b (gs.getD s 0) v ∧ v s = 0 := by
  obtain ⟨xs, ys, -, -, -, sx, sy, -, -⟩ := all_is (T := ovr gs w.length s) (TD := .lst ((ovr gs w.length s).map .int)) (st := []) hw b0 b1 sb B8 P30 fun i => inQ_l
  rw [flw_cut] at sx sy
  have sx := sx.cut_congr (In' := fun j => decide (gs.getD s 0 < gs.getD j 0)) fun j hj => ovr_in hj
  have sy := sy.cut_congr (In' := fun j => decide (gs.getD s 0 < gs.getD j 0)) fun j hj => ovr_in hj
  obtain ⟨k1, k2, k3⟩ := hn.at' s hs _ _ sx sy
  have u := Ch.Sol.beyond sx sy (gs.getD s 0)
  obtain ⟨v, hv⟩ : ∃ v : Nat → Rat, ∀ j, v j = if gs.getD s 0 < gs.getD j 0 then xs.getD j 0 - gs.getD s 0 * ys.getD j 0 else 0 := ⟨_, fun _ => rfl⟩
  refine ⟨v, ⟨fun j hj => ?_, fun j hj => ?_⟩, by rw [hv, if_neg Rat.lt_irrefl]⟩
  · rw [hv]
    split
    · rename_i q
      have : gs.getD s 0 * ys.getD j 0 ≤ xs.getD j 0 := k2 j hj q
      grind
    · exact Rat.le_refl
  · have e : S w.length (fun k => mxw w j k * v k) = S w.length (fun k => cut (mxw w) (fun j => decide (gs.getD s 0 < gs.getD j 0)) j k * (xs.getD k 0 - gs.getD s 0 * ys.getD k 0)) := Ch.S_congr fun k hk => by
      rw [hv]
      unfold cut
      by_cases q : gs.getD s 0 < gs.getD k 0
      · rw [if_pos q, if_pos (decide_eq_true q)]
      · rw [if_neg q, if_neg (by show ¬ decide (gs.getD s 0 < gs.getD k 0) = true; rw [decide_eq_false q]; exact Bool.false_ne_true)]
        grind
    have q : xs.getD j 0 - gs.getD s 0 * ys.getD j 0 = pw w j - gs.getD s 0 + b * S w.length (fun k => cut (mxw w) (fun j => decide (gs.getD s 0 < gs.getD j 0)) j k * (xs.getD k 0 - gs.getD s 0 * ys.getD k 0)) := u j hj
    rw [e, ← q, hv]
    split
    · exact Rat.le_refl
    · rename_i l
      have : xs.getD j 0 ≤ gs.getD s 0 * ys.getD j 0 := k3 j hj l
      grind
end
/-! subsets -/
theorem asc_app {n : Int} {k : Int} : ∀ {T : List Int} {lo : Int}, Asc n lo T → (∀ x ∈ T, x < k) → lo < k → k < n → Asc n lo (T ++ [k])
  | [], lo, _, _, h1, h2 => ⟨h1, h2, trivial⟩
  | x :: T, lo, ⟨a, c, d⟩, h, h1, h2 => ⟨a, c, asc_app d (fun y hy => h y (List.mem_cons_of_mem _ hy)) (h x List.mem_cons_self) h2⟩
structure SubL (n k : Nat) (L : List (List Int)) : Prop where
  ne : L ≠ []
  len : L.length ≤ 2 ^ k
  all : ∀ T ∈ L, Asc (n : Nat) (-1) T ∧ (∀ x ∈ T, x < (k : Nat)) ∧ T.length ≤ k
def sbB : SF := (setS 1 (op2F addD (varF 1) (lcF [3] (nameG 3) yesT (op2F addD (varF 3) (opLF tupL (consA (varF 2) nilA))) (seqI (varF 1)))))
theorem sb_loop {n : Nat} {d0 : Option D} {st : Sto} (hn : n ≤ 6) : ∀ (m k : Nat) (L : List (List Int)) (x2 x3 : Option D), k + m = n → SubL n k L → ∃ (L' : List (List Int)) (y2 y3 : Option D), loopI (nameG 2) sbB ((List.range' k m).map fun i : Nat => D.int (i : Nat)) [d0, some (.lst (L.map tD)), x2, x3] st = .nx [d0, some (.lst (L'.map tD)), y2, y3] st ∧ SubL n n L'
  | 0, k, L, x2, x3, h, hL => ⟨L, x2, x3, rfl, by
    have : k = n := by omega
    subst this
    exact hL⟩
  | m + 1, k, L, x2, x3, h, hL => by
    have hk : k < n := by omega
    have l64 : L.length ≤ 64 := Nat.le_trans hL.len (Nat.le_trans (Nat.pow_le_pow_right (by decide) (show k ≤ 6 by omega)) (by decide))
    have hL2 : SubL n (k + 1) (L ++ L.map fun T => T ++ [((k : Nat) : Int)]) := by
      refine ⟨by simp [hL.ne], by
        have := hL.len
        rw [List.length_append, List.length_map, Nat.pow_succ]
        omega, fun T hT => ?_⟩
      rcases List.mem_append.mp hT with hT | hT
      · obtain ⟨a, c, d⟩ := hL.all T hT
        exact ⟨a, fun x hx => by have := c x hx; omega, by omega⟩
      · obtain ⟨U, hU, rfl⟩ := List.mem_map.mp hT
        obtain ⟨a, c, d⟩ := hL.all U hU
        refine ⟨asc_app a c (by omega) (by omega), fun x hx => ?_, by rw [List.length_append]; simp; omega⟩
        rcases List.mem_append.mp hx with hx | hx
        · have := c x hx
          omega
        · rw [List.mem_singleton.mp hx]
          omega
    obtain ⟨L', y2, y3, e, h'⟩ := sb_loop (d0 := d0) (st := st) hn m (k + 1) _ (some (.int (k : Nat))) x3 (by omega) hL2
    refine ⟨L', y2, y3, ?_, h'⟩
    rw [List.range'_succ, List.map_cons, ← e]
    refine loop_nx (en1 := [d0, some (.lst (L.map tD)), some (.int (k : Nat)), x3]) rfl ?_
    unfold sbB
    have c : lcF [3] (nameG 3) yesT (op2F addD (varF 3) (opLF tupL (consA (varF 2) nilA))) (seqI (varF 1)) [d0, some (.lst (L.map tD)), some (.int (k : Nat)), x3] st = .ok (.lst ((L.map fun T => T ++ [((k : Nat) : Int)]).map tD)) st := by
      refine lc_all (ds := L.map tD) (st1 := st) rfl (by rw [List.length_map]; omega) ?_
      rw [List.map_map]
      refine lc_map (f := tD) (φ := tD ∘ fun T => T ++ [((k : Nat) : Int)]) fun T hT => ⟨[d0, some (.lst (L.map tD)), some (.int (k : Nat)), some (tD T)], rfl, ?_⟩
      have tl := (hL.all T hT).2.2
      refine op2F_ok (a := tD T) (b := .tup [.int (k : Nat)]) (st1 := st) (st2 := st) rfl (opLF_ok (ds := [.int (k : Nat)]) (st1 := st) rfl (tupL_e (ds := [.int (k : Nat)]) (show 1 ≤ 1000 by decide))) ?_
      have : (T.map D.int).length + ([D.int (k : Nat)] : List D).length ≤ sizeLine := Nat.le_trans (show _ ≤ 1000 by rw [List.length_map]; show T.length + 1 ≤ 1000; omega) (by decide)
      show (if (T.map D.int).length + ([D.int (k : Nat)] : List D).length ≤ sizeLine then some (D.tup (T.map D.int ++ [D.int (k : Nat)]), st) else none) = _
      rw [if_pos this]
      show _ = some (D.tup ((T ++ [((k : Nat) : Int)]).map D.int), st)
      rw [List.map_append]
      rfl
    refine set_ok (d := .lst ((L ++ L.map fun T => T ++ [((k : Nat) : Int)]).map tD)) (op2F_ok (a := .lst (L.map tD)) (st1 := st) (st2 := st) rfl c ?_) (show 1 < 4 by decide) rfl
    rw [List.map_append]
    exact (if_pos (Nat.le_trans (show (L.map tD).length + ((L.map fun T => T ++ [((k : Nat) : Int)]).map tD).length ≤ 1000 by rw [List.length_map, List.length_map, List.length_map]; omega) (by decide)) : (if (L.map tD).length + ((L.map fun T => T ++ [((k : Nat) : Int)]).map tD).length ≤ sizeLine then some (D.lst (L.map tD ++ (L.map fun T => T ++ [((k : Nat) : Int)]).map tD), st) else none) = _)
theorem subsets_is {n : Nat} {st : Sto} (hn : n ≤ 6) : ∃ L, f_law_subsets [.int (n : Nat)] st = .ok (.lst (L.map tD)) st ∧ SubL n n L := by
  obtain ⟨L, y2, y3, e, h⟩ := sb_loop (d0 := some (.int (n : Nat))) (st := st) hn n 0 [[]] none none (by omega) ⟨by simp, by simp, fun T hT => by
    rw [List.mem_singleton.mp hT]
    exact ⟨trivial, fun x hx => (nomatch hx), Nat.le_refl _⟩⟩
  refine ⟨L, fn_rt (en0 := [some (.int (n : Nat)), none, none, none]) rfl ?_, h⟩
  unfold b_law_subsets
  rw [step_set (d := .lst [tD []]) (st' := st) (en' := [some (.int (n : Nat)), some (.lst [tD []]), none, none]) rfl (show 1 < 4 by decide) rfl]
  have hi : rng1I (consA (varF 0) nilA) [some (.int (n : Nat)), some (.lst [tD []]), none, none] st = .ok (.items ((List.range' 0 n).map fun i : Nat => D.int (i : Nat))) st := by
    have := rng_is (n := n) (f := varF 0) (en := [some (.int (n : Nat)), some (.lst [tD []]), none, none]) (st := st) rfl (by omega)
    rw [rangeD_r] at this
    exact this
  show seqS (forS (rng1I (consA (varF 0) nilA)) (nameG 2) sbB) _ _ _ = _
  rw [step_of ((for_items hi).trans e)]
  exact ret_ok rfl
end Lw

namespace Lw
open PySem PySem.Spec PyProof.Rows L2 Ev
open Ch (S Sub Sol Whole cut Gr St Nums tell)
abbrev P16 (F x2 : Option D) (n : Nat) (b : Rat) (w : Wr) (gs : List Rat) (L : List (List Int)) (x8 x9 x10 x11 x12 x13 x14 x15 : Option D) : En :=
  [F, some (.ref 1), x2, some (.int (n : Nat)), some (fr b), some (wrD w), some (.tup (gs.map fr)), some (.lst (L.map tD)), x8, x9, x10, x11, x12, x13, x14, x15]
def ckB : SF := (ifS (truF (callF 2 f_law_is_less (consA (callF 2 f_law_mul (consA (op2F ixD (varF 6) (varF 9)) (consA (varF 12) nilA))) (consA (varF 11) nilA))))
 (retS (litF (.bl false)))
 passS)
def stepB : SF := (seqS (setS 10 (lcF [14] (nameG 14) yesT (callF 2 f_law_one (consA (varF 1) (consA (varF 7) nilA))) (rng1I (consA (op2F addD (litF (.int 1)) (callF 2 f_law_take (consA (varF 1) (consA (litF (.int 6)) nilA)))) nilA))))
 (forS (enumI (consA (callF 3 f_law_by_steps (consA (varF 5) (consA (varF 4) (consA (varF 10) nilA)))) nilA)) (tupG 2 (consG (nameG 9) (consG (tupG 2 (consG (nameG 11) (consG (nameG 12) nilG))) nilG)))
 ckB))
def ovB : SF := (seqS (setS 13 (opLF tupleL (consA (lcF [15] (nameG 15) (truF (callF 2 f_law_is_less (consA (op2F ixD (varF 6) (varF 9)) (consA (op2F ixD (varF 6) (varF 15)) nilA)))) (varF 15) (rng1I (consA (varF 3) nilA))) nilA)))
 (seqS (asgS (op2F ixD (callF 3 f_law_by_steps (consA (varF 5) (consA (varF 4) (consA (op2F mulD (opLF lstL (consA (varF 13) nilA)) (op2F addD (litF (.int 1)) (callF 2 f_law_take (consA (varF 1) (consA (litF (.int 4)) nilA))))) nilA)))) (varF 9)) (tupG 2 (consG (nameG 11) (consG (nameG 12) nilG))))
 (ifS (boolF (op2F neD (varF 11) (callF 2 f_law_mul (consA (op2F ixD (varF 6) (varF 9)) (consA (varF 12) nilA)))))
 (retS (litF (.bl false)))
 passS)))
def turnB : SF := (seqS (parS 3 4 (consA (op2F addD (litF (.int 1)) (callF 2 f_law_take (consA (varF 1) (consA (litF (.int 4)) nilA)))) (consA (callF 1 f_law_drawn_share (consA (varF 1) nilA)) nilA)))
 (seqS (setS 5 (callF 3 f_law_drawn_work (consA (callF 1 f_law_anew (consA (varF 1) nilA)) (consA (varF 3) (consA (litF (.int 3)) nilA)))))
 (seqS (asgS (opLF tupL (consA (callF 2 f_numbers (consA (varF 5) (consA (varF 4) nilA))) (consA (callF 1 f_law_subsets (consA (varF 3) nilA)) nilA))) (tupG 2 (consG (nameG 6) (consG (nameG 7) nilG))))
 (seqS (forS (rng1I (consA (litF (.int 4)) nilA)) (nameG 8) stepB)
 (forS (rng1I (consA (varF 3) nilA)) (nameG 9) ovB)))))
theorem b_law_eq : b_law = (seqS (setS 1 (callF 1 f_law_open (consA (varF 0) nilA)))
 (seqS (forS (rng1I (consA (litF (.int 2)) nilA)) (nameG 2) turnB)
 (retS (litF (.bl true))))) := rfl
theorem sets_lc {own : List Nat} {g : GF} {elt : EF} {en : En} {L : List (List Int)} : ∀ (ds : List D) (c : Nat) (st : Sto), Pen c st → c + ds.length < 900000 → (∀ d ∈ ds, ∀ c st, Pen c st → c < 900000 → ∃ en1, g d st (wipeE en own) = some en1 ∧ ∃ T st', elt en1 st = .ok (tD T) st' ∧ T ∈ L ∧ Pen (c + 1) st') →
    ∃ (Ts : List (List Int)) (st' : Sto), lcI own g yesT elt ds en st = .ok (Ts.map tD) st' ∧ Ts.length = ds.length ∧ (∀ T ∈ Ts, T ∈ L) ∧ Pen (c + ds.length) st'
  | [], c, st, hp, _, _ => ⟨[], st, rfl, rfl, fun r h => (nomatch h), hp⟩
  | d :: ds, c, st, hp, hc, h => by
    rw [List.length_cons] at hc
    obtain ⟨en1, e1, T, st1, e2, s, p⟩ := h d List.mem_cons_self c st hp (by omega)
    obtain ⟨Ts, st', e3, l, hs, p'⟩ := sets_lc ds (c + 1) st1 p (by omega) fun q hq => h q (List.mem_cons_of_mem _ hq)
    refine ⟨T :: Ts, st', ?_, by rw [List.length_cons, List.length_cons, l], fun q hq => ?_, p'.up (by rw [List.length_cons]; omega)⟩
    · unfold lcI
      rw [e1]
      unfold yesT
      simp only [e2]
      show (lcI own g yesT elt ds en st1).bind _ = _
      rw [e3]
      rfl
    · rcases List.mem_cons.mp hq with rfl | hq
      · exact s
      · exact hs q hq
theorem ownF {gs : List Rat} {i k : Nat} {en : En} {st : Sto} (h1 : en[6]? = some (some (.tup (gs.map fr)))) (h2 : en[k]? = some (some (.int (i : Nat)))) (hi : i < gs.length) : op2F ixD (varF 6) (varF k) en st = .ok (fr (gs.getD i 0)) st := op2F_ok (varF_at h1) (varF_at h2) (ixD_t (atD_nat (getD_ix hi)))
section
variable {F x2 : Option D} {n : Nat} {b : Rat} {w : Wr} {gs : List Rat} {L : List (List Int)} {N : Nat}
theorem ck_loop (hN : N ≤ 1000) (lg : gs.length = n) (sg : ∀ g ∈ gs, Sz N g) {st : Sto} {x8 x10 x13 x14 x15 : Option D} : ∀ (rest : Tl) (k : Nat) (x9 x11 x12 : Option D), k + rest.length ≤ n → (∀ p ∈ rest, Sz 3000 p.1 ∧ Sz 3000 p.2) → (∀ j, j < rest.length → (rest.getD j (0, 0)).1 ≤ gs.getD (k + j) 0 * (rest.getD j (0, 0)).2) →
    ∃ y9 y11 y12, loopI (tupG 2 (consG (nameG 9) (consG (tupG 2 (consG (nameG 11) (consG (nameG 12) nilG))) nilG))) ckB (enumF k (rest.map prD)) (P16 F x2 n b w gs L x8 x9 x10 x11 x12 x13 x14 x15) st = .nx (P16 F x2 n b w gs L x8 y9 x10 y11 y12 x13 x14 x15) st
  | [], k, x9, x11, x12, _, _, _ => ⟨x9, x11, x12, rfl⟩
  | p :: rest, k, x9, x11, x12, hl, hz, h => by
    rw [List.length_cons] at hl
    obtain ⟨y9, y11, y12, e⟩ := ck_loop (st := st) (x8 := x8) (x10 := x10) (x13 := x13) (x14 := x14) (x15 := x15) hN lg sg rest (k + 1) (some (.int (k : Nat))) (some (fr p.1)) (some (fr p.2)) (by omega) (fun q hq => hz q (List.mem_cons_of_mem _ hq)) (fun j hj => by
      have := h (j + 1) (by rw [List.length_cons]; omega)
      rw [show k + 1 + j = k + (j + 1) from by omega]
      exact this)
    refine ⟨y9, y11, y12, ?_⟩
    rw [List.map_cons, ← e]
    refine loop_nx (en1 := P16 F x2 n b w gs L x8 (some (.int (k : Nat))) x10 (some (fr p.1)) (some (fr p.2)) x13 x14 x15) rfl ?_
    obtain ⟨z1, z2⟩ := hz p List.mem_cons_self
    have le : p.1 ≤ gs.getD k 0 * p.2 := h 0 (by rw [List.length_cons]; omega)
    have gz : Sz N (gs.getD k 0) := by
      refine sg _ ?_
      rw [List.getD_eq_getElem?_getD, List.getElem?_eq_getElem (show k < gs.length by omega)]
      exact List.getElem_mem _
    have c : truF (callF 2 f_law_is_less (consA (callF 2 f_law_mul (consA (op2F ixD (varF 6) (varF 9)) (consA (varF 12) nilA))) (consA (varF 11) nilA))) (P16 F x2 n b w gs L x8 (some (.int (k : Nat))) x10 (some (fr p.1)) (some (fr p.2)) x13 x14 x15) st = .ok false st := by
      refine tru_ok (call2 (x := fr (gs.getD k 0 * p.2)) (y := fr p.1) (st1 := st) (st2 := st) (call2 (x := fr (gs.getD k 0)) (y := fr p.2) (st1 := st) (st2 := st) (ownF rfl rfl (by omega)) rfl (law_mul_big gz z2 (by omega))) rfl ?_)
      rw [law_less_fr (gz.mul z2) z1 (by omega) (by decide), decide_eq_false (Rat.not_lt.mpr le)]
    unfold ckB
    rw [if_ok c, if_neg Bool.false_ne_true]
    rfl
structure LH (n : Nat) (b : Rat) (w : Wr) (gs : List Rat) (L : List (List Int)) (N : Nat) : Prop where
  hw : WrOk 8 w
  lw : w.length = n
  n4 : n ≤ 4
  b0 : 0 < b
  b1 : b < 1
  sb : Sz 4 b
  lg : gs.length = n
  nums : Nums w.length (mxw w) b (pw w) (fun j => gs.getD j 0)
  sg : ∀ g ∈ gs, Sz N g
  hN : N ≤ 1000
  hL : SubL n n L
theorem stepV_len {T : List Int} {tl : Tl} : (stepV w b T tl).length = w.length := by
  unfold stepV
  rw [List.length_map]
theorem fold_len : ∀ (Ts : List (List Int)) (tl : Tl), tl.length = w.length → (Ts.foldl (fun tl T => stepV w b T tl) tl).length = w.length
  | [], tl, h => h
  | T :: Ts, tl, _ => fold_len Ts _ stepV_len
theorem step_turn (h : LH n b w gs L N) {c0 : Nat} {st : Sto} (hp : Pen c0 st) (hc : c0 < 500000) {x8 x9 x10 x11 x12 x13 x14 x15 : Option D} :
    ∃ (y9 y10 y11 y12 : Option D) (st' : Sto), stepB (P16 F x2 n b w gs L x8 x9 x10 x11 x12 x13 x14 x15) st = .nx (P16 F x2 n b w gs L x8 y9 y10 y11 y12 x13 x14 x15) st' ∧ Pen (c0 + 10) st' := by
  have n4 := h.n4
  have lw := h.lw
  obtain ⟨r, st1, e1, r0, r6, p1⟩ := takeF (en := P16 F x2 n b w gs L x8 x9 x10 x11 x12 x13 x14 x15) (m := 6) rfl hp (by omega) (by decide) (by decide)
  have Ll : (L.map tD).length < 1000 := by
    have := Nat.le_trans h.hL.len (Nat.pow_le_pow_right (by decide) n4)
    rw [List.length_map]
    omega
  have L1 : 1 ≤ (L.map tD).length := by
    rw [List.length_map]
    exact List.length_pos_iff.mpr h.hL.ne
  obtain ⟨k, hk⟩ : ∃ k : Nat, 1 + r = ((k + 1 : Nat) : Int) := ⟨r.toNat, by omega⟩
  have bd : bnd (1 + r) = true := by
    rw [hk]
    exact bnd_nat (by omega)
  have hj : (1 + r).toNat = k + 1 := by omega
  obtain ⟨Ts, st2, e2, l2, m2, p2⟩ := sets_lc (own := [14]) (g := nameG 14) (elt := callF 2 f_law_one (consA (varF 1) (consA (varF 7) nilA))) (en := P16 F x2 n b w gs L x8 x9 x10 x11 x12 x13 x14 x15) (L := L) (rangeD 0 (1 + r).toNat) _ st1 p1 (by unfold rangeD; rw [List.length_map, List.length_range, hj]; omega) (fun d hd c st hp hc => by
    obtain ⟨dd, st', e, hd', p, -⟩ := oneS (en := P16 F x2 n b w gs L x8 x9 x10 x11 x12 x13 (some d) x15) (f := varF 1) (g := varF 7) (ds := L.map tD) (st := st) (st1 := st) rfl rfl hp (by omega) L1 Ll
    obtain ⟨T, hT, rfl⟩ := List.mem_map.mp hd'
    exact ⟨_, rfl, T, st', e, hT, p⟩)
  have lr : (rangeD 0 (1 + r).toNat).length = k + 1 := by
    unfold rangeD
    rw [List.length_map, List.length_range, hj]
  rw [lr] at l2 p2
  obtain ⟨Ts', T0, rfl⟩ : ∃ Ts' T0, Ts = Ts' ++ [T0] := by
    have ne : Ts ≠ [] := by
      intro e
      rw [e] at l2
      cases l2
    exact ⟨Ts.dropLast, Ts.getLast ne, (List.dropLast_concat_getLast ne).symm⟩
  rw [List.length_append, List.length_singleton] at l2
  have a0 := (h.hL.all T0 (m2 T0 (List.mem_append.mpr (.inr (List.mem_singleton.mpr rfl))))).1
  obtain ⟨t0, tl, es, etl, lt0, sx, sy, sz⟩ := by_steps_is (Ts := Ts') (T0 := T0) h.hw h.b0 h.b1 h.sb (by omega) (by rw [lw]; exact a0) (by omega) st2
  have ltl : tl.length = n := by
    rw [etl, fold_len _ _ lt0, lw]
  obtain ⟨y9, y11, y12, e3⟩ := ck_loop (F := F) (x2 := x2) (n := n) (b := b) (w := w) (gs := gs) (L := L) (N := N) (st := st2) (x8 := x8) (x10 := some (.lst ((Ts' ++ [T0]).map tD))) (x13 := x13) (x14 := x14) (x15 := x15) h.hN h.lg h.sg tl 0 x9 x11 x12 (by omega) sz (fun j hj => by
    have hj' : j < w.length := by omega
    obtain ⟨v, vok, vz⟩ := v_ex h.hw h.b0 h.b1 h.sb (by decide) (by decide) h.nums hj'
    have base := le_base h.hw h.b0 h.b1 vok sx sy
    have := le_all h.hw h.b0 vok Ts'.reverse t0 base j hj'
    rw [← etl, vz] at this
    rw [Nat.zero_add]
    grind)
  refine ⟨y9, some (.lst ((Ts' ++ [T0]).map tD)), y11, y12, st2, ?_, p2.up (by omega)⟩
  unfold stepB
  rw [step_set (st' := st2) (en' := P16 F x2 n b w gs L x8 x9 (some (.lst ((Ts' ++ [T0]).map tD))) x11 x12 x13 x14 x15) (lc_all (rng_j (op2F_ok (a := .int 1) (st1 := st) rfl e1 addD_ii) bd) (by rw [lr]; omega) e2) (show 10 < 16 by decide) rfl]
  have hi : enumI (consA (callF 3 f_law_by_steps (consA (varF 5) (consA (varF 4) (consA (varF 10) nilA)))) nilA) (P16 F x2 n b w gs L x8 x9 (some (.lst ((Ts' ++ [T0]).map tD))) x11 x12 x13 x14 x15) st2 = .ok (.items (enumF 0 (tl.map prD))) st2 := by
    have cs : callF 3 f_law_by_steps (consA (varF 5) (consA (varF 4) (consA (varF 10) nilA))) (P16 F x2 n b w gs L x8 x9 (some (.lst ((Ts' ++ [T0]).map tD))) x11 x12 x13 x14 x15) st2 = .ok (.lst (tl.map prD)) st2 := call3 (x := wrD w) (y := fr b) (z := .lst ((Ts' ++ [T0]).map tD)) (st1 := st2) (st2 := st2) (st3 := st2) rfl rfl rfl es
    unfold enumI
    rw [consA_ok cs nilA_e]
    rfl
  exact (for_items hi).trans e3
theorem steps_loop (h : LH n b w gs L N) {x13 x14 x15 : Option D} : ∀ (ds : List D) (c0 : Nat) (st : Sto) (x8 x9 x10 x11 x12 : Option D), Pen c0 st → c0 + 10 * ds.length < 500000 → ∃ (y8 y9 y10 y11 y12 : Option D) (st' : Sto), loopI (nameG 8) stepB ds (P16 F x2 n b w gs L x8 x9 x10 x11 x12 x13 x14 x15) st = .nx (P16 F x2 n b w gs L y8 y9 y10 y11 y12 x13 x14 x15) st' ∧ Pen (c0 + 10 * ds.length) st'
  | [], c0, st, x8, x9, x10, x11, x12, hp, _ => ⟨x8, x9, x10, x11, x12, st, rfl, hp⟩
  | d :: ds, c0, st, x8, x9, x10, x11, x12, hp, hc => by
    rw [List.length_cons] at hc
    obtain ⟨y9, y10, y11, y12, st1, e1, p1⟩ := step_turn (F := F) (x2 := x2) h hp (by omega) (x8 := some d) (x9 := x9) (x10 := x10) (x11 := x11) (x12 := x12) (x13 := x13) (x14 := x14) (x15 := x15)
    obtain ⟨z8, z9, z10, z11, z12, st2, e2, p2⟩ := steps_loop h (x13 := x13) (x14 := x14) (x15 := x15) ds (c0 + 10) st1 (some d) y9 y10 y11 y12 p1 (by omega)
    exact ⟨z8, z9, z10, z11, z12, st2, (loop_nx rfl e1).trans e2, p2.up (by rw [List.length_cons]; omega)⟩
theorem ov_turn (h : LH n b w gs L N) {c0 : Nat} {st : Sto} (hp : Pen c0 st) (hc : c0 < 500000) {s : Nat} (hs : s < n) {x8 x10 x11 x12 x13 x14 x15 : Option D} :
    ∃ (y11 y12 y13 : Option D) (st' : Sto), ovB (P16 F x2 n b w gs L x8 (some (.int (s : Nat))) x10 x11 x12 x13 x14 x15) st = .nx (P16 F x2 n b w gs L x8 (some (.int (s : Nat))) x10 y11 y12 y13 x14 x15) st' ∧ Pen (c0 + 10) st' := by
  have n4 := h.n4
  have lw := h.lw
  have lg := h.lg
  have hs' : s < w.length := by omega
  have gz : ∀ i : Nat, i < n → Sz N (gs.getD i 0) := fun i hi => by
    refine h.sg _ ?_
    rw [List.getD_eq_getElem?_getD, List.getElem?_eq_getElem (show i < gs.length by omega)]
    exact List.getElem_mem _
  have hN := h.hN
  have c1 : lcF [15] (nameG 15) (truF (callF 2 f_law_is_less (consA (op2F ixD (varF 6) (varF 9)) (consA (op2F ixD (varF 6) (varF 15)) nilA)))) (varF 15) (rng1I (consA (varF 3) nilA)) (P16 F x2 n b w gs L x8 (some (.int (s : Nat))) x10 x11 x12 x13 x14 x15) st = .ok (.lst ((ovr gs n s).map .int)) st := by
    have hi : rng1I (consA (varF 3) nilA) (P16 F x2 n b w gs L x8 (some (.int (s : Nat))) x10 x11 x12 x13 x14 x15) st = .ok (.items (((List.range' 0 n).map fun i : Nat => (i : Int)).map D.int)) st := by
      rw [List.map_map]
      have := rng_is (n := n) (f := varF 3) (en := P16 F x2 n b w gs L x8 (some (.int (s : Nat))) x10 x11 x12 x13 x14 x15) (st := st) rfl (by omega)
      rw [rangeD_r] at this
      exact this
    refine lcF_it hi (by rw [List.length_map, List.length_map, List.length_range']; omega) ?_
    unfold ovr
    refine lc_filt (f := D.int) (φ := D.int) (p := fun i => decide (gs.getD s 0 < gs.getD i.toNat 0)) fun i hi => ⟨P16 F x2 n b w gs L x8 (some (.int (s : Nat))) x10 x11 x12 x13 x14 (some (.int i)), rfl, ?_, rfl⟩
    obtain ⟨q, hq, rfl⟩ := List.mem_map.mp hi
    rw [List.mem_range'] at hq
    obtain ⟨j, hj, rfl⟩ := hq
    rw [Int.toNat_natCast]
    refine tru_ok (call2 (x := fr (gs.getD s 0)) (y := fr (gs.getD (0 + 1 * j) 0)) (st1 := st) (st2 := st) (ownF rfl rfl (by omega)) (ownF rfl rfl (by omega)) ?_)
    exact law_less_fr (gz s hs) (gz _ (by omega)) (by omega) (by omega)
  obtain ⟨r, st1, e1, r0, r4, p1⟩ := takeF (en := P16 F x2 n b w gs L x8 (some (.int (s : Nat))) x10 x11 x12 (some (tD (ovr gs n s))) x14 x15) (m := 4) rfl hp (by omega) (by decide) (by decide)
  obtain ⟨k, hk⟩ : ∃ k : Nat, 1 + r = ((k + 1 : Nat) : Int) := ⟨r.toNat, by omega⟩
  have as : Asc (w.length : Nat) (-1) (ovr gs n s) := by
    rw [lw]
    exact asc_filt (n := n) n 0 (by omega)
  obtain ⟨t0, tl, es, etl, lt0, sx, sy, sz⟩ := by_steps_is (Ts := List.replicate k (ovr gs n s)) (T0 := ovr gs n s) h.hw h.b0 h.b1 h.sb (by omega) as (by rw [List.length_replicate]; omega) st1
  have ltl : tl.length = n := by
    rw [etl, fold_len _ _ lt0, lw]
  have same := same_all h.hw sx sy (List.replicate k (ovr gs n s)).reverse t0 (fun T' hT => by
    rw [List.mem_reverse] at hT
    exact (List.mem_replicate.mp hT).2) (fun j hj => ⟨rfl, rfl⟩) s hs'
  rw [← etl] at same
  have iv : ∀ j, j < w.length → inA (ovr gs n s) j = decide (gs.getD s 0 < gs.getD j 0) := fun j hj => ovr_in (by omega)
  have nm := (h.nums.at' s hs' _ _ (sx.cut_congr iv) (sy.cut_congr iv)).1
  obtain ⟨p, hpv⟩ : ∃ p, tl.getD s (0, 0) = p := ⟨_, rfl⟩
  have eqp : p.1 = gs.getD s 0 * p.2 := by
    rw [← hpv, same.1, same.2]
    exact nm
  have pm : p ∈ tl := by
    rw [← hpv, List.getD_eq_getElem?_getD, List.getElem?_eq_getElem (show s < tl.length by omega)]
    exact List.getElem_mem _
  obtain ⟨z1, z2⟩ := sz p pm
  refine ⟨some (fr p.1), some (fr p.2), some (tD (ovr gs n s)), st1, ?_, p1.up (by omega)⟩
  unfold ovB
  rw [step_set (d := tD (ovr gs n s)) (st' := st) (en' := P16 F x2 n b w gs L x8 (some (.int (s : Nat))) x10 x11 x12 (some (tD (ovr gs n s))) x14 x15) (op1L (x := .lst ((ovr gs n s).map .int)) (st1 := st) c1 rfl) (show 13 < 16 by decide) rfl]
  have hm : op2F mulD (opLF lstL (consA (varF 13) nilA)) (op2F addD (litF (.int 1)) (callF 2 f_law_take (consA (varF 1) (consA (litF (.int 4)) nilA)))) (P16 F x2 n b w gs L x8 (some (.int (s : Nat))) x10 x11 x12 (some (tD (ovr gs n s))) x14 x15) st = .ok (.lst ((List.replicate k (ovr gs n s) ++ [ovr gs n s]).map tD)) st1 := by
    have hs : sizeLine = 16777216 := sizeLine_eq
    refine op2F_ok (a := .lst [tD (ovr gs n s)]) (b := .int ((k + 1 : Nat) : Int)) (st1 := st) (st2 := st1) (opLF_ok (ds := [tD (ovr gs n s)]) (st1 := st) rfl (lstL_e (show 1 ≤ 1000 by decide))) (op2F_ok (a := .int 1) (st1 := st) rfl e1 (addD_x hk)) ?_
    have := mulD_l (ds := [tD (ovr gs n s)]) (j := ((k + 1 : Nat) : Int)) (st := st1) (Int.le_trans (show -(2 ^ 63) ≤ (0 : Int) by decide) (Int.natCast_nonneg _)) (Int.lt_of_lt_of_le (show ((k + 1 : Nat) : Int) < 1001 by omega) (by decide)) (by rw [Int.toNat_natCast, List.length_singleton]; omega)
    rw [Int.toNat_natCast, rep_one] at this
    rw [this, List.map_append, List.map_replicate, List.replicate_succ']
    rfl
  rw [step_asg (d := prD p) (st' := st1) (en' := P16 F x2 n b w gs L x8 (some (.int (s : Nat))) x10 (some (fr p.1)) (some (fr p.2)) (some (tD (ovr gs n s))) x14 x15) (op2F_ok (a := .lst (tl.map prD)) (b := .int (s : Nat)) (st1 := st1) (st2 := st1) (call3 (x := wrD w) (y := fr b) (st1 := st) (st2 := st) (st3 := st1) rfl rfl hm es) rfl (ixD_l (atD_nat (by
    rw [← hpv, List.getElem?_map, List.getD_eq_getElem?_getD, List.getElem?_eq_getElem (show s < tl.length by omega)]
    rfl)))) rfl]
  have c2 : boolF (op2F neD (varF 11) (callF 2 f_law_mul (consA (op2F ixD (varF 6) (varF 9)) (consA (varF 12) nilA)))) (P16 F x2 n b w gs L x8 (some (.int (s : Nat))) x10 (some (fr p.1)) (some (fr p.2)) (some (tD (ovr gs n s))) x14 x15) st1 = .ok false st1 := by
    refine bool_ok (op2F_ok (a := fr p.1) (b := fr (gs.getD s 0 * p.2)) (st1 := st1) (st2 := st1) rfl (call2 (x := fr (gs.getD s 0)) (y := fr p.2) (st1 := st1) (st2 := st1) (ownF rfl rfl (by omega)) rfl (law_mul_big (gz s hs) z2 (by omega))) ?_)
    rw [← eqp]
    exact ne_same (Pt.fr (k := 0)) (by decide)
  rw [if_ok c2, if_neg Bool.false_ne_true]
  rfl
theorem ovs_loop (h : LH n b w gs L N) {x8 x10 x14 x15 : Option D} : ∀ (m k c0 : Nat) (st : Sto) (x9 x11 x12 x13 : Option D), k + m = n → Pen c0 st → c0 + 10 * m < 500000 → ∃ (y9 y11 y12 y13 : Option D) (st' : Sto), loopI (nameG 9) ovB ((List.range' k m).map fun i : Nat => D.int (i : Nat)) (P16 F x2 n b w gs L x8 x9 x10 x11 x12 x13 x14 x15) st = .nx (P16 F x2 n b w gs L x8 y9 x10 y11 y12 y13 x14 x15) st' ∧ Pen (c0 + 10 * m) st'
  | 0, k, c0, st, x9, x11, x12, x13, _, hp, _ => ⟨x9, x11, x12, x13, st, rfl, hp⟩
  | m + 1, k, c0, st, x9, x11, x12, x13, hk, hp, hc => by
    obtain ⟨y11, y12, y13, st1, e1, p1⟩ := ov_turn (F := F) (x2 := x2) h hp (by omega) (show k < n by omega) (x8 := x8) (x10 := x10) (x11 := x11) (x12 := x12) (x13 := x13) (x14 := x14) (x15 := x15)
    obtain ⟨z9, z11, z12, z13, st2, e2, p2⟩ := ovs_loop h (x8 := x8) (x10 := x10) (x14 := x14) (x15 := x15) m (k + 1) (c0 + 10) st1 (some (.int (k : Nat))) y11 y12 y13 (by omega) p1 (by omega)
    refine ⟨z9, z11, z12, z13, st2, ?_, p2.up (by omega)⟩
    rw [List.range'_succ, List.map_cons]
    exact (loop_nx rfl e1).trans e2
end
abbrev Q16 (F x2 x3 x4 x5 x6 x7 x8 x9 x10 x11 x12 x13 x14 x15 : Option D) : En := [F, some (.ref 1), x2, x3, x4, x5, x6, x7, x8, x9, x10, x11, x12, x13, x14, x15]
theorem rng_items {f : EF} {n : Nat} {en : En} {st : Sto} (h : f en st = .ok (.int (n : Nat)) st) (hn : n < 1000000) : rng1I (consA f nilA) en st = .ok (.items ((List.range' 0 n).map fun i : Nat => D.int (i : Nat))) st := by
  rw [← rangeD_r]
  exact rng_is h hn
theorem turn_ok {F x2 x3 x4 x5 x6 x7 x8 x9 x10 x11 x12 x13 x14 x15 : Option D} {c0 : Nat} {st : Sto} (hp : Pen c0 st) (hc : c0 < 300000) :
    ∃ (st' : Sto) (y3 y4 y5 y6 y7 y8 y9 y10 y11 y12 y13 : Option D), turnB (Q16 F x2 x3 x4 x5 x6 x7 x8 x9 x10 x11 x12 x13 x14 x15) st = .nx (Q16 F x2 y3 y4 y5 y6 y7 y8 y9 y10 y11 y12 y13 x14 x15) st' ∧ Pen (c0 + 1000) st' := by
  obtain ⟨r, st1, e1, r0, r5, p1⟩ := takeF (en := Q16 F x2 x3 x4 x5 x6 x7 x8 x9 x10 x11 x12 x13 x14 x15) (m := 4) rfl hp (by omega) (by decide) (by decide)
  obtain ⟨n, hn⟩ : ∃ n : Nat, 1 + r = (n : Nat) := ⟨(1 + r).toNat, by omega⟩
  have n1 : 1 ≤ n := by omega
  have n4 : n ≤ 4 := by omega
  obtain ⟨b, st2, e2, b0, b1, sb, p2⟩ := share_draw p1 (by omega)
  obtain ⟨st3, e3, p3⟩ := anew_ok p2
  obtain ⟨W, st4, e4, hW, p4, lW, hpay⟩ := drawn_work_is (n := (n : Nat)) (k := 3) p3 (by omega) (by omega) (by omega) (by decide) (by decide)
  have lW : W.length = n := by omega
  obtain ⟨ps, lps, sps, eps⟩ : ∃ ps : List Rat, ps.length = W.length ∧ (∀ p ∈ ps, Sz 8 p) ∧ W.map rowD = List.zipWith (fun (q : Rat) (r : Rw) => D.tup [fr q, .tup (r.2.map mvD)]) ps W := by
    have : ∀ (W : List Rw), (∀ r ∈ W, ∃ p q, Pr r.1 8 p q) → ∃ ps : List Rat, ps.length = W.length ∧ (∀ p ∈ ps, Sz 8 p) ∧ W.map rowD = List.zipWith (fun (q : Rat) (r : Rw) => D.tup [fr q, .tup (r.2.map mvD)]) ps W := fun W => by
      induction W with
      | nil => intro _; exact ⟨[], rfl, fun p h => (nomatch h), rfl⟩
      | cons r W ih =>
        intro h
        obtain ⟨p, q, hp⟩ := h r List.mem_cons_self
        obtain ⟨x, e, s, -⟩ := hp.fr
        obtain ⟨ps, l, hs, em⟩ := ih fun y hy => h y (List.mem_cons_of_mem _ hy)
        refine ⟨x :: ps, by rw [List.length_cons, List.length_cons, l], fun y hy => ?_, ?_⟩
        · rcases List.mem_cons.mp hy with rfl | hy
          · exact s
          · exact hs y hy
        · rw [List.map_cons, em]
          show _ = D.tup [fr x, .tup (r.2.map mvD)] :: _
          rw [← e]
          rfl
    exact this W hpay
  obtain ⟨w, o1, q1, -, -, l1⟩ := work_of hW lps sps
  have ew : wkD W = wrD w := by
    unfold wkD wrD
    rw [eps, q1]
  rw [ew] at e4
  have lw : w.length = n := by omega
  obtain ⟨gs, e5, lg, nums, sg⟩ := numbers_is o1 b0 b1 sb (by decide) (by decide) (N := (8 + 4 + ((9 + 4) * w.length + 8 * w.length)) + (0 + 4 + (9 + 4) * w.length)) rfl (by omega) st4
  obtain ⟨L, e6, hL⟩ := subsets_is (n := n) (st := st4) (by omega)
  have h : LH n b w gs L ((8 + 4 + ((9 + 4) * w.length + 8 * w.length)) + (0 + 4 + (9 + 4) * w.length)) := ⟨o1, lw, n4, b0, b1, sb, by omega, nums, sg, by omega, hL⟩
  obtain ⟨y8, y9, y10, y11, y12, st5, e7, p5⟩ := steps_loop (F := F) (x2 := x2) h (x13 := x13) (x14 := x14) (x15 := x15) ((List.range' 0 4).map fun i : Nat => D.int (i : Nat)) _ st4 x8 x9 x10 x11 x12 p4 (by show _ + 10 * 4 < _; omega)
  have p5 : Pen (c0 + 1 + 1 + 240 + 40) st5 := p5
  obtain ⟨z9, z11, z12, z13, st6, e8, p6⟩ := ovs_loop (F := F) (x2 := x2) h (x8 := y8) (x10 := y10) (x14 := x14) (x15 := x15) n 0 _ st5 y9 y11 y12 x13 (by omega) p5 (by omega)
  refine ⟨st6, some (.int (n : Nat)), some (fr b), some (wrD w), some (.tup (gs.map fr)), some (.lst (L.map tD)), y8, z9, y10, z11, z12, z13, ?_, p6.up (by omega)⟩
  unfold turnB
  rw [step_par (d := .int (n : Nat)) (e := fr b) (st' := st2) (en' := Q16 F x2 (some (.int (n : Nat))) (some (fr b)) x5 x6 x7 x8 x9 x10 x11 x12 x13 x14 x15) (consA_ok (op2F_ok (a := .int 1) (st1 := st) rfl e1 (addD_x hn)) (consA_ok (call1 (x := .ref 1) (st1 := st1) rfl e2) nilA_e)) ⟨show 3 < 16 by decide, show 4 < 16 by decide⟩ rfl]
  rw [step_set (st' := st4) (en' := Q16 F x2 (some (.int (n : Nat))) (some (fr b)) (some (wrD w)) x6 x7 x8 x9 x10 x11 x12 x13 x14 x15) (call3 (x := .ref 1) (y := .int (n : Nat)) (z := .int 3) (st1 := st3) (st2 := st3) (st3 := st3) (call1 (x := .ref 1) (st1 := st2) rfl e3) rfl rfl e4) (show 5 < 16 by decide) rfl]
  rw [step_asg (d := .tup [.tup (gs.map fr), .lst (L.map tD)]) (st' := st4) (en' := P16 F x2 n b w gs L x8 x9 x10 x11 x12 x13 x14 x15) (opLF_ok (consA_ok (call2 (x := wrD w) (y := fr b) (st1 := st4) (st2 := st4) rfl rfl e5) (consA_ok (call1 (x := .int (n : Nat)) (st1 := st4) rfl e6) nilA_e)) (tupL_e (show 2 ≤ 1000 by decide))) rfl]
  rw [step_of ((for_items (rng_items (n := 4) (st := st4) rfl (by decide))).trans e7)]
  exact (for_items (rng_items (n := n) (st := st5) rfl (by omega))).trans e8
theorem turns_loop {F x14 x15 : Option D} : ∀ (ds : List D) (c0 : Nat) (st : Sto) (x2 x3 x4 x5 x6 x7 x8 x9 x10 x11 x12 x13 : Option D), Pen c0 st → c0 + 1000 * ds.length < 300000 →
    ∃ (st' : Sto) (en' : En), loopI (nameG 2) turnB ds (Q16 F x2 x3 x4 x5 x6 x7 x8 x9 x10 x11 x12 x13 x14 x15) st = .nx en' st'
  | [], c0, st, x2, x3, x4, x5, x6, x7, x8, x9, x10, x11, x12, x13, _, _ => ⟨_, _, rfl⟩
  | d :: ds, c0, st, x2, x3, x4, x5, x6, x7, x8, x9, x10, x11, x12, x13, hp, hc => by
    rw [List.length_cons] at hc
    obtain ⟨st1, y3, y4, y5, y6, y7, y8, y9, y10, y11, y12, y13, e1, p1⟩ := turn_ok (F := F) (x2 := some d) (x3 := x3) (x4 := x4) (x5 := x5) (x6 := x6) (x7 := x7) (x8 := x8) (x9 := x9) (x10 := x10) (x11 := x11) (x12 := x12) (x13 := x13) (x14 := x14) (x15 := x15) hp (by omega)
    obtain ⟨st', en', e2⟩ := turns_loop (F := F) (x14 := x14) (x15 := x15) ds (c0 + 1000) st1 (some d) y3 y4 y5 y6 y7 y8 y9 y10 y11 y12 y13 p1 (by omega)
    exact ⟨st', en', (loop_nx rfl e1).trans e2⟩
theorem law_true (ns : List Int) (_h : ns.length ≤ 63) : ∃ st, f_law [.fro (ns.map .int)] [] = .ok (.bl true) st := by
  obtain ⟨cs, hcs, e0⟩ := open_is ns
  obtain ⟨st, en', e1⟩ := turns_loop (F := some (.fro (ns.map .int))) (x14 := none) (x15 := none) ((List.range' 0 2).map fun i : Nat => D.int (i : Nat)) 0 [.lst (cs.map .int), .lst [.ref 0, .int ((0 : Nat) : Int), .int 0]] none none none none none none none none none none none none (pen0 hcs) (by decide)
  refine ⟨st, fn_rt (en0 := [some (.fro (ns.map .int)), none, none, none, none, none, none, none, none, none, none, none, none, none, none, none]) rfl ?_⟩
  rw [b_law_eq]
  rw [step_set (en' := Q16 (some (.fro (ns.map .int))) none none none none none none none none none none none none none none) (callF_ok (n := 1) (ds := [.fro (ns.map .int)]) (st1 := []) rfl rfl e0) (show 1 < 16 by decide) rfl]
  rw [step_of ((for_items (rng_items (n := 2) rfl (by decide))).trans e1)]
  exact ret_ok rfl
end Lw

namespace Lw
open PySem PySem.Spec PyProof.Rows L2 Ev
theorem all_mk {l : PySem.W.OpenLaw} (hl : l.prog = PySem.Challenge.pw_nextwork_k13_whole_no_way_of_stopping_be) {w : World} {K : PySem.W.Frag} {h : Heap} {mg : Str → Option Value} {fa f0 f1 f2 f3 f4 f5 f6 f7 f8 f9 f10 f11 f12 f13 f14 f15 f16 f17 f18 f19 f20 f21 f22 f23 f24 f25 f26 f27 f28 f29 f30 f31 f32 f33 f34 f35 f36 f37 f38 f39 f40 f41 f42 f43 f44 : Addr} (X : K.In h) (G : h.Ns mainGlobals mg) (hfa : mg "law" = some (.ref fa))
  {od0 an0 od1 an1 od2 an2 od3 an3 od4 an4 od5 an5 od6 an6 od7 an7 od8 an8 od9 an9 od10 an10 od11 an11 od12 an12 od13 an13 od14 an14 od15 an15 od16 an16 od17 an17 od18 an18 od19 an19 od20 an20 od21 an21 od22 an22 od23 an23 od24 an24 od25 an25 od26 an26 od27 an27 od28 an28 od29 an29 od30 an30 od31 an31 od32 an32 od33 an33 od34 an34 od35 an35 od36 an36 od37 an37 od38 an38 od39 an39 od40 an40 od41 an41 od42 an42 od43 an43 od44 an44 : Option Addr} {sl0 sl1 sl2 sl3 sl4 sl5 sl6 sl7 sl8 sl9 sl10 sl11 sl12 sl13 sl14 sl15 sl16 sl17 sl18 sl19 sl20 sl21 sl22 sl23 sl24 sl25 sl26 sl27 sl28 sl29 sl30 sl31 sl32 sl33 sl34 sl35 sl36 sl37 sl38 sl39 sl40 sl41 sl42 sl43 sl44 : Array (Option Value)} {oc0 kV0 dc0 pm0 cd0 ct0 oc1 kV1 dc1 pm1 cd1 ct1 oc2 kV2 dc2 pm2 cd2 ct2 oc3 kV3 dc3 pm3 cd3 ct3 oc4 kV4 dc4 pm4 cd4 ct4 oc5 kV5 dc5 pm5 cd5 ct5 oc6 kV6 dc6 pm6 cd6 ct6 oc7 kV7 dc7 pm7 cd7 ct7 oc8 kV8 dc8 pm8 cd8 ct8 oc9 kV9 dc9 pm9 cd9 ct9 oc10 kV10 dc10 pm10 cd10 ct10 oc11 kV11 dc11 pm11 cd11 ct11 oc12 kV12 dc12 pm12 cd12 ct12 oc13 kV13 dc13 pm13 cd13 ct13 oc14 kV14 dc14 pm14 cd14 ct14 oc15 kV15 dc15 pm15 cd15 ct15 oc16 kV16 dc16 pm16 cd16 ct16 oc17 kV17 dc17 pm17 ct17 oc18 kV18 dc18 pm18 cd18 ct18 oc19 kV19 dc19 pm19 cd19 ct19 oc20 kV20 dc20 pm20 cd20 ct20 oc21 kV21 dc21 pm21 cd21 ct21 oc22 kV22 dc22 pm22 cd22 ct22 oc23 kV23 dc23 pm23 cd23 ct23 oc24 kV24 dc24 pm24 cd24 ct24 oc25 kV25 dc25 pm25 cd25 ct25 oc26 kV26 dc26 pm26 cd26 ct26 oc27 kV27 dc27 pm27 cd27 ct27 oc28 kV28 dc28 pm28 cd28 ct28 oc29 kV29 dc29 pm29 cd29 ct29 oc30 kV30 dc30 pm30 cd30 ct30 oc31 kV31 dc31 pm31 cd31 ct31 oc32 kV32 dc32 pm32 cd32 ct32 oc33 kV33 dc33 pm33 cd33 ct33 oc34 kV34 dc34 pm34 cd34 ct34 oc35 kV35 dc35 pm35 cd35 ct35 oc36 kV36 dc36 pm36 cd36 ct36 oc37 kV37 dc37 pm37 cd37 ct37 oc38 kV38 dc38 pm38 cd38 ct38 oc39 kV39 dc39 pm39 cd39 ct39 oc40 kV40 dc40 pm40 cd40 ct40 oc41 kV41 dc41 pm41 cd41 ct41 oc42 kV42 dc42 pm42 cd42 ct42 oc43 kV43 dc43 pm43 cd43 ct43 oc44 kV44 dc44 pm44 cd44 ct44 : Value}
  {C_NoFraction C_NoShare C_NoState C_NoStates C_NoWork : Addr}
  {cc17 T17 : Addr}
  (a0 : PySem.W.nsIn K mainGlobals "is_whole" = some (some (.ref f0))) (l0 : K.lookup f0 = some ⟨oc0, od0, .func (PySem.W.fnOf "is_whole" "is_whole" (defArgs s_is_whole) (defBody s_is_whole) (defScope s_is_whole) .none kV0 dc0 pm0 an0 cd0 ct0), sl0⟩) (c0 : PySem.W.codeIn K cd0 "is_whole" = true) (k0 : PySem.W.keepIn K (.ref f0) = true)
  (a1 : PySem.W.nsIn K mainGlobals "is_fraction" = some (some (.ref f1))) (l1 : K.lookup f1 = some ⟨oc1, od1, .func (PySem.W.fnOf "is_fraction" "is_fraction" (defArgs s_is_fraction) (defBody s_is_fraction) (defScope s_is_fraction) .none kV1 dc1 pm1 an1 cd1 ct1), sl1⟩) (c1 : PySem.W.codeIn K cd1 "is_fraction" = true) (k1 : PySem.W.keepIn K (.ref f1) = true)
  (a2 : PySem.W.nsIn K mainGlobals "need_fraction" = some (some (.ref f2))) (l2 : K.lookup f2 = some ⟨oc2, od2, .func (PySem.W.fnOf "need_fraction" "need_fraction" (defArgs s_need_fraction) (defBody s_need_fraction) (defScope s_need_fraction) .none kV2 dc2 pm2 an2 cd2 ct2), sl2⟩) (c2 : PySem.W.codeIn K cd2 "need_fraction" = true) (k2 : PySem.W.keepIn K (.ref f2) = true)
  (a3 : PySem.W.nsIn K mainGlobals "fraction" = some (some (.ref f3))) (l3 : K.lookup f3 = some ⟨oc3, od3, .func (PySem.W.fnOf "fraction" "fraction" (defArgs s_fraction) (defBody s_fraction) (defScope s_fraction) .none kV3 dc3 pm3 an3 cd3 ct3), sl3⟩) (c3 : PySem.W.codeIn K cd3 "fraction" = true) (k3 : PySem.W.keepIn K (.ref f3) = true)
  (a4 : PySem.W.nsIn K mainGlobals "plus" = some (some (.ref f4))) (l4 : K.lookup f4 = some ⟨oc4, od4, .func (PySem.W.fnOf "plus" "plus" (defArgs s_plus) (defBody s_plus) (defScope s_plus) .none kV4 dc4 pm4 an4 cd4 ct4), sl4⟩) (c4 : PySem.W.codeIn K cd4 "plus" = true) (k4 : PySem.W.keepIn K (.ref f4) = true)
  (a5 : PySem.W.nsIn K mainGlobals "compare" = some (some (.ref f5))) (l5 : K.lookup f5 = some ⟨oc5, od5, .func (PySem.W.fnOf "compare" "compare" (defArgs s_compare) (defBody s_compare) (defScope s_compare) .none kV5 dc5 pm5 an5 cd5 ct5), sl5⟩) (c5 : PySem.W.codeIn K cd5 "compare" = true) (k5 : PySem.W.keepIn K (.ref f5) = true)
  (a6 : PySem.W.nsIn K mainGlobals "over" = some (some (.ref f6))) (l6 : K.lookup f6 = some ⟨oc6, od6, .func (PySem.W.fnOf "over" "over" (defArgs s_over) (defBody s_over) (defScope s_over) .none kV6 dc6 pm6 an6 cd6 ct6), sl6⟩) (c6 : PySem.W.codeIn K cd6 "over" = true) (k6 : PySem.W.keepIn K (.ref f6) = true)
  (a7 : PySem.W.nsIn K mainGlobals "greatest" = some (some (.ref f7))) (l7 : K.lookup f7 = some ⟨oc7, od7, .func (PySem.W.fnOf "greatest" "greatest" (defArgs s_greatest) (defBody s_greatest) (defScope s_greatest) .none kV7 dc7 pm7 an7 cd7 ct7), sl7⟩) (c7 : PySem.W.codeIn K cd7 "greatest" = true) (k7 : PySem.W.keepIn K (.ref f7) = true)
  (a8 : PySem.W.nsIn K mainGlobals "common_bottom" = some (some (.ref f8))) (l8 : K.lookup f8 = some ⟨oc8, od8, .func (PySem.W.fnOf "common_bottom" "common_bottom" (defArgs s_common_bottom) (defBody s_common_bottom) (defScope s_common_bottom) .none kV8 dc8 pm8 an8 cd8 ct8), sl8⟩) (c8 : PySem.W.codeIn K cd8 "common_bottom" = true) (k8 : PySem.W.keepIn K (.ref f8) = true)
  (a9 : PySem.W.nsIn K mainGlobals "_equation" = some (some (.ref f9))) (l9 : K.lookup f9 = some ⟨oc9, od9, .func (PySem.W.fnOf "_equation" "_equation" (defArgs s_equation) (defBody s_equation) (defScope s_equation) .none kV9 dc9 pm9 an9 cd9 ct9), sl9⟩) (c9 : PySem.W.codeIn K cd9 "_equation" = true) (k9 : PySem.W.keepIn K (.ref f9) = true)
  (a10 : PySem.W.nsIn K mainGlobals "_without" = some (some (.ref f10))) (l10 : K.lookup f10 = some ⟨oc10, od10, .func (PySem.W.fnOf "_without" "_without" (defArgs s_without) (defBody s_without) (defScope s_without) .none kV10 dc10 pm10 an10 cd10 ct10), sl10⟩) (c10 : PySem.W.codeIn K cd10 "_without" = true) (k10 : PySem.W.keepIn K (.ref f10) = true)
  (a11 : PySem.W.nsIn K mainGlobals "_each_alone" = some (some (.ref f11))) (l11 : K.lookup f11 = some ⟨oc11, od11, .func (PySem.W.fnOf "_each_alone" "_each_alone" (defArgs s_each_alone) (defBody s_each_alone) (defScope s_each_alone) .none kV11 dc11 pm11 an11 cd11 ct11), sl11⟩) (c11 : PySem.W.codeIn K cd11 "_each_alone" = true) (k11 : PySem.W.keepIn K (.ref f11) = true)
  (a12 : PySem.W.nsIn K mainGlobals "sums" = some (some (.ref f12))) (l12 : K.lookup f12 = some ⟨oc12, od12, .func (PySem.W.fnOf "sums" "sums" (defArgs s_sums) (defBody s_sums) (defScope s_sums) .none kV12 dc12 pm12 an12 cd12 ct12), sl12⟩) (c12 : PySem.W.codeIn K cd12 "sums" = true) (k12 : PySem.W.keepIn K (.ref f12) = true)
  (a13 : PySem.W.nsIn K mainGlobals "is_share" = some (some (.ref f13))) (l13 : K.lookup f13 = some ⟨oc13, od13, .func (PySem.W.fnOf "is_share" "is_share" (defArgs s_is_share) (defBody s_is_share) (defScope s_is_share) .none kV13 dc13 pm13 an13 cd13 ct13), sl13⟩) (c13 : PySem.W.codeIn K cd13 "is_share" = true) (k13 : PySem.W.keepIn K (.ref f13) = true)
  (a14 : PySem.W.nsIn K mainGlobals "_is_move" = some (some (.ref f14))) (l14 : K.lookup f14 = some ⟨oc14, od14, .func (PySem.W.fnOf "_is_move" "_is_move" (defArgs s_is_move) (defBody s_is_move) (defScope s_is_move) .none kV14 dc14 pm14 an14 cd14 ct14), sl14⟩) (c14 : PySem.W.codeIn K cd14 "_is_move" = true) (k14 : PySem.W.keepIn K (.ref f14) = true)
  (a15 : PySem.W.nsIn K mainGlobals "_are_moves" = some (some (.ref f15))) (l15 : K.lookup f15 = some ⟨oc15, od15, .func (PySem.W.fnOf "_are_moves" "_are_moves" (defArgs s_are_moves) (defBody s_are_moves) (defScope s_are_moves) .none kV15 dc15 pm15 an15 cd15 ct15), sl15⟩) (c15 : PySem.W.codeIn K cd15 "_are_moves" = true) (k15 : PySem.W.keepIn K (.ref f15) = true)
  (a16 : PySem.W.nsIn K mainGlobals "_is_row" = some (some (.ref f16))) (l16 : K.lookup f16 = some ⟨oc16, od16, .func (PySem.W.fnOf "_is_row" "_is_row" (defArgs s_is_row) (defBody s_is_row) (defScope s_is_row) .none kV16 dc16 pm16 an16 cd16 ct16), sl16⟩) (c16 : PySem.W.codeIn K cd16 "_is_row" = true) (k16 : PySem.W.keepIn K (.ref f16) = true)
  (a17 : PySem.W.nsIn K mainGlobals "is_work" = some (some (.ref f17))) (l17 : K.lookup f17 = some ⟨oc17, od17, .func (PySem.W.fnOf "is_work" "is_work" (defArgs s_is_work) (defBody s_is_work) (defScope s_is_work) .none kV17 dc17 pm17 an17 (.ref cc17) ct17), sl17⟩) (c17 : PySem.W.codeIn K (.ref cc17) "is_work" = true) (k17 : PySem.W.keepIn K (.ref f17) = true)
  (t17 : PySem.W.tabIn K "is_work" = some (cc17, T17))
  (a18 : PySem.W.nsIn K mainGlobals "is_state" = some (some (.ref f18))) (l18 : K.lookup f18 = some ⟨oc18, od18, .func (PySem.W.fnOf "is_state" "is_state" (defArgs s_is_state) (defBody s_is_state) (defScope s_is_state) .none kV18 dc18 pm18 an18 cd18 ct18), sl18⟩) (c18 : PySem.W.codeIn K cd18 "is_state" = true) (k18 : PySem.W.keepIn K (.ref f18) = true)
  (a19 : PySem.W.nsIn K mainGlobals "are_states" = some (some (.ref f19))) (l19 : K.lookup f19 = some ⟨oc19, od19, .func (PySem.W.fnOf "are_states" "are_states" (defArgs s_are_states) (defBody s_are_states) (defScope s_are_states) .none kV19 dc19 pm19 an19 cd19 ct19), sl19⟩) (c19 : PySem.W.codeIn K cd19 "are_states" = true) (k19 : PySem.W.keepIn K (.ref f19) = true)
  (a20 : PySem.W.nsIn K mainGlobals "need_work" = some (some (.ref f20))) (l20 : K.lookup f20 = some ⟨oc20, od20, .func (PySem.W.fnOf "need_work" "need_work" (defArgs s_need_work) (defBody s_need_work) (defScope s_need_work) .none kV20 dc20 pm20 an20 cd20 ct20), sl20⟩) (c20 : PySem.W.codeIn K cd20 "need_work" = true) (k20 : PySem.W.keepIn K (.ref f20) = true)
  (a21 : PySem.W.nsIn K mainGlobals "need_share" = some (some (.ref f21))) (l21 : K.lookup f21 = some ⟨oc21, od21, .func (PySem.W.fnOf "need_share" "need_share" (defArgs s_need_share) (defBody s_need_share) (defScope s_need_share) .none kV21 dc21 pm21 an21 cd21 ct21), sl21⟩) (c21 : PySem.W.codeIn K cd21 "need_share" = true) (k21 : PySem.W.keepIn K (.ref f21) = true)
  (a22 : PySem.W.nsIn K mainGlobals "need_state" = some (some (.ref f22))) (l22 : K.lookup f22 = some ⟨oc22, od22, .func (PySem.W.fnOf "need_state" "need_state" (defArgs s_need_state) (defBody s_need_state) (defScope s_need_state) .none kV22 dc22 pm22 an22 cd22 ct22), sl22⟩) (c22 : PySem.W.codeIn K cd22 "need_state" = true) (k22 : PySem.W.keepIn K (.ref f22) = true)
  (a23 : PySem.W.nsIn K mainGlobals "need_states" = some (some (.ref f23))) (l23 : K.lookup f23 = some ⟨oc23, od23, .func (PySem.W.fnOf "need_states" "need_states" (defArgs s_need_states) (defBody s_need_states) (defScope s_need_states) .none kV23 dc23 pm23 an23 cd23 ct23), sl23⟩) (c23 : PySem.W.codeIn K cd23 "need_states" = true) (k23 : PySem.W.keepIn K (.ref f23) = true)
  (a24 : PySem.W.nsIn K mainGlobals "going_on" = some (some (.ref f24))) (l24 : K.lookup f24 = some ⟨oc24, od24, .func (PySem.W.fnOf "going_on" "going_on" (defArgs s_going_on) (defBody s_going_on) (defScope s_going_on) .none kV24 dc24 pm24 an24 cd24 ct24), sl24⟩) (c24 : PySem.W.codeIn K cd24 "going_on" = true) (k24 : PySem.W.keepIn K (.ref f24) = true)
  (a25 : PySem.W.nsIn K mainGlobals "all_spent" = some (some (.ref f25))) (l25 : K.lookup f25 = some ⟨oc25, od25, .func (PySem.W.fnOf "all_spent" "all_spent" (defArgs s_all_spent) (defBody s_all_spent) (defScope s_all_spent) .none kV25 dc25 pm25 an25 cd25 ct25), sl25⟩) (c25 : PySem.W.codeIn K cd25 "all_spent" = true) (k25 : PySem.W.keepIn K (.ref f25) = true)
  (a26 : PySem.W.nsIn K mainGlobals "spent" = some (some (.ref f26))) (l26 : K.lookup f26 = some ⟨oc26, od26, .func (PySem.W.fnOf "spent" "spent" (defArgs s_spent) (defBody s_spent) (defScope s_spent) .none kV26 dc26 pm26 an26 cd26 ct26), sl26⟩) (c26 : PySem.W.codeIn K cd26 "spent" = true) (k26 : PySem.W.keepIn K (.ref f26) = true)
  (a27 : PySem.W.nsIn K mainGlobals "groups" = some (some (.ref f27))) (l27 : K.lookup f27 = some ⟨oc27, od27, .func (PySem.W.fnOf "groups" "groups" (defArgs s_groups) (defBody s_groups) (defScope s_groups) .none kV27 dc27 pm27 an27 cd27 ct27), sl27⟩) (c27 : PySem.W.codeIn K cd27 "groups" = true) (k27 : PySem.W.keepIn K (.ref f27) = true)
  (a28 : PySem.W.nsIn K mainGlobals "numbers" = some (some (.ref f28))) (l28 : K.lookup f28 = some ⟨oc28, od28, .func (PySem.W.fnOf "numbers" "numbers" (defArgs s_numbers) (defBody s_numbers) (defScope s_numbers) .none kV28 dc28 pm28 an28 cd28 ct28), sl28⟩) (c28 : PySem.W.codeIn K cd28 "numbers" = true) (k28 : PySem.W.keepIn K (.ref f28) = true)
  (a29 : PySem.W.nsIn K mainGlobals "_law_spread" = some (some (.ref f29))) (l29 : K.lookup f29 = some ⟨oc29, od29, .func (PySem.W.fnOf "_law_spread" "_law_spread" (defArgs s_law_spread) (defBody s_law_spread) (defScope s_law_spread) .none kV29 dc29 pm29 an29 cd29 ct29), sl29⟩) (c29 : PySem.W.codeIn K cd29 "_law_spread" = true) (k29 : PySem.W.keepIn K (.ref f29) = true)
  (a30 : PySem.W.nsIn K mainGlobals "_law_open" = some (some (.ref f30))) (l30 : K.lookup f30 = some ⟨oc30, od30, .func (PySem.W.fnOf "_law_open" "_law_open" (defArgs s_law_open) (defBody s_law_open) (defScope s_law_open) .none kV30 dc30 pm30 an30 cd30 ct30), sl30⟩) (c30 : PySem.W.codeIn K cd30 "_law_open" = true) (k30 : PySem.W.keepIn K (.ref f30) = true)
  (a31 : PySem.W.nsIn K mainGlobals "_law_take" = some (some (.ref f31))) (l31 : K.lookup f31 = some ⟨oc31, od31, .func (PySem.W.fnOf "_law_take" "_law_take" (defArgs s_law_take) (defBody s_law_take) (defScope s_law_take) .none kV31 dc31 pm31 an31 cd31 ct31), sl31⟩) (c31 : PySem.W.codeIn K cd31 "_law_take" = true) (k31 : PySem.W.keepIn K (.ref f31) = true)
  (a32 : PySem.W.nsIn K mainGlobals "_law_anew" = some (some (.ref f32))) (l32 : K.lookup f32 = some ⟨oc32, od32, .func (PySem.W.fnOf "_law_anew" "_law_anew" (defArgs s_law_anew) (defBody s_law_anew) (defScope s_law_anew) .none kV32 dc32 pm32 an32 cd32 ct32), sl32⟩) (c32 : PySem.W.codeIn K cd32 "_law_anew" = true) (k32 : PySem.W.keepIn K (.ref f32) = true)
  (a33 : PySem.W.nsIn K mainGlobals "_law_one" = some (some (.ref f33))) (l33 : K.lookup f33 = some ⟨oc33, od33, .func (PySem.W.fnOf "_law_one" "_law_one" (defArgs s_law_one) (defBody s_law_one) (defScope s_law_one) .none kV33 dc33 pm33 an33 cd33 ct33), sl33⟩) (c33 : PySem.W.codeIn K cd33 "_law_one" = true) (k33 : PySem.W.keepIn K (.ref f33) = true)
  (a34 : PySem.W.nsIn K mainGlobals "_law_divisor" = some (some (.ref f34))) (l34 : K.lookup f34 = some ⟨oc34, od34, .func (PySem.W.fnOf "_law_divisor" "_law_divisor" (defArgs s_law_divisor) (defBody s_law_divisor) (defScope s_law_divisor) .none kV34 dc34 pm34 an34 cd34 ct34), sl34⟩) (c34 : PySem.W.codeIn K cd34 "_law_divisor" = true) (k34 : PySem.W.keepIn K (.ref f34) = true)
  (a35 : PySem.W.nsIn K mainGlobals "_law_frac" = some (some (.ref f35))) (l35 : K.lookup f35 = some ⟨oc35, od35, .func (PySem.W.fnOf "_law_frac" "_law_frac" (defArgs s_law_frac) (defBody s_law_frac) (defScope s_law_frac) .none kV35 dc35 pm35 an35 cd35 ct35), sl35⟩) (c35 : PySem.W.codeIn K cd35 "_law_frac" = true) (k35 : PySem.W.keepIn K (.ref f35) = true)
  (a36 : PySem.W.nsIn K mainGlobals "_law_add" = some (some (.ref f36))) (l36 : K.lookup f36 = some ⟨oc36, od36, .func (PySem.W.fnOf "_law_add" "_law_add" (defArgs s_law_add) (defBody s_law_add) (defScope s_law_add) .none kV36 dc36 pm36 an36 cd36 ct36), sl36⟩) (c36 : PySem.W.codeIn K cd36 "_law_add" = true) (k36 : PySem.W.keepIn K (.ref f36) = true)
  (a37 : PySem.W.nsIn K mainGlobals "_law_mul" = some (some (.ref f37))) (l37 : K.lookup f37 = some ⟨oc37, od37, .func (PySem.W.fnOf "_law_mul" "_law_mul" (defArgs s_law_mul) (defBody s_law_mul) (defScope s_law_mul) .none kV37 dc37 pm37 an37 cd37 ct37), sl37⟩) (c37 : PySem.W.codeIn K cd37 "_law_mul" = true) (k37 : PySem.W.keepIn K (.ref f37) = true)
  (a38 : PySem.W.nsIn K mainGlobals "_law_is_less" = some (some (.ref f38))) (l38 : K.lookup f38 = some ⟨oc38, od38, .func (PySem.W.fnOf "_law_is_less" "_law_is_less" (defArgs s_law_is_less) (defBody s_law_is_less) (defScope s_law_is_less) .none kV38 dc38 pm38 an38 cd38 ct38), sl38⟩) (c38 : PySem.W.codeIn K cd38 "_law_is_less" = true) (k38 : PySem.W.keepIn K (.ref f38) = true)
  (a39 : PySem.W.nsIn K mainGlobals "_law_drawn_frac" = some (some (.ref f39))) (l39 : K.lookup f39 = some ⟨oc39, od39, .func (PySem.W.fnOf "_law_drawn_frac" "_law_drawn_frac" (defArgs s_law_drawn_frac) (defBody s_law_drawn_frac) (defScope s_law_drawn_frac) .none kV39 dc39 pm39 an39 cd39 ct39), sl39⟩) (c39 : PySem.W.codeIn K cd39 "_law_drawn_frac" = true) (k39 : PySem.W.keepIn K (.ref f39) = true)
  (a40 : PySem.W.nsIn K mainGlobals "_law_drawn_share" = some (some (.ref f40))) (l40 : K.lookup f40 = some ⟨oc40, od40, .func (PySem.W.fnOf "_law_drawn_share" "_law_drawn_share" (defArgs s_law_drawn_share) (defBody s_law_drawn_share) (defScope s_law_drawn_share) .none kV40 dc40 pm40 an40 cd40 ct40), sl40⟩) (c40 : PySem.W.codeIn K cd40 "_law_drawn_share" = true) (k40 : PySem.W.keepIn K (.ref f40) = true)
  (a41 : PySem.W.nsIn K mainGlobals "_law_drawn_work" = some (some (.ref f41))) (l41 : K.lookup f41 = some ⟨oc41, od41, .func (PySem.W.fnOf "_law_drawn_work" "_law_drawn_work" (defArgs s_law_drawn_work) (defBody s_law_drawn_work) (defScope s_law_drawn_work) .none kV41 dc41 pm41 an41 cd41 ct41), sl41⟩) (c41 : PySem.W.codeIn K cd41 "_law_drawn_work" = true) (k41 : PySem.W.keepIn K (.ref f41) = true)
  (a42 : PySem.W.nsIn K mainGlobals "_law_subsets" = some (some (.ref f42))) (l42 : K.lookup f42 = some ⟨oc42, od42, .func (PySem.W.fnOf "_law_subsets" "_law_subsets" (defArgs s_law_subsets) (defBody s_law_subsets) (defScope s_law_subsets) .none kV42 dc42 pm42 an42 cd42 ct42), sl42⟩) (c42 : PySem.W.codeIn K cd42 "_law_subsets" = true) (k42 : PySem.W.keepIn K (.ref f42) = true)
  (a43 : PySem.W.nsIn K mainGlobals "_law_by_steps" = some (some (.ref f43))) (l43 : K.lookup f43 = some ⟨oc43, od43, .func (PySem.W.fnOf "_law_by_steps" "_law_by_steps" (defArgs s_law_by_steps) (defBody s_law_by_steps) (defScope s_law_by_steps) .none kV43 dc43 pm43 an43 cd43 ct43), sl43⟩) (c43 : PySem.W.codeIn K cd43 "_law_by_steps" = true) (k43 : PySem.W.keepIn K (.ref f43) = true)
  (a44 : PySem.W.nsIn K mainGlobals "law" = some (some (.ref f44))) (l44 : K.lookup f44 = some ⟨oc44, od44, .func (PySem.W.fnOf "law" "law" (defArgs s_law) (defBody s_law) (defScope s_law) .none kV44 dc44 pm44 an44 cd44 ct44), sl44⟩) (c44 : PySem.W.codeIn K cd44 "law" = true) (k44 : PySem.W.keepIn K (.ref f44) = true)
  (z_abs : PySem.W.nsIn K mainGlobals "abs" = some none)
  (z_all : PySem.W.nsIn K mainGlobals "all" = some none)
  (z_bool : PySem.W.nsIn K mainGlobals "bool" = some none)
  (z_enumerate : PySem.W.nsIn K mainGlobals "enumerate" = some none)
  (z_int : PySem.W.nsIn K mainGlobals "int" = some none)
  (z_isinstance : PySem.W.nsIn K mainGlobals "isinstance" = some none)
  (z_len : PySem.W.nsIn K mainGlobals "len" = some none)
  (z_list : PySem.W.nsIn K mainGlobals "list" = some none)
  (z_range : PySem.W.nsIn K mainGlobals "range" = some none)
  (z_set : PySem.W.nsIn K mainGlobals "set" = some none)
  (z_sorted : PySem.W.nsIn K mainGlobals "sorted" = some none)
  (z_sum : PySem.W.nsIn K mainGlobals "sum" = some none)
  (z_tuple : PySem.W.nsIn K mainGlobals "tuple" = some none)
  (z_zip : PySem.W.nsIn K mainGlobals "zip" = some none)
  (m_gcd : PySem.W.nsIn K mainGlobals "gcd" = some (some (.builtin "math.gcd")))
  (m_lcm : PySem.W.nsIn K mainGlobals "lcm" = some (some (.builtin "math.lcm")))
  (aC_NoFraction : PySem.W.nsIn K mainGlobals "NoFraction" = some (some (.ref C_NoFraction)))
  (aC_NoShare : PySem.W.nsIn K mainGlobals "NoShare" = some (some (.ref C_NoShare)))
  (aC_NoState : PySem.W.nsIn K mainGlobals "NoState" = some (some (.ref C_NoState)))
  (aC_NoStates : PySem.W.nsIn K mainGlobals "NoStates" = some (some (.ref C_NoStates)))
  (aC_NoWork : PySem.W.nsIn K mainGlobals "NoWork" = some (some (.ref C_NoWork)))
  (kC_NoFraction : PySem.W.keepIn K (.ref C_NoFraction) = true) (xC_NoFraction : PySem.W.excIn K C_NoFraction [.type "ValueError", .type "Exception", .type "BaseException", .type "object"] "ValueError.__new__" = true) (bC_NoFraction : PySem.W.subIn K (.ref C_NoFraction) (.type "BaseException") = some true) (tC_NoFraction : PySem.W.typeIn K (.ref C_NoFraction) = some (.type "type"))
  (kC_NoShare : PySem.W.keepIn K (.ref C_NoShare) = true) (xC_NoShare : PySem.W.excIn K C_NoShare [.type "ValueError", .type "Exception", .type "BaseException", .type "object"] "ValueError.__new__" = true) (bC_NoShare : PySem.W.subIn K (.ref C_NoShare) (.type "BaseException") = some true) (tC_NoShare : PySem.W.typeIn K (.ref C_NoShare) = some (.type "type"))
  (kC_NoState : PySem.W.keepIn K (.ref C_NoState) = true) (xC_NoState : PySem.W.excIn K C_NoState [.type "ValueError", .type "Exception", .type "BaseException", .type "object"] "ValueError.__new__" = true) (bC_NoState : PySem.W.subIn K (.ref C_NoState) (.type "BaseException") = some true) (tC_NoState : PySem.W.typeIn K (.ref C_NoState) = some (.type "type"))
  (kC_NoStates : PySem.W.keepIn K (.ref C_NoStates) = true) (xC_NoStates : PySem.W.excIn K C_NoStates [.type "ValueError", .type "Exception", .type "BaseException", .type "object"] "ValueError.__new__" = true) (bC_NoStates : PySem.W.subIn K (.ref C_NoStates) (.type "BaseException") = some true) (tC_NoStates : PySem.W.typeIn K (.ref C_NoStates) = some (.type "type"))
  (kC_NoWork : PySem.W.keepIn K (.ref C_NoWork) = true) (xC_NoWork : PySem.W.excIn K C_NoWork [.type "ValueError", .type "Exception", .type "BaseException", .type "object"] "ValueError.__new__" = true) (bC_NoWork : PySem.W.subIn K (.ref C_NoWork) (.type "BaseException") = some true) (tC_NoWork : PySem.W.typeIn K (.ref C_NoWork) = some (.type "type"))
  {t_MOST_STATES : Value} (y_MOST_STATES : PySem.W.nsIn K mainGlobals "MOST_STATES" = some (some t_MOST_STATES)) (r_MOST_STATES : RelV (.int 6) t_MOST_STATES) :
  ∃ (cs : List (Addr × Addr)) (fd : FuncData) (xm : List Addr), (∀ p ∈ cs, ∃ y ∈ (["is_work"] : List Str), PySem.W.tabIn K y = some p) ∧ (∀ (s : Shared) (v : Value), BindsTo s fd ⟨[v], []⟩ [("script", v)]) ∧ ∀ base : Heap, K.In base → base.Ns mainGlobals mg → (∀ p ∈ cs, GxR.TabB base mg p.1 p.2) → FnG l.prog w K mg base 12 fa fd ["script"] (@spF ⟨cs.map (·.2), some w⟩ K xm f_law 1) := by
  have e := hfa.symm.trans (PySem.W.mg_of X G a44)
  cases e
  have F0 := fun_mk (st := s_is_whole) l0 c0 k0
  have b0 := F0.binds (ps := ["value"]) fun _ _ _ _ _ _ us hl => match us, hl with | [_], _ => rfl
  have F1 := fun_mk (st := s_is_fraction) l1 c1 k1
  have b1 := F1.binds (ps := ["value"]) fun _ _ _ _ _ _ us hl => match us, hl with | [_], _ => rfl
  have F2 := fun_mk (st := s_need_fraction) l2 c2 k2
  have b2 := F2.binds (ps := ["value"]) fun _ _ _ _ _ _ us hl => match us, hl with | [_], _ => rfl
  have F3 := fun_mk (st := s_fraction) l3 c3 k3
  have b3 := F3.binds (ps := ["top", "bottom"]) fun _ _ _ _ _ _ us hl => match us, hl with | [_, _], _ => rfl
  have F4 := fun_mk (st := s_plus) l4 c4 k4
  have b4 := F4.binds (ps := ["one", "other"]) fun _ _ _ _ _ _ us hl => match us, hl with | [_, _], _ => rfl
  have F5 := fun_mk (st := s_compare) l5 c5 k5
  have b5 := F5.binds (ps := ["one", "other"]) fun _ _ _ _ _ _ us hl => match us, hl with | [_, _], _ => rfl
  have F6 := fun_mk (st := s_over) l6 c6 k6
  have b6 := F6.binds (ps := ["one", "other"]) fun _ _ _ _ _ _ us hl => match us, hl with | [_, _], _ => rfl
  have F7 := fun_mk (st := s_greatest) l7 c7 k7
  have b7 := F7.binds (ps := ["values"]) fun _ _ _ _ _ _ us hl => match us, hl with | [_], _ => rfl
  have F8 := fun_mk (st := s_common_bottom) l8 c8 k8
  have b8 := F8.binds (ps := ["values"]) fun _ _ _ _ _ _ us hl => match us, hl with | [_], _ => rfl
  have F9 := fun_mk (st := s_equation) l9 c9 k9
  have b9 := F9.binds (ps := ["share", "place", "pay", "moves", "many"]) fun _ _ _ _ _ _ us hl => match us, hl with | [_, _, _, _, _], _ => rfl
  have F10 := fun_mk (st := s_without) l10 c10 k10
  have b10 := F10.binds (ps := ["row", "chosen", "place", "before"]) fun _ _ _ _ _ _ us hl => match us, hl with | [_, _, _, _], _ => rfl
  have F11 := fun_mk (st := s_each_alone) l11 c11 k11
  have b11 := F11.binds (ps := ["equations"]) fun _ _ _ _ _ _ us hl => match us, hl with | [_], _ => rfl
  have F12 := fun_mk (st := s_sums) l12 c12 k12
  have b12 := F12.binds (ps := ["share", "pays", "moves"]) fun _ _ _ _ _ _ us hl => match us, hl with | [_, _, _], _ => rfl
  have F13 := fun_mk (st := s_is_share) l13 c13 k13
  have b13 := F13.binds (ps := ["value"]) fun _ _ _ _ _ _ us hl => match us, hl with | [_], _ => rfl
  have F14 := fun_mk (st := s_is_move) l14 c14 k14
  have b14 := F14.binds (ps := ["move", "before", "many"]) fun _ _ _ _ _ _ us hl => match us, hl with | [_, _, _], _ => rfl
  have F15 := fun_mk (st := s_are_moves) l15 c15 k15
  have b15 := F15.binds (ps := ["moves", "many"]) fun _ _ _ _ _ _ us hl => match us, hl with | [_, _], _ => rfl
  have F16 := fun_mk (st := s_is_row) l16 c16 k16
  have b16 := F16.binds (ps := ["row", "many"]) fun _ _ _ _ _ _ us hl => match us, hl with | [_, _], _ => rfl
  have F17 := fun_mk (st := s_is_work) l17 c17 k17
  have b17 := F17.binds (ps := ["value"]) fun _ _ _ _ _ _ us hl => match us, hl with | [_], _ => rfl
  have F18 := fun_mk (st := s_is_state) l18 c18 k18
  have b18 := F18.binds (ps := ["work", "value"]) fun _ _ _ _ _ _ us hl => match us, hl with | [_, _], _ => rfl
  have F19 := fun_mk (st := s_are_states) l19 c19 k19
  have b19 := F19.binds (ps := ["work", "value"]) fun _ _ _ _ _ _ us hl => match us, hl with | [_, _], _ => rfl
  have F20 := fun_mk (st := s_need_work) l20 c20 k20
  have b20 := F20.binds (ps := ["value"]) fun _ _ _ _ _ _ us hl => match us, hl with | [_], _ => rfl
  have F21 := fun_mk (st := s_need_share) l21 c21 k21
  have b21 := F21.binds (ps := ["value"]) fun _ _ _ _ _ _ us hl => match us, hl with | [_], _ => rfl
  have F22 := fun_mk (st := s_need_state) l22 c22 k22
  have b22 := F22.binds (ps := ["work", "value"]) fun _ _ _ _ _ _ us hl => match us, hl with | [_, _], _ => rfl
  have F23 := fun_mk (st := s_need_states) l23 c23 k23
  have b23 := F23.binds (ps := ["work", "value"]) fun _ _ _ _ _ _ us hl => match us, hl with | [_, _], _ => rfl
  have F24 := fun_mk (st := s_going_on) l24 c24 k24
  have b24 := F24.binds (ps := ["work", "share", "brought", "states"]) fun _ _ _ _ _ _ us hl => match us, hl with | [_, _, _, _], _ => rfl
  have F25 := fun_mk (st := s_all_spent) l25 c25 k25
  have b25 := F25.binds (ps := ["work", "share", "states"]) fun _ _ _ _ _ _ us hl => match us, hl with | [_, _, _], _ => rfl
  have F26 := fun_mk (st := s_spent) l26 c26 k26
  have b26 := F26.binds (ps := ["work", "share", "state", "states"]) fun _ _ _ _ _ _ us hl => match us, hl with | [_, _, _, _], _ => rfl
  have F27 := fun_mk (st := s_groups) l27 c27 k27
  have b27 := F27.binds (ps := ["work", "share"]) fun _ _ _ _ _ _ us hl => match us, hl with | [_, _], _ => rfl
  have F28 := fun_mk (st := s_numbers) l28 c28 k28
  have b28 := F28.binds (ps := ["work", "share"]) fun _ _ _ _ _ _ us hl => match us, hl with | [_, _], _ => rfl
  have F29 := fun_mk (st := s_law_spread) l29 c29 k29
  have b29 := F29.binds (ps := ["cell", "at"]) fun _ _ _ _ _ _ us hl => match us, hl with | [_, _], _ => rfl
  have F30 := fun_mk (st := s_law_open) l30 c30 k30
  have b30 := F30.binds (ps := ["script"]) fun _ _ _ _ _ _ us hl => match us, hl with | [_], _ => rfl
  have F31 := fun_mk (st := s_law_take) l31 c31 k31
  have b31 := F31.binds (ps := ["pen", "many"]) fun _ _ _ _ _ _ us hl => match us, hl with | [_, _], _ => rfl
  have F32 := fun_mk (st := s_law_anew) l32 c32 k32
  have b32 := F32.binds (ps := ["pen"]) fun _ _ _ _ _ _ us hl => match us, hl with | [_], _ => rfl
  have F33 := fun_mk (st := s_law_one) l33 c33 k33
  have b33 := F33.binds (ps := ["pen", "some"]) fun _ _ _ _ _ _ us hl => match us, hl with | [_, _], _ => rfl
  have F34 := fun_mk (st := s_law_divisor) l34 c34 k34
  have b34 := F34.binds (ps := ["one", "other"]) fun _ _ _ _ _ _ us hl => match us, hl with | [_, _], _ => rfl
  have F35 := fun_mk (st := s_law_frac) l35 c35 k35
  have b35 := F35.binds (ps := ["top", "bottom"]) fun _ _ _ _ _ _ us hl => match us, hl with | [_, _], _ => rfl
  have F36 := fun_mk (st := s_law_add) l36 c36 k36
  have b36 := F36.binds (ps := ["one", "other"]) fun _ _ _ _ _ _ us hl => match us, hl with | [_, _], _ => rfl
  have F37 := fun_mk (st := s_law_mul) l37 c37 k37
  have b37 := F37.binds (ps := ["one", "other"]) fun _ _ _ _ _ _ us hl => match us, hl with | [_, _], _ => rfl
  have F38 := fun_mk (st := s_law_is_less) l38 c38 k38
  have b38 := F38.binds (ps := ["one", "other"]) fun _ _ _ _ _ _ us hl => match us, hl with | [_, _], _ => rfl
  have F39 := fun_mk (st := s_law_drawn_frac) l39 c39 k39
  have b39 := F39.binds (ps := ["pen", "most"]) fun _ _ _ _ _ _ us hl => match us, hl with | [_, _], _ => rfl
  have F40 := fun_mk (st := s_law_drawn_share) l40 c40 k40
  have b40 := F40.binds (ps := ["pen"]) fun _ _ _ _ _ _ us hl => match us, hl with | [_], _ => rfl
  have F41 := fun_mk (st := s_law_drawn_work) l41 c41 k41
  have b41 := F41.binds (ps := ["pen", "many", "wide"]) fun _ _ _ _ _ _ us hl => match us, hl with | [_, _, _], _ => rfl
  have F42 := fun_mk (st := s_law_subsets) l42 c42 k42
  have b42 := F42.binds (ps := ["many"]) fun _ _ _ _ _ _ us hl => match us, hl with | [_], _ => rfl
  have F43 := fun_mk (st := s_law_by_steps) l43 c43 k43
  have b43 := F43.binds (ps := ["work", "share", "sets"]) fun _ _ _ _ _ _ us hl => match us, hl with | [_, _, _], _ => rfl
  refine ⟨[(cc17, T17)], PySem.W.fnOf "law" "law" (defArgs s_law) (defBody s_law) (defScope s_law) .none kV44 dc44 pm44 an44 cd44 ct44, [C_NoFraction, C_NoShare, C_NoState, C_NoStates, C_NoWork], fun p hp => by
    simp only [List.mem_cons, List.not_mem_nil, or_false] at hp
    rcases hp with rfl
    · exact ⟨"is_work", by simp, t17⟩, fun s v => .of_eq rfl, fun base _ _ hB => ?_⟩
  letI : Tabs := ⟨([(cc17, T17)] : List (Addr × Addr)).map (·.2), some w⟩
  have T : Txt w K mg [C_NoFraction, C_NoShare, C_NoState, C_NoStates, C_NoWork] := {
    wd := rfl
    n_abs := PySem.W.mg_none_of X G z_abs
    n_all := PySem.W.mg_none_of X G z_all
    n_bool := PySem.W.mg_none_of X G z_bool
    n_enumerate := PySem.W.mg_none_of X G z_enumerate
    n_int := PySem.W.mg_none_of X G z_int
    n_isinstance := PySem.W.mg_none_of X G z_isinstance
    n_len := PySem.W.mg_none_of X G z_len
    n_list := PySem.W.mg_none_of X G z_list
    n_range := PySem.W.mg_none_of X G z_range
    n_set := PySem.W.mg_none_of X G z_set
    n_sorted := PySem.W.mg_none_of X G z_sorted
    n_sum := PySem.W.mg_none_of X G z_sum
    n_tuple := PySem.W.mg_none_of X G z_tuple
    n_zip := PySem.W.mg_none_of X G z_zip
    m_gcd := PySem.W.mg_of X G m_gcd
    m_lcm := PySem.W.mg_of X G m_lcm
    x_NoFraction := ⟨C_NoFraction, rfl, PySem.W.mg_of X G aC_NoFraction, kC_NoFraction, xC_NoFraction, bC_NoFraction, tC_NoFraction⟩
    x_NoShare := ⟨C_NoShare, rfl, PySem.W.mg_of X G aC_NoShare, kC_NoShare, xC_NoShare, bC_NoShare, tC_NoShare⟩
    x_NoState := ⟨C_NoState, rfl, PySem.W.mg_of X G aC_NoState, kC_NoState, xC_NoState, bC_NoState, tC_NoState⟩
    x_NoStates := ⟨C_NoStates, rfl, PySem.W.mg_of X G aC_NoStates, kC_NoStates, xC_NoStates, bC_NoStates, tC_NoStates⟩
    x_NoWork := ⟨C_NoWork, rfl, PySem.W.mg_of X G aC_NoWork, kC_NoWork, xC_NoWork, bC_NoWork, tC_NoWork⟩
    k_MOST_STATES := ⟨_, PySem.W.mg_of X G y_MOST_STATES, r_MOST_STATES⟩
  }
  have d_is_whole : DefAt l.prog w K mg base _ 1 "is_whole" ["value"] f_is_whole := ⟨f0, _, ok_is_whole F0 T, PySem.W.mg_of X G a0, k0, b0⟩
  have d_is_fraction : DefAt l.prog w K mg base _ 2 "is_fraction" ["value"] f_is_fraction := ⟨f1, _, ok_is_fraction F1 T d_is_whole, PySem.W.mg_of X G a1, k1, b1⟩
  have d_need_fraction : DefAt l.prog w K mg base _ 3 "need_fraction" ["value"] f_need_fraction := ⟨f2, _, ok_need_fraction F2 T d_is_fraction, PySem.W.mg_of X G a2, k2, b2⟩
  have d_fraction : DefAt l.prog w K mg base _ 2 "fraction" ["top", "bottom"] f_fraction := ⟨f3, _, ok_fraction F3 T d_is_whole, PySem.W.mg_of X G a3, k3, b3⟩
  have d_plus : DefAt l.prog w K mg base _ 4 "plus" ["one", "other"] f_plus := ⟨f4, _, ok_plus F4 T d_need_fraction d_fraction, PySem.W.mg_of X G a4, k4, b4⟩
  have d_is_move : DefAt l.prog w K mg base _ 3 "_is_move" ["move", "before", "many"] f_is_move := ⟨f14, _, ok_is_move F14 T d_is_whole d_is_fraction, PySem.W.mg_of X G a14, k14, b14⟩
  have d_are_moves : DefAt l.prog w K mg base _ 5 "_are_moves" ["moves", "many"] f_are_moves := ⟨f15, _, ok_are_moves F15 T d_plus d_is_move, PySem.W.mg_of X G a15, k15, b15⟩
  have d_is_row : DefAt l.prog w K mg base _ 6 "_is_row" ["row", "many"] f_is_row := ⟨f16, _, ok_is_row F16 T d_is_fraction d_are_moves, PySem.W.mg_of X G a16, k16, b16⟩
  have d_is_work : DefAt l.prog w K mg base _ 8 "is_work" ["value"] f_is_work := ⟨f17, _, ok_is_work (funT_mk (st := s_is_work) l17 c17) (hB (cc17, T17) (by simp)) (by show T17 ∈ [T17]; simp) T d_is_row, PySem.W.mg_of X G a17, k17, b17⟩
  have d_need_work : DefAt l.prog w K mg base _ 9 "need_work" ["value"] f_need_work := ⟨f20, _, ok_need_work F20 T d_is_work, PySem.W.mg_of X G a20, k20, b20⟩
  have d_is_share : DefAt l.prog w K mg base _ 3 "is_share" ["value"] f_is_share := ⟨f13, _, ok_is_share F13 T d_is_fraction, PySem.W.mg_of X G a13, k13, b13⟩
  have d_need_share : DefAt l.prog w K mg base _ 4 "need_share" ["value"] f_need_share := ⟨f21, _, ok_need_share F21 T d_is_share, PySem.W.mg_of X G a21, k21, b21⟩
  have d_over : DefAt l.prog w K mg base _ 4 "over" ["one", "other"] f_over := ⟨f6, _, ok_over F6 T d_need_fraction d_fraction, PySem.W.mg_of X G a6, k6, b6⟩
  have d_compare : DefAt l.prog w K mg base _ 4 "compare" ["one", "other"] f_compare := ⟨f5, _, ok_compare F5 T d_need_fraction, PySem.W.mg_of X G a5, k5, b5⟩
  have d_greatest : DefAt l.prog w K mg base _ 5 "greatest" ["values"] f_greatest := ⟨f7, _, ok_greatest F7 T d_compare, PySem.W.mg_of X G a7, k7, b7⟩
  have d_common_bottom : DefAt l.prog w K mg base _ 1 "common_bottom" ["values"] f_common_bottom := ⟨f8, _, ok_common_bottom F8 T, PySem.W.mg_of X G a8, k8, b8⟩
  have d_equation : DefAt l.prog w K mg base _ 2 "_equation" ["share", "place", "pay", "moves", "many"] f_equation := ⟨f9, _, ok_equation F9 T d_common_bottom, PySem.W.mg_of X G a9, k9, b9⟩
  have d_without : DefAt l.prog w K mg base _ 1 "_without" ["row", "chosen", "place", "before"] f_without := ⟨f10, _, ok_without F10 T, PySem.W.mg_of X G a10, k10, b10⟩
  have d_each_alone : DefAt l.prog w K mg base _ 2 "_each_alone" ["equations"] f_each_alone := ⟨f11, _, ok_each_alone F11 T d_without, PySem.W.mg_of X G a11, k11, b11⟩
  have d_sums : DefAt l.prog w K mg base _ 3 "sums" ["share", "pays", "moves"] f_sums := ⟨f12, _, ok_sums F12 T d_fraction d_common_bottom d_equation d_each_alone, PySem.W.mg_of X G a12, k12, b12⟩
  have d_going_on : DefAt l.prog w K mg base _ 4 "going_on" ["work", "share", "brought", "states"] f_going_on := ⟨f24, _, ok_going_on F24 T d_sums, PySem.W.mg_of X G a24, k24, b24⟩
  have d_all_spent : DefAt l.prog w K mg base _ 5 "all_spent" ["work", "share", "states"] f_all_spent := ⟨f25, _, ok_all_spent F25 T d_going_on, PySem.W.mg_of X G a25, k25, b25⟩
  have d_groups : DefAt l.prog w K mg base _ 6 "groups" ["work", "share"] f_groups := ⟨f27, _, ok_groups F27 T d_over d_greatest d_all_spent, PySem.W.mg_of X G a27, k27, b27⟩
  have d_numbers : DefAt l.prog w K mg base _ 10 "numbers" ["work", "share"] f_numbers := ⟨f28, _, ok_numbers F28 T d_need_work d_need_share d_groups, PySem.W.mg_of X G a28, k28, b28⟩
  have d_law_open : DefAt l.prog w K mg base _ 1 "_law_open" ["script"] f_law_open := ⟨f30, _, ok_law_open F30 T, PySem.W.mg_of X G a30, k30, b30⟩
  have d_law_spread : DefAt l.prog w K mg base _ 1 "_law_spread" ["cell", "at"] f_law_spread := ⟨f29, _, ok_law_spread F29 T, PySem.W.mg_of X G a29, k29, b29⟩
  have d_law_take : DefAt l.prog w K mg base _ 2 "_law_take" ["pen", "many"] f_law_take := ⟨f31, _, ok_law_take F31 T d_law_spread, PySem.W.mg_of X G a31, k31, b31⟩
  have d_law_anew : DefAt l.prog w K mg base _ 1 "_law_anew" ["pen"] f_law_anew := ⟨f32, _, ok_law_anew F32 T, PySem.W.mg_of X G a32, k32, b32⟩
  have d_law_one : DefAt l.prog w K mg base _ 3 "_law_one" ["pen", "some"] f_law_one := ⟨f33, _, ok_law_one F33 T d_law_take, PySem.W.mg_of X G a33, k33, b33⟩
  have d_law_divisor : DefAt l.prog w K mg base _ 1 "_law_divisor" ["one", "other"] f_law_divisor := ⟨f34, _, ok_law_divisor F34 T, PySem.W.mg_of X G a34, k34, b34⟩
  have d_law_frac : DefAt l.prog w K mg base _ 2 "_law_frac" ["top", "bottom"] f_law_frac := ⟨f35, _, ok_law_frac F35 T d_law_divisor, PySem.W.mg_of X G a35, k35, b35⟩
  have d_law_mul : DefAt l.prog w K mg base _ 3 "_law_mul" ["one", "other"] f_law_mul := ⟨f37, _, ok_law_mul F37 T d_law_frac, PySem.W.mg_of X G a37, k37, b37⟩
  have d_law_is_less : DefAt l.prog w K mg base _ 1 "_law_is_less" ["one", "other"] f_law_is_less := ⟨f38, _, ok_law_is_less F38 T, PySem.W.mg_of X G a38, k38, b38⟩
  have d_law_drawn_share : DefAt l.prog w K mg base _ 4 "_law_drawn_share" ["pen"] f_law_drawn_share := ⟨f40, _, ok_law_drawn_share F40 T d_law_one, PySem.W.mg_of X G a40, k40, b40⟩
  have d_law_drawn_frac : DefAt l.prog w K mg base _ 4 "_law_drawn_frac" ["pen", "most"] f_law_drawn_frac := ⟨f39, _, ok_law_drawn_frac F39 T d_law_take d_law_one d_law_frac, PySem.W.mg_of X G a39, k39, b39⟩
  have d_law_drawn_work : DefAt l.prog w K mg base _ 5 "_law_drawn_work" ["pen", "many", "wide"] f_law_drawn_work := ⟨f41, _, ok_law_drawn_work F41 T d_law_take d_law_one d_law_frac d_law_drawn_frac, PySem.W.mg_of X G a41, k41, b41⟩
  have d_law_subsets : DefAt l.prog w K mg base _ 1 "_law_subsets" ["many"] f_law_subsets := ⟨f42, _, ok_law_subsets F42 T, PySem.W.mg_of X G a42, k42, b42⟩
  have d_is_state : DefAt l.prog w K mg base _ 2 "is_state" ["work", "value"] f_is_state := ⟨f18, _, ok_is_state F18 T d_is_whole, PySem.W.mg_of X G a18, k18, b18⟩
  have d_need_state : DefAt l.prog w K mg base _ 3 "need_state" ["work", "value"] f_need_state := ⟨f22, _, ok_need_state F22 T d_is_state, PySem.W.mg_of X G a22, k22, b22⟩
  have d_are_states : DefAt l.prog w K mg base _ 3 "are_states" ["work", "value"] f_are_states := ⟨f19, _, ok_are_states F19 T d_is_state, PySem.W.mg_of X G a19, k19, b19⟩
  have d_need_states : DefAt l.prog w K mg base _ 4 "need_states" ["work", "value"] f_need_states := ⟨f23, _, ok_need_states F23 T d_are_states, PySem.W.mg_of X G a23, k23, b23⟩
  have d_spent : DefAt l.prog w K mg base _ 10 "spent" ["work", "share", "state", "states"] f_spent := ⟨f26, _, ok_spent F26 T d_need_work d_need_share d_need_state d_need_states d_all_spent, PySem.W.mg_of X G a26, k26, b26⟩
  have d_law_add : DefAt l.prog w K mg base _ 3 "_law_add" ["one", "other"] f_law_add := ⟨f36, _, ok_law_add F36 T d_law_frac, PySem.W.mg_of X G a36, k36, b36⟩
  have d_law_by_steps : DefAt l.prog w K mg base _ 11 "_law_by_steps" ["work", "share", "sets"] f_law_by_steps := ⟨f43, _, ok_law_by_steps F43 T d_spent d_law_add d_law_mul, PySem.W.mg_of X G a43, k43, b43⟩
  exact ok_law (fun_mk (st := s_law) l44 c44 k44) T d_numbers d_law_open d_law_take d_law_anew d_law_one d_law_mul d_law_is_less d_law_drawn_share d_law_drawn_work d_law_subsets d_law_by_steps
end Lw
open PySem PySem.W PyProof.Rows in
set_option maxRecDepth 100000 in
set_option maxHeartbeats 0 in
theorem PySem.Challenge.cw_nextwork_k13_whole_no_way_of_stopping_be_holds : PySem.Challenge.rw_nextwork_k13_whole_no_way_of_stopping_be.Holds := by
  w_on; o_law; k_head; (case hw => w_witness2)
  k_fill
  refine Ev.walkG (l := PySem.Challenge.rw_nextwork_k13_whole_no_way_of_stopping_be) (F := Lw.f_law) (k := 12) (x := "script") ["is_work"] (by first | rfl | decide +kernel) (fun _ => by first | kernel_rfl | rfl) rfl rfl ⟨rfl, by decide, by decide⟩ (fun w h Y => PySem.W.kIn_of Y) ?F Lw.law_true
  case F =>
    intro w mg fa h KX G hmg
    refine' Lw.all_mk (l := PySem.Challenge.rw_nextwork_k13_whole_no_way_of_stopping_be) rfl KX G hmg ?a0 ?l0 ?c0 ?k0 ?a1 ?l1 ?c1 ?k1 ?a2 ?l2 ?c2 ?k2 ?a3 ?l3 ?c3 ?k3 ?a4 ?l4 ?c4 ?k4 ?a5 ?l5 ?c5 ?k5 ?a6 ?l6 ?c6 ?k6 ?a7 ?l7 ?c7 ?k7 ?a8 ?l8 ?c8 ?k8 ?a9 ?l9 ?c9 ?k9 ?a10 ?l10 ?c10 ?k10 ?a11 ?l11 ?c11 ?k11 ?a12 ?l12 ?c12 ?k12 ?a13 ?l13 ?c13 ?k13 ?a14 ?l14 ?c14 ?k14 ?a15 ?l15 ?c15 ?k15 ?a16 ?l16 ?c16 ?k16 ?a17 ?l17 ?c17 ?k17 ?t17 ?a18 ?l18 ?c18 ?k18 ?a19 ?l19 ?c19 ?k19 ?a20 ?l20 ?c20 ?k20 ?a21 ?l21 ?c21 ?k21 ?a22 ?l22 ?c22 ?k22 ?a23 ?l23 ?c23 ?k23 ?a24 ?l24 ?c24 ?k24 ?a25 ?l25 ?c25 ?k25 ?a26 ?l26 ?c26 ?k26 ?a27 ?l27 ?c27 ?k27 ?a28 ?l28 ?c28 ?k28 ?a29 ?l29 ?c29 ?k29 ?a30 ?l30 ?c30 ?k30 ?a31 ?l31 ?c31 ?k31 ?a32 ?l32 ?c32 ?k32 ?a33 ?l33 ?c33 ?k33 ?a34 ?l34 ?c34 ?k34 ?a35 ?l35 ?c35 ?k35 ?a36 ?l36 ?c36 ?k36 ?a37 ?l37 ?c37 ?k37 ?a38 ?l38 ?c38 ?k38 ?a39 ?l39 ?c39 ?k39 ?a40 ?l40 ?c40 ?k40 ?a41 ?l41 ?c41 ?k41 ?a42 ?l42 ?c42 ?k42 ?a43 ?l43 ?c43 ?k43 ?a44 ?l44 ?c44 ?k44 ?z_abs ?z_all ?z_bool ?z_enumerate ?z_int ?z_isinstance ?z_len ?z_list ?z_range ?z_set ?z_sorted ?z_sum ?z_tuple ?z_zip ?m_gcd ?m_lcm ?aC_NoFraction ?aC_NoShare ?aC_NoState ?aC_NoStates ?aC_NoWork ?kC_NoFraction ?xC_NoFraction ?bC_NoFraction ?tC_NoFraction ?kC_NoShare ?xC_NoShare ?bC_NoShare ?tC_NoShare ?kC_NoState ?xC_NoState ?bC_NoState ?tC_NoState ?kC_NoStates ?xC_NoStates ?bC_NoStates ?tC_NoStates ?kC_NoWork ?xC_NoWork ?bC_NoWork ?tC_NoWork ?y_MOST_STATES ?r_MOST_STATES
    (case a0 => k_is)
    (case l0 => k_is)
    (case c0 => k_is)
    (case k0 => k_is)
    (case a1 => k_is)
    (case l1 => k_is)
    (case c1 => k_is)
    (case k1 => k_is)
    (case a2 => k_is)
    (case l2 => k_is)
    (case c2 => k_is)
    (case k2 => k_is)
    (case a3 => k_is)
    (case l3 => k_is)
    (case c3 => k_is)
    (case k3 => k_is)
    (case a4 => k_is)
    (case l4 => k_is)
    (case c4 => k_is)
    (case k4 => k_is)
    (case a5 => k_is)
    (case l5 => k_is)
    (case c5 => k_is)
    (case k5 => k_is)
    (case a6 => k_is)
    (case l6 => k_is)
    (case c6 => k_is)
    (case k6 => k_is)
    (case a7 => k_is)
    (case l7 => k_is)
    (case c7 => k_is)
    (case k7 => k_is)
    (case a8 => k_is)
    (case l8 => k_is)
    (case c8 => k_is)
    (case k8 => k_is)
    (case a9 => k_is)
    (case l9 => k_is)
    (case c9 => k_is)
    (case k9 => k_is)
    (case a10 => k_is)
    (case l10 => k_is)
    (case c10 => k_is)
    (case k10 => k_is)
    (case a11 => k_is)
    (case l11 => k_is)
    (case c11 => k_is)
    (case k11 => k_is)
    (case a12 => k_is)
    (case l12 => k_is)
    (case c12 => k_is)
    (case k12 => k_is)
    (case a13 => k_is)
    (case l13 => k_is)
    (case c13 => k_is)
    (case k13 => k_is)
    (case a14 => k_is)
    (case l14 => k_is)
    (case c14 => k_is)
    (case k14 => k_is)
    (case a15 => k_is)
    (case l15 => k_is)
    (case c15 => k_is)
    (case k15 => k_is)
    (case a16 => k_is)
    (case l16 => k_is)
    (case c16 => k_is)
    (case k16 => k_is)
    (case a17 => k_is)
    (case l17 => k_is)
    (case c17 => k_is)
    (case k17 => k_is)
    (case t17 => first | exact rfl | with_unfolding_all exact rfl)
    (case a18 => k_is)
    (case l18 => k_is)
    (case c18 => k_is)
    (case k18 => k_is)
    (case a19 => k_is)
    (case l19 => k_is)
    (case c19 => k_is)
    (case k19 => k_is)
    (case a20 => k_is)
    (case l20 => k_is)
    (case c20 => k_is)
    (case k20 => k_is)
    (case a21 => k_is)
    (case l21 => k_is)
    (case c21 => k_is)
    (case k21 => k_is)
    (case a22 => k_is)
    (case l22 => k_is)
    (case c22 => k_is)
    (case k22 => k_is)
    (case a23 => k_is)
    (case l23 => k_is)
    (case c23 => k_is)
    (case k23 => k_is)
    (case a24 => k_is)
    (case l24 => k_is)
    (case c24 => k_is)
    (case k24 => k_is)
    (case a25 => k_is)
    (case l25 => k_is)
    (case c25 => k_is)
    (case k25 => k_is)
    (case a26 => k_is)
    (case l26 => k_is)
    (case c26 => k_is)
    (case k26 => k_is)
    (case a27 => k_is)
    (case l27 => k_is)
    (case c27 => k_is)
    (case k27 => k_is)
    (case a28 => k_is)
    (case l28 => k_is)
    (case c28 => k_is)
    (case k28 => k_is)
    (case a29 => k_is)
    (case l29 => k_is)
    (case c29 => k_is)
    (case k29 => k_is)
    (case a30 => k_is)
    (case l30 => k_is)
    (case c30 => k_is)
    (case k30 => k_is)
    (case a31 => k_is)
    (case l31 => k_is)
    (case c31 => k_is)
    (case k31 => k_is)
    (case a32 => k_is)
    (case l32 => k_is)
    (case c32 => k_is)
    (case k32 => k_is)
    (case a33 => k_is)
    (case l33 => k_is)
    (case c33 => k_is)
    (case k33 => k_is)
    (case a34 => k_is)
    (case l34 => k_is)
    (case c34 => k_is)
    (case k34 => k_is)
    (case a35 => k_is)
    (case l35 => k_is)
    (case c35 => k_is)
    (case k35 => k_is)
    (case a36 => k_is)
    (case l36 => k_is)
    (case c36 => k_is)
    (case k36 => k_is)
    (case a37 => k_is)
    (case l37 => k_is)
    (case c37 => k_is)
    (case k37 => k_is)
    (case a38 => k_is)
    (case l38 => k_is)
    (case c38 => k_is)
    (case k38 => k_is)
    (case a39 => k_is)
    (case l39 => k_is)
    (case c39 => k_is)
    (case k39 => k_is)
    (case a40 => k_is)
    (case l40 => k_is)
    (case c40 => k_is)
    (case k40 => k_is)
    (case a41 => k_is)
    (case l41 => k_is)
    (case c41 => k_is)
    (case k41 => k_is)
    (case a42 => k_is)
    (case l42 => k_is)
    (case c42 => k_is)
    (case k42 => k_is)
    (case a43 => k_is)
    (case l43 => k_is)
    (case c43 => k_is)
    (case k43 => k_is)
    (case a44 => k_is)
    (case l44 => k_is)
    (case c44 => k_is)
    (case k44 => k_is)
    (case z_abs => k_is)
    (case z_all => k_is)
    (case z_bool => k_is)
    (case z_enumerate => k_is)
    (case z_int => k_is)
    (case z_isinstance => k_is)
    (case z_len => k_is)
    (case z_list => k_is)
    (case z_range => k_is)
    (case z_set => k_is)
    (case z_sorted => k_is)
    (case z_sum => k_is)
    (case z_tuple => k_is)
    (case z_zip => k_is)
    (case m_gcd => k_is)
    (case m_lcm => k_is)
    (case aC_NoFraction => k_is)
    (case aC_NoShare => k_is)
    (case aC_NoState => k_is)
    (case aC_NoStates => k_is)
    (case aC_NoWork => k_is)
    (case kC_NoFraction => k_is)
    (case xC_NoFraction => k_exc)
    (case bC_NoFraction => k_is)
    (case tC_NoFraction => k_is)
    (case kC_NoShare => k_is)
    (case xC_NoShare => k_exc)
    (case bC_NoShare => k_is)
    (case tC_NoShare => k_is)
    (case kC_NoState => k_is)
    (case xC_NoState => k_exc)
    (case bC_NoState => k_is)
    (case tC_NoState => k_is)
    (case kC_NoStates => k_is)
    (case xC_NoStates => k_exc)
    (case bC_NoStates => k_is)
    (case tC_NoStates => k_is)
    (case kC_NoWork => k_is)
    (case xC_NoWork => k_exc)
    (case bC_NoWork => k_is)
    (case tC_NoWork => k_is)
    (case y_MOST_STATES => k_is)
    (case r_MOST_STATES => exact ⟨_, rfl⟩)
