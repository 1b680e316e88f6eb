import PyProof.Rows.All
import Wide.All
import OpenK.AllK
import Wide.FinOn
import HandS.ForExc
import HandS.ForMost
import HandS.IsInst
import HandS.Gcd
import HandS.Wide
import HandS.TupAny
import HandS.TupMul
import HandS.Style
import HandS.Zip
import HandS.SortInts
import HandS.Deep
import HandS.CallSlots
import HandS.Strs
import KE.KDictKeyed
import KE.GoesZip
import KE.GoesMore
import HandS.ExcIs
import PyProof.GenCompD
import PyProof.GenArm
import HandS.GenList
import HandS.AnyAll
import KE.KNestM
import HandS.SetFor
import KE.KSetDisp
import HandS.Conv
import HandS.SetIn
import KE.KDictZip
import KE.KMathGC
import KE.KDictWalk
import HandS.More
import KE.SortCalls
import HandS.Keys
import HandS.SortRule
import HandS.Rev
import KE.KDictPairs
import HandS.DictComp
import KE.KDictCopyH
import KE.KDictSum
import KE.DataFind
import PyProof.Rows.ReprOcc
import PySem.Challenge.RW_nextwork_k49_choices_by_hand
set_option Elab.async false
set_option linter.all false
set_option maxRecDepth 100000
set_option maxHeartbeats 4000000
set_option exponentiation.threshold 70000
namespace Ev
open PySem PySem.Spec PyProof.Rows L2
/-! ## new tuples whose whole object is known -/
abbrev tuO (its : List Value) : Obj := { cls := .type "tuple", data := .seq its.toArray }
abbrev frT (its : List Value) (xs : List V) : HO := .frz (tuO its) (.tup xs)
section
variable {P : Program} {w : World} {H : Hp} {h : Heap} {a : Addr}
theorem frT_ok {its : List Value} {xs : List V} (hz : xs.length ≤ sizeLine) (r : Vals xs its) (e : h.get? a = some (tuO its)) : ObjOk P w H h a (frT its xs) :=
  ⟨e, hz, its, r, ⟨_, e, rfl, _, rfl⟩⟩
end
/-- a new one: whatever its object holds -/
def NewP (H : Hp) (xs : List V) (Q : VK) : Prop := ∀ p its, H p = none → Q (.ref p) (upd H p (frT its xs))
section
variable {X : Cx}
theorem new_laid {pins : List (Addr × Obj)} {σ : L2.St} {H : Hp} {s : Shared} {Q : VK} {xs : List V} {its : List Value} (I : Inv X pins σ H s) (hz : xs.length ≤ sizeLine) (r : Vals xs its) (q : NewP H xs Q) :
    EP X pins σ Q (.ref s.heap.objs.size) { s with heap := s.heap.push (tuO its) } :=
  ⟨.ref s.heap.objs.size, _, I.laid (t' := s.toks) (o := frT its xs) (fun b ob q => Heap.get?_push_of_some _ q) (Nat.le_refl _) (frT_ok hz r (Heap.get?_push_size _ rfl)), rfl, q _ _ (I.hok.fresh (Nat.le_refl _))⟩
def tTupP (t : TA) : TE := fun σ H Q => t σ H fun xs H1 => xs.length ≤ sizeLine ∧ NewP H1 xs Q
theorem pe_tupP {es : List Expr} {t : TA} {pos : Pos} {x1} (h : PA X es t) : PE X (.Tuple es x1 pos) (tTupP t) := by
  refine ⟨fun pins s σ H Q I hq => ?_⟩
  refine wpAny_Tuple_spliced (thn (h.run pos pins s σ H _ I hq) fun us s1 ⟨xs, H1, I1, r, z, q⟩ => ⟨by rw [← r.length]; exact z, ?_⟩)
  exact new_laid I1 z r q
theorem call_tuple_ofP : CallR X (.type "tuple") (fun xs H Q => ∃ p ys, xs = [.ref p] ∧ ((SqL X.K H p ys ∧ NewP H ys Q) ∨ (SqT X.K H p ys ∧ Q (.ref p) H))) := by
  intro pins s σ H xs us Q I r h
  obtain ⟨p, ys, rfl, h⟩ := h
  rcases h with ⟨hq, q⟩ | ⟨hq, q⟩
  · obtain ⟨u, rfl, rx⟩ := vals1 r
    cases rx
    obtain ⟨its, r', pl, hz⟩ := I.list hq
    have hlen := r'.length
    refine call_tuple_list pl.isList (fun h' kp => ?_) (by simp only [List.size_toArray] <;> omega)
    have I1 : Inv X pins σ H { s with heap := h' } := I.kept (t' := s.toks) kp
    exact new_laid I1 hz r' q
  · exact call_tuple_of pins s σ H _ us Q I r ⟨p, ys, rfl, .inr ⟨hq, q⟩⟩
/-- t + u -/
def rCatP (K : PySem.W.Frag) : R2 := fun x y H Q => ∃ a b xs ys, x = .ref a ∧ y = .ref b ∧ SqT K H a xs ∧ SqT K H b ys ∧ xs.length + ys.length ≤ sizeLine ∧
  (xs = [] → Q (.ref b) H) ∧ (xs ≠ [] → ys = [] → Q (.ref a) H) ∧ (xs ≠ [] → ys ≠ [] → NewP H (xs ++ ys) Q)
theorem op_catP : OpR X (binaryOp .Add) (rCatP X.K) := by
  intro pins s σ H x y v u Q I rx ry h
  obtain ⟨a, b, xs, ys, rfl, rfl, ha, hb, hz, q0, q1, q2⟩ := h
  by_cases hx : xs = []
  · exact op_catA pins s σ H _ _ v u Q I rx ry ⟨a, b, xs, ys, rfl, rfl, ha, hb, hz, q0, q1, fun h => absurd hx h⟩
  · cases rx
    cases ry
    obtain ⟨its, r1, p1, _⟩ := I.tuple ha
    obtain ⟨its2, r2, p2, _⟩ := I.tuple hb
    refine HT.cat_tup p1 p2 (fun z => hx (r1.nil_iff.mp z)) (fun z => ⟨.ref a, H, I, rfl, q1 hx (r2.nil_iff.mp z)⟩) (fun z => ?_) (by rw [← r1.length, ← r2.length]; exact hz)
    exact new_laid I (by rw [List.length_append]; exact hz) (r1.append r2) (q2 hx fun w => z (r2.nil_iff.mpr w))
/-- t[lo:hi] -/
def rSlP (K : PySem.W.Frag) : V → Option Int → Option Int → Hp → VK → Prop := fun x lo hi H Q => ∃ a xs, x = .ref a ∧ SqT K H a xs ∧
  (HT.sIx xs.length 0 lo = 0 ∧ HT.sIx xs.length xs.length hi = xs.length → Q (.ref a) H) ∧ (¬ (HT.sIx xs.length 0 lo = 0 ∧ HT.sIx xs.length xs.length hi = xs.length) → NewP H (cutV xs lo hi) Q)
theorem sl_tupP : SlR X (rSlP X.K) := by
  intro pins s σ H x v vl vu lo hi sl Q I rx hs pl pu h
  obtain ⟨a, xs, rfl, hx, q1, q2⟩ := h
  by_cases hw : HT.sIx xs.length 0 lo = 0 ∧ HT.sIx xs.length xs.length hi = xs.length
  · exact sl_tupA pins s σ H _ v vl vu lo hi sl Q I rx hs pl pu ⟨a, xs, rfl, hx, q1, fun n => absurd hw n⟩
  · cases rx
    obtain ⟨its, r, ht, hz⟩ := I.tuple hx
    have hlen : its.toArray.size = xs.length := by rw [List.size_toArray]; exact r.length.symm
    refine ⟨"tuple", _, PyProof.Rows.slot_tuple_getitem.lookup, ht.typeIs, ?_⟩
    refine HT.getItem_tuple_cut ht hs pl pu (by rw [hlen]; exact hw) ?_ (by rw [hlen]; exact hz)
    rw [hlen]
    exact new_laid I (Nat.le_trans (cutV_length xs lo hi) hz) ((r.drop (HT.sIx xs.length 0 lo)).take (HT.sIx xs.length xs.length hi - HT.sIx xs.length 0 lo)) (q2 hw)
end
end Ev

namespace Ev
open PySem PySem.Spec PyProof.Rows L2

/-! ## data, store, results: no Python here -/
inductive D where
  | non | bl (b : Bool) | int (i : Int) | str (s : Str) | tup (ds : List D) | lst (ds : List D) | ref (n : Nat) | fro (ds : List D) | sref (n : Nat) | dic (ks : List (Int ⊕ NestedKey)) (ds : List D)
inductive Cell where
  | lst (ds : List D) | set (S : List Int) | dct (ks : List NestedKey) (ds : List D)
def Cell.isS : Cell → Bool
  | .lst _ => false
  | .set _ => true
  | .dct _ _ => true
abbrev Sto := List Cell
/-- a pair (int, (int, int)); a list that does not begin with one -/
def plk : D → Bool
  | .tup [.int _, .tup [.int _, .int _]] => true
  | _ => false
def npl : List D → Bool
  | d :: _ => !plk d
  | [] => true
abbrev En := List (Option D)
/-! keys of dicts: tuples of ints and of such tuples -/
mutual
def keyD : NestedKey → D
  | .none => .non
  | .num i => .int i
  | .text x => .str x
  | .tup ks => .tup (keyDs ks)
def keyDs : List NestedKey → List D
  | [] => []
  | k :: r => keyD k :: keyDs r
end
mutual
def dKey : D → Option NestedKey
  | .int i => some (.num i)
  | .tup ds => if npl ds = true then (dKeys ds).map .tup else none
  | _ => none
def dKeys : List D → Option (List NestedKey)
  | [] => some []
  | d :: r => (dKey d).bind fun k => (dKeys r).map fun ks => k :: ks
end
/-! the hash of a key without texts -/
mutual
def kHash : NestedKey → Int
  | .none => 0
  | .text _ => 0
  | .num i => hashInt i
  | .tup ks => reduceHash (Builtin.Tuple.tupleHashOf (kHashes ks))
def kHashes : List NestedKey → List Int
  | [] => []
  | k :: r => kHash k :: kHashes r
end
mutual
def plainK : NestedKey → Bool
  | .num _ => true
  | .tup ks => plainKs ks
  | _ => false
def plainKs : List NestedKey → Bool
  | [] => true
  | k :: r => plainK k && plainKs r
end
mutual
theorem kHash_eq (w : World) : ∀ k : NestedKey, plainK k = true → k.hash w = kHash k
  | .none, h => nomatch h
  | .text _, h => nomatch h
  | .num _, _ => rfl
  | .tup ks, h => by
    unfold NestedKey.hash kHash
    rw [kHashes_eq w ks (by unfold plainK at h; exact h)]
theorem kHashes_eq (w : World) : ∀ ks : List NestedKey, plainKs ks = true → NestedKey.hashes w ks = kHashes ks
  | [], _ => rfl
  | k :: r, h => by
    unfold plainKs at h
    rw [Bool.and_eq_true] at h
    unfold NestedKey.hashes kHashes
    rw [kHash_eq w k h.1, kHashes_eq w r h.2]
end
/-- a key that a dict may have -/
def okKey (k : NestedKey) : Bool := plainK k && decide (k.depth ≤ 8) && match k with
  | .tup _ => true
  | _ => false
/-- the object of a dict whose keys are tuples -/
def dO (a : Addr) (o : Obj) : HO := .ext fun h => h.get? a = some o
def ents : List NestedKey → List Addr → List Value → List DictEntry
  | k :: ks, b :: bs, u :: us => ⟨kHash k, .ref b, u⟩ :: ents ks bs us
  | _, _, _ => []
def IsDct (o : Obj) (kk : List NestedKey) (bs : List Addr) (us : List Value) : Prop :=
  o.ExactDict ∧ bs.length = kk.length ∧ us.length = kk.length ∧ ∃ es ep, o.data = .dict es ep ∧ es.toList = ents kk bs us
abbrev Pay := Option (Str × D)
inductive R (α : Type) where
  | ok (a : α) (st : Sto) | ex (c : Nat) (p : Pay) (st : Sto) | bad
def R.bind {α β : Type} (r : R α) (k : α → Sto → R β) : R β := match r with
  | .ok a st => k a st
  | .ex c p st => .ex c p st
  | .bad => .bad
@[simp] theorem bind_ok {α β : Type} (a : α) (st : Sto) (k : α → Sto → R β) : (R.ok a st).bind k = k a st := rfl
@[simp] theorem bind_ex {α β : Type} (c : Nat) (p : Pay) (st : Sto) (k : α → Sto → R β) : (R.ex c p st : R α).bind k = .ex c p st := rfl
@[simp] theorem bind_bad {α β : Type} (k : α → Sto → R β) : (R.bad : R α).bind k = .bad := rfl
def R.ofO {α : Type} (o : Option (α × Sto)) : R α := match o with
  | some (a, st) => .ok a st
  | none => .bad
@[simp] theorem ofO_some {α : Type} (a : α) (st : Sto) : R.ofO (some (a, st)) = .ok a st := rfl
@[simp] theorem ofO_none {α : Type} : (R.ofO none : R α) = .bad := rfl
def R.wp {α : Type} (r : R α) (Q : α → Sto → Prop) (E : Nat → Pay → Sto → Prop) : Prop := match r with
  | .ok a st => Q a st
  | .ex c p st => E c p st
  | .bad => False
theorem wp_bind {α β : Type} {r : R α} {k : α → Sto → R β} {Q : β → Sto → Prop} {E : Nat → Pay → Sto → Prop} : (r.bind k).wp Q E ↔ r.wp (fun a st => (k a st).wp Q E) E := by
  cases r <;> exact Iff.rfl
theorem wp_mono {α : Type} {r : R α} {Q Q' : α → Sto → Prop} {E E' : Nat → Pay → Sto → Prop} (h : r.wp Q E) (hq : ∀ a st, Q a st → Q' a st) (he : ∀ c p st, E c p st → E' c p st) : r.wp Q' E' := by
  cases r with
  | ok a st => exact hq _ _ h
  | ex c p st => exact he _ _ _ h
  | bad => exact h
theorem wp_ofO {α : Type} {o : Option (α × Sto)} {Q : α → Sto → Prop} {E : Nat → Pay → Sto → Prop} (h : (R.ofO o).wp Q E) : ∃ a st, o = some (a, st) ∧ Q a st := by
  cases o with
  | none => exact h.elim
  | some x => exact ⟨x.1, x.2, rfl, h⟩
inductive SR where
  | nx (en : En) (st : Sto) | rt (d : D) (st : Sto) | bk (en : En) (st : Sto) | ct (en : En) (st : Sto) | ex (c : Nat) (p : Pay) (en : En) (st : Sto) | bad
abbrev EF := En → Sto → R D
abbrev TF := En → Sto → R Bool
abbrev AF := En → Sto → R (List D)
abbrev SF := En → Sto → SR

/-! ## how data lies in the heap -/
/-- the tables that are tracked -/
class Tabs where
  tb : List Addr
  wd : Option World
structure Z where
  mu : List Addr
  fz : Addr → Prop
  /-- the tables of code objects: they may grow -/
  tb : List Addr
  /-- which of the cells are sets -/
  kd : Nat → Bool
/-- a code object's table stands at P -/
def TabH (H : Hp) (P : Addr) : Prop := ∃ ps : Array Value, H P = some (.tbl ps) ∧ TriplesOk ps.toList
section
variable (K : PySem.W.Frag)
def TupZ (z : Z) (H : Hp) (a : Addr) (xs : List V) : Prop :=
  (z.fz a ∧ Rd H a (.tup xs)) ∨ ∃ (o : Obj) (its : Array Value) (n : Nat), K.lookup a = some o ∧ o.cls = .type "tuple" ∧ o.data = .seq its n ∧ its.size ≤ sizeLine ∧ Vals xs its.toList
/-- a tuple whose whole object is known -/
def PlZ (z : Z) (H : Hp) (a : Addr) (xs : List V) : Prop := z.fz a ∧ ∃ its, H a = some (frT its xs)
mutual
/-- at v stands the key -/
inductive KeyAt (z : Z) (H : Hp) : V → NestedKey → Prop
  | num (i : Int) : KeyAt z H (.int i) (.num i)
  | tup {a : Addr} {xs : List V} {ks : List NestedKey} : TupZ K z H a xs → npl (keyDs ks) = true → KeyAts z H xs ks → KeyAt z H (.ref a) (.tup ks)
inductive KeyAts (z : Z) (H : Hp) : List V → List NestedKey → Prop
  | nil : KeyAts z H [] []
  | cons {v : V} {vs : List V} {k : NestedKey} {ks : List NestedKey} : KeyAt z H v k → KeyAts z H vs ks → KeyAts z H (v :: vs) (k :: ks)
end
/-- a dict with the keys kk and the values xs -/
def DctAt (z : Z) (H : Hp) (a : Addr) (kk : List NestedKey) (xs : List V) : Prop :=
  (a == sysModules) = false ∧ kk.length ≤ 1000000 ∧ kk.Nodup ∧ (∀ k ∈ kk, okKey k = true) ∧ ∃ (bs : List Addr) (us : List Value) (o : Obj), H a = some (dO a o) ∧ IsDct o kk bs us ∧ KeyAts K z H (bs.map V.ref) kk ∧ Vals xs us
def LstZ (z : Z) (H : Hp) (a : Addr) (xs : List V) : Prop :=
  (z.fz a ∧ Rd H a (.lst xs)) ∨ ∃ (o : Obj) (its : Array Value) (n : Nat), K.lookup a = some o ∧ o.cls = .type "list" ∧ o.dict = none ∧ o.data = .seq its n ∧ its.size ≤ sizeLine ∧ Vals xs its.toList
/-- a dict that nobody changes: keys that are ints, or tuples of ints -/
def DicZ (z : Z) (H : Hp) (a : Addr) (ks : List (Int ⊕ NestedKey)) (xs : List V) : Prop :=
  z.fz a ∧ ((∃ kk : List Int, ks = kk.map .inl ∧ kk.length = xs.length ∧ H a = some (.dK ((kk.map Sum.inl).zip xs))) ∨
    ∃ kk : List NestedKey, kk ≠ [] ∧ ks = kk.map .inr ∧ kk.length = xs.length ∧ DctAt K z H a kk xs)
/-- what a dict could be made of: its tuples are plain -/
structure TupP (z : Z) (H : Hp) (a : Addr) (xs : List V) (ds : List D) : Prop where
  t : TupZ K z H a xs
  p : npl ds = true ∨ PlZ z H a xs
mutual
inductive Rep (z : Z) (H : Hp) : V → D → Prop
  | non : Rep z H .non .non
  | bl (b : Bool) : Rep z H (.bl b) (.bl b)
  | int (i : Int) : Rep z H (.int i) (.int i)
  | str (x : Str) : Rep z H (.str x) (.str x)
  | tup {a : Addr} {xs : List V} {ds : List D} : TupP K z H a xs ds → Reps z H xs ds → Rep z H (.ref a) (.tup ds)
  | lst {a : Addr} {xs : List V} {ds : List D} : z.fz a → H a = some (.lst xs) → Reps z H xs ds → Rep z H (.ref a) (.lst ds)
  | ref {a : Addr} {n : Nat} : z.mu[n]? = some a → z.kd n = false → Rep z H (.ref a) (.ref n)
  | fro {a : Addr} {xs : List V} {ds : List D} : LstZ K z H a xs → Reps z H xs ds → Rep z H (.ref a) (.fro ds)
  | sref {a : Addr} {n : Nat} : z.mu[n]? = some a → z.kd n = true → Rep z H (.ref a) (.sref n)
  | dic {a : Addr} {ks : List (Int ⊕ NestedKey)} {xs : List V} {ds : List D} : DicZ K z H a ks xs → Reps z H xs ds → Rep z H (.ref a) (.dic ks ds)
inductive Reps (z : Z) (H : Hp) : List V → List D → Prop
  | nil : Reps z H [] []
  | cons {v : V} {vs : List V} {d : D} {ds : List D} : Rep z H v d → Reps z H vs ds → Reps z H (v :: vs) (d :: ds)
end
variable [Tabs]
def CellR (z : Z) (H : Hp) (a : Addr) : Cell → Prop
  | .lst ds => ∃ xs, H a = some (.lst xs) ∧ Reps K z H xs ds
  | .set S => ∃ w, Tabs.wd = some w ∧ H a = some (SetO w a (fun j => decide (j ∈ S)) S.length)
  | .dct ks ds => ∃ xs, DctAt K z H a ks xs ∧ Reps K z H xs ds
structure RelH (z : Z) (H : Hp) (st : Sto) : Prop where
  len : z.mu.length = st.length
  nd : z.mu.Nodup
  nfz : ∀ a ∈ z.mu, ¬ z.fz a
  fz : ∀ a, z.fz a → H a ≠ none
  cells : ∀ (n : Nat) a c, z.mu[n]? = some a → st[n]? = some c → CellR K z H a c
  tb : ∀ P ∈ z.tb, TabH H P ∧ P ∉ z.mu ∧ ¬ z.fz P
  tbk : ∀ P ∈ Tabs.tb, P ∈ z.tb
  knd : ∀ (n : Nat) c, st[n]? = some c → c.isS = z.kd n
def RelE (z : Z) (H : Hp) (σ : L2.St) (en : En) : Prop := σ.length = en.length ∧ ∀ (i : Nat) d, en[i]? = some (some d) → ∃ v, σ[i]? = some (some v) ∧ Rep K z H v d
end
/-- what data leans on stays; all that was tracked stays but for the cells -/
structure Ex0 (z : Z) (H : Hp) (z' : Z) (H' : Hp) : Prop where
  mu : ∀ (n : Nat) a, z.mu[n]? = some a → z'.mu[n]? = some a
  fz : ∀ a, z.fz a → z'.fz a ∧ H' a = H a
  kd : ∀ (n : Nat) a, z.mu[n]? = some a → z'.kd n = z.kd n
structure Ext (z : Z) (H : Hp) (z' : Z) (H' : Hp) : Prop extends Ex0 z H z' H' where
  fr : ∀ a, H a ≠ none → a ∉ z.mu → a ∉ z.tb → H' a = H a
  nw : ∀ a, a ∈ z'.mu → a ∈ z.mu ∨ H a = none
  nf : ∀ a, z'.fz a → z.fz a ∨ H a = none
  lv : ∀ a, H a ≠ none → H' a ≠ none
  tb : z'.tb = z.tb
section
variable {K : PySem.W.Frag} {z z1 z2 : Z} {H H1 H2 : Hp} {v : V} {d : D} {vs : List V} {ds : List D} {st : Sto}
theorem Ext.refl : Ext z H z H := ⟨⟨fun _ _ h => h, fun _ h => ⟨h, rfl⟩, fun _ _ _ => rfl⟩, fun _ _ _ _ => rfl, fun _ h => .inl h, fun _ h => .inl h, fun _ h => h, rfl⟩
theorem Ex0.trans (a : Ex0 z H z1 H1) (b : Ex0 z1 H1 z2 H2) : Ex0 z H z2 H2 :=
  ⟨fun n x h => b.mu n x (a.mu n x h), fun x h => ⟨(b.fz x (a.fz x h).1).1, ((b.fz x (a.fz x h).1).2).trans (a.fz x h).2⟩, fun n x h => (b.kd n x (a.mu n x h)).trans (a.kd n x h)⟩
theorem Ext.trans (a : Ext z H z1 H1) (b : Ext z1 H1 z2 H2) : Ext z H z2 H2 := by
  have back : ∀ x, H1 x = none → H x = none := fun x h => by
    cases q : H x with
    | none => rfl
    | some o => exact absurd h (a.lv x (by rw [q]; simp))
  refine ⟨a.toEx0.trans b.toEx0, fun x h n m => ?_, fun x h => ?_, fun x h => ?_, fun x h => b.lv x (a.lv x h), b.tb.trans a.tb⟩
  · have e := a.fr x h n m
    have n1 : x ∉ z1.mu := fun q => (a.nw x q).elim n h
    exact (b.fr x (by rw [e]; exact h) n1 (by rw [a.tb]; exact m)).trans e
  · exact (b.nw x h).elim (a.nw x) fun q => .inr (back x q)
  · exact (b.nf x h).elim (a.nf x) fun q => .inr (back x q)
theorem TupZ.ext0 {a : Addr} {xs : List V} (h : TupZ K z H a xs) (e : Ex0 z H z1 H1) : TupZ K z1 H1 a xs := by
  rcases h with ⟨h, r⟩ | h
  · refine .inl ⟨(e.fz a h).1, ?_⟩
    unfold Rd
    rw [(e.fz a h).2]
    exact r
  · exact .inr h
theorem PlZ.ext0 {a : Addr} {xs : List V} (h : PlZ z H a xs) (e : Ex0 z H z1 H1) : PlZ z1 H1 a xs := by
  obtain ⟨h, its, r⟩ := h
  exact ⟨(e.fz a h).1, its, (e.fz a h).2.trans r⟩
theorem PlZ.tupZ {a : Addr} {xs : List V} (h : PlZ z H a xs) : TupZ K z H a xs := let ⟨f, its, e⟩ := h; .inl ⟨f, .inr ⟨_, e⟩⟩
theorem TupP.ext0 {a : Addr} {xs : List V} (h : TupP K z H a xs ds) (e : Ex0 z H z1 H1) : TupP K z1 H1 a xs ds := ⟨h.t.ext0 e, h.p.imp (fun q => q) fun q => q.ext0 e⟩
theorem PlZ.tup {a : Addr} {xs : List V} (h : PlZ z H a xs) : TupP K z H a xs ds := ⟨h.tupZ, .inr h⟩
theorem LstZ.ext0 {a : Addr} {xs : List V} (h : LstZ K z H a xs) (e : Ex0 z H z1 H1) : LstZ K z1 H1 a xs := by
  rcases h with ⟨h, r⟩ | h
  · refine .inl ⟨(e.fz a h).1, ?_⟩
    unfold Rd
    rw [(e.fz a h).2]
    exact r
  · exact .inr h
theorem LstZ.seq {a : Addr} {xs : List V} (h : LstZ K z H a xs) : SqL K H a xs := h.elim (fun h => .inl h.2) .inr
theorem TupZ.seq {a : Addr} {xs : List V} (h : TupZ K z H a xs) : SqT K H a xs := h.elim (fun h => .inl h.2) .inr
theorem TupP.seq {a : Addr} {xs : List V} (h : TupP K z H a xs ds) : SqT K H a xs := h.t.seq
theorem TupP.of {a : Addr} {xs : List V} (h : z.fz a) (e : H a = some (.tup xs)) (n : npl ds = true) : TupP K z H a xs ds := ⟨.inl ⟨h, .inl e⟩, .inl n⟩
mutual
theorem KeyAt.ext0 (e : Ex0 z H z1 H1) : ∀ {v : V} {k : NestedKey}, KeyAt K z H v k → KeyAt K z1 H1 v k
  | _, _, .num i => .num i
  | _, _, .tup h n r => .tup (h.ext0 e) n (KeyAts.ext0 e r)
theorem KeyAts.ext0 (e : Ex0 z H z1 H1) : ∀ {vs : List V} {ks : List NestedKey}, KeyAts K z H vs ks → KeyAts K z1 H1 vs ks
  | _, _, .nil => .nil
  | _, _, .cons r t => .cons (KeyAt.ext0 e r) (KeyAts.ext0 e t)
end
theorem DctAt.ext0 {a : Addr} {kk : List NestedKey} {xs : List V} (h : DctAt K z H a kk xs) (e : Ex0 z H z1 H1) (k : H1 a = H a) : DctAt K z1 H1 a kk xs := by
  obtain ⟨h1, hl, h2, h3, bs, us, o, h4, h5, h6, h7⟩ := h
  exact ⟨h1, hl, h2, h3, bs, us, o, k.trans h4, h5, h6.ext0 e, h7⟩
theorem DctAt.live {a : Addr} {kk : List NestedKey} {xs : List V} (h : DctAt K z H a kk xs) : ∃ o, H a = some (dO a o) := let ⟨_, _, _, _, _, _, o, h, _⟩ := h; ⟨o, h⟩
theorem DicZ.ext0 {a : Addr} {ks : List (Int ⊕ NestedKey)} {xs : List V} (h : DicZ K z H a ks xs) (e : Ex0 z H z1 H1) : DicZ K z1 H1 a ks xs := by
  refine ⟨(e.fz a h.1).1, ?_⟩
  rcases h.2 with ⟨kk, q1, q2, q3⟩ | ⟨kk, ne, q1, q2, q3⟩
  · exact .inl ⟨kk, q1, q2, (e.fz a h.1).2.trans q3⟩
  · exact .inr ⟨kk, ne, q1, q2, q3.ext0 e (e.fz a h.1).2⟩
mutual
theorem Rep.ext0 (e : Ex0 z H z1 H1) : ∀ {v : V} {d : D}, Rep K z H v d → Rep K z1 H1 v d
  | _, _, .non => .non
  | _, _, .bl b => .bl b
  | _, _, .int i => .int i
  | _, _, .str x => .str x
  | _, _, .tup h r => .tup (h.ext0 e) (Reps.ext0 e r)
  | _, _, .lst f h r => .lst (e.fz _ f).1 ((e.fz _ f).2.trans h) (Reps.ext0 e r)
  | _, _, .ref h k => .ref (e.mu _ _ h) ((e.kd _ _ h).trans k)
  | _, _, .sref h k => .sref (e.mu _ _ h) ((e.kd _ _ h).trans k)
  | _, _, .dic h r => .dic (h.ext0 e) (Reps.ext0 e r)
  | _, _, .fro h r => .fro (h.ext0 e) (Reps.ext0 e r)
theorem Reps.ext0 (e : Ex0 z H z1 H1) : ∀ {vs : List V} {ds : List D}, Reps K z H vs ds → Reps K z1 H1 vs ds
  | _, _, .nil => .nil
  | _, _, .cons r t => .cons (Rep.ext0 e r) (Reps.ext0 e t)
end
theorem Rep.ext (e : Ext z H z1 H1) (h : Rep K z H v d) : Rep K z1 H1 v d := Rep.ext0 e.toEx0 h
theorem Reps.ext (e : Ext z H z1 H1) (h : Reps K z H vs ds) : Reps K z1 H1 vs ds := Reps.ext0 e.toEx0 h
theorem RelE.ext0 {σ : L2.St} {en : En} (h : RelE K z H σ en) (e : Ex0 z H z1 H1) : RelE K z1 H1 σ en :=
  ⟨h.1, fun i d q => let ⟨v, a, b⟩ := h.2 i d q; ⟨v, a, b.ext0 e⟩⟩
theorem RelE.ext {σ : L2.St} {en : En} (h : RelE K z H σ en) (e : Ext z H z1 H1) : RelE K z1 H1 σ en := h.ext0 e.toEx0
theorem Reps.length : ∀ {vs : List V} {ds : List D}, Reps K z H vs ds → vs.length = ds.length
  | _, _, .nil => rfl
  | _, _, .cons _ t => congrArg (· + 1) t.length
theorem Reps.get : ∀ {vs : List V} {ds : List D} {i : Nat} {v : V}, Reps K z H vs ds → vs[i]? = some v → ∃ d, ds[i]? = some d ∧ Rep K z H v d
  | _, _, _, _, .nil, h => by simp at h
  | _, _, 0, _, .cons r _, h => by
    have e := Option.some.inj h
    exact ⟨_, rfl, e ▸ r⟩
  | _, _, i + 1, v, .cons _ t, h => t.get (i := i) (v := v) h
theorem Reps.getD : ∀ {vs : List V} {ds : List D} {i : Nat} {d : D}, Reps K z H vs ds → ds[i]? = some d → ∃ v, vs[i]? = some v ∧ Rep K z H v d
  | _, _, _, _, .nil, h => by simp at h
  | _, _, 0, _, .cons r _, h => by
    have e := Option.some.inj h
    exact ⟨_, rfl, e ▸ r⟩
  | _, _, i + 1, v, .cons _ t, h => t.getD (i := i) (d := v) h
theorem Reps.append : ∀ {vs ws : List V} {ds es : List D}, Reps K z H vs ds → Reps K z H ws es → Reps K z H (vs ++ ws) (ds ++ es)
  | _, _, _, _, .nil, s => s
  | _, _, _, _, .cons r t, s => .cons r (t.append s)
theorem Reps.take : ∀ (n : Nat) {vs : List V} {ds : List D}, Reps K z H vs ds → Reps K z H (vs.take n) (ds.take n)
  | 0, _, _, _ => .nil
  | _ + 1, _, _, .nil => .nil
  | n + 1, _, _, .cons r t => .cons r (t.take n)
theorem Reps.drop : ∀ (n : Nat) {vs : List V} {ds : List D}, Reps K z H vs ds → Reps K z H (vs.drop n) (ds.drop n)
  | 0, _, _, r => r
  | _ + 1, _, _, .nil => .nil
  | n + 1, _, _, .cons _ t => t.drop n
theorem Reps.set {x : V} {y : D} (r : Rep K z H x y) : ∀ (i : Nat) {vs : List V} {ds : List D}, Reps K z H vs ds → Reps K z H (vs.set i x) (ds.set i y)
  | _, _, _, .nil => .nil
  | 0, _, _, .cons _ t => .cons r t
  | i + 1, _, _, .cons q t => .cons q (Reps.set r i t)
theorem Reps.reverse : ∀ {vs : List V} {ds : List D}, Reps K z H vs ds → Reps K z H vs.reverse ds.reverse
  | _, _, .nil => .nil
  | _, _, .cons r t => by
    rw [List.reverse_cons, List.reverse_cons]
    exact t.reverse.append (.cons r .nil)
theorem Reps.flat : ∀ (n : Nat) {vs : List V} {ds : List D}, Reps K z H vs ds → Reps K z H (List.replicate n vs).flatten (List.replicate n ds).flatten
  | 0, _, _, _ => .nil
  | n + 1, _, _, r => by
    rw [List.replicate_succ, List.replicate_succ, List.flatten_cons, List.flatten_cons]
    exact r.append (r.flat n)

variable [Tabs]
/-! a new immutable object; a new cell; a cell written -/
def Z.add (z : Z) (p : Addr) : Z := ⟨z.mu, fun a => z.fz a ∨ a = p, z.tb, z.kd⟩
def Z.pushK (z : Z) (p : Addr) (b : Bool) : Z := ⟨z.mu ++ [p], z.fz, z.tb, fun i => if i = z.mu.length then b else z.kd i⟩
abbrev Z.push (z : Z) (p : Addr) : Z := z.pushK p false
theorem TabH.live {P : Addr} (h : TabH H P) : H P ≠ none := by
  obtain ⟨ps, e, _⟩ := h
  rw [e]
  simp
theorem TabH.no {P : Addr} {xs : List V} (h : TabH H P) (e : H P = some (.lst xs)) : False := by
  obtain ⟨ps, q, _⟩ := h
  rw [e] at q
  cases q
theorem TabH.upd {P p : Addr} {o : HO} (h : TabH H P) (n : P ≠ p) : TabH (upd H p o) P := by
  obtain ⟨ps, e, t⟩ := h
  exact ⟨ps, (upd_ne n).trans e, t⟩
theorem RelH.nin (h : RelH K z H st) {p : Addr} (n : H p = none) : p ∉ z.mu := fun hp => by
  obtain ⟨i, hi⟩ := List.mem_iff_getElem?.mp hp
  have hl : i < st.length := h.len ▸ (List.getElem?_eq_some_iff.mp hi).1
  have q := h.cells i p _ hi (List.getElem?_eq_getElem hl)
  cases e : st[i] with
  | lst ds =>
    rw [e] at q
    obtain ⟨xs, x, _⟩ := q
    rw [n] at x
    cases x
  | set S =>
    rw [e] at q
    obtain ⟨w, _, x⟩ := q
    rw [n] at x
    cases x
  | dct ks ds =>
    rw [e] at q
    obtain ⟨xs, x, _⟩ := q
    obtain ⟨o, x⟩ := x.live
    rw [n] at x
    cases x
theorem upd_live {p : Addr} {o : HO} {a : Addr} (h : H a ≠ none) : upd H p o a ≠ none := by
  by_cases e : a = p
  · rw [e, upd_same]
    simp
  · rw [upd_ne e]
    exact h
theorem ne_new {p a : Addr} (n : H p = none) (h : H a ≠ none) : a ≠ p := fun e => h (e ▸ n)
theorem ext_add (h : RelH K z H st) {p : Addr} {o : HO} (n : H p = none) : Ext z H (z.add p) (upd H p o) :=
  ⟨⟨fun _ _ q => q, fun a q => ⟨.inl q, upd_ne fun e => h.fz a q (e ▸ n)⟩, fun _ _ _ => rfl⟩, fun a q _ _ => upd_ne (ne_new n q), fun a q => .inl q, fun a q => q.elim .inl fun e => .inr (e ▸ n), fun a q => upd_live q, rfl⟩
theorem ext_push {b : Bool} (h : RelH K z H st) {p : Addr} {o : HO} (n : H p = none) : Ext z H (z.pushK p b) (upd H p o) :=
  ⟨⟨fun i a q => by
    show (z.mu ++ [p])[i]? = some a
    rw [List.getElem?_append_left (List.getElem?_eq_some_iff.mp q).1]
    exact q, fun a q => ⟨q, upd_ne fun e => h.fz a q (e ▸ n)⟩, fun i a q => if_neg (Nat.ne_of_lt (List.getElem?_eq_some_iff.mp q).1)⟩, fun a q _ _ => upd_ne (ne_new n q), fun a q => (List.mem_append.mp q).elim .inl fun e => .inr ((List.mem_singleton.mp e) ▸ n), fun a q => .inl q, fun a q => upd_live q, rfl⟩
/-- a new object that the relation does not speak of -/
theorem ext_by (h : RelH K z H st) {p : Addr} {o : HO} (n : H p = none) : Ext z H z (upd H p o) :=
  ⟨⟨fun _ _ q => q, fun a q => ⟨q, upd_ne fun e => h.fz a q (e ▸ n)⟩, fun _ _ _ => rfl⟩, fun a q _ _ => upd_ne (ne_new n q), fun a q => .inl q, fun a q => .inl q, fun a q => upd_live q, rfl⟩
theorem CellR.ext0 {a : Addr} {c : Cell} (h : CellR K z H a c) (e : Ex0 z H z1 H1) (k : H1 a = H a) : CellR K z1 H1 a c := by
  cases c with
  | lst ds =>
    obtain ⟨xs, x, r⟩ := h
    exact ⟨xs, k.trans x, r.ext0 e⟩
  | set S =>
    obtain ⟨w, hw, x⟩ := h
    exact ⟨w, hw, k.trans x⟩
  | dct ks ds =>
    obtain ⟨xs, x, r⟩ := h
    exact ⟨xs, x.ext0 e k, r.ext0 e⟩
theorem CellR.ext {a : Addr} {c : Cell} (h : CellR K z H a c) (e : Ext z H z1 H1) (k : H1 a = H a) : CellR K z1 H1 a c := h.ext0 e.toEx0 k
theorem RelH.add (h : RelH K z H st) {p : Addr} {o : HO} (n : H p = none) : RelH K (z.add p) (upd H p o) st := by
  have hp := h.nin n
  refine ⟨h.len, h.nd, fun a ha q => ?_, fun a q => ?_, fun i a c hi hc => ?_, fun P hP => ⟨(h.tb P hP).1.upd (ne_new n (h.tb P hP).1.live), (h.tb P hP).2.1, fun w => w.elim (h.tb P hP).2.2 (ne_new n (h.tb P hP).1.live)⟩, h.tbk, h.knd⟩
  · rcases q with q | q
    · exact h.nfz a ha q
    · exact hp (q ▸ ha)
  · by_cases e : a = p
    · rw [e, upd_same]
      simp
    · rw [upd_ne e]
      exact h.fz a (q.resolve_right e)
  · exact (h.cells i a c hi hc).ext (ext_add h n) (upd_ne fun e => hp (e ▸ List.mem_of_getElem? hi))
theorem RelH.pushC (h : RelH K z H st) {p : Addr} {o : HO} {cl : Cell} (n : H p = none) (r : CellR K (z.pushK p cl.isS) (upd H p o) p cl) : RelH K (z.pushK p cl.isS) (upd H p o) (st ++ [cl]) := by
  have hp := h.nin n
  have e := ext_push (b := cl.isS) (o := o) h n
  refine ⟨by show (z.mu ++ [p]).length = _; rw [List.length_append, List.length_append, h.len]; rfl, ?_, fun a ha q => ?_, fun a q => ?_, fun i a c hi hc => ?_, fun P hP => ⟨(h.tb P hP).1.upd (ne_new n (h.tb P hP).1.live), fun w => (List.mem_append.mp w).elim (h.tb P hP).2.1 fun e => ne_new n (h.tb P hP).1.live (List.mem_singleton.mp e), (h.tb P hP).2.2⟩, h.tbk, fun i c q => ?_⟩
  · exact List.nodup_append.mpr ⟨h.nd, List.nodup_cons.mpr ⟨by simp, List.nodup_nil⟩, fun a ha b hb q => hp (by
      rw [List.mem_singleton] at hb
      rw [← hb, ← q]
      exact ha)⟩
  · rcases List.mem_append.mp ha with ha | ha
    · exact h.nfz a ha q
    · rw [List.mem_singleton] at ha
      exact h.fz a q (ha ▸ n)
  · rw [(e.fz a q).2]
    exact h.fz a q
  · have hi' : (z.mu ++ [p])[i]? = some a := hi
    by_cases l : i < z.mu.length
    · rw [List.getElem?_append_left l] at hi'
      rw [List.getElem?_append_left (h.len ▸ l)] at hc
      exact (h.cells i a c hi' hc).ext e (upd_ne fun e => hp (e ▸ List.mem_of_getElem? hi'))
    · rw [List.getElem?_append_right (by omega)] at hi'
      rw [List.getElem?_append_right (by rw [← h.len]; omega), ← h.len] at hc
      cases k : i - z.mu.length with
      | zero =>
        rw [k] at hi' hc
        have e1 := Option.some.inj hi'
        have e2 := Option.some.inj hc
        subst e1
        subst e2
        exact r
      | succ j =>
        rw [k] at hi'
        simp at hi'
  · show c.isS = if i = z.mu.length then cl.isS else z.kd i
    by_cases l : i < z.mu.length
    · rw [if_neg (Nat.ne_of_lt l)]
      rw [List.getElem?_append_left (h.len ▸ l)] at q
      exact h.knd i c q
    · rw [List.getElem?_append_right (by rw [← h.len]; omega), ← h.len] at q
      cases k : i - z.mu.length with
      | zero =>
        rw [k] at q
        rw [if_pos (by omega)]
        exact congrArg Cell.isS (Option.some.inj q).symm
      | succ j =>
        rw [k] at q
        simp at q
theorem RelH.push (h : RelH K z H st) {p : Addr} {xs : List V} (n : H p = none) (r : Reps K z H xs ds) : RelH K (z.push p) (upd H p (.lst xs)) (st ++ [.lst ds]) :=
  h.pushC (cl := .lst ds) n ⟨xs, upd_same, r.ext (ext_push h n)⟩
theorem ext_write (h : RelH K z H st) {i : Nat} {p : Addr} {o : HO} (hi : z.mu[i]? = some p) : Ext z H z (upd H p o) :=
  ⟨⟨fun _ _ q => q, fun a q => ⟨q, upd_ne fun e => h.nfz p (List.mem_of_getElem? hi) (e ▸ q)⟩, fun _ _ _ => rfl⟩, fun a _ q _ => upd_ne fun e => q (e ▸ List.mem_of_getElem? hi), fun a q => .inl q, fun a q => .inl q, fun a q => upd_live q, rfl⟩
/-- something that the relation does not speak of is written -/
theorem ex0_off {p : Addr} {o : HO} (nf : ¬ z.fz p) : Ex0 z H z (upd H p o) := ⟨fun _ _ q => q, fun a q => ⟨q, upd_ne fun e => nf (e ▸ q)⟩, fun _ _ _ => rfl⟩
theorem RelH.off (h : RelH K z H st) {p : Addr} {o : HO} (nf : ¬ z.fz p) (nm : p ∉ z.mu) (nt : p ∉ z.tb) : RelH K z (upd H p o) st :=
  ⟨h.len, h.nd, h.nfz, fun a q => upd_live (h.fz a q), fun i a c hi hc => (h.cells i a c hi hc).ext0 (ex0_off nf) (upd_ne fun e => nm (e ▸ List.mem_of_getElem? hi)), fun P hP => ⟨(h.tb P hP).1.upd fun e => nt (e ▸ hP), (h.tb P hP).2⟩, h.tbk, h.knd⟩
/-- .. that was not there at the base -/
theorem Ext.off {z0 : Z} {H0 : Hp} (e : Ext z0 H0 z H) {p : Addr} {o : HO} (n : H0 p = none) (nf : ¬ z.fz p) : Ext z0 H0 z (upd H p o) :=
  ⟨⟨e.mu, fun a q => ⟨(e.fz a q).1, (upd_ne fun w => nf (by rw [← w]; exact (e.fz a q).1)).trans (e.fz a q).2⟩, e.kd⟩, fun a q w m => (upd_ne (ne_new n q)).trans (e.fr a q w m), e.nw, e.nf, fun a q => upd_live (e.lv a q), e.tb⟩
theorem RelH.writeC (h : RelH K z H st) {i : Nat} {p : Addr} {o : HO} {cl : Cell} (hi : z.mu[i]? = some p) (hk : z.kd i = cl.isS) (r : CellR K z (upd H p o) p cl) : RelH K z (upd H p o) (st.set i cl) := by
  have e := ext_write (o := o) h hi
  refine ⟨by rw [List.length_set]; exact h.len, h.nd, h.nfz, fun a q => ?_, fun j a c hj hc => ?_, fun P hP => ⟨(h.tb P hP).1.upd fun w => (h.tb P hP).2.1 (w ▸ List.mem_of_getElem? hi), (h.tb P hP).2⟩, h.tbk, fun j c q => ?_⟩
  · rw [(e.fz a q).2]
    exact h.fz a q
  · by_cases l : j = i
    · subst l
      rw [hi] at hj
      have e1 := Option.some.inj hj
      subst e1
      rw [List.getElem?_set_self (by rw [← h.len]; exact (List.getElem?_eq_some_iff.mp hi).1)] at hc
      have e2 := Option.some.inj hc
      subst e2
      exact r
    · rw [List.getElem?_set_ne (Ne.symm l)] at hc
      exact (h.cells j a c hj hc).ext e (upd_ne fun q => l (nd_ix h.nd hj (q ▸ hi)))
  · by_cases l : j = i
    · subst l
      rw [List.getElem?_set_self (by rw [← h.len]; exact (List.getElem?_eq_some_iff.mp hi).1)] at q
      rw [← Option.some.inj q]
      exact hk.symm
    · rw [List.getElem?_set_ne (Ne.symm l)] at q
      exact h.knd j c q
theorem RelH.write (h : RelH K z H st) {i : Nat} {p : Addr} {xs : List V} (hi : z.mu[i]? = some p) (hk : z.kd i = false) (r : Reps K z H xs ds) : RelH K z (upd H p (.lst xs)) (st.set i (.lst ds)) :=
  h.writeC (cl := .lst ds) hi hk ⟨xs, upd_same, r.ext (ext_write h hi)⟩
/-- a list's cell; a set's -/
theorem RelH.isL (h : RelH K z H st) {n : Nat} {a : Addr} (r : z.mu[n]? = some a) (k : z.kd n = false) : ∃ ds xs, st[n]? = some (.lst ds) ∧ H a = some (.lst xs) ∧ Reps K z H xs ds := by
  have hl : n < st.length := h.len ▸ (List.getElem?_eq_some_iff.mp r).1
  have q := List.getElem?_eq_getElem hl
  have c := h.cells n a _ r q
  have e := h.knd n _ q
  generalize st[n] = cl at q c e
  cases cl with
  | lst ds =>
    obtain ⟨xs, x, rs⟩ := c
    exact ⟨ds, xs, q, x, rs⟩
  | set S =>
    rw [k] at e
    cases e
  | dct ks ds =>
    rw [k] at e
    cases e
theorem RelH.isS (h : RelH K z H st) {n : Nat} {a : Addr} (r : z.mu[n]? = some a) (k : z.kd n = true) : (∃ S w, st[n]? = some (.set S) ∧ Tabs.wd = some w ∧ H a = some (SetO w a (fun j => decide (j ∈ S)) S.length)) ∨ ∃ ks ds xs, st[n]? = some (.dct ks ds) ∧ DctAt K z H a ks xs ∧ Reps K z H xs ds := by
  have hl : n < st.length := h.len ▸ (List.getElem?_eq_some_iff.mp r).1
  have q := List.getElem?_eq_getElem hl
  have c := h.cells n a _ r q
  have e := h.knd n _ q
  generalize st[n] = cl at q c e
  cases cl with
  | set S =>
    obtain ⟨w, hw, x⟩ := c
    exact .inl ⟨S, w, q, hw, x⟩
  | dct ks ds =>
    obtain ⟨xs, x, r⟩ := c
    exact .inr ⟨ks, ds, xs, q, x, r⟩
  | lst ds =>
    rw [k] at e
    cases e
theorem RelH.cell (h : RelH K z H st) {n : Nat} {a : Addr} (r : z.mu[n]? = some a) {c : Cell} (hc : st[n]? = some c) : CellR K z H a c := h.cells n a c r hc
end
end Ev

namespace Ev
open PySem PySem.Spec PyProof.Rows L2
variable [Tabs]

/-! ## readings by functions -/
def XR (K : PySem.W.Frag) (xm : List Addr) (z : Z) (H : Hp) (c : Nat) (p : Pay) (cls : Value) (dd : Option Addr) : Prop :=
  (∃ C, xm[c]? = some C ∧ cls = .ref C) ∧ match p with
    | none => dd = none
    | some (f, d) => ∃ a v, dd = some a ∧ H a = some (.xd [(f, v)]) ∧ Rep K z H v d
section
variable (K : PySem.W.Frag) (xm : List Addr)
def okD (z : Z) (H : Hp) (Q : VK) : D → Sto → Prop := fun d st' => ∀ v z' H', Ext z H z' H' → RelH K z' H' st' → Rep K z' H' v d → Q v H'
def okB (z : Z) (H : Hp) (Q : Bool → Hp → Prop) : Bool → Sto → Prop := fun b st' => ∀ z' H', Ext z H z' H' → RelH K z' H' st' → Q b H'
def okL (z : Z) (H : Hp) (Q : List V → Hp → Prop) : List D → Sto → Prop := fun ds st' => ∀ vs z' H', Ext z H z' H' → RelH K z' H' st' → Reps K z' H' vs ds → Q vs H'
def exW (z : Z) (H : Hp) (W : WX) (σ : L2.St) : Nat → Pay → Sto → Prop := fun c p st' => ∀ cls dd z' H', Ext z H z' H' → RelH K z' H' st' → XR K xm z' H' c p cls dd → W cls dd σ H'
def TEf (W : WX) (f : EF) : TE := fun σ H Q => ∃ z en st, RelH K z H st ∧ RelE K z H σ en ∧ (f en st).wp (okD K z H Q) (exW K xm z H W σ)
def TTf (W : WX) (f : TF) : TT := fun σ H Q => ∃ z en st, RelH K z H st ∧ RelE K z H σ en ∧ (f en st).wp (okB K z H Q) (exW K xm z H W σ)
def TAf (W : WX) (f : AF) : TA := fun σ H Q => ∃ z en st, RelH K z H st ∧ RelE K z H σ en ∧ (f en st).wp (okL K z H Q) (exW K xm z H W σ)
/-- an operation on two values -/
abbrev O2 := D → D → Sto → Option (D × Sto)
abbrev O1 := D → Sto → Option (D × Sto)
abbrev OL := List D → Sto → Option (D × Sto)
def R2f (op : O2) : R2 := fun x y H Q => ∃ z st da db d st', RelH K z H st ∧ Rep K z H x da ∧ Rep K z H y db ∧ op da db st = some (d, st') ∧ okD K z H Q d st'
def R1f (op : O1) : V → Hp → VK → Prop := fun x H Q => ∃ z st da d st', RelH K z H st ∧ Rep K z H x da ∧ op da st = some (d, st') ∧ okD K z H Q d st'
def RLf (op : OL) : List V → Hp → VK → Prop := fun xs H Q => ∃ z st ds d st', RelH K z H st ∧ Reps K z H xs ds ∧ op ds st = some (d, st') ∧ okD K z H Q d st'
end
/-- what a body's context has -/
structure GX (X : Cx) (xm : List Addr) (W : WX) (k : Nat) : Prop where
  tk : Takes X W
  po : PassesOwn (model X.prog X.w) X.A X.env X.xe
  rm : Room k X.A
  gd : X.A.guards = some []
  nd : X.N.Nodup
  cm : X.calm = true
  wd : Tabs.wd = some X.w
theorem GX.mono {X : Cx} {xm : List Addr} {W : WX} {j k : Nat} (G : GX X xm W k) (h : j ≤ k) : GX X xm W j := ⟨G.tk, G.po, G.rm.mono h, G.gd, G.nd, G.cm, G.wd⟩
theorem _root_.L2.PE.imp {X : Cx} {e : Expr} {t t' : TE} (h : PE X e t) (w : ∀ σ H Q, t' σ H Q → t σ H Q) : PE X e t' := ⟨fun pins s σ H Q I q => h.run pins s σ H Q I (w σ H Q q)⟩
theorem _root_.L2.PT.imp {X : Cx} {e : Expr} {t t' : TT} (h : PT X e t) (w : ∀ σ H Q, t' σ H Q → t σ H Q) : PT X e t' := ⟨fun pins s σ H Q I q => h.run pins s σ H Q I (w σ H Q q)⟩
theorem _root_.L2.PW.imp {X : Cx} {e : Expr} {t t' : TT} (h : PW X e t) (w : ∀ σ H Q, t' σ H Q → t σ H Q) : PW X e t' := ⟨fun wh pins s σ H Q I q => h.run wh pins s σ H Q I (w σ H Q q)⟩
theorem _root_.L2.PA.imp {X : Cx} {e : List Expr} {t t' : TA} (h : PA X e t) (w : ∀ σ H Q, t' σ H Q → t σ H Q) : PA X e t' := ⟨fun pos pins s σ H Q I q => h.run pos pins s σ H Q I (w σ H Q q)⟩
section
variable {K : PySem.W.Frag} {xm : List Addr} {W : WX} {σ : L2.St} {z z1 : Z} {H H1 : Hp} {st : Sto}
theorem exW.ext (e : Ext z H z1 H1) {c : Nat} {p : Pay} {st' : Sto} (h : exW K xm z H W σ c p st') : exW K xm z1 H1 W σ c p st' := fun cls dd z' H' e' r x => h cls dd z' H' (e.trans e') r x
theorem okD.ext {Q : VK} (e : Ext z H z1 H1) {d : D} {st' : Sto} (h : okD K z H Q d st') : okD K z1 H1 Q d st' := fun v z' H' e' r x => h v z' H' (e.trans e') r x
theorem okB.ext {Q : Bool → Hp → Prop} (e : Ext z H z1 H1) {d : Bool} {st' : Sto} (h : okB K z H Q d st') : okB K z1 H1 Q d st' := fun z' H' e' r => h z' H' (e.trans e') r
theorem okL.ext {Q : List V → Hp → Prop} (e : Ext z H z1 H1) {d : List D} {st' : Sto} (h : okL K z H Q d st') : okL K z1 H1 Q d st' := fun v z' H' e' r x => h v z' H' (e.trans e') r x
theorem okD.here {Q : VK} {v : V} {d : D} (h : okD K z H Q d st) (r : RelH K z H st) (p : Rep K z H v d) : Q v H := h v z H .refl r p
/-- a new tuple, a new frozen list, a new cell -/
theorem okD.newT {Q : VK} {ds : List D} {xs : List V} {p : Addr} (h : okD K z H Q (.tup ds) st) (r : RelH K z H st) (rs : Reps K z H xs ds) (n : H p = none) (np : npl ds = true) : Q (.ref p) (upd H p (.tup xs)) :=
  h _ (z.add p) _ (ext_add r n) (r.add n) (.tup (.of (.inr rfl) upd_same np) (rs.ext (ext_add r n)))
theorem okD.newP {Q : VK} {ds : List D} {xs : List V} (h : okD K z H Q (.tup ds) st) (r : RelH K z H st) (rs : Reps K z H xs ds) : NewP H xs Q := fun p its n =>
  h _ (z.add p) _ (ext_add r n) (r.add n) (.tup (PlZ.tup ⟨.inr rfl, its, upd_same⟩) (rs.ext (ext_add r n)))
theorem okD.newF {Q : VK} {ds : List D} {xs : List V} {p : Addr} (h : okD K z H Q (.lst ds) st) (r : RelH K z H st) (rs : Reps K z H xs ds) (n : H p = none) : Q (.ref p) (upd H p (.lst xs)) :=
  h _ (z.add p) _ (ext_add r n) (r.add n) (.lst (.inr rfl) upd_same (rs.ext (ext_add r n)))
theorem okD.newC {Q : VK} {ds : List D} {xs : List V} {p : Addr} (h : okD K z H Q (.ref st.length) (st ++ [.lst ds])) (r : RelH K z H st) (rs : Reps K z H xs ds) (n : H p = none) : Q (.ref p) (upd H p (.lst xs)) :=
  h _ (z.push p) _ (ext_push r n) (r.push n rs) (.ref (by
    show (z.mu ++ [p])[st.length]? = some p
    rw [← r.len, List.getElem?_append_right (Nat.le_refl _), Nat.sub_self]
    rfl) (if_pos r.len.symm))
theorem okD.write {Q : VK} {d : D} {ds : List D} {xs : List V} {i : Nat} {p : Addr} {v : V} (h : okD K z H Q d (st.set i (.lst ds))) (r : RelH K z H st) (hi : z.mu[i]? = some p) (hk : z.kd i = false) (rs : Reps K z H xs ds) (rv : Rep K z H v d) : Q v (upd H p (.lst xs)) :=
  h v z _ (ext_write r hi) (r.write hi hk rs) (rv.ext (ext_write r hi))
end

/-! ## names, constants, operations -/
def varF (i : Nat) : EF := fun en st => match en[i]? with
  | some (some d) => .ok d st
  | _ => .bad
def litF (d : D) : EF := fun _ st => .ok d st
def op2F (op : O2) (f g : EF) : EF := fun en st => (f en st).bind fun a st1 => (g en st1).bind fun b st2 => R.ofO (op a b st2)
def op1F (op : O1) (f : EF) : EF := fun en st => (f en st).bind fun a st1 => R.ofO (op a st1)
def nilA : AF := fun _ st => .ok [] st
def consA (f : EF) (g : AF) : AF := fun en st => (f en st).bind fun a st1 => (g en st1).bind fun b st2 => .ok (a :: b) st2
def opLF (op : OL) (f : AF) : EF := fun en st => (f en st).bind fun a st1 => R.ofO (op a st1)
def isT : O1 := fun d st => match d with
  | .bl b => some (.bl b, st)
  | _ => none
/-- an expression whose value is a bool, as a test -/
def boolF (f : EF) : TF := fun en st => (f en st).bind fun a st1 => match a with
  | .bl b => .ok b st1
  | _ => .bad
def notT (f : TF) : TF := fun en st => (f en st).bind fun a st1 => .ok (!a) st1
def andT (f g : TF) : TF := fun en st => (f en st).bind fun a st1 => if a = true then g en st1 else .ok false st1
def orT (f g : TF) : TF := fun en st => (f en st).bind fun a st1 => if a = true then .ok true st1 else g en st1
def ifeF (c : TF) (f g : EF) : EF := fun en st => (c en st).bind fun a st1 => if a = true then f en st1 else g en st1
def asV (f : TF) : EF := fun en st => (f en st).bind fun a st1 => .ok (.bl a) st1
/-- truth -/
def truD : D → Sto → Option Bool
  | .non, _ => some false
  | .bl b, _ => some b
  | .int i, _ => some (i != 0)
  | .str y, _ => if y.length ≤ sizeLine then some ((y.length : Int) != 0) else none
  | .tup ds, _ => some (!ds.isEmpty)
  | .lst ds, _ => some (!ds.isEmpty)
  | .fro ds, _ => some (!ds.isEmpty)
  | .sref _, _ => none
  | .dic _ _, _ => none
  | .ref n, st => match st[n]? with
    | some (.lst ds) => some (!ds.isEmpty)
    | _ => none
def truF (f : EF) : TF := fun en st => (f en st).bind fun a st1 => match truD a st1 with
  | some b => .ok b st1
  | none => .bad
section
variable {X : Cx} {xm : List Addr} {W : WX} {k : Nat} {a b c : Expr} {f g : EF} {pos : Pos}
theorem seqE {K : PySem.W.Frag} {σ : L2.St} {z : Z} {H : Hp} {en : En} {st : Sto} {Q : VK} (rh : RelH K z H st) (re : RelE K z H σ en) (h : (f en st).wp (okD K z H Q) (exW K xm z H W σ)) : TEf K xm W f σ H Q := ⟨z, en, st, rh, re, h⟩
theorem seqE' {K : PySem.W.Frag} {σ : L2.St} {z : Z} {H : Hp} {en : En} {st : Sto} {Q : VK} {k : D → Sto → Prop} (rh : RelH K z H st) (re : RelE K z H σ en) (h : (f en st).wp k (exW K xm z H W σ))
    (hk : ∀ d st1 v z1 H1, k d st1 → Ext z H z1 H1 → RelH K z1 H1 st1 → RelE K z1 H1 σ en → Rep K z1 H1 v d → Q v H1) : TEf K xm W f σ H Q :=
  ⟨z, en, st, rh, re, wp_mono h (fun d st1 q v z1 H1 e r p => hk d st1 v z1 H1 q e r (re.ext e) p) fun _ _ _ q => q⟩
theorem seqT' {f : TF} {K : PySem.W.Frag} {σ : L2.St} {z : Z} {H : Hp} {en : En} {st : Sto} {Q : Bool → Hp → Prop} {k : Bool → Sto → Prop} (rh : RelH K z H st) (re : RelE K z H σ en) (h : (f en st).wp k (exW K xm z H W σ))
    (hk : ∀ d st1 z1 H1, k d st1 → Ext z H z1 H1 → RelH K z1 H1 st1 → RelE K z1 H1 σ en → Q d H1) : TTf K xm W f σ H Q :=
  ⟨z, en, st, rh, re, wp_mono h (fun d st1 q z1 H1 e r => hk d st1 z1 H1 q e r (re.ext e)) fun _ _ _ q => q⟩
theorem seqA' {f : AF} {K : PySem.W.Frag} {σ : L2.St} {z : Z} {H : Hp} {en : En} {st : Sto} {Q : List V → Hp → Prop} {k : List D → Sto → Prop} (rh : RelH K z H st) (re : RelE K z H σ en) (h : (f en st).wp k (exW K xm z H W σ))
    (hk : ∀ d st1 v z1 H1, k d st1 → Ext z H z1 H1 → RelH K z1 H1 st1 → RelE K z1 H1 σ en → Reps K z1 H1 v d → Q v H1) : TAf K xm W f σ H Q :=
  ⟨z, en, st, rh, re, wp_mono h (fun d st1 q v z1 H1 e r p => hk d st1 v z1 H1 q e r (re.ext e) p) fun _ _ _ q => q⟩
/-- carried over an extension -/
theorem wpD_ext {α : Type} {K : PySem.W.Frag} {σ : L2.St} {z z1 : Z} {H H1 : Hp} {r : R α} {Q Q' : α → Sto → Prop} (e : Ext z H z1 H1) (h : r.wp Q (exW K xm z H W σ)) (hq : ∀ a st, Q a st → Q' a st) : r.wp Q' (exW K xm z1 H1 W σ) :=
  wp_mono h hq fun _ _ _ q => q.ext e

theorem sn_var (i : Nat) {x : Str} (hN : X.N[i]? = some x := by rfl) (hv : Vis X.env.scope x := by first | exact Or.inl rfl | exact Or.inr (Or.inl rfl) | exact Or.inr (Or.inr rfl)) (hd : (x == ("__debug__" : Str)) = false := by decide)
    (hcd : (x == ("__classdict__" : Str)) = false := by decide) : PE X (.Name x pos) (TEf X.K xm W (varF i)) :=
  (pe_var hN hv hd hcd).imp fun σ H Q ⟨z, en, st, rh, re, h⟩ => by
    unfold varF at h
    split at h
    · rename_i d hd
      obtain ⟨v, hv, r⟩ := re.2 i d hd
      exact ⟨v, hv, okD.here h rh r⟩
    · exact h.elim
theorem sn_lit {v : V} {d : D} (hp : PE X a (tC v)) (r : ∀ z H, Rep X.K z H v d) : PE X a (TEf X.K xm W (litF d)) := hp.imp fun σ H Q ⟨z, en, st, rh, re, h⟩ => okD.here h rh (r z H)
theorem sn_int {i : Int} {j : Nat} : PE X (.Constant (.int i) j pos) (TEf X.K xm W (litF (.int i))) := sn_lit pe_int fun _ _ => .int i
theorem sn_bl {b : Bool} {j : Nat} : PE X (.Constant (.bool b) j pos) (TEf X.K xm W (litF (.bl b))) := sn_lit pe_bl fun _ _ => .bl b
theorem sn_non {j : Nat} : PE X (.Constant .none j pos) (TEf X.K xm W (litF .non)) := sn_lit pe_non fun _ _ => .non
theorem sn_str {x : Str} {j : Nat} : PE X (.Constant (.str x) j pos) (TEf X.K xm W (litF (.str x))) := sn_lit pe_str fun _ _ => .str x

theorem op2_read {op : O2} {K : PySem.W.Frag} (σ : L2.St) (H : Hp) (Q : VK) (q : TEf K xm W (op2F op f g) σ H Q) : tOp (R2f K op) (TEf K xm W f) (TEf K xm W g) σ H Q := by
  obtain ⟨z, en, st, rh, re, h⟩ := q
  have h1 := wp_bind.mp h
  refine seqE' rh re h1 fun d1 st1 v1 z1 H1 q1 e1 r1 re1 p1 => ?_
  have h2 := wp_bind.mp q1
  refine seqE' r1 re1 (wpD_ext e1 h2 fun _ _ q => q) fun d2 st2 v2 z2 H2 q2 e2 r2 re2 p2 => ?_
  obtain ⟨d, st3, e3, q3⟩ := wp_ofO q2
  exact ⟨z2, st2, d1, d2, d, st3, r2, p1.ext e2, p2, e3, q3.ext (e1.trans e2)⟩
theorem sn_op2 {op : O2} {o : Operator} (ho : OpR X (binaryOp o) (R2f X.K op)) (ha : PE X a (TEf X.K xm W f)) (hb : PE X b (TEf X.K xm W g)) : PE X (.BinOp a o b pos) (TEf X.K xm W (op2F op f g)) :=
  (pe_op ho ha hb).imp op2_read
theorem sn_cmp {op : O2} {o : CmpOp} (ho : OpR X (compareOp o) (R2f X.K op)) (ha : PE X a (TEf X.K xm W f)) (hb : PE X b (TEf X.K xm W g)) (hm : behindInMarks o b = false := by first | exact nomark _ | rfl) : PE X (.Compare a [o] [b] pos) (TEf X.K xm W (op2F op f g)) :=
  (pe_cmpR ho ha hb hm).imp op2_read
theorem sn_op1 {op : O1} {o : UnaryOp} (ho : UnR X (unaryOp o) (R1f X.K op)) (ha : PE X a (TEf X.K xm W f)) : PE X (.UnaryOp o a pos) (TEf X.K xm W (op1F op f)) :=
  (pe_un ho ha).imp fun σ H Q ⟨z, en, st, rh, re, h⟩ => by
    refine seqE' rh re (wp_bind.mp h) fun d1 st1 v1 z1 H1 q1 e1 r1 re1 p1 => ?_
    obtain ⟨d, st3, e3, q3⟩ := wp_ofO q1
    exact ⟨z1, st1, d1, d, st3, r1, p1, e3, q3.ext e1⟩
/-! tests -/
theorem tt_of {K : PySem.W.Frag} (σ : L2.St) (H : Hp) (Q : Bool → Hp → Prop) (q : TTf K xm W (boolF f) σ H Q) : TEf K xm W f σ H fun x H' => ∃ k, x = .bl k ∧ Q k H' := by
  obtain ⟨z, en, st, rh, re, h⟩ := q
  refine seqE' rh re (wp_bind.mp h) fun d1 st1 v1 z1 H1 q1 e1 r1 re1 p1 => ?_
  cases d1 with
  | bl b =>
    cases p1
    exact ⟨b, rfl, q1 z1 H1 e1 r1⟩
  | _ => exact False.elim q1
theorem st_cmp {op : O2} {o : CmpOp} (ho : OpR X (compareOp o) (R2f X.K op)) (ha : PE X a (TEf X.K xm W f)) (hb : PE X b (TEf X.K xm W g)) (hm : behindInMarks o b = false := by first | exact nomark _ | rfl) : PT X (.Compare a [o] [b] pos) (TTf X.K xm W (boolF (op2F op f g))) :=
  (pt_cmpR ho ha hb hm).imp fun σ H Q q => by
    have w := tt_of σ H Q q
    exact op2_read σ H _ w
theorem st_tru {K : PySem.W.Frag} {xm : List Addr} {W : WX} {z : Z} {H : Hp} {st : Sto} {v : V} {d : D} {b : Bool} (r : RelH K z H st) (p : Rep K z H v d) (h : truD d st = some b) : TruV K v H b := by
  cases p with
  | non => exact (Option.some.inj h).symm
  | bl b => exact (Option.some.inj h).symm
  | int i => exact (Option.some.inj h).symm
  | str x =>
    have h : (if x.length ≤ sizeLine then some ((x.length : Int) != 0) else none) = some b := h
    by_cases q : x.length ≤ sizeLine
    · rw [if_pos q] at h
      exact ⟨q, (Option.some.inj h).symm⟩
    · rw [if_neg q] at h
      cases h
  | @tup a xs ds t rs =>
    refine .inr (.inl ⟨xs, t.seq, ?_⟩)
    rw [← Option.some.inj h]
    cases rs <;> rfl
  | @lst a xs ds t e rs =>
    refine .inl ⟨xs, SqL.of e, ?_⟩
    rw [← Option.some.inj h]
    cases rs <;> rfl
  | @fro a xs ds t rs =>
    refine .inl ⟨xs, t.seq, ?_⟩
    rw [← Option.some.inj h]
    cases rs <;> rfl
  | @ref a n hn =>
    cases hc : st[n]? with
    | none =>
      have h : (match st[n]? with | some (.lst ds) => some (!ds.isEmpty) | _ => none) = some b := h
      rw [hc] at h
      cases h
    | some c =>
      have h : (match st[n]? with | some (.lst ds) => some (!ds.isEmpty) | _ => none) = some b := h
      rw [hc] at h
      cases c with
      | lst ds =>
        obtain ⟨xs, e, rs⟩ := r.cell hn hc
        refine .inl ⟨xs, SqL.of e, ?_⟩
        rw [← Option.some.inj h]
        cases rs <;> rfl
      | set S => cases h
      | dct ks0 ds0 => cases h
  | sref _ _ => cases h
  | dic _ _ => cases h
theorem st_truth (ha : PE X a (TEf X.K xm W f)) (he : ∀ whole, isTrue a X.env whole = (do let v ← whole; standAt a.pos; holding [v] (truthy v)) := by intro _; rfl) : PT X a (TTf X.K xm W (truF f)) :=
  (pt_truth ha he).imp fun σ H Q ⟨z, en, st, rh, re, h⟩ => by
    refine seqE' rh re (wp_bind.mp h) fun d1 st1 v1 z1 H1 q1 e1 r1 re1 p1 => ?_
    cases ht : truD d1 st1 with
    | none =>
      rw [ht] at q1
      exact False.elim q1
    | some b =>
      rw [ht] at q1
      exact ⟨b, st_tru (xm := xm) (W := W) r1 p1 ht, q1 z1 H1 e1 r1⟩
variable {fa fb : TF} {rest : List Expr}
theorem st_not (ha : PT X a (TTf X.K xm W fa)) : PT X (.UnaryOp .Not a pos) (TTf X.K xm W (notT fa)) :=
  (pt_not ha).imp fun σ H Q ⟨z, en, st, rh, re, h⟩ => seqT' rh re (wp_bind.mp h) fun b st1 z1 H1 q1 e1 r1 re1 => q1 z1 H1 e1 r1
theorem sw_and1 (ha : PT X a (TTf X.K xm W fa)) : PW X (.BoolOp .And [a] pos) (TTf X.K xm W fa) := pw_and1 ha
theorem sw_or1 (ha : PT X a (TTf X.K xm W fa)) : PW X (.BoolOp .Or [a] pos) (TTf X.K xm W fa) := pw_or1 ha
theorem sw_and (ha : PT X a (TTf X.K xm W fa)) (hb : PW X (.BoolOp .And (b :: rest) pos) (TTf X.K xm W fb)) : PW X (.BoolOp .And (a :: b :: rest) pos) (TTf X.K xm W (andT fa fb)) :=
  (pw_and ha hb).imp fun σ H Q ⟨z, en, st, rh, re, h⟩ => seqT' rh re (wp_bind.mp h) fun b st1 z1 H1 q1 e1 r1 re1 => by
    cases b with
    | true => exact ⟨z1, en, st1, r1, re1, wpD_ext e1 q1 fun _ _ q => q.ext e1⟩
    | false => exact q1 z1 H1 e1 r1
theorem sw_or (ha : PT X a (TTf X.K xm W fa)) (hb : PW X (.BoolOp .Or (b :: rest) pos) (TTf X.K xm W fb)) : PW X (.BoolOp .Or (a :: b :: rest) pos) (TTf X.K xm W (orT fa fb)) :=
  (pw_or ha hb).imp fun σ H Q ⟨z, en, st, rh, re, h⟩ => seqT' rh re (wp_bind.mp h) fun b st1 z1 H1 q1 e1 r1 re1 => by
    cases b with
    | false => exact ⟨z1, en, st1, r1, re1, wpD_ext e1 q1 fun _ _ q => q.ext e1⟩
    | true => exact q1 z1 H1 e1 r1
/-- and, or, not as values: all but the last are bools -/
def andV (f g : EF) : EF := fun en st => (boolF f en st).bind fun a st1 => if a = true then g en st1 else .ok (.bl false) st1
def orV (f g : EF) : EF := fun en st => (boolF f en st).bind fun a st1 => if a = true then .ok (.bl true) st1 else g en st1
def notV (f : EF) : EF := fun en st => (boolF f en st).bind fun a st1 => .ok (.bl (!a)) st1
theorem bool_read {K : PySem.W.Frag} {σ : L2.St} {z : Z} {H : Hp} {en : En} {st : Sto} {Q : VK} {k : Bool → Sto → Prop} (rh : RelH K z H st) (re : RelE K z H σ en) (h : (boolF f en st).wp k (exW K xm z H W σ))
    (hk : ∀ b st1 z1 H1, k b st1 → Ext z H z1 H1 → RelH K z1 H1 st1 → RelE K z1 H1 σ en → Q (.bl b) H1) : TEf K xm W f σ H Q := by
  refine seqE' rh re (wp_bind.mp h) fun d1 st1 v1 z1 H1 q1 e1 r1 re1 p1 => ?_
  cases d1 with
  | bl b =>
    cases p1
    exact hk b st1 z1 H1 q1 e1 r1 re1
  | _ => exact False.elim q1
theorem sn_and (ha : PE X a (TEf X.K xm W f)) (hb : PE X (.BoolOp .And (b :: rest) pos) (TEf X.K xm W g)) : PE X (.BoolOp .And (a :: b :: rest) pos) (TEf X.K xm W (andV f g)) :=
  (pe_and ha hb).imp fun σ H Q ⟨z, en, st, rh, re, h⟩ => bool_read rh re (wp_bind.mp h) fun b st1 z1 H1 q1 e1 r1 re1 => ⟨b, rfl, by
    cases b with
    | true => exact seqE r1 re1 (wpD_ext e1 q1 fun _ _ q => q.ext e1)
    | false => exact q1 _ z1 H1 e1 r1 (.bl false)⟩
theorem sn_or (ha : PE X a (TEf X.K xm W f)) (hb : PE X (.BoolOp .Or (b :: rest) pos) (TEf X.K xm W g)) : PE X (.BoolOp .Or (a :: b :: rest) pos) (TEf X.K xm W (orV f g)) :=
  (pe_or ha hb).imp fun σ H Q ⟨z, en, st, rh, re, h⟩ => bool_read rh re (wp_bind.mp h) fun b st1 z1 H1 q1 e1 r1 re1 => ⟨b, rfl, by
    cases b with
    | false => exact seqE r1 re1 (wpD_ext e1 q1 fun _ _ q => q.ext e1)
    | true => exact q1 _ z1 H1 e1 r1 (.bl true)⟩
theorem sn_not (ha : PE X a (TEf X.K xm W f)) : PE X (.UnaryOp .Not a pos) (TEf X.K xm W (notV f)) :=
  (pe_not ha).imp fun σ H Q ⟨z, en, st, rh, re, h⟩ => bool_read rh re (wp_bind.mp h) fun b st1 z1 H1 q1 e1 r1 re1 => ⟨b, rfl, q1 _ z1 H1 e1 r1 (.bl _)⟩
theorem sn_one {o : BoolOp} (ha : PE X a (TEf X.K xm W f)) : PE X (.BoolOp o [a] pos) (TEf X.K xm W f) := pe_one ha
theorem sn_ife (hc : PT X c (TTf X.K xm W fa)) (ha : PE X a (TEf X.K xm W f)) (hb : PE X b (TEf X.K xm W g)) : PE X (.IfExp c a b pos) (TEf X.K xm W (ifeF fa f g)) :=
  (pe_ifExp hc ha hb).imp fun σ H Q ⟨z, en, st, rh, re, h⟩ => seqT' rh re (wp_bind.mp h) fun b st1 z1 H1 q1 e1 r1 re1 => by
    cases b with
    | true => exact seqE r1 re1 (wpD_ext e1 q1 fun _ _ q => q.ext e1)
    | false => exact seqE r1 re1 (wpD_ext e1 q1 fun _ _ q => q.ext e1)
/-! a < b < c -/
def chainF (op op' : O2) (f g h : EF) : EF := fun en st => (f en st).bind fun a st1 => (g en st1).bind fun b st2 => (R.ofO (op a b st2)).bind fun r st3 => match r with
  | .bl true => (h en st3).bind fun c st4 => R.ofO (op' b c st4)
  | .bl false => .ok (.bl false) st3
  | _ => .bad
theorem chain_read {op op' : O2} {h : EF} {K : PySem.W.Frag} (σ : L2.St) (H : Hp) (Q : VK) (q : TEf K xm W (chainF op op' f g h) σ H Q) : tChain (R2f K op) (R2f K op') (TEf K xm W f) (TEf K xm W g) (TEf K xm W h) σ H Q := by
  obtain ⟨z, en, st, rh, re, w⟩ := q
  refine seqE' rh re (wp_bind.mp w) fun d1 st1 v1 z1 H1 q1 e1 r1 re1 p1 => ?_
  refine seqE' r1 re1 (wpD_ext e1 (wp_bind.mp q1) fun _ _ q => q) fun d2 st2 v2 z2 H2 q2 e2 r2 re2 p2 => ?_
  obtain ⟨d, st3, e3, q3⟩ := wp_ofO (wp_bind.mp q2)
  refine ⟨z2, st2, d1, d2, d, st3, r2, p1.ext e2, p2, e3, fun v z' H' e' r' p' => ?_⟩
  have e12 := (e1.trans e2).trans e'
  cases d with
  | bl b =>
    cases p'
    refine ⟨b, rfl, ?_⟩
    cases b with
    | false => exact q3 _ z' H' e12 r' (.bl false)
    | true =>
      refine seqE' r' (re2.ext e') (wpD_ext e12 (wp_bind.mp q3) fun _ _ q => q) fun d4 st4 v4 z4 H4 q4 e4 r4 re4 p4 => ?_
      obtain ⟨d5, st5, e5, q5⟩ := wp_ofO q4
      exact ⟨z4, st4, d2, d4, d5, st5, r4, p2.ext (e'.trans e4), p4, e5, q5.ext (e12.trans e4)⟩
  | _ => exact False.elim q3
theorem sn_chain {op op' : O2} {o o' : CmpOp} {h : EF} (ho : OpR X (compareOp o) (R2f X.K op)) (ho' : OpR X (compareOp o') (R2f X.K op')) (ha : PE X a (TEf X.K xm W f)) (hb : PE X b (TEf X.K xm W g)) (hc : PE X c (TEf X.K xm W h)) (hm : lastMarks [o, o'] [b, c] = false := by rfl) :
    PE X (.Compare a [o, o'] [b, c] pos) (TEf X.K xm W (chainF op op' f g h)) := (pe_chain ho ho' ha hb hc hm).imp chain_read
theorem st_chain {op op' : O2} {o o' : CmpOp} {h : EF} (ho : OpR X (compareOp o) (R2f X.K op)) (ho' : OpR X (compareOp o') (R2f X.K op')) (ha : PE X a (TEf X.K xm W f)) (hb : PE X b (TEf X.K xm W g)) (hc : PE X c (TEf X.K xm W h)) (hm : lastMarks [o, o'] [b, c] = false := by rfl) :
    PT X (.Compare a [o, o'] [b, c] pos) (TTf X.K xm W (boolF (chainF op op' f g h))) := (pt_chain ho ho' ha hb hc hm).imp fun σ H Q q => chain_read σ H _ (tt_of σ H Q q)
/-! arguments, displays, calls -/
variable {e : Expr} {es : List Expr} {fs : AF}
theorem sa_nil : PA X [] (TAf X.K xm W nilA) := pa_nil.imp fun σ H Q ⟨z, en, st, rh, re, h⟩ => h _ z H .refl rh .nil
theorem sa_cons (ha : PE X e (TEf X.K xm W f)) (hr : PA X es (TAf X.K xm W fs)) (hs : starEach (e :: es) X.env = (false, eval e X.env) :: starEach es X.env := by rfl) : PA X (e :: es) (TAf X.K xm W (consA f fs)) :=
  (pa_cons ha hr hs).imp fun σ H Q ⟨z, en, st, rh, re, h⟩ => by
    refine seqE' rh re (wp_bind.mp h) fun d1 st1 v1 z1 H1 q1 e1 r1 re1 p1 => ?_
    refine seqA' r1 re1 (wpD_ext e1 (wp_bind.mp q1) fun _ _ q => q) fun d2 st2 v2 z2 H2 q2 e2 r2 re2 p2 => ?_
    exact q2 _ z2 H2 (e1.trans e2) r2 (.cons (p1.ext e2) p2)
def tupL : OL := fun ds st => if ds.length ≤ sizeLine then some (.tup ds, st) else none
def lstL : OL := fun ds st => if ds.length ≤ sizeLine then some (.lst ds, st) else none
def celL : OL := fun ds st => if ds.length ≤ sizeLine then some (.ref st.length, st ++ [.lst ds]) else none
theorem sn_tup {x1} (h : PA X es (TAf X.K xm W fs)) : PE X (.Tuple es x1 pos) (TEf X.K xm W (opLF tupL fs)) :=
  (pe_tupP h).imp fun σ H Q ⟨z, en, st, rh, re, h⟩ => by
    refine seqA' rh re (wp_bind.mp h) fun d1 st1 v1 z1 H1 q1 e1 r1 re1 p1 => ?_
    obtain ⟨d, st3, e3, q3⟩ := wp_ofO q1
    unfold tupL at e3
    split at e3
    · rename_i hl
      cases e3
      exact ⟨by rw [p1.length]; exact hl, okD.newP (q3.ext e1) r1 p1⟩
    · cases e3
theorem sn_lst (h : PA X es (TAf X.K xm W fs)) : PE X (.List es pos) (TEf X.K xm W (opLF lstL fs)) :=
  (pe_lst h).imp fun σ H Q ⟨z, en, st, rh, re, h⟩ => by
    refine seqA' rh re (wp_bind.mp h) fun d1 st1 v1 z1 H1 q1 e1 r1 re1 p1 => ?_
    obtain ⟨d, st3, e3, q3⟩ := wp_ofO q1
    unfold lstL at e3
    split at e3
    · rename_i hl
      cases e3
      exact ⟨by rw [p1.length]; exact hl, fun p n => okD.newF (q3.ext e1) r1 p1 n⟩
    · cases e3
theorem sn_cel (h : PA X es (TAf X.K xm W fs)) : PE X (.List es pos) (TEf X.K xm W (opLF celL fs)) :=
  (pe_lst h).imp fun σ H Q ⟨z, en, st, rh, re, h⟩ => by
    refine seqA' rh re (wp_bind.mp h) fun d1 st1 v1 z1 H1 q1 e1 r1 re1 p1 => ?_
    obtain ⟨d, st3, e3, q3⟩ := wp_ofO q1
    unfold celL at e3
    split at e3
    · rename_i hl
      cases e3
      exact ⟨by rw [p1.length]; exact hl, fun p n => okD.newC (q3.ext e1) r1 p1 n⟩
    · cases e3
theorem opL_read {op : OL} {K : PySem.W.Frag} (σ : L2.St) (H : Hp) (Q : VK) (q : TEf K xm W (opLF op fs) σ H Q) : TAf K xm W fs σ H fun vs H1 => RLf K op vs H1 Q := by
  obtain ⟨z, en, st, rh, re, h⟩ := q
  refine seqA' rh re (wp_bind.mp h) fun d1 st1 v1 z1 H1 q1 e1 r1 re1 p1 => ?_
  obtain ⟨d, st3, e3, q3⟩ := wp_ofO q1
  exact ⟨z1, st1, d1, d, st3, r1, p1, e3, q3.ext e1⟩
variable {id T : String} {x : Str} {p : Pos}
/-- a built-in function, a built-in type -/
theorem sn_bi {op : OL} (hc : CallR X (.builtin id) (RLf X.K op)) (hg : Gl X x) (hm : X.mg x = none) (hv : bootBuiltins x = some (.builtin id)) (ha : PA X (e :: es) (TAf X.K xm W fs)) (hn : x ≠ "__name__" := by decide) (hdb : (x == ("__debug__" : Str)) = false := by decide)
    (he : starEach (e :: es) X.env = (false, eval e X.env) :: starEach es X.env := by rfl) (hpl : (backTo pos (starEach es X.env)).any (·.1) = false := by rfl) : PE X (.Call (.Name x p) (e :: es) [] pos) (TEf X.K xm W (opLF op fs)) :=
  (pe_callB hc hg hm hv ha hn hdb he hpl).imp opL_read
theorem sn_ty {op : OL} (hc : CallR X (.type T) (RLf X.K op)) (hg : Gl X x) (hm : X.mg x = none) (hv : bootBuiltins x = some (.type T)) (ha : PA X (e :: es) (TAf X.K xm W fs)) (hn : x ≠ "__name__" := by decide) (hdb : (x == ("__debug__" : Str)) = false := by decide)
    (he : starEach (e :: es) X.env = (false, eval e X.env) :: starEach es X.env := by rfl) (hpl : (backTo pos (starEach es X.env)).any (·.1) = false := by rfl) : PE X (.Call (.Name x p) (e :: es) [] pos) (TEf X.K xm W (opLF op fs)) :=
  (pe_callTy hc hg hm hv ha hn hdb he hpl).imp opL_read
/-- a module's name for a built-in function -/
theorem sn_bf {op : OL} (hc : CallR X (.builtin id) (RLf X.K op)) (hg : Gl X x) (hm : X.mg x = some (.builtin id)) (ha : PA X (e :: es) (TAf X.K xm W fs)) (hdb : (x == ("__debug__" : Str)) = false := by decide)
    (he : starEach (e :: es) X.env = (false, eval e X.env) :: starEach es X.env := by rfl) (hpl : (backTo pos (starEach es X.env)).any (·.1) = false := by rfl) : PE X (.Call (.Name x p) (e :: es) [] pos) (TEf X.K xm W (opLF op fs)) :=
  (pe_callBfun hc hg hm ha hdb he hpl).imp opL_read
end
end Ev

namespace Ev
open PySem PySem.Spec PyProof.Rows L2
variable [Tabs]

/-! ## statements -/
section
variable (K : PySem.W.Frag) (xm : List Addr)
def nxK (z : Z) (H : Hp) (Q : L2.St → Hp → Prop) (en : En) (st : Sto) : Prop := ∀ σ' z' H', Ext z H z' H' → RelH K z' H' st → RelE K z' H' σ' en → Q σ' H'
def exS (z : Z) (H : Hp) (W : WX) (c : Nat) (p : Pay) (en : En) (st : Sto) : Prop := ∀ cls dd σ' z' H', Ext z H z' H' → RelH K z' H' st → RelE K z' H' σ' en → XR K xm z' H' c p cls dd → W cls dd σ' H'
def SatS (W : WX) (z : Z) (H : Hp) (E : Ends) : SR → Prop
  | .nx en st => nxK K z H E.nx en st
  | .bk en st => nxK K z H E.bk en st
  | .ct en st => nxK K z H E.ct en st
  | .rt d st => okD K z H E.rt d st
  | .ex c p en st => exS K xm z H W c p en st
  | .bad => False
def TSf (W : WX) (f : SF) : TS := fun E σ H => ∃ z en st, RelH K z H st ∧ RelE K z H σ en ∧ SatS K xm W z H E (f en st)
end
theorem _root_.L2.PS.imp {X : Cx} {e : Stmt} {t t' : TS} (h : PS X e t) (w : ∀ D σ H, t' D σ H → t D σ H) : PS X e t' := ⟨fun pins s σ H D I q => h.run pins s σ H D I (w D σ H q)⟩
theorem _root_.L2.PSs.imp {X : Cx} {e : List Stmt} {t t' : TS} (h : PSs X e t) (w : ∀ D σ H, t' D σ H → t D σ H) : PSs X e t' := ⟨fun pins s σ H D I q => h.run pins s σ H D I (w D σ H q)⟩
section
variable {K : PySem.W.Frag} {xm : List Addr} {W : WX} {z z1 : Z} {H H1 : Hp}
theorem nxK.ext {Q : L2.St → Hp → Prop} {en : En} {st : Sto} (e : Ext z H z1 H1) (h : nxK K z H Q en st) : nxK K z1 H1 Q en st := fun σ' z' H' e' r q => h σ' z' H' (e.trans e') r q
theorem SatS.ext {E : Ends} {r : SR} (e : Ext z H z1 H1) (h : SatS K xm W z H E r) : SatS K xm W z1 H1 E r := by
  cases r with
  | nx en st => exact nxK.ext (Q := E.nx) e h
  | bk en st => exact nxK.ext (Q := E.bk) e h
  | ct en st => exact nxK.ext (Q := E.ct) e h
  | rt d st => exact okD.ext (Q := E.rt) e h
  | ex c p en st =>
    have h : exS K xm z H W c p en st := h
    exact fun cls dd σ' z' H' e' r q x => h cls dd σ' z' H' (e.trans e') r q x
  | bad => exact h
/-- behind an expression's exception -/
theorem exS.of {en : En} {st : Sto} {c : Nat} {p : Pay} {σ : L2.St} (h : exS K xm z H W c p en st) (re : RelE K z H σ en) : exW K xm z H W σ c p st := fun cls dd z' H' e r x => h cls dd σ z' H' e r (re.ext e) x
end
def bindS {α : Type} (r : R α) (en : En) (k : α → Sto → SR) : SR := match r with
  | .ok a st => k a st
  | .ex c p st => .ex c p en st
  | .bad => .bad
@[simp] theorem bindS_ok {α : Type} (a : α) (st : Sto) (en : En) (k : α → Sto → SR) : bindS (.ok a st) en k = k a st := rfl
@[simp] theorem bindS_ex {α : Type} (c : Nat) (p : Pay) (st : Sto) (en : En) (k : α → Sto → SR) : bindS (.ex c p st : R α) en k = .ex c p en st := rfl
@[simp] theorem bindS_bad {α : Type} (en : En) (k : α → Sto → SR) : bindS (.bad : R α) en k = .bad := rfl
theorem sat_bind {α : Type} {K : PySem.W.Frag} {xm : List Addr} {W : WX} {z : Z} {H : Hp} {E : Ends} {r : R α} {en : En} {k : α → Sto → SR} {σ : L2.St} (re : RelE K z H σ en) (h : SatS K xm W z H E (bindS r en k)) :
    r.wp (fun a st => SatS K xm W z H E (k a st)) (exW K xm z H W σ) := by
  cases r with
  | ok a st => exact h
  | ex c p st => exact exS.of h re
  | bad => exact h
def passS : SF := fun en st => .nx en st
def brkS : SF := fun en st => .bk en st
def cntS : SF := fun en st => .ct en st
def seqS (f g : SF) : SF := fun en st => match f en st with
  | .nx en' st' => g en' st'
  | r => r
def exprS (f : EF) : SF := fun en st => bindS (f en st) en fun _ st' => .nx en st'
def retS (f : EF) : SF := fun en st => bindS (f en st) en fun d st' => .rt d st'
def retN : SF := fun _ st => .rt .non st
def ifS (c : TF) (f g : SF) : SF := fun en st => bindS (c en st) en fun b st' => if b = true then f en st' else g en st'
/-- a target -/
abbrev GF := D → Sto → En → Option En
abbrev GFs := List D → Sto → En → Option En
def TGf (K : PySem.W.Frag) (S : List Nat) (g : GF) : TG := fun v σ H Q => ∃ z en st d en', RelH K z H st ∧ RelE K z H σ en ∧ Rep K z H v d ∧ g d st en = some en' ∧ ∀ σ', RelE K z H σ' en' → wipe σ' S = wipe σ S → Q σ' H
def TGsf (K : PySem.W.Frag) (S : List Nat) (g : GFs) : TGs := fun vs σ H Q => ∃ z en st ds en', RelH K z H st ∧ RelE K z H σ en ∧ Reps K z H vs ds ∧ g ds st en = some en' ∧ ∀ σ', RelE K z H σ' en' → wipe σ' S = wipe σ S → Q σ' H
theorem wipe_set {σ : L2.St} {i : Nat} {x : Option V} : ∀ {S : List Nat}, i ∈ S → wipe (σ.set i x) S = wipe σ S
  | v :: vs, h => by
    show (wipe (σ.set i x) vs).set v none = (wipe σ vs).set v none
    by_cases q : i ∈ vs
    · rw [wipe_set q]
    · have e : i = v := (List.mem_cons.mp h).resolve_right q
      subst e
      have w : ∀ {S : List Nat}, (wipe (σ.set i x) S).set i none = (wipe σ S).set i none := fun {S} => by
        induction S with
        | nil =>
          show (σ.set i x).set i none = σ.set i none
          rw [List.set_set]
        | cons u us ih =>
          show ((wipe (σ.set i x) us).set u none).set i none = ((wipe σ us).set u none).set i none
          by_cases e : u = i
          · subst e
            rw [List.set_set, List.set_set]
            exact ih
          · rw [List.set_comm _ _ e, List.set_comm _ _ e, ih]
      exact w
def nameG (i : Nat) : GF := fun d _ en => if i < en.length then some (en.set i (some d)) else none
def nilG : GFs := fun ds _ en => match ds with
  | [] => some en
  | _ => none
def consG (g : GF) (h : GFs) : GFs := fun ds st en => match ds with
  | d :: r => (g d st en).bind fun en' => h r st en'
  | [] => none
def tupG (n : Nat) (g : GFs) : GF := fun d st en => match d with
  | .tup ds => if ds.length = n then g ds st en else none
  | _ => none
def asgS (f : EF) (g : GF) : SF := fun en st => bindS (f en st) en fun d st' => match g d st' en with
  | some en' => .nx en' st'
  | none => .bad
def setS (i : Nat) (f : EF) : SF := asgS f (nameG i)
def augS (i : Nat) (op : O2) (f : EF) : SF := fun en st => match en[i]? with
  | some (some x) => bindS (f en st) en fun y st' => bindS (R.ofO (op x y st')) en fun d st2 => .nx (en.set i (some d)) st2
  | _ => .bad
theorem RelE.set {K : PySem.W.Frag} {z : Z} {H : Hp} {σ : L2.St} {en : En} {i : Nat} {v : V} {d : D} (h : RelE K z H σ en) (r : Rep K z H v d) (hi : i < en.length) : RelE K z H (σ.set i (some v)) (en.set i (some d)) := by
  refine ⟨by rw [List.length_set, List.length_set, h.1], fun j e q => ?_⟩
  by_cases l : i = j
  · subst l
    rw [List.getElem?_set_self hi] at q
    have e1 := Option.some.inj (Option.some.inj q)
    subst e1
    exact ⟨v, List.getElem?_set_self (by rw [h.1]; exact hi), r⟩
  · rw [List.getElem?_set_ne l] at q
    obtain ⟨w, a, b⟩ := h.2 j e q
    exact ⟨w, by rw [List.getElem?_set_ne l]; exact a, b⟩
section
variable {X : Cx} {xm : List Addr} {W : WX} {k : Nat} {a b c e : Expr} {f g : EF} {pos : Pos} {st : Stmt} {rest body orl : List Stmt} {u v : SF} {fa : TF}
theorem ss_pass : PS X (.Pass pos) (TSf X.K xm W passS) := ps_pass.imp fun E σ H ⟨z, en, st, rh, re, h⟩ => h σ z H .refl rh re
theorem ss_break : PS X (.Break pos) (TSf X.K xm W brkS) := ps_break.imp fun E σ H ⟨z, en, st, rh, re, h⟩ => h σ z H .refl rh re
theorem ss_cont : PS X (.Continue pos) (TSf X.K xm W cntS) := ps_continue.imp fun E σ H ⟨z, en, st, rh, re, h⟩ => h σ z H .refl rh re
theorem ss_doc {x : Str} {j : Nat} {p q : Pos} : PS X (.Expr (.Constant (.str x) j p) q) (TSf X.K xm W passS) := ps_doc.imp fun E σ H ⟨z, en, st, rh, re, h⟩ => h σ z H .refl rh re
theorem sl_nil : PSs X [] (TSf X.K xm W passS) := pss_nil.imp fun E σ H ⟨z, en, st, rh, re, h⟩ => h σ z H .refl rh re
theorem sl_cons (h1 : PS X st (TSf X.K xm W u)) (h2 : PSs X rest (TSf X.K xm W v)) : PSs X (st :: rest) (TSf X.K xm W (seqS u v)) :=
  (pss_cons h1 h2).imp fun E σ H ⟨z, en, st, rh, re, h⟩ => ⟨z, en, st, rh, re, by
    unfold seqS at h
    cases q : u en st with
    | nx en' st' =>
      rw [q] at h
      exact fun σ' z' H' e r p => ⟨z', en', st', r, p, SatS.ext e h⟩
    | bk en' st' =>
      rw [q] at h
      exact h
    | ct en' st' =>
      rw [q] at h
      exact h
    | rt d st' =>
      rw [q] at h
      exact h
    | ex c p en' st' =>
      rw [q] at h
      exact h
    | bad =>
      rw [q] at h
      exact h⟩
theorem sl_one (h1 : PS X st (TSf X.K xm W u)) : PSs X [st] (TSf X.K xm W u) := pss_one h1
theorem ss_expr (he : PE X e (TEf X.K xm W f)) (hs : swapsWith e none pos.line X.env = pure false := by rfl) : PS X (.Expr e pos) (TSf X.K xm W (exprS f)) :=
  (ps_expr he hs).imp fun E σ H ⟨z, en, st, rh, re, h⟩ => seqE' rh re (sat_bind re h) fun d1 st1 v1 z1 H1 q1 e1 r1 re1 p1 => q1 σ z1 H1 e1 r1 re1
theorem ss_ret (he : PE X e (TEf X.K xm W f)) : PS X (.Return (some e) pos) (TSf X.K xm W (retS f)) :=
  (ps_ret he).imp fun E σ H ⟨z, en, st, rh, re, h⟩ => seqE rh re (wp_mono (sat_bind re h) (fun _ _ q => q) fun _ _ _ q => q)
theorem ss_retN : PS X (.Return none pos) (TSf X.K xm W retN) := ps_retN.imp fun E σ H ⟨z, en, st, rh, re, h⟩ => okD.here h rh .non
theorem ss_if (hc : PT X c (TTf X.K xm W fa)) (ha : PSs X body (TSf X.K xm W u)) (hb : PSs X orl (TSf X.K xm W v)) : PS X (.If c body orl pos) (TSf X.K xm W (ifS fa u v)) :=
  (ps_if hc ha hb).imp fun E σ H ⟨z, en, st, rh, re, h⟩ => seqT' rh re (sat_bind re h) fun b st1 z1 H1 q1 e1 r1 re1 => by
    cases b with
    | true => exact ⟨z1, en, st1, r1, re1, SatS.ext e1 q1⟩
    | false => exact ⟨z1, en, st1, r1, re1, SatS.ext e1 q1⟩
/-! targets -/
variable {i : Nat} {x : Str} {es : List Expr} {gf : GF} {gs : GFs} {S : List Nat}
theorem sg_name (nd : X.N.Nodup) (i : Nat) (hi : X.N[i]? = some x := by rfl) (hx : Loc X.env.scope x := by first | exact .inl rfl | exact .inr rfl) (hf : X.fn x = true ∨ X.env.scope.names.lookup x = some .local := by first | exact .inl rfl | exact .inr rfl) (hS : i ∈ S := by decide) : PG X (.Name x pos) (TGf X.K S (nameG i)) :=
  ⟨fun pins s σ H v u Q I r ⟨z, en, st, d, en', rh, re, rv, h, q⟩ => by
    unfold nameG at h
    split at h
    · rename_i hl
      cases h
      exact (pg_name nd hi hx hf).run pins s σ H v u Q I r (q _ (re.set rv hl) (wipe_set hS))
    · cases h⟩
theorem sg_nil : PGs X [] (TGsf X.K S nilG) :=
  ⟨fun pins s σ H v u Q I r ⟨z, en, st, d, en', rh, re, rv, h, q⟩ => by
    cases rv with
    | nil =>
      have h : some en = some en' := h
      cases h
      exact pgs_nil.run pins s σ H [] u Q I r ⟨rfl, q _ re rfl⟩
    | cons _ _ => cases h⟩
theorem sg_cons (h1 : PG X e (TGf X.K S gf)) (h2 : PGs X es (TGsf X.K S gs)) (hs : (assignEach (e :: es) X.env).map (·.2) = assign e X.env :: (assignEach es X.env).map (·.2) := by rfl) : PGs X (e :: es) (TGsf X.K S (consG gf gs)) :=
  ⟨fun pins s σ H v u Q I r ⟨z, en, st, d, en', rh, re, rv, h, q⟩ => by
    cases rv with
    | nil => cases h
    | @cons v1 vr d1 dr p1 pr =>
      have h : (gf d1 st en).bind (fun en' => gs dr st en') = some en' := h
      cases w : gf d1 st en with
      | none =>
        rw [w] at h
        cases h
      | some en1 =>
        rw [w] at h
        exact (pgs_cons h1 h2 hs).run pins s σ H _ u Q I r ⟨v1, vr, rfl, z, en, st, d1, en1, rh, re, p1, w, fun σ' re' wp => ⟨z, en1, st, dr, en', rh, re', pr, h, fun σ2 re2 wp2 => q σ2 re2 (wp2.trans wp)⟩⟩⟩
theorem sg_tup {k2 n : Nat} (G : GX X xm W k) (h : PGs X es (TGsf X.K S gs)) (hn : (assignEach es X.env).length = n := by rfl) (hst : (assignEach es X.env).findIdx? (·.1) = none := by rfl) : PG X (.Tuple es k2 pos) (TGf X.K S (tupG n gs)) :=
  ⟨fun pins s σ H v u Q I r ⟨z, en, st, d, en', rh, re, rv, h', q⟩ => by
    cases rv with
    | @tup a xs ds t rs =>
      have h' : (if ds.length = n then gs ds st en else none) = some en' := h'
      by_cases l : ds.length = n
      · rw [if_pos l] at h'
        exact (pg_tup G.cm h hn hst).run pins s σ H _ u Q I r ⟨a, xs, rfl, t.seq, rs.length.trans l, z, en, st, ds, en', rh, re, rs, h', q⟩
      · rw [if_neg l] at h'
        cases h'
    | _ => cases h'⟩
theorem ss_asg {tg : Expr} (he : PE X e (TEf X.K xm W f)) (hg : PG X tg (TGf X.K S gf)) (hs : swapsWithSole [tg] e pos.line X.env = pure false := by rfl) (hw : swappedStores [tg] e X.env = pure none := by rfl) (h1 : (assignEach [tg] X.env).map (·.2) = [assign tg X.env] := by rfl) :
    PS X (.Assign [tg] e pos) (TSf X.K xm W (asgS f gf)) :=
  (ps_asg he hg hs hw h1).imp fun E σ H ⟨z, en, st, rh, re, h⟩ => seqE' rh re (sat_bind re h) fun d1 st1 v1 z1 H1 q1 e1 r1 re1 p1 => by
    cases w : gf d1 st1 en with
    | none =>
      rw [w] at q1
      exact False.elim q1
    | some en' =>
      rw [w] at q1
      exact ⟨z1, en, st1, d1, en', r1, re1, p1, w, fun σ' re' _ => q1 σ' z1 H1 e1 r1 re'⟩
theorem ss_set (nd : X.N.Nodup) (i : Nat) {pos' : Pos} (he : PE X e (TEf X.K xm W f)) (hi : X.N[i]? = some x := by rfl) (hx : Loc X.env.scope x := by first | exact .inl rfl | exact .inr rfl) (hs : swapsWith e (some (.Name x pos')) pos.line X.env = pure false := by rfl) (hf : X.fn x = true ∨ X.env.scope.names.lookup x = some .local := by first | exact .inl rfl | exact .inr rfl) :
    PS X (.Assign [.Name x pos'] e pos) (TSf X.K xm W (setS i f)) :=
  (ps_set nd hi hx he hs hf).imp fun E σ H ⟨z, en, st, rh, re, h⟩ => seqE' rh re (sat_bind re h) fun d1 st1 v1 z1 H1 q1 e1 r1 re1 p1 => by
    unfold nameG at q1
    by_cases l : i < en.length
    · rw [if_pos l] at q1
      exact q1 _ z1 H1 e1 r1 (re1.set p1 l)
    · rw [if_neg l] at q1
      exact False.elim q1
theorem ss_aug {o : Operator} {op : O2} (nd : X.N.Nodup) (i : Nat) {pos' : Pos} (he : PE X e (TEf X.K xm W f)) (ho : OpR X (inplaceOp o) (R2f X.K op)) (hi : X.N[i]? = some x := by rfl) (hx : Loc X.env.scope x := by first | exact .inl rfl | exact .inr rfl) (hf : X.fn x = true ∨ X.env.scope.names.lookup x = some .local := by first | exact .inl rfl | exact .inr rfl) :
    PS X (.AugAssign (.Name x pos') o e pos) (TSf X.K xm W (augS i op f)) :=
  (ps_aug nd hi hx he (ti := R2f X.K op) ho hf).imp fun E σ H ⟨z, en, st, rh, re, h⟩ => by
    unfold augS at h
    split at h
    · rename_i d hd
      obtain ⟨v, hv, rv⟩ := re.2 i d hd
      refine ⟨v, hv, seqE' rh re (sat_bind re h) fun d1 st1 v1 z1 H1 q1 e1 r1 re1 p1 => ?_⟩
      cases w : op d d1 st1 with
      | none =>
        rw [w] at q1
        exact False.elim q1
      | some y =>
        rw [w] at q1
        refine ⟨z1, st1, d, d1, y.1, y.2, r1, rv.ext e1, p1, by rw [w], fun v2 z2 H2 e2 r2 p2 => ?_⟩
        exact q1 _ z2 H2 (e1.trans e2) r2 ((re1.ext e2).set p2 (List.getElem?_eq_some_iff.mp hd).1)
    · exact False.elim h
end
/-! ## loops -/
inductive ItD where
  | items (ds : List D) | cell (n : Nat)
  /-- what is walked while it may change: what stands at a turn, or that it is at its end -/
  | dyn (fuel : Nat) (nx : Nat → Sto → Option (Option D))
abbrev IF := En → Sto → R ItD
def ItI (K : PySem.W.Frag) (z : Z) (H : Hp) (ds : List D) (J : It) : Prop := ∀ z1 H1 st, Ex0 z H z1 H1 → RelH K z1 H1 st → (∀ i, ds.length ≤ i → J.stop i H1) ∧
  ∀ (i : Nat) d, ds[i]? = some d → J.go i H1 ∧ ∀ x H2, J.yld i H1 x H2 → ∃ z2, Ext z1 H1 z2 H2 ∧ RelH K z2 H2 st ∧ Rep K z2 H2 x d
def ItC (K : PySem.W.Frag) (z : Z) (H : Hp) (n : Nat) (J : It) : Prop := ∀ z1 H1 st ds, Ex0 z H z1 H1 → RelH K z1 H1 st → st[n]? = some (.lst ds) → (∀ i, ds.length ≤ i → J.stop i H1) ∧
  ∀ (i : Nat) d, ds[i]? = some d → J.go i H1 ∧ ∀ x H2, J.yld i H1 x H2 → H2 = H1 ∧ Rep K z1 H1 x d
def ItY (K : PySem.W.Frag) (z : Z) (H : Hp) (nx : Nat → Sto → Option (Option D)) (J : It) : Prop := ∀ z1 H1 st (i : Nat), Ex0 z H z1 H1 → RelH K z1 H1 st → match nx i st with
  | none => True
  | some none => J.stop i H1
  | some (some d) => J.go i H1 ∧ ∀ x H2, J.yld i H1 x H2 → ∃ z2, Ext z1 H1 z2 H2 ∧ RelH K z2 H2 st ∧ Rep K z2 H2 x d
def ItR (K : PySem.W.Frag) (z : Z) (H : Hp) (J : It) : ItD → Prop
  | .items ds => ItI K z H ds J
  | .cell n => ItC K z H n J
  | .dyn _ nx => ItY K z H nx J
def TIf (K : PySem.W.Frag) (xm : List Addr) (W : WX) (f : IF) : TI := fun σ H Rq => ∃ z en st, RelH K z H st ∧ RelE K z H σ en ∧ (f en st).wp (fun it st' => ∀ J z' H', Ext z H z' H' → RelH K z' H' st' → ItR K z' H' J it → Rq J H') (exW K xm z H W σ)
def loopI (g : GF) (body : SF) : List D → SF
  | [] => fun en st => .nx en st
  | d :: r => fun en st => match g d st en with
    | none => .bad
    | some en1 => match body en1 st with
      | .nx en2 st2 => loopI g body r en2 st2
      | .ct en2 st2 => loopI g body r en2 st2
      | .bk en2 st2 => .nx en2 st2
      | q => q
def loopC (g : GF) (body : SF) (n : Nat) : Nat → Nat → SF
  | 0, _ => fun _ _ => .bad
  | m + 1, i => fun en st => match st[n]? with
    | some (.lst ds) => match ds[i]? with
      | none => .nx en st
      | some d => match g d st en with
        | none => .bad
        | some en1 => match body en1 st with
          | .nx en2 st2 => loopC g body n m (i + 1) en2 st2
          | .ct en2 st2 => loopC g body n m (i + 1) en2 st2
          | .bk en2 st2 => .nx en2 st2
          | q => q
    | _ => .bad
def loopY (g : GF) (body : SF) (nx : Nat → Sto → Option (Option D)) : Nat → Nat → SF
  | 0, _ => fun _ _ => .bad
  | m + 1, i => fun en st => match nx i st with
    | none => .bad
    | some none => .nx en st
    | some (some d) => match g d st en with
      | none => .bad
      | some en1 => match body en1 st with
        | .nx en2 st2 => loopY g body nx m (i + 1) en2 st2
        | .ct en2 st2 => loopY g body nx m (i + 1) en2 st2
        | .bk en2 st2 => .nx en2 st2
        | q => q
def cellLen (n : Nat) (st : Sto) : Nat := match st[n]? with
  | some (.lst ds) => ds.length
  | _ => 0
def forS (f : IF) (g : GF) (body : SF) : SF := fun en st => bindS (f en st) en fun it st1 => match it with
  | .items ds => loopI g body ds en st1
  | .cell n => loopC g body n (cellLen n st1 + 1) 0 en st1
  | .dyn fuel nx => loopY g body nx fuel 0 en st1
def loopW (c : TF) (body : SF) : Nat → SF
  | 0 => fun _ _ => .bad
  | m + 1 => fun en st => bindS (c en st) en fun b st1 => if b = true then (match body en st1 with
      | .nx en2 st2 => loopW c body m en2 st2
      | .ct en2 st2 => loopW c body m en2 st2
      | .bk en2 st2 => .nx en2 st2
      | q => q) else .nx en st1
def whileS (fuel : Nat) (c : TF) (body : SF) : SF := loopW c body fuel
section
variable {X : Cx} {xm : List Addr} {W : WX} {k : Nat} {c iter tg : Expr} {pos : Pos} {body : List Stmt} {u : SF} {fa : TF} {itf : IF} {gf : GF} {S : List Nat}
/-- a body's end within a loop -/
theorem sat_turn {K : PySem.W.Frag} {z : Z} {H : Hp} {E : Ends} {r : SR} {next : En → Sto → SR} {Nx : L2.St → Hp → Prop}
    (h : SatS K xm W z H E (match r with
      | .nx en2 st2 => next en2 st2
      | .ct en2 st2 => next en2 st2
      | .bk en2 st2 => .nx en2 st2
      | q => q)) (hN : ∀ σ' z' H' en2 st2, Ext z H z' H' → RelH K z' H' st2 → RelE K z' H' σ' en2 → SatS K xm W z' H' E (next en2 st2) → Nx σ' H') :
    SatS K xm W z H { E with nx := Nx, ct := Nx, bk := E.nx } r := by
  cases r with
  | nx en2 st2 => exact fun σ' z' H' e r p => hN σ' z' H' en2 st2 e r p (SatS.ext e h)
  | ct en2 st2 => exact fun σ' z' H' e r p => hN σ' z' H' en2 st2 e r p (SatS.ext e h)
  | bk en2 st2 => exact h
  | rt d st2 => exact h
  | ex c p en2 st2 => exact h
  | bad => exact h
theorem ss_while (G : GX X xm W k) (fuel : Nat) (hc : PT X c (TTf X.K xm W fa)) (hb : PSs X body (TSf X.K xm W u)) : PS X (.While c body [] pos) (TSf X.K xm W (whileS fuel fa u)) :=
  (ps_while G.po hc hb).imp fun E σ H ⟨z, en, st, rh, re, h⟩ => by
    refine ⟨fun m σ H => ∃ z en st, RelH X.K z H st ∧ RelE X.K z H σ en ∧ SatS X.K xm W z H E (loopW fa u m en st), ⟨fuel, z, en, st, rh, re, h⟩, ?_⟩
    rintro m σ H ⟨z, en, st, rh, re, h⟩
    cases m with
    | zero => exact False.elim h
    | succ m =>
      refine seqT' rh re (sat_bind re h) fun b st1 z1 H1 q1 e1 r1 re1 => ?_
      cases b with
      | false => exact q1 σ z1 H1 e1 r1 re1
      | true =>
        refine ⟨fun σ' H' => ∃ z en st, RelH X.K z H' st ∧ RelE X.K z H' σ' en ∧ SatS X.K xm W z H' E (loopW fa u m en st), fun σ' H' q => ⟨m, Nat.lt_succ_self m, q⟩, z1, en, st1, r1, re1, ?_⟩
        exact sat_turn (SatS.ext e1 q1) fun σ' z' H' en2 st2 e r p s => ⟨z', en2, st2, r, p, s⟩
theorem ss_for (G : GX X xm W k) (hi : PI X tg iter (TIf X.K xm W itf)) (hg : PG X tg (TGf X.K S gf)) (hb : PSs X body (TSf X.K xm W u)) (hs : ∀ x, foldedSetIterable iter X.env x = pure x := by intro _; rfl) :
    PS X (.For tg iter body [] pos) (TSf X.K xm W (forS itf gf u)) :=
  (ps_for G.po G.cm hi hg hb hs).imp fun E σ H ⟨z, en, st, rh, re, h⟩ => by
    refine ⟨z, en, st, rh, re, wp_mono (sat_bind re h) (fun it st1 q J z1 H1 e1 r1 hJ => ?_) fun _ _ _ q => q⟩
    have re1 := re.ext e1
    cases it with
    | items ds =>
      have hJ : ItI X.K z1 H1 ds J := hJ
      refine ⟨fun i m σ H => m = ds.length - i ∧ i ≤ ds.length ∧ ∃ z en st, Ext z1 H1 z H ∧ RelH X.K z H st ∧ RelE X.K z H σ en ∧ SatS X.K xm W z H E (loopI gf u (ds.drop i) en st), ⟨ds.length, rfl, Nat.zero_le _, z1, en, st1, .refl, r1, re1, SatS.ext e1 q⟩, ?_⟩
      rintro i m σ H ⟨rfl, hi, z2, en2, st2, e2, r2, re2, h2⟩
      obtain ⟨js, jg⟩ := hJ z2 H st2 e2.toEx0 r2
      by_cases hl : i < ds.length
      · have hd : ds[i]? = some ds[i] := List.getElem?_eq_getElem hl
        obtain ⟨go, yl⟩ := jg i _ hd
        refine .inr ⟨go, fun σ' H' => ∃ z en st, Ext z1 H1 z H' ∧ RelH X.K z H' st ∧ RelE X.K z H' σ' en ∧ SatS X.K xm W z H' E (loopI gf u (ds.drop (i + 1)) en st), fun σ' H' q => ⟨ds.length - (i + 1), by omega, rfl, hl, q⟩, fun x H3 y => ?_⟩
        obtain ⟨z3, e3, r3, p3⟩ := yl x H3 y
        rw [List.drop_eq_getElem_cons hl] at h2
        unfold loopI at h2
        cases w : gf ds[i] st2 en2 with
        | none =>
          rw [w] at h2
          exact False.elim h2
        | some en3 =>
          rw [w] at h2
          refine ⟨z3, en2, st2, ds[i], en3, r3, re2.ext e3, p3, w, fun σ' re' _ => ⟨z3, en3, st2, r3, re', ?_⟩⟩
          exact sat_turn (SatS.ext e3 h2) fun σ' z' H' en4 st4 e r p s => ⟨z', en4, st4, (e2.trans e3).trans e, r, p, s⟩
      · have e : i = ds.length := by omega
        subst e
        rw [List.drop_length] at h2
        exact .inl ⟨js _ (Nat.le_refl _), h2 σ z2 H .refl r2 re2⟩
    | cell n =>
      have hJ : ItC X.K z1 H1 n J := hJ
      refine ⟨fun i m σ H => ∃ z en st, Ext z1 H1 z H ∧ RelH X.K z H st ∧ RelE X.K z H σ en ∧ SatS X.K xm W z H E (loopC gf u n m i en st), ⟨cellLen n st1 + 1, z1, en, st1, .refl, r1, re1, SatS.ext e1 q⟩, ?_⟩
      rintro i m σ H ⟨z2, en2, st2, e2, r2, re2, h2⟩
      cases m with
      | zero => exact False.elim h2
      | succ m =>
        unfold loopC at h2
        cases hc : st2[n]? with
        | none =>
          rw [hc] at h2
          exact False.elim h2
        | some cl =>
          cases cl with
          | set S =>
            rw [hc] at h2
            exact False.elim h2
          | dct ks0 ds0 =>
            rw [hc] at h2
            exact False.elim h2
          | lst ds =>
            rw [hc] at h2
            obtain ⟨js, jg⟩ := hJ z2 H st2 ds e2.toEx0 r2 hc
            cases hd : ds[i]? with
            | none =>
              simp only [hd] at h2
              exact .inl ⟨js _ (List.getElem?_eq_none_iff.mp hd), h2 σ z2 H .refl r2 re2⟩
            | some d =>
              simp only [hd] at h2
              obtain ⟨go, yl⟩ := jg i d hd
              refine .inr ⟨go, fun σ' H' => ∃ z en st, Ext z1 H1 z H' ∧ RelH X.K z H' st ∧ RelE X.K z H' σ' en ∧ SatS X.K xm W z H' E (loopC gf u n m (i + 1) en st), fun σ' H' q => ⟨m, Nat.lt_succ_self m, q⟩, fun x H3 y => ?_⟩
              obtain ⟨rfl, p3⟩ := yl x H3 y
              cases w : gf d st2 en2 with
              | none =>
                simp only [w] at h2
                exact False.elim h2
              | some en3 =>
                simp only [w] at h2
                refine ⟨z2, en2, st2, d, en3, r2, re2, p3, w, fun σ' re' _ => ⟨z2, en3, st2, r2, re', ?_⟩⟩
                exact sat_turn h2 fun σ' z' H' en4 st4 e r p s => ⟨z', en4, st4, e2.trans e, r, p, s⟩
    | dyn fuel nx =>
      have hJ : ItY X.K z1 H1 nx J := hJ
      refine ⟨fun i m σ H => ∃ z en st, Ext z1 H1 z H ∧ RelH X.K z H st ∧ RelE X.K z H σ en ∧ SatS X.K xm W z H E (loopY gf u nx m i en st), ⟨fuel, z1, en, st1, .refl, r1, re1, SatS.ext e1 q⟩, ?_⟩
      rintro i m σ H ⟨z2, en2, st2, e2, r2, re2, h2⟩
      cases m with
      | zero => exact False.elim h2
      | succ m =>
        unfold loopY at h2
        have hn := hJ z2 H st2 i e2.toEx0 r2
        cases hx : nx i st2 with
        | none =>
          rw [hx] at h2
          exact False.elim h2
        | some o =>
          cases o with
          | none =>
            simp only [hx] at h2 hn
            exact .inl ⟨hn, h2 σ z2 H .refl r2 re2⟩
          | some d =>
            simp only [hx] at h2 hn
            obtain ⟨go, yl⟩ := hn
            refine .inr ⟨go, fun σ' H' => ∃ z en st, Ext z1 H1 z H' ∧ RelH X.K z H' st ∧ RelE X.K z H' σ' en ∧ SatS X.K xm W z H' E (loopY gf u nx m (i + 1) en st), fun σ' H' q => ⟨m, Nat.lt_succ_self m, q⟩, fun x H3 y => ?_⟩
            obtain ⟨z3, e3, r3, p3⟩ := yl x H3 y
            cases w : gf d st2 en2 with
            | none =>
              simp only [w] at h2
              exact False.elim h2
            | some en3 =>
              simp only [w] at h2
              refine ⟨z3, en2, st2, d, en3, r3, re2.ext e3, p3, w, fun σ' re' _ => ⟨z3, en3, st2, r3, re', ?_⟩⟩
              exact sat_turn (SatS.ext e3 h2) fun σ' z' H' en4 st4 e r p s => ⟨z', en4, st4, (e2.trans e3).trans e, r, p, s⟩
end
end Ev

namespace Ev
open PySem PySem.Spec PyProof.Rows L2
variable [Tabs]

/-! ## defs: as the layer's FnOk, where no guard of repr stands around -/
structure FnG (P : Program) (w : World) (K : PySem.W.Frag) (mg : Str → Option Value) (base : Heap) (k : Nat) (f : Addr) (fd : FuncData) (ps : List Str) (sp : Sp) : Prop where
  len : ∀ vs H Q E, sp vs H Q E → vs.length = ps.length
  run : ∀ (A : Around) (outer : List Env) (s : Shared) (H : Hp) (args : Args) (us : List Value) (vs : List V) (Q : VK) (E : XK), Room k A → A.guards = some [] → Env0 P w K mg base A outer s H →
    BindsTo s fd args (ps.zip us) → Vals vs us → sp vs H Q E → codeAny (model P w) A (.call (.ref f) args) (CR (L2.CX P w) outer P w H s Q E) s
/-- a promise by a function on data -/
def spF (K : PySem.W.Frag) (xm : List Addr) (F : List D → Sto → R D) (n : Nat) : Sp := fun vs H Q E => ∃ z ds st, RelH K z H st ∧ Reps K z H vs ds ∧ ds.length = n ∧
  (F ds st).wp (okD K z H Q) fun c p st' => ∀ cls dd z' H', Ext z H z' H' → RelH K z' H' st' → XR K xm z' H' c p cls dd → E cls dd H'
/-- a body as a function -/
def fnF (n : Nat) (g : SF) : List D → Sto → R D := fun ds st => match g (ds.map some ++ List.replicate (n - ds.length) none) st with
  | .nx _ st' => .ok .non st'
  | .rt d st' => .ok d st'
  | .ex c p _ st' => .ex c p st'
  | _ => .bad
section
variable {P : Program} {w : World} {K : PySem.W.Frag} {mg : Str → Option Value} {base : Heap} {xm : List Addr}
theorem relE_start {z : Z} {H : Hp} {vs : List V} {ds : List D} {n : Nat} (N : List Str) (hn : N.length = n) (h : Reps K z H vs ds) : RelE K z H (L2.start N vs) (ds.map some ++ List.replicate (n - ds.length) none) := by
  have hl := h.length
  unfold L2.start
  refine ⟨by rw [List.length_append, List.length_append, List.length_map, List.length_map, List.length_replicate, List.length_replicate, hl, hn], fun i d q => ?_⟩
  by_cases l : i < ds.length
  · rw [List.getElem?_append_left (by rw [List.length_map]; exact l), List.getElem?_map] at q
    cases e : ds[i]? with
    | none =>
      rw [e] at q
      cases q
    | some d' =>
      rw [e] at q
      have e' := Option.some.inj (Option.some.inj q)
      subst e'
      obtain ⟨v, hv, r⟩ := h.getD e
      exact ⟨v, by rw [List.getElem?_append_left (by rw [List.length_map, hl]; exact l), List.getElem?_map, hv]; rfl, r⟩
  · rw [List.getElem?_append_right (by rw [List.length_map]; omega), List.getElem?_replicate] at q
    split at q <;> cases q
/-- the body runs -/
theorem FnG.bodyC {x qual : Str} {st : Stmt} {f : Addr} {fd : FuncData} {N ps : List Str} {k : Nat} {sp : Sp} {oc : Value} {od : Option Addr} {kV doc pm : Value} {an : Option Addr} {cdv ct : Value} {osl : Array (Option Value)}
    (efd : fd = PySem.W.fnOf x qual (defArgs st) (defBody st) (defScope st) .none kV doc pm an cdv ct) (lk : K.lookup f = some ⟨oc, od, .func fd, osl⟩) (hcd : PySem.W.codeIn K cdv qual = true)
    (S : FnScope N ps (defScope st)) (len : ∀ vs H Q E, sp vs H Q E → vs.length = ps.length)
    (hb : ∀ (A : Around) (outer : List Env) (s : Shared) (H : Hp) (vs : List V) (Q : VK) (E : XK), Room k (A.deeper (envOfC qual (defScope st) s.heap.objs.size f cdv)) → A.guards = some [] → sp vs H Q E →
      ∃ t, PSs (cxOf (L2.CX P w) P w K mg base N qual (defScope st) f cdv A outer s H E) (defBody st) t ∧ t { nx := fun _ H' => Q .non H', rt := Q } (L2.start N vs) H) : FnG P w K mg base (k + 1) f fd ps sp := by
  subst efd
  refine ⟨len, fun A outer s H args us vs Q E room gd e0 bt rv prom => ?_⟩
  have keepB : ∀ b o, base.get? b = some o → s.heap.get? b = some o := fun b o e => (e0.bs b o e).1
  have KX : K.In s.heap := e0.mod.kin.keeps keepB
  have kinds : ∀ y ∈ ps.zip us, (defScope st).names.lookup y.1 = some .local ∨ ((defScope st).names.lookup y.1 = some .cell ∧ ((cellsFrom (s.heap.objs.size + 1) (defScope st).names []).lookup y.1).isSome = true) := by
    rintro ⟨n, v⟩ hy
    exact (S.par n (List.of_mem_zip hy).1).elim .inl fun q => .inr ⟨q, PySem.W.cellsFrom_some _ _ _ (.inl q)⟩
  refine codeAny_call_function room.depth (KX _ _ lk) rfl S.co S.gen rfl (PySem.W.codeRec_of KX hcd) (bt _ _ _ _ (wpAny_newFunctionEnv_cells S.kind kinds fun env he s1 x => ?_))
  subst he
  refine ⟨(e0.mod.nolimit.keeps keepB).keeps x.toInCall.keep, codeAny_func ?_⟩
  obtain ⟨t, ht, hq⟩ := hb A outer s H vs Q E (room.deeper _) gd prom
  have J := inv_start (CX := L2.CX P w) (E := E) (mg := mg) S room.hd e0 (len _ _ _ _ prom) rv x
  refine wpAny_mono (ht.run [] s1 (L2.start N vs) H _ J hq) (fun fl s' hs => ?_) fun _ _ hs => hs
  match fl, hs with
  | .ret u, ⟨v, σ', H', I', rr, q⟩ => exact ⟨v, H', I'.os, I'.bare, I'.base, I'.hok, rr, q⟩
  | .next, ⟨σ', H', I', q⟩ => exact ⟨V.non, H', I'.os, I'.bare, I'.base, I'.hok, rfl, q⟩
  | .brk, ⟨_, _, _, q⟩ => exact q.elim
  | .cont, ⟨_, _, _, q⟩ => exact q.elim
theorem FnG.body {x qual : Str} {st : Stmt} {f : Addr} {fd : FuncData} {N ps : List Str} {k : Nat} {sp : Sp} (F : Fun K x qual st f fd) (S : FnScope N ps (defScope st)) (len : ∀ vs H Q E, sp vs H Q E → vs.length = ps.length)
    (hb : ∀ (cdv : Value) (A : Around) (outer : List Env) (s : Shared) (H : Hp) (vs : List V) (Q : VK) (E : XK), Room k (A.deeper (envOfC qual (defScope st) s.heap.objs.size f cdv)) → A.guards = some [] → sp vs H Q E →
      ∃ t, PSs (cxOf (L2.CX P w) P w K mg base N qual (defScope st) f cdv A outer s H E) (defBody st) t ∧ t { nx := fun _ H' => Q .non H', rt := Q } (L2.start N vs) H) : FnG P w K mg base (k + 1) f fd ps sp := by
  obtain ⟨oc, od, kV, doc, pm, an, cdv, ct, osl, efd, lk, hcd⟩ := F.ex
  exact FnG.bodyC efd lk hcd S len (hb cdv)
/-- .. as a function on data -/
theorem FnG.by (hw : Tabs.wd = some w) {x qual : Str} {st : Stmt} {f : Addr} {fd : FuncData} {N ps : List Str} {k n m : Nat} {g : SF} (F : Fun K x qual st f fd) (S : FnScope N ps (defScope st)) (hn : N.length = n) (hm : ps.length = m)
    (hb : ∀ (cdv : Value) (A : Around) (outer : List Env) (s : Shared) (H : Hp) (E : XK), GX (cxOf (L2.CX P w) P w K mg base N qual (defScope st) f cdv A outer s H E) xm (fun cls d _ H => E cls d H) k →
      PSs (cxOf (L2.CX P w) P w K mg base N qual (defScope st) f cdv A outer s H E) (defBody st) (TSf K xm (fun cls d _ H => E cls d H) g)) : FnG P w K mg base (k + 1) f fd ps (spF K xm (fnF n g) m) := by
  subst hn hm
  refine FnG.body F S (fun vs H Q E ⟨z, ds, st, _, rs, hl, _⟩ => rs.length.trans hl) fun cdv A outer s H vs Q E room gd h => ?_
  obtain ⟨z, ds, sto, rh, rs, hl, h⟩ := h
  refine ⟨_, hb cdv A outer s H E ⟨takes_of rfl rfl rfl rfl, passes_of rfl, room, gd, S.nd, rfl, hw⟩, z, _, sto, rh, relE_start N rfl rs, ?_⟩
  unfold fnF at h
  generalize g (ds.map some ++ List.replicate (N.length - ds.length) none) sto = r at h ⊢
  cases r with
  | nx en st' => exact fun σ' z' H' e r' _ => h _ z' H' e r' .non
  | rt d st' => exact h
  | ex c p en st' => exact fun cls dd σ' z' H' e r' _ x => h cls dd z' H' e r' x
  | bk en st' => exact h.elim
  | ct en st' => exact h.elim
  | bad => exact h.elim
theorem FnG.nil {f : Addr} {fd : FuncData} {ps : List Str} {k n : Nat} (hn : ps.length = n) : FnG P w K mg base k f fd ps (spF K xm (fun _ _ => .bad) n) :=
  ⟨fun vs H Q E ⟨z, ds, st, _, rs, hl, _⟩ => rs.length.trans (hl.trans hn.symm), fun A outer s H args us vs Q E _ _ _ _ _ ⟨_, _, _, _, _, _, h⟩ => False.elim h⟩
theorem FnG.mono {j k : Nat} {f : Addr} {fd : FuncData} {ps : List Str} {sp : Sp} (F : FnG P w K mg base j f fd ps sp) (h : j ≤ k) : FnG P w K mg base k f fd ps sp :=
  ⟨F.len, fun A outer s H args us vs Q E hr => F.run A outer s H args us vs Q E (hr.mono h)⟩
/-- another function with the same values -/
theorem FnG.eq {k n : Nat} {f : Addr} {fd : FuncData} {ps : List Str} {F F' : List D → Sto → R D} (h : FnG P w K mg base k f fd ps (spF K xm F n)) (e : ∀ ds st, ds.length = n → F' ds st ≠ .bad → F ds st = F' ds st) : FnG P w K mg base k f fd ps (spF K xm F' n) := by
  have im : ∀ vs H Q E, spF K xm F' n vs H Q E → spF K xm F n vs H Q E := fun vs H Q E ⟨z, ds, st, a, b, c, d⟩ => ⟨z, ds, st, a, b, c, by
    rw [e ds st c fun q => by rw [q] at d; exact d]
    exact d⟩
  exact ⟨fun vs H Q E q => h.len vs H Q E (im _ _ _ _ q), fun A outer s H args us vs Q E a b c d e' q => h.run A outer s H args us vs Q E a b c d e' (im _ _ _ _ q)⟩
end
/-- where a def stands -/
structure DefAt (P : Program) (w : World) (K : PySem.W.Frag) (mg : Str → Option Value) (base : Heap) (xm : List Addr) (k : Nat) (x : Str) (ps : List Str) (F : List D → Sto → R D) : Prop where
  ex : ∃ f fd, FnG P w K mg base k f fd ps (spF K xm F ps.length) ∧ mg x = some (.ref f) ∧ PySem.W.keepIn K (.ref f) = true ∧ Binds K fd ps []
def callF (n : Nat) (F : List D → Sto → R D) (fs : AF) : EF := fun en st => (fs en st).bind fun ds st1 => if ds.length = n then F ds st1 else .bad
section
variable {X : Cx} {xm : List Addr} {W : WX} {k j : Nat} {x : Str} {ps : List Str} {F : List D → Sto → R D} {e : Expr} {es : List Expr} {fs : AF} {p pos : Pos}
theorem sn_call (Da : DefAt X.prog X.w X.K X.mg X.base xm j x ps F) (G : GX X xm W k) (ha : PA X (e :: es) (TAf X.K xm W fs)) (hjk : j ≤ k := by decide) (hg : Gl X x := by rfl)
    (hdb : (x == ("__debug__" : Str)) = false := by decide) (he : starEach (e :: es) X.env = (false, eval e X.env) :: starEach es X.env := by rfl) (hpl : (backTo pos (starEach es X.env)).any (·.1) = false := by rfl) :
    PE X (.Call (.Name x p) (e :: es) [] pos) (TEf X.K xm W (callF ps.length F fs)) := by
  obtain ⟨f, fd, Fo, hm, hk, hb⟩ := Da.ex
  refine ⟨fun pins s σ H Q J ⟨z, en, st, rh, re, h⟩ => wpAny_Call_Name_kw (ld_glob J hg hm ?_ hdb)⟩
  have ta : TAf X.K xm W fs σ H fun vs H1 => spF X.K xm F ps.length vs H1 Q (WE W σ) :=
    seqA' rh re (wp_bind.mp h) fun ds st1 vs z1 H1 q1 e1 r1 re1 p1 => by
      by_cases hl : ds.length = ps.length
      · rw [if_pos hl] at q1
        exact ⟨z1, ds, st1, r1, p1, hl, wp_mono q1 (fun _ _ q => q.ext e1) fun c p' st2 q cls dd z' H' e' r' x' => q cls dd z' H' (e1.trans e') r' x'⟩
      · rw [if_neg hl] at q1
        exact q1.elim
  refine PySem.W.callWith_K (h₀ := X.base) J.ok.mod.kin hk (thn (ha.run pos pins s σ H _ J ta) fun us s1 ⟨vs, H1, J1, rv, pr⟩ => ⟨J1.kIn, ?_⟩) he hpl
  have hl2 : us.length = ps.length := rv.length.symm.trans (Fo.len _ _ _ _ pr)
  have bd := hb s1 us J1.kIn (by rw [List.append_nil]; exact hl2)
  rw [List.append_nil] at bd
  refine wpAny_call (codeAny_mono (Fo.run X.A X.stack s1 H1 ⟨us, []⟩ us vs Q _ (G.rm.mono hjk) G.gd J1.env0 bd rv pr) fun r s' hq => ?_)
  match r, hq with
  | .ok (.ret u), hq => exact J1.after hq
  | .error er, hq => exact passAt G.tk σ pins H1 s1 er s' J1 hq
end
end Ev

namespace Ev
open PySem PySem.Spec PyProof.Rows L2
variable [Tabs]

/-! ## operations -/
/-- what may be read as a list whose address is tracked: its items -/
def asL : D → Sto → Option (List D)
  | .lst ds, _ => some ds
  | .ref n, st => match st[n]? with
    | some (.lst ds) => some ds
    | _ => none
  | _, _ => none
def asLF : D → Sto → Option (List D)
  | .fro ds, _ => some ds
  | d, st => asL d st
section
variable {K : PySem.W.Frag} {z : Z} {H : Hp} {st : Sto} {v : V} {d : D} {ds : List D}
theorem asL_at (r : RelH K z H st) (p : Rep K z H v d) (h : asL d st = some ds) : ∃ a xs, v = .ref a ∧ H a = some (.lst xs) ∧ Reps K z H xs ds := by
  cases p with
  | @lst a xs es f e rs =>
    cases h
    exact ⟨a, xs, rfl, e, rs⟩
  | @ref a n hn =>
    cases hc : st[n]? with
    | none =>
      have h : (match st[n]? with | some (.lst ds) => some ds | _ => none) = some ds := h
      rw [hc] at h
      cases h
    | some c =>
      have h : (match st[n]? with | some (.lst ds) => some ds | _ => none) = some ds := h
      rw [hc] at h
      cases c with
      | lst es =>
        cases h
        obtain ⟨xs, e, rs⟩ := r.cell hn hc
        exact ⟨a, xs, rfl, e, rs⟩
      | set S => cases h
      | dct ks0 ds0 => cases h
  | _ => cases h
theorem asLF_at (r : RelH K z H st) (p : Rep K z H v d) (h : asLF d st = some ds) : ∃ a xs, v = .ref a ∧ SqL K H a xs ∧ Reps K z H xs ds := by
  cases p with
  | @fro a xs es t rs =>
    cases h
    exact ⟨a, xs, rfl, t.seq, rs⟩
  | @lst a xs es f e rs =>
    cases h
    exact ⟨a, xs, rfl, SqL.of e, rs⟩
  | @ref a n hn hk =>
    obtain ⟨a', xs, e, e2, rs⟩ := asL_at r (Rep.ref hn hk) h
    cases e
    exact ⟨a, xs, rfl, SqL.of e2, rs⟩
  | _ => cases h
end
def addD : O2
  | .int i, .int j, st => some (.int (i + j), st)
  | .tup a, .tup b, st => if a.length + b.length ≤ sizeLine then some (.tup (a ++ b), st) else none
  | .str a, .str b, st => if a.length + b.length ≤ sizeLine then some (.str (a ++ b), st) else none
  | a, b, st => match asL a st, asL b st with
    | some x, some y => if x.length + y.length ≤ sizeLine then some (.lst (x ++ y), st) else none
    | _, _ => none
def subD : O2
  | .int i, .int j, st => some (.int (i - j), st)
  | _, _, _ => none
def mulOk (i j : Int) : Bool := decide (-(2 ^ 64) < i ∧ i < 2 ^ 64) || decide (-(2 ^ 64) < j ∧ j < 2 ^ 64) || decide (i.natAbs.log2 + j.natAbs.log2 < 1000000)
def mulD : O2
  | .int i, .int j, st => if mulOk i j then some (.int (i * j), st) else none
  | .tup a, .int k, st => if decide (a ≠ []) && decide (2 ≤ k) && decide (k ≤ 1000) && decide (a.length ≤ 1000) && npl a then some (.tup (List.replicate k.toNat a).flatten, st) else none
  | a, .int k, st => match asL a st with
    | some x => if decide (-(2 ^ 63) ≤ k) && decide (k < 2 ^ 63) && decide (x.length * k.toNat ≤ sizeLine) then some (.lst (List.replicate k.toNat x).flatten, st) else none
    | none => none
  | _, _, _ => none
def fdivD : O2
  | .int i, .int j, st => if decide (j ≠ 0) && decide (j.natAbs.log2 < 9000) then some (.int (i.fdiv j), st) else none
  | _, _, _ => none
def modD : O2
  | .int i, .int j, st => if j ≠ 0 then some (.int (i.fmod j), st) else none
  | _, _, _ => none
def powD : O2
  | .int i, .int j, st => if decide (0 ≤ j) && decide (j ≤ 1000000) && decide (i.natAbs < 2 ^ 64) then some (.int (i ^ j.toNat), st) else none
  | _, _, _ => none
def cmpI (p : Int → Int → Bool) : O2
  | .int i, .int j, st => some (.bl (p i j), st)
  | _, _, _ => none
def negD : O1
  | .int i, st => some (.int (-i), st)
  | _, _ => none
section
variable {X : Cx}
/-- ints in, an int out -/
theorem opII {f : Value → Value → Sem Value} {C : Int → Int → Prop} {g : Int → Int → V} (op : O2) (h : OpR X f (rI C g))
    (hop : ∀ a b st d st', op a b st = some (d, st') → ∃ i j, a = .int i ∧ b = .int j ∧ C i j ∧ st' = st ∧ ∀ z H, Rep X.K z H (g i j) d) : OpR X f (R2f X.K op) := by
  intro pins s σ H x y v u Q I rx ry ⟨z, st, da, db, d, st', rh, px, py, e, q⟩
  obtain ⟨i, j, rfl, rfl, hc, rfl, hg⟩ := hop _ _ _ _ _ e
  cases px
  cases py
  exact h pins s σ H _ _ v u Q I rx ry ⟨i, j, rfl, rfl, hc, okD.here q rh (hg z H)⟩
theorem opII0 {f : Value → Value → Sem Value} {g : Int → Int → V} (op : O2) (h : OpR X f (rI0 g))
    (hop : ∀ a b st d st', op a b st = some (d, st') → ∃ i j, a = .int i ∧ b = .int j ∧ st' = st ∧ ∀ z H, Rep X.K z H (g i j) d) : OpR X f (R2f X.K op) := by
  intro pins s σ H x y v u Q I rx ry ⟨z, st, da, db, d, st', rh, px, py, e, q⟩
  obtain ⟨i, j, rfl, rfl, rfl, hg⟩ := hop _ _ _ _ _ e
  cases px
  cases py
  exact h pins s σ H _ _ v u Q I rx ry ⟨i, j, rfl, rfl, okD.here q rh (hg z H)⟩
theorem or_sub : OpR X (binaryOp .Sub) (R2f X.K subD) := opII0 subD op_sub fun a b st d st' e => by
  cases a <;> cases b <;> first | cases e; done | (cases e; exact ⟨_, _, rfl, rfl, rfl, fun _ _ => .int _⟩)
theorem ints2 {op : O2} {a b : D} {st : Sto} {r : D × Sto} (h : ∀ a b, (∀ i j, ¬ (a = .int i ∧ b = .int j)) → op a b st = none) (e : op a b st = some r) : ∃ i j, a = .int i ∧ b = .int j := by
  cases a with
  | int i =>
    cases b with
    | int j => exact ⟨i, j, rfl, rfl⟩
    | _ =>
      rw [h _ _ (fun _ _ q => by cases q.2)] at e
      cases e
  | _ =>
    rw [h _ _ (fun _ _ q => by cases q.1)] at e
    cases e
theorem or_mod : OpR X (binaryOp .Mod) (R2f X.K modD) := opII modD op_modN fun a b st d st' e => by
  obtain ⟨i, j, rfl, rfl⟩ := ints2 (op := modD) (fun a b h => by cases a <;> cases b <;> first | rfl | exact absurd ⟨rfl, rfl⟩ (h _ _)) e
  have e : (if j ≠ 0 then some (D.int (i.fmod j), st) else none) = some (d, st') := e
  by_cases h : j ≠ 0
  · rw [if_pos h] at e
    cases e
    exact ⟨_, _, rfl, rfl, h, rfl, fun _ _ => .int _⟩
  · rw [if_neg h] at e
    cases e
theorem or_pow : OpR X (binaryOp .Pow) (R2f X.K powD) := opII powD op_pow fun a b st d st' e => by
  obtain ⟨i, j, rfl, rfl⟩ := ints2 (op := powD) (fun a b h => by cases a <;> cases b <;> first | rfl | exact absurd ⟨rfl, rfl⟩ (h _ _)) e
  have e : (if (decide (0 ≤ j) && decide (j ≤ 1000000) && decide (i.natAbs < 2 ^ 64)) = true then some (D.int (i ^ j.toNat), st) else none) = some (d, st') := e
  by_cases h : (decide (0 ≤ j) && decide (j ≤ 1000000) && decide (i.natAbs < 2 ^ 64)) = true
  · rw [if_pos h] at e
    cases e
    simp only [Bool.and_eq_true, decide_eq_true_eq] at h
    exact ⟨_, _, rfl, rfl, ⟨h.1.1, h.1.2, h.2⟩, rfl, fun _ _ => .int _⟩
  · rw [if_neg h] at e
    cases e
theorem or_fdiv : OpR X (binaryOp .FloorDiv) (R2f X.K fdivD) := opII fdivD (C := fun _ j => j ≠ 0 ∧ j.natAbs.log2 < 9000) (opI fun _ _ _ _ _ _ _ hc q => floordiv_int hc.1 q (.inl (PyProof.noPylong_of_log2 hc.2))) fun a b st d st' e => by
  obtain ⟨i, j, rfl, rfl⟩ := ints2 (op := fdivD) (fun a b h => by cases a <;> cases b <;> first | rfl | exact absurd ⟨rfl, rfl⟩ (h _ _)) e
  have e : (if (decide (j ≠ 0) && decide (j.natAbs.log2 < 9000)) = true then some (D.int (i.fdiv j), st) else none) = some (d, st') := e
  by_cases h : (decide (j ≠ 0) && decide (j.natAbs.log2 < 9000)) = true
  · rw [if_pos h] at e
    cases e
    simp only [Bool.and_eq_true, decide_eq_true_eq] at h
    exact ⟨_, _, rfl, rfl, h, rfl, fun _ _ => .int _⟩
  · rw [if_neg h] at e
    cases e
theorem or_lt : OpR X (compareOp .Lt) (R2f X.K (cmpI fun i j => decide (i < j))) := opII0 _ op_lt fun a b st d st' e => by
  cases a <;> cases b <;> first | cases e; done | (cases e; exact ⟨_, _, rfl, rfl, rfl, fun _ _ => .bl _⟩)
theorem or_le : OpR X (compareOp .LtE) (R2f X.K (cmpI fun i j => decide (i ≤ j))) := opII0 _ op_le fun a b st d st' e => by
  cases a <;> cases b <;> first | cases e; done | (cases e; exact ⟨_, _, rfl, rfl, rfl, fun _ _ => .bl _⟩)
theorem or_gt : OpR X (compareOp .Gt) (R2f X.K (cmpI fun i j => decide (j < i))) := opII0 _ op_gt fun a b st d st' e => by
  cases a <;> cases b <;> first | cases e; done | (cases e; exact ⟨_, _, rfl, rfl, rfl, fun _ _ => .bl _⟩)
theorem or_ge : OpR X (compareOp .GtE) (R2f X.K (cmpI fun i j => decide (j ≤ i))) := opII0 _ op_ge fun a b st d st' e => by
  cases a <;> cases b <;> first | cases e; done | (cases e; exact ⟨_, _, rfl, rfl, rfl, fun _ _ => .bl _⟩)
theorem un_negD : UnR X (unaryOp .USub) (R1f X.K negD) := by
  intro pins s σ H x v Q I rx ⟨z, st, da, d, st', rh, px, e, q⟩
  cases px <;> first | cases e; done | (
    cases e
    exact un_neg pins s σ H _ v Q I rx ⟨_, rfl, okD.here q rh (.int _)⟩)
theorem or_add : OpR X (binaryOp .Add) (R2f X.K addD) := by
  intro pins s σ H x y v u Q I rx ry ⟨z, st, da, db, d, st', rh, px, py, e, q⟩
  have lists : (∃ xs ys, asL da st = some xs ∧ asL db st = some ys ∧ xs.length + ys.length ≤ sizeLine ∧ d = .lst (xs ++ ys) ∧ st' = st) → wpAny (model X.prog X.w) X.A (binaryOp .Add v u) (EP X pins σ Q) X.xe s := by
    rintro ⟨xs, ys, h1, h2, hl, rfl, rfl⟩
    obtain ⟨a, vs, rfl, e1, r1⟩ := asL_at rh px h1
    obtain ⟨b, ws, rfl, e2, r2⟩ := asL_at rh py h2
    exact op_cat pins s σ H _ _ v u Q I rx ry ⟨a, b, vs, ws, rfl, rfl, e1, e2, by rw [r1.length, r2.length]; exact hl, fun p n => okD.newF q rh (r1.append r2) n⟩
  have rest : (match asL da st, asL db st with
    | some x, some y => if x.length + y.length ≤ sizeLine then some (D.lst (x ++ y), st) else none
    | _, _ => none) = some (d, st') → ∃ xs ys, asL da st = some xs ∧ asL db st = some ys ∧ xs.length + ys.length ≤ sizeLine ∧ d = .lst (xs ++ ys) ∧ st' = st := fun e => by
    split at e
    · rename_i xs ys h1 h2
      split at e
      · rename_i hl
        cases e
        exact ⟨xs, ys, h1, h2, hl, rfl, rfl⟩
      · cases e
    · cases e
  cases da with
  | int i =>
    cases db with
    | int j =>
      cases e
      cases px
      cases py
      exact op_add pins s σ H _ _ v u Q I rx ry ⟨i, j, rfl, rfl, okD.here q rh (.int _)⟩
    | _ => exact lists (rest e)
  | str i =>
    cases db with
    | str j =>
      have e : (if i.length + j.length ≤ sizeLine then some (D.str (i ++ j), st) else none) = some (d, st') := e
      split at e
      · rename_i hl
        cases e
        cases px
        cases py
        exact op_add_str pins s σ H _ _ v u Q I rx ry ⟨i, j, rfl, rfl, hl, okD.here q rh (.str _)⟩
      · cases e
    | _ => exact lists (rest e)
  | tup a =>
    cases db with
    | tup b =>
      have e : (if a.length + b.length ≤ sizeLine then some (D.tup (a ++ b), st) else none) = some (d, st') := e
      split at e
      · rename_i hl
        cases e
        cases px with
        | @tup p xs _ t1 r1 =>
          cases py with
          | @tup p2 ys _ t2 r2 =>
            refine op_catP pins s σ H _ _ v u Q I rx ry ⟨p, p2, xs, ys, rfl, rfl, t1.seq, t2.seq, by rw [r1.length, r2.length]; exact hl, fun w => ?_, fun _ w => ?_, fun _ _ => okD.newP q rh (r1.append r2)⟩
            · subst w
              cases r1
              exact okD.here q rh (.tup t2 r2)
            · subst w
              cases r2
              rw [List.append_nil] at q
              exact okD.here q rh (.tup t1 r1)
      · cases e
    | _ => exact lists (rest e)
  | _ => cases db <;> exact lists (rest e)
theorem npl_flat {a : List D} (h : npl a = true) : ∀ n : Nat, npl (List.replicate n a).flatten = true
  | 0 => rfl
  | n + 1 => by
    rw [List.replicate_succ, List.flatten_cons]
    cases a with
    | nil => exact npl_flat h n
    | cons d r => exact h
theorem or_mul : OpR X (binaryOp .Mult) (R2f X.K mulD) := by
  intro pins s σ H x y v u Q I rx ry ⟨z, st, da, db, d, st', rh, px, py, e, q⟩
  cases db with
  | int k =>
    cases py
    have lists : (match asL da st with
      | some x => if decide (-(2 ^ 63) ≤ k) && decide (k < 2 ^ 63) && decide (x.length * k.toNat ≤ sizeLine) then some (D.lst (List.replicate k.toNat x).flatten, st) else none
      | none => none) = some (d, st') → wpAny (model X.prog X.w) X.A (binaryOp .Mult v u) (EP X pins σ Q) X.xe s := fun e => by
      split at e
      · rename_i xs h1
        split at e
        · rename_i hl
          cases e
          simp only [Bool.and_eq_true, decide_eq_true_eq] at hl
          obtain ⟨a, vs, rfl, e1, r1⟩ := asL_at rh px h1
          exact op_rep pins s σ H _ _ v u Q I rx ry ⟨a, k, vs, rfl, rfl, e1, hl.1.1, hl.1.2, by rw [r1.length]; exact hl.2, fun p n => okD.newF q rh (r1.flat _) n⟩
        · cases e
      · cases e
    cases da with
    | int i =>
      have e : (if mulOk i k then some (D.int (i * k), st) else none) = some (d, st') := e
      split at e
      · rename_i hm
        cases e
        cases px
        unfold mulOk at hm
        simp only [Bool.or_eq_true, decide_eq_true_eq] at hm
        rcases hm with (hm | hm) | hm
        · exact op_mul pins s σ H _ _ v u Q I rx ry ⟨i, k, rfl, rfl, .inl hm, okD.here q rh (.int _)⟩
        · exact op_mul pins s σ H _ _ v u Q I rx ry ⟨i, k, rfl, rfl, .inr hm, okD.here q rh (.int _)⟩
        · exact op_mulW pins s σ H _ _ v u Q I rx ry ⟨i, k, rfl, rfl, hm, okD.here q rh (.int _)⟩
      · cases e
    | tup a =>
      have e : (if decide (a ≠ []) && decide (2 ≤ k) && decide (k ≤ 1000) && decide (a.length ≤ 1000) && npl a then some (D.tup (List.replicate k.toNat a).flatten, st) else none) = some (d, st') := e
      split at e
      · rename_i hl
        cases e
        simp only [Bool.and_eq_true, decide_eq_true_eq] at hl
        cases px with
        | @tup p xs _ t1 r1 =>
          refine op_repT pins s σ H _ _ v u Q I rx ry ⟨p, k, xs, rfl, rfl, t1.seq, fun w => ?_, hl.1.1.1.2, hl.1.1.2, by rw [r1.length]; exact hl.1.2, fun p n => okD.newT q rh (r1.flat _) n (npl_flat hl.2 _)⟩
          subst w
          cases r1
          exact hl.1.1.1.1 rfl
      · cases e
    | _ => exact lists e
  | _ => cases da <;> cases e
end
/-! ## data as a whole: ==, repr -/
def mapO {α β : Type} (f : α → Option β) : List α → Option (List β)
  | [] => some []
  | a :: r => (f a).bind fun b => (mapO f r).bind fun bs => some (b :: bs)
def toP : Nat → Sto → D → Option PyData
  | 0, _, _ => none
  | n + 1, st, d => match d with
    | .non => some .none
    | .bl b => some (.bool b)
    | .int i => some (.int i)
    | .str s => some (.str s)
    | .tup ds => (mapO (toP n st) ds).map .tuple
    | .lst ds => (mapO (toP n st) ds).map .list
    | .fro ds => (mapO (toP n st) ds).map .list
    | .ref k => match st[k]? with
      | some (.lst ds) => (mapO (toP n st) ds).map .list
      | _ => none
    | .sref _ => none
    | .dic _ _ => none
section
variable {K : PySem.W.Frag} {z : Z} {H : Hp} {st : Sto}
theorem mapO_dp {f : D → Option PyData} (hf : ∀ v d p, Rep K z H v d → f d = some p → Dp K H v p) : ∀ {vs : List V} {ds : List D} {ps : List PyData}, Reps K z H vs ds → mapO f ds = some ps → DpAll K H vs ps
  | _, _, _, .nil, h => by
    cases h
    exact .nil
  | _, d :: r, ps, .cons p t, h => by
    have h : (f d).bind (fun b => (mapO f r).bind fun bs => some (b :: bs)) = some ps := h
    obtain ⟨b, hb, h⟩ := Option.bind_eq_some_iff.mp h
    obtain ⟨bs, hbs, h⟩ := Option.bind_eq_some_iff.mp h
    cases h
    exact .cons (hf _ _ _ p hb) (mapO_dp hf t hbs)
theorem toP_dp (r : RelH K z H st) : ∀ (n : Nat) (v : V) (d : D) (p : PyData), Rep K z H v d → toP n st d = some p → Dp K H v p
  | 0, _, _, _, _, h => nomatch h
  | n + 1, v, d, p, q, h => by
    have ih := toP_dp r n
    cases q with
    | non => cases h; exact .non
    | bl b => cases h; exact .bl b
    | int i => cases h; exact .int i
    | str x => cases h; exact .str x
    | @tup a xs ds t rs =>
      obtain ⟨ps, hp, h⟩ := Option.map_eq_some_iff.mp (show (mapO (toP n st) ds).map PyData.tuple = some p from h)
      subst h
      exact .tup t.seq (mapO_dp ih rs hp)
    | @lst a xs ds f e rs =>
      obtain ⟨ps, hp, h⟩ := Option.map_eq_some_iff.mp (show (mapO (toP n st) ds).map PyData.list = some p from h)
      subst h
      exact .lst (SqL.of e) (mapO_dp ih rs hp)
    | @fro a xs ds t rs =>
      obtain ⟨ps, hp, h⟩ := Option.map_eq_some_iff.mp (show (mapO (toP n st) ds).map PyData.list = some p from h)
      subst h
      exact .lst t.seq (mapO_dp ih rs hp)
    | @ref a m hm =>
      have h : (match st[m]? with | some (.lst ds) => (mapO (toP n st) ds).map PyData.list | _ => none) = some p := h
      split at h
      · rename_i ds hc
        obtain ⟨ps, hp, h⟩ := Option.map_eq_some_iff.mp h
        subst h
        obtain ⟨xs, e, rs⟩ := r.cell hm hc
        exact .lst (SqL.of e) (mapO_dp ih rs hp)
      · cases h
    | sref _ _ => cases h
    | dic _ _ => cases h
end
def eqB (a b : D) (st : Sto) : Option Bool := match toP 16 st a, toP 16 st b with
  | some p, some q => if SeqAt.shaped p && SeqAt.shaped q then some (PyData.eqv p q) else none
  | _, _ => none
def eqD : O2 := fun a b st => (eqB a b st).bind fun r => some (.bl r, st)
def neD : O2 := fun a b st => (eqB a b st).bind fun r => some (.bl (!r), st)
theorem eqB_some {a b : D} {st : Sto} {r : Bool} (h : eqB a b st = some r) : ∃ p q, toP 16 st a = some p ∧ toP 16 st b = some q ∧ SeqAt.shaped p = true ∧ SeqAt.shaped q = true ∧ r = PyData.eqv p q := by
  unfold eqB at h
  split at h
  · rename_i p q h1 h2
    split at h
    · rename_i hs
      rw [Bool.and_eq_true] at hs
      exact ⟨p, q, h1, h2, hs.1, hs.2, (Option.some.inj h).symm⟩
    · cases h
  · cases h
section
variable {X : Cx}
theorem or_eq {k : Nat} (hr : Room k X.A) : OpR X (compareOp .Eq) (R2f X.K eqD) := by
  intro pins s σ H x y v u Q I rx ry ⟨z, st, da, db, d, st', rh, px, py, e, q⟩
  obtain ⟨r, hr', e⟩ := Option.bind_eq_some_iff.mp (show (eqB da db st).bind (fun r => some (D.bl r, st)) = some (d, st') from e)
  cases e
  obtain ⟨p1, p2, h1, h2, s1, s2, rfl⟩ := eqB_some hr'
  exact op_eqD hr.units pins s σ H _ _ v u Q I rx ry ⟨p1, p2, toP_dp rh _ _ _ _ px h1, toP_dp rh _ _ _ _ py h2, s1, s2, okD.here q rh (.bl _)⟩
theorem or_ne {k : Nat} (hr : Room k X.A) : OpR X (compareOp .NotEq) (R2f X.K neD) := by
  intro pins s σ H x y v u Q I rx ry ⟨z, st, da, db, d, st', rh, px, py, e, q⟩
  obtain ⟨r, hr', e⟩ := Option.bind_eq_some_iff.mp (show (eqB da db st).bind (fun r => some (D.bl (!r), st)) = some (d, st') from e)
  cases e
  obtain ⟨p1, p2, h1, h2, s1, s2, rfl⟩ := eqB_some hr'
  exact op_neD hr.units pins s σ H _ _ v u Q I rx ry ⟨p1, p2, toP_dp rh _ _ _ _ px h1, toP_dp rh _ _ _ _ py h2, s1, s2, okD.here q rh (.bl _)⟩
/-! is, is not -/
def isNB : D → Bool
  | .non => true
  | _ => false
/-- x is None, True, False: the right one written -/
def isD (neg : Bool) : O2
  | .bl a, .bl b, st => some (.bl (if neg then !decide (a = b) else decide (a = b)), st)
  | a, .non, st => some (.bl (if neg then !isNB a else isNB a), st)
  | _, _, _ => none
theorem isNB_at {K : PySem.W.Frag} {z : Z} {H : Hp} {v : V} {d : D} (p : Rep K z H v d) : decide (v = .non) = isNB d := by
  cases p <;> first | rfl | exact decide_eq_false (fun q => nomatch q) | exact decide_eq_true rfl
theorem or_is : OpR X (compareOp .Is) (R2f X.K (isD false)) := by
  intro pins s σ H x y v u Q I rx ry ⟨z, st, da, db, d, st', rh, px, py, e, q⟩
  cases db with
  | non =>
    cases py
    have e' : d = .bl (isNB da) ∧ st' = st := by
      cases da <;> (cases e; exact ⟨rfl, rfl⟩)
    obtain ⟨rfl, rfl⟩ := e'
    exact op_isN pins s σ H _ _ v u Q I rx ry ⟨rfl, by rw [isNB_at px]; exact okD.here q rh (.bl _)⟩
  | bl b =>
    cases da with
    | bl a =>
      cases e
      cases px
      cases py
      exact op_isBl pins s σ H _ _ v u Q I rx ry ⟨a, b, rfl, rfl, okD.here q rh (.bl _)⟩
    | _ => cases e
  | _ => cases da <;> cases e
theorem or_isnot : OpR X (compareOp .IsNot) (R2f X.K (isD true)) := by
  intro pins s σ H x y v u Q I rx ry ⟨z, st, da, db, d, st', rh, px, py, e, q⟩
  cases db with
  | non =>
    cases py
    have e' : d = .bl (!isNB da) ∧ st' = st := by
      cases da <;> (cases e; exact ⟨rfl, rfl⟩)
    obtain ⟨rfl, rfl⟩ := e'
    exact op_notN pins s σ H _ _ v u Q I rx ry ⟨rfl, by rw [isNB_at px]; exact okD.here q rh (.bl _)⟩
  | bl b =>
    cases da with
    | bl a =>
      cases e
      cases px
      cases py
      exact op_notBl pins s σ H _ _ v u Q I rx ry ⟨a, b, rfl, rfl, okD.here q rh (.bl _)⟩
    | _ => cases e
  | _ => cases da <;> cases e
/-! repr -/
def reprOk (p : PyData) : Bool := p.showable && !p.hasDict && decide (p.depth ≤ 60) && decide (p.shown.length ≤ sizeLine)
def reprL : OL := fun ds st => match ds with
  | [d] => (toP 16 st d).bind fun p => if reprOk p then some (.str p.shown, st) else none
  | _ => none
theorem cr_repr {k : Nat} (hr : Room k X.A) (hg : X.A.guards = some []) : CallR X (.builtin "repr") (RLf X.K reprL) := by
  intro pins s σ H xs us Q I rv ⟨z, st, ds, d, st', rh, ps, e, q⟩
  match ds, ps, e with
  | [d0], .cons (v := v0) p0 .nil, e =>
    obtain ⟨p, hp, e⟩ := Option.bind_eq_some_iff.mp (show (toP 16 st d0).bind (fun p => if reprOk p then some (D.str p.shown, st) else none) = some (d, st') from e)
    split at e
    · rename_i ok
      cases e
      unfold reprOk at ok
      simp only [Bool.and_eq_true, decide_eq_true_eq, Bool.not_eq_true'] at ok
      obtain ⟨⟨⟨hs, hd⟩, hdep⟩, hlen⟩ := ok
      obtain ⟨u, rfl, ru⟩ := rv.one
      have dp := toP_dp rh _ _ _ _ p0 hp
      have fin : ∀ tk t, EP X pins σ Q (.str p.shown t) { s with toks := tk } := fun tk t => ⟨.str p.shown, H, I.tok tk, ⟨t, rfl⟩, okD.here q rh (.str _)⟩
      have un : X.A.units + (p.depth + 1) < cLine := by
        have := hr.units
        have := hr.un
        omega
      have displays : ∀ a, u = .ref a → wpAny (model X.prog X.w) X.A (call (.builtin "repr") [u]) (EP X pins σ Q) X.xe s := by
        rintro a rfl
        obtain ⟨as, rd⟩ := Dp.reads I _ _ _ dp ru
        exact PySem.repr_of_reads' rd hs (PyData.noDict_hsm hd) hg un (fun _ _ q => q) (fun h' t tk kk => ⟨.str p.shown, H, I.kept (t' := tk) kk, ⟨t, rfl⟩, okD.here q rh (.str _)⟩) hlen
      cases dp with
      | non =>
        cases ru
        exact PySem.P.repr_of_none (fin _ _)
      | bl b =>
        cases ru
        exact PySem.P.repr_of_bool (fin _ _)
      | int i =>
        obtain ⟨t, rfl⟩ := ru
        exact PySem.P.repr_of_int (of_decide_eq_true hs) (fin _ _)
      | str x =>
        obtain ⟨t, rfl⟩ := ru
        exact PySem.P.repr_of_str (fin _ _) hlen
      | lst _ _ => exact displays _ ru
      | tup _ _ => exact displays _ ru
    · cases e
end
end Ev

namespace Ev
open PySem PySem.Spec PyProof.Rows L2
variable [Tabs]

/-! ## subscripts, slices -/
def atD (ds : List D) (i : Int) : Option D := (ixN ds.length i).bind fun j => ds[j]?
def ixD : O2 := fun a b st => match b with
  | .int i => match a with
    | .tup ds => (atD ds i).bind fun d => some (d, st)
    | _ => (asLF a st).bind fun ds => (atD ds i).bind fun d => some (d, st)
  | _ => none
theorem atI_at {K : PySem.W.Frag} {z : Z} {H : Hp} {vs : List V} {ds : List D} {i : Int} {d : D} (r : Reps K z H vs ds) (h : atD ds i = some d) : ∃ v, atI vs i = some v ∧ Rep K z H v d := by
  obtain ⟨j, hj, hd⟩ := Option.bind_eq_some_iff.mp h
  obtain ⟨v, hv, rv⟩ := r.getD hd
  exact ⟨v, by unfold atI; rw [r.length, hj]; exact hv, rv⟩
def cutD (ds : List D) (lo hi : Option Int) : List D := (ds.drop (HT.sIx ds.length 0 lo)).take (HT.sIx ds.length ds.length hi - HT.sIx ds.length 0 lo)
theorem cut_at {K : PySem.W.Frag} {z : Z} {H : Hp} {vs : List V} {ds : List D} (r : Reps K z H vs ds) (lo hi : Option Int) : Reps K z H (cutV vs lo hi) (cutD ds lo hi) := by
  unfold cutV cutD
  rw [r.length]
  exact (r.drop _).take _
abbrev PF := En → Sto → R (Option Int)
def noP : PF := fun _ st => .ok none st
def someP (f : EF) : PF := fun en st => (f en st).bind fun d st1 => match d with
  | .int i => .ok (some i) st1
  | _ => .bad
def slD (a : D) (lo hi : Option Int) (st : Sto) : Option (D × Sto) := match a with
  | .tup ds => some (.tup (cutD ds lo hi), st)
  | _ => (asLF a st).bind fun ds => some (.lst (cutD ds lo hi), st)
def slF (f : EF) (l h : PF) : EF := fun en st => (f en st).bind fun a st1 => (l en st1).bind fun lo st2 => (h en st2).bind fun hi st3 => R.ofO (slD a lo hi st3)
section
variable {X : Cx} {xm : List Addr} {W : WX} {k : Nat} {a b c e : Expr} {f g : EF} {pos : Pos}
theorem ir_ix : IxR X (R2f X.K ixD) := by
  intro value slice pins s σ H x y v u Q I rx ry ⟨z, st, da, db, d, st', rh, px, py, e, q⟩ hs
  cases db with
  | int i =>
    cases py
    have lists : (asLF da st).bind (fun ds => (atD ds i).bind fun d => some (d, st)) = some (d, st') → wpAny (model X.prog X.w) X.A (subscriptTail value slice v u) (EP X pins σ Q) X.xe s := fun e => by
      obtain ⟨ds, h1, e⟩ := Option.bind_eq_some_iff.mp e
      obtain ⟨d', h2, e⟩ := Option.bind_eq_some_iff.mp e
      cases e
      obtain ⟨p, xs, rfl, hq, rs⟩ := asLF_at rh px h1
      obtain ⟨w, hw, rw'⟩ := atI_at rs h2
      exact ix_list value slice pins s σ H _ _ v u Q I rx ry ⟨p, xs, i, w, rfl, rfl, hq, hw, okD.here q rh rw'⟩ hs
    cases da with
    | tup ds =>
      obtain ⟨d', h2, e⟩ := Option.bind_eq_some_iff.mp (show (atD ds i).bind (fun d => some (d, st)) = some (d, st') from e)
      cases e
      cases px with
      | @tup p xs _ t rs =>
        obtain ⟨w, hw, rw'⟩ := atI_at rs h2
        exact ix_tup value slice pins s σ H _ _ v u Q I rx ry ⟨p, xs, i, w, rfl, rfl, t.seq, hw, okD.here q rh rw'⟩ hs
    | _ => exact lists e
  | _ => cases da <;> cases e
theorem sn_ix (ha : PE X a (TEf X.K xm W f)) (hb : PE X b (TEf X.K xm W g)) (hs : PlainIx b := by exact fun _ _ => rfl) : PE X (.Subscript a b pos) (TEf X.K xm W (op2F ixD f g)) := (pe_ix ir_ix ha hb hs).imp op2_read
/-! parts of a slice -/
def TPf (K : PySem.W.Frag) (xm : List Addr) (W : WX) (f : PF) : TO := fun σ H Q => ∃ z en st, RelH K z H st ∧ RelE K z H σ en ∧ (f en st).wp (fun o st' => ∀ z' H', Ext z H z' H' → RelH K z' H' st' → Q o H') (exW K xm z H W σ)
theorem _root_.L2.PO.imp {X : Cx} {e : Option Expr} {t t' : TO} (h : PO X e t) (w : ∀ σ H Q, t' σ H Q → t σ H Q) : PO X e t' := ⟨fun pins s σ H Q I q => h.run pins s σ H Q I (w σ H Q q)⟩
theorem sp_no : PO X none (TPf X.K xm W noP) := po_none.imp fun σ H Q ⟨z, en, st, rh, re, h⟩ => h z H .refl rh
theorem sp_so (ha : PE X a (TEf X.K xm W f)) : PO X (some a) (TPf X.K xm W (someP f)) := (po_some ha).imp fun σ H Q ⟨z, en, st, rh, re, h⟩ => by
  refine seqE' rh re (wp_bind.mp h) fun d1 st1 v1 z1 H1 q1 e1 r1 re1 p1 => ?_
  cases d1 with
  | int i =>
    cases p1
    exact ⟨i, rfl, q1 z1 H1 e1 r1⟩
  | _ => exact False.elim q1
theorem sr_sl : SlR X (fun x lo hi H Q => ∃ z st da d st', RelH X.K z H st ∧ Rep X.K z H x da ∧ slD da lo hi st = some (d, st') ∧ okD X.K z H Q d st') := by
  intro pins s σ H x v vl vu lo hi sl Q I rx hs pl pu ⟨z, st, da, d, st', rh, px, e, q⟩
  have lists : (asLF da st).bind (fun ds => some (D.lst (cutD ds lo hi), st)) = some (d, st') → ∃ T id, typeLookup (.type T) "__getitem__" = pure (some (.builtin id)) ∧ s.TypeIs v T ∧ wpAny (model X.prog X.w) X.A (getItem v (.ref sl)) (EP X pins σ Q) X.xe s := fun e => by
    obtain ⟨ds, h1, e⟩ := Option.bind_eq_some_iff.mp e
    cases e
    obtain ⟨p, xs, rfl, hq, rs⟩ := asLF_at rh px h1
    exact sl_list pins s σ H _ v vl vu lo hi sl Q I rx hs pl pu ⟨p, xs, rfl, hq, fun p n => okD.newF q rh (cut_at rs lo hi) n⟩
  cases da with
  | tup ds =>
    cases (show some (D.tup (cutD ds lo hi), st) = some (d, st') from e)
    cases px with
    | @tup p xs _ t rs =>
      refine sl_tupP pins s σ H _ v vl vu lo hi sl Q I rx hs pl pu ⟨p, xs, rfl, t.seq, fun w => ?_, fun _ => okD.newP q rh (cut_at rs lo hi)⟩
      have e2 : cutD ds lo hi = ds := by
        unfold cutD
        rw [← rs.length, w.1, w.2, rs.length]
        simp
      rw [e2] at q
      exact okD.here q rh (.tup t rs)
  | _ => exact lists e
variable {lo hi : Option Expr} {p2 : Pos} {fl fh : PF}
theorem sn_sl (ha : PE X a (TEf X.K xm W f)) (hl : PO X lo (TPf X.K xm W fl)) (hh : PO X hi (TPf X.K xm W fh)) : PE X (.Subscript a (.Slice lo hi none p2) pos) (TEf X.K xm W (slF f fl fh)) :=
  (pe_slice sr_sl ha hl hh).imp fun σ H Q ⟨z, en, st, rh, re, h⟩ => by
    refine seqE' rh re (wp_bind.mp h) fun d1 st1 v1 z1 H1 q1 e1 r1 re1 p1 => ?_
    refine ⟨z1, en, st1, r1, re1, wpD_ext e1 (wp_bind.mp q1) fun o2 st2 q2 z2 H2 e2 r2 => ?_⟩
    refine ⟨z2, en, st2, r2, re1.ext e2, wpD_ext (e1.trans e2) (wp_bind.mp q2) fun o3 st3 q3 z3 H3 e3 r3 => ?_⟩
    obtain ⟨d, st4, e4, q4⟩ := wp_ofO q3
    exact ⟨z3, st3, d1, d, st4, r3, (p1.ext e2).ext e3, e4, q4.ext ((e1.trans e2).trans e3)⟩
/-! a cell's item stored -/
def subS (f o i : EF) : SF := fun en st => bindS (f en st) en fun d st1 => bindS (o en st1) en fun l st2 => bindS (i en st2) en fun j st3 => match l, j with
  | .ref n, .int m => match st3[n]? with
    | some (.lst ds) => match ixN ds.length m with
      | some q => .nx en (st3.set n (.lst (ds.set q d)))
      | none => .bad
    | _ => .bad
  | _, _ => .bad
theorem ss_sub {spos : Pos} (he : PE X e (TEf X.K xm W f)) (ho : PE X a (TEf X.K xm W g)) {h : EF} (hi : PE X b (TEf X.K xm W h)) (hs : swapsWithSole [.Subscript a b pos] e spos.line X.env = pure false := by rfl) (hw : swappedStores [.Subscript a b pos] e X.env = pure none := by rfl)
    (h1 : (assignEach [.Subscript a b pos] X.env).map (·.2) = [assign (.Subscript a b pos) X.env] := by rfl)
    (ha : ∀ v, assign (.Subscript a b pos) X.env v = (do
      let ov ← holding [v] (eval a X.env)
      let iv ← holding [v, ov] (eval b X.env)
      standAt pos
      holding [v, ov, iv] (setItem ov iv v)
      release [v, ov, iv] []) := by intro _; rfl) : PS X (.Assign [.Subscript a b pos] e spos) (TSf X.K xm W (subS f g h)) :=
  (ps_asg he (pg_sub ho hi set_list ha) hs hw h1).imp fun E σ H ⟨z, en, st, rh, re, hh⟩ => by
    refine seqE' rh re (sat_bind re hh) fun d1 st1 v1 z1 H1 q1 e1 r1 re1 p1 => ?_
    refine seqE' r1 re1 (wpD_ext e1 (sat_bind re q1) fun _ _ q => q) fun d2 st2 v2 z2 H2 q2 e2 r2 re2 p2 => ?_
    refine seqE' r2 re2 (wpD_ext (e1.trans e2) (sat_bind re q2) fun _ _ q => q) fun d3 st3 v3 z3 H3 q3 e3 r3 re3 p3 => ?_
    cases d2 with
    | ref n =>
      cases p2 with
      | @ref p _ hn hk =>
        cases d3 with
        | int m =>
          cases p3
          have hn3 := e3.mu _ _ hn
          have hk3 := (e3.kd _ _ hn).trans hk
          cases hc : st3[n]? with
          | none =>
            simp only [hc] at q3
            exact False.elim q3
          | some cl =>
            cases cl with
            | set S =>
              simp only [hc] at q3
              exact False.elim q3
            | dct ks0 ds0 =>
              simp only [hc] at q3
              exact False.elim q3
            | lst ds =>
              simp only [hc] at q3
              obtain ⟨xs, hx, rs⟩ := r3.cell hn3 hc
              cases hj : ixN ds.length m with
              | none =>
                simp only [hj] at q3
                exact False.elim q3
              | some j =>
                simp only [hj] at q3
                have rv := (p1.ext e2).ext e3
                refine ⟨p, xs, m, j, rfl, rfl, hx, by rw [rs.length]; exact hj, ?_⟩
                have e4 := ext_write (o := .lst (xs.set j v1)) r3 hn3
                exact q3 σ z3 _ (((e1.trans e2).trans e3).trans e4) (r3.write hn3 hk3 (Reps.set rv j rs)) (re3.ext e4)
        | _ => exact False.elim q3
    | _ => cases d3 <;> exact False.elim q3
/-! methods of lists -/
abbrev OM := D → List D → Sto → Option (D × Sto)
def RMf (K : PySem.W.Frag) (op : OM) : V → List V → Hp → VK → Prop := fun x xs H Q => ∃ z st da ds d st', RelH K z H st ∧ Rep K z H x da ∧ Reps K z H xs ds ∧ op da ds st = some (d, st') ∧ okD K z H Q d st'
/-- a list's method -/
def methF (op : OM) (f : EF) (fs : AF) : EF := fun en st => (f en st).bind fun a st1 => match asLF a st1 with
  | some _ => (fs en st1).bind fun ds st2 => R.ofO (op a ds st2)
  | none => .bad
def appM : OM := fun a ds st => match a, ds with
  | .ref n, [d] => match st[n]? with
    | some (.lst es) => if es.length < sizeLine then some (.non, st.set n (.lst (es ++ [d]))) else none
    | _ => none
  | _, _ => none
def popM : OM := fun a ds st => match a, ds with
  | .ref n, [] => match st[n]? with
    | some (.lst es) => (es[es.length - 1]?).bind fun d => some (d, st.set n (.lst es.dropLast))
    | _ => none
  | _, _ => none
variable {es : List Expr} {fs : AF} {name : Str} {apos cpos : Pos} {id : String}
theorem sn_meth {op : OM} (pa : PlainAttrs "list") (slot : Slot "list" name id) (hty : typeOf (.builtin id) = pure (.type "method_descriptor")) (hm : MtR X id (RMf X.K op)) (ho : PE X a (TEf X.K xm W f)) (ha : PA X (e :: es) (TAf X.K xm W fs))
    (hbase : attributeBase a name X.env (eval a X.env) = eval a X.env := by rfl)
    (hfew : ((backTo cpos (starEach (e :: es) X.env)).all (fun x => !x.1) && (backToKw cpos (keywordEach [] X.env)).all (fun x => x.1.isSome)
      && decide ((e :: es).length + ([] : List Keyword).length + (if ([] : List Keyword).isEmpty then 0 else 1) < 30)) = true := by rfl)
    (hline : (apos.endLine == cpos.line) = true := by rfl) (hs : starEach (e :: es) X.env = (false, eval e X.env) :: starEach es X.env := by rfl) (hplain : (backTo cpos (starEach es X.env)).any (·.1) = false := by rfl) :
    PE X (.Call (.Attribute a name apos) (e :: es) [] cpos) (TEf X.K xm W (methF op f fs)) :=
  (pe_bm pa slot hty hm ho ha hbase hfew hline hs hplain).imp fun σ H Q ⟨z, en, st, rh, re, h⟩ => by
    refine seqE' rh re (wp_bind.mp h) fun d1 st1 v1 z1 H1 q1 e1 r1 re1 p1 => ?_
    cases hl : asLF d1 st1 with
    | none =>
      simp only [hl] at q1
      exact False.elim q1
    | some ds0 =>
      simp only [hl] at q1
      obtain ⟨p, xs, rfl, hq, rs⟩ := asLF_at r1 p1 hl
      refine ⟨.inl ⟨rfl, xs, hq⟩, seqA' r1 re1 (wpD_ext e1 (wp_bind.mp q1) fun _ _ q => q) fun d2 st2 v2 z2 H2 q2 e2 r2 re2 p2 => ?_⟩
      obtain ⟨d, st3, e3, q3⟩ := wp_ofO q2
      exact ⟨z2, st2, d1, d2, d, st3, r2, p1.ext e2, p2, e3, q3.ext (e1.trans e2)⟩
def meth0F (op : OM) (f : EF) : EF := fun en st => (f en st).bind fun a st1 => match asLF a st1 with
  | some _ => R.ofO (op a [] st1)
  | none => .bad
theorem sn_meth0 {op : OM} (pa : PlainAttrs "list") (slot : Slot "list" name id) (hty : typeOf (.builtin id) = pure (.type "method_descriptor")) (hm : MtR X id (RMf X.K op)) (ho : PE X a (TEf X.K xm W f))
    (hbase : attributeBase a name X.env (eval a X.env) = eval a X.env := by rfl) (hline : (apos.endLine == cpos.line) = true := by rfl) :
    PE X (.Call (.Attribute a name apos) [] [] cpos) (TEf X.K xm W (meth0F op f)) :=
  (pe_bm0 pa slot hty hm ho hbase hline).imp fun σ H Q ⟨z, en, st, rh, re, h⟩ => by
    refine seqE' rh re (wp_bind.mp h) fun d1 st1 v1 z1 H1 q1 e1 r1 re1 p1 => ?_
    cases hl : asLF d1 st1 with
    | none =>
      simp only [hl] at q1
      exact False.elim q1
    | some ds0 =>
      simp only [hl] at q1
      obtain ⟨p, xs, rfl, hq, rs⟩ := asLF_at r1 p1 hl
      obtain ⟨d, st3, e3, q3⟩ := wp_ofO q1
      exact ⟨.inl ⟨rfl, xs, hq⟩, z1, st1, d1, [], d, st3, r1, p1, .nil, e3, q3.ext e1⟩
theorem Reps.dropLast {K : PySem.W.Frag} {z : Z} {H : Hp} {vs : List V} {ds : List D} (r : Reps K z H vs ds) : Reps K z H vs.dropLast ds.dropLast := by
  rw [List.dropLast_eq_take, List.dropLast_eq_take, r.length]
  exact r.take _
theorem mr_append : MtR X "list.append" (RMf X.K appM) := by
  intro pins s σ H x xs v us Q I rx rv ⟨z, st, da, ds, d, st', rh, px, ps, e, q⟩
  cases da with
  | ref n =>
    cases px with
    | @ref p _ hn hk =>
      match ds, ps, e with
      | [y], .cons (v := w) py .nil, e =>
        cases hc : st[n]? with
        | none =>
          simp only [appM, hc] at e
          cases e
        | some cl =>
          cases cl with
          | set S =>
            simp only [appM, hc] at e
            cases e
          | dct ks0 ds0 =>
            simp only [appM, hc] at e
            cases e
          | lst es =>
            simp only [appM, hc] at e
            split at e
            · rename_i hl
              cases e
              obtain ⟨xs, hx, rs⟩ := rh.cell hn hc
              exact mt_append pins s σ H _ _ v us Q I rx rv ⟨p, xs, w, rfl, rfl, hx, by rw [rs.length]; exact hl, okD.write q rh hn hk (rs.append (.cons py .nil)) .non⟩
            · cases e
      | [], _, e => cases e
      | _ :: _ :: _, _, e => cases e
  | _ => cases e
theorem mr_pop : MtR X "list.pop" (RMf X.K popM) := by
  intro pins s σ H x xs v us Q I rx rv ⟨z, st, da, ds, d, st', rh, px, ps, e, q⟩
  cases da with
  | ref n =>
    cases px with
    | @ref p _ hn hk =>
      match ds, ps, e with
      | [], .nil, e =>
        cases hc : st[n]? with
        | none =>
          simp only [popM, hc] at e
          cases e
        | some cl =>
          cases cl with
          | set S =>
            simp only [popM, hc] at e
            cases e
          | dct ks0 ds0 =>
            simp only [popM, hc] at e
            cases e
          | lst es =>
            simp only [popM, hc] at e
            obtain ⟨y, hy, e⟩ := Option.bind_eq_some_iff.mp e
            cases e
            obtain ⟨xs, hx, rs⟩ := rh.cell hn hc
            obtain ⟨w, hw, rw'⟩ := rs.getD hy
            exact mt_pop pins s σ H _ _ v us Q I rx rv ⟨p, xs, w, rfl, rfl, hx, by rw [rs.length]; exact hw, okD.write q rh hn hk rs.dropLast rw'⟩
      | _ :: _, _, e => cases e
  | _ => cases e
end
/-! ## built-ins by values -/
def lenL : OL := fun ds st => match ds with
  | [.tup es] => some (.int es.length, st)
  | [d] => (asLF d st).bind fun es => some (.int es.length, st)
  | _ => none
def absL : OL := fun ds st => match ds with
  | [.int i] => some (.int (if i < 0 then -i else i), st)
  | _ => none
def minL : OL := fun ds st => match ds with
  | [.int i, .int j] => some (.int (if j < i then j else i), st)
  | _ => none
def maxL : OL := fun ds st => match ds with
  | [.int i, .int j] => some (.int (if j > i then j else i), st)
  | _ => none
def intL : OL := fun ds st => match ds with
  | [.int i] => some (.int i, st)
  | [.bl b] => some (.int (if b then 1 else 0), st)
  | _ => none
/-- list(x): a frozen one, a cell; tuple(x) -/
def listFL : OL := fun ds st => match ds with
  | [.tup es] => some (.lst es, st)
  | [d] => (asLF d st).bind fun es => some (.lst es, st)
  | _ => none
def listCL : OL := fun ds st => match ds with
  | [.tup es] => some (.ref st.length, st ++ [.lst es])
  | [d] => (asLF d st).bind fun es => some (.ref st.length, st ++ [.lst es])
  | _ => none
def tupleL : OL := fun ds st => match ds with
  | [.tup es] => some (.tup es, st)
  | [d] => (asLF d st).bind fun es => some (.tup es, st)
  | _ => none
def gcdL : OL := fun ds st => match ds with
  | [.int i, .int j] => some (.int ((Nat.gcd i.natAbs j.natAbs : Nat) : Int), st)
  | _ => none
def intsO : List D → Option (List Int)
  | [] => some []
  | .int i :: r => (intsO r).bind fun is => some (i :: is)
  | _ :: _ => none
def sumL : OL := fun ds st => match ds with
  | [d] => (asLF d st).bind fun es => (intsO es).bind fun is => some (.int is.sum, st)
  | _ => none
/-- sorted of ints, as insertion does it -/
def insI (x : Int) : List Int → List Int
  | [] => [x]
  | y :: r => if x ≤ y then x :: y :: r else y :: insI x r
def sortI : List Int → List Int
  | [] => []
  | x :: r => insI x (sortI r)
def sortFL : OL := fun ds st => match ds with
  | [d] => (asLF d st).bind fun es => (intsO es).bind fun is => some (.lst ((sortI is).map .int), st)
  | _ => none
def sortCL : OL := fun ds st => match ds with
  | [d] => (asLF d st).bind fun es => (intsO es).bind fun is => some (.ref st.length, st ++ [.lst ((sortI is).map .int)])
  | _ => none
theorem insI_perm (x : Int) : ∀ l, (insI x l).Perm (x :: l)
  | [] => .refl _
  | y :: r => by
    unfold insI
    split
    · exact .refl _
    · exact ((insI_perm x r).cons y).trans (.swap x y r)
theorem sortI_perm : ∀ l, (sortI l).Perm l
  | [] => .refl _
  | x :: r => (insI_perm x _).trans ((sortI_perm r).cons x)
theorem insI_sorted (x : Int) : ∀ l, l.Pairwise (· ≤ ·) → (insI x l).Pairwise (· ≤ ·)
  | [], _ => by simp [insI]
  | y :: r, h => by
    unfold insI
    have hy := List.pairwise_cons.mp h
    split
    · rename_i hxy
      refine List.pairwise_cons.mpr ⟨fun a ha => ?_, h⟩
      rcases List.mem_cons.mp ha with rfl | ha
      · exact hxy
      · exact Int.le_trans hxy (hy.1 a ha)
    · rename_i hxy
      refine List.pairwise_cons.mpr ⟨fun a ha => ?_, insI_sorted x r hy.2⟩
      rcases List.mem_cons.mp ((insI_perm x r).mem_iff.mp ha) with rfl | ha
      · omega
      · exact hy.1 a ha
theorem sortI_sorted : ∀ l, (sortI l).Pairwise (· ≤ ·)
  | [] => .nil
  | x :: r => insI_sorted x _ (sortI_sorted r)
theorem sorted_one : ∀ {l m : List Int}, l.Perm m → l.Pairwise (· ≤ ·) → m.Pairwise (· ≤ ·) → l = m
  | [], m, p, _, _ => p.nil_eq
  | x :: l, [], p, _, _ => absurd p.length_eq (by simp)
  | x :: l, y :: m, p, hl, hm => by
    have h1 := List.pairwise_cons.mp hl
    have h2 := List.pairwise_cons.mp hm
    have e : x = y := by
      have a : x ≤ y := by
        rcases List.mem_cons.mp (p.mem_iff.mpr List.mem_cons_self : y ∈ x :: l) with q | q
        · omega
        · exact h1.1 y q
      have b : y ≤ x := by
        rcases List.mem_cons.mp (p.mem_iff.mp List.mem_cons_self : x ∈ y :: m) with q | q
        · omega
        · exact h2.1 x q
      omega
    subst e
    rw [sorted_one ((List.perm_cons x).mp p) h1.2 h2.2]
section
variable {X : Cx} {K : PySem.W.Frag} {z : Z} {H : Hp} {st : Sto}
theorem ints_at : ∀ {vs : List V} {ds : List D} {is : List Int}, Reps K z H vs ds → intsO ds = some is → vs = is.map V.int
  | _, _, _, .nil, h => by cases h; rfl
  | _, _, is, .cons (d := d) (ds := r) p t, h => by
    cases d with
    | int i =>
      obtain ⟨js, hj, h⟩ := Option.bind_eq_some_iff.mp (show (intsO r).bind (fun is => some (i :: is)) = some is from h)
      cases h
      cases p
      rw [ints_at t hj]
      rfl
    | _ => cases h
theorem reps_ints (is : List Int) : Reps K z H (is.map V.int) (is.map D.int) := by
  induction is with
  | nil => exact .nil
  | cons i r ih => exact .cons (.int i) ih
/-- one argument, a list or a tuple -/
theorem one_seq {op : OL} {ds : List D} {r : D × Sto} (h : op ds st = some r) (g : List D → Option (D × Sto)) (ht : ∀ es, op [.tup es] st = g es) (hl : ∀ d, (∀ es, d ≠ .tup es) → op [d] st = (asLF d st).bind g) (h0 : ∀ ds, ds.length ≠ 1 → op ds st = none) :
    ∃ d es, ds = [d] ∧ g es = some r ∧ (d = .tup es ∨ asLF d st = some es) := by
  match ds, h with
  | [d], h =>
    by_cases q : ∃ es, d = .tup es
    · obtain ⟨es, rfl⟩ := q
      rw [ht] at h
      exact ⟨_, es, rfl, h, .inl rfl⟩
    · rw [hl d fun es e => q ⟨es, e⟩] at h
      obtain ⟨es, h1, h2⟩ := Option.bind_eq_some_iff.mp h
      exact ⟨d, es, rfl, h2, .inr h1⟩
  | [], h => rw [h0 _ (by simp)] at h; cases h
  | _ :: _ :: _, h => rw [h0 _ (by simp)] at h; cases h
theorem seq_at {v : V} {d : D} {es : List D} (r : RelH K z H st) (p : Rep K z H v d) (h : d = .tup es ∨ asLF d st = some es) : ∃ a xs, v = .ref a ∧ (SqL K H a xs ∨ SqT K H a xs) ∧ Reps K z H xs es ∧ (d = .tup es → SqT K H a xs) := by
  rcases h with rfl | h
  · cases p with
    | @tup a xs _ t rs => exact ⟨a, xs, rfl, .inr t.seq, rs, fun _ => t.seq⟩
  · obtain ⟨a, xs, rfl, hq, rs⟩ := asLF_at r p h
    refine ⟨a, xs, rfl, .inl hq, rs, fun e => ?_⟩
    rw [e] at h
    exact nomatch (show (none : Option (List D)) = some es from h)
theorem len_ok {d : D} (h : ∀ es, d ≠ .tup es) : lenL [d] st = (asLF d st).bind fun es => some (.int es.length, st) := by
  cases d <;> first | rfl | exact absurd rfl (h _)
theorem cl_len : CallR X (.builtin "len") (RLf X.K lenL) := by
  intro pins s σ H xs us Q I rv ⟨z, st, ds, d, st', rh, ps, e, q⟩
  obtain ⟨d0, es, rfl, hg, hd⟩ := one_seq (op := lenL) e (fun es => some (.int es.length, st)) (fun _ => rfl) (fun d h => len_ok h) (fun ds h => by
    match ds, h with
    | [], _ => rfl
    | [_], h => exact absurd rfl h
    | a :: b :: c, _ => cases a <;> rfl)
  cases hg
  match ps with
  | .cons (v := v0) p0 .nil =>
    obtain ⟨a, ys, rfl, hs, rs, _⟩ := seq_at rh p0 hd
    exact call_len_seq pins s σ H _ us Q I rv ⟨a, ys, rfl, hs, by rw [rs.length]; exact okD.here q rh (.int _)⟩
theorem cl_tuple : CallR X (.type "tuple") (RLf X.K tupleL) := by
  intro pins s σ H xs us Q I rv ⟨z, st, ds, d, st', rh, ps, e, q⟩
  obtain ⟨d0, es, rfl, hg, hd⟩ := one_seq (op := tupleL) e (fun es => some (.tup es, st)) (fun _ => rfl) (fun d h => by cases d <;> first | rfl | exact absurd rfl (h _)) (fun ds h => by
    match ds, h with
    | [], _ => rfl
    | [_], h => exact absurd rfl h
    | a :: b :: c, _ => cases a <;> rfl)
  cases hg
  match ps with
  | .cons (v := v0) p0 .nil =>
    rcases hd with rfl | hd
    · cases p0 with
      | @tup a ys _ t rs => exact call_tuple_ofP pins s σ H _ us Q I rv ⟨a, ys, rfl, .inr ⟨t.seq, okD.here q rh (.tup t rs)⟩⟩
    · obtain ⟨a, ys, rfl, hs, rs⟩ := asLF_at rh p0 hd
      exact call_tuple_ofP pins s σ H _ us Q I rv ⟨a, ys, rfl, .inl ⟨hs, okD.newP q rh rs⟩⟩
theorem cl_listF : CallR X (.type "list") (RLf X.K listFL) := by
  intro pins s σ H xs us Q I rv ⟨z, st, ds, d, st', rh, ps, e, q⟩
  obtain ⟨d0, es, rfl, hg, hd⟩ := one_seq (op := listFL) e (fun es => some (.lst es, st)) (fun _ => rfl) (fun d h => by cases d <;> first | rfl | exact absurd rfl (h _)) (fun ds h => by
    match ds, h with
    | [], _ => rfl
    | [_], h => exact absurd rfl h
    | a :: b :: c, _ => cases a <;> rfl)
  cases hg
  match ps with
  | .cons (v := v0) p0 .nil =>
    obtain ⟨a, ys, rfl, hs, rs, _⟩ := seq_at rh p0 hd
    exact call_list_of pins s σ H _ us Q I rv ⟨a, ys, rfl, hs, fun p n => okD.newF q rh rs n⟩
theorem cl_listC : CallR X (.type "list") (RLf X.K listCL) := by
  intro pins s σ H xs us Q I rv ⟨z, st, ds, d, st', rh, ps, e, q⟩
  obtain ⟨d0, es, rfl, hg, hd⟩ := one_seq (op := listCL) e (fun es => some (.ref st.length, st ++ [.lst es])) (fun _ => rfl) (fun d h => by cases d <;> first | rfl | exact absurd rfl (h _)) (fun ds h => by
    match ds, h with
    | [], _ => rfl
    | [_], h => exact absurd rfl h
    | a :: b :: c, _ => cases a <;> rfl)
  cases hg
  match ps with
  | .cons (v := v0) p0 .nil =>
    obtain ⟨a, ys, rfl, hs, rs, _⟩ := seq_at rh p0 hd
    exact call_list_of pins s σ H _ us Q I rv ⟨a, ys, rfl, hs, fun p n => okD.newC q rh rs n⟩
/-- one int, two ints -/
theorem cl_abs : CallR X (.builtin "abs") (RLf X.K absL) := by
  intro pins s σ H xs us Q I rv ⟨z, st, ds, d, st', rh, ps, e, q⟩
  match ds, ps, e with
  | [.int i], .cons (.int _) .nil, e =>
    cases e
    exact call_abs pins s σ H _ us Q I rv ⟨i, rfl, okD.here q rh (.int _)⟩
theorem cl_int : CallR X (.type "int") (RLf X.K intL) := by
  intro pins s σ H xs us Q I rv ⟨z, st, ds, d, st', rh, ps, e, q⟩
  match ds, ps, e with
  | [.int i], .cons (.int _) .nil, e =>
    cases e
    exact call_int1 pins s σ H _ us Q I rv (.inl ⟨i, rfl, okD.here q rh (.int _)⟩)
  | [.bl b], .cons (.bl _) .nil, e =>
    cases e
    exact call_int1 pins s σ H _ us Q I rv (.inr ⟨b, rfl, okD.here q rh (.int _)⟩)
theorem cl_min (hc : X.calm = true) : CallR X (.builtin "min") (RLf X.K minL) := by
  intro pins s σ H xs us Q I rv ⟨z, st, ds, d, st', rh, ps, e, q⟩
  match ds, ps, e with
  | [.int i, .int j], .cons (.int _) (.cons (.int _) .nil), e =>
    cases e
    exact call_min2 hc pins s σ H _ us Q I rv ⟨i, j, rfl, okD.here q rh (.int _)⟩
theorem cl_max (hc : X.calm = true) : CallR X (.builtin "max") (RLf X.K maxL) := by
  intro pins s σ H xs us Q I rv ⟨z, st, ds, d, st', rh, ps, e, q⟩
  match ds, ps, e with
  | [.int i, .int j], .cons (.int _) (.cons (.int _) .nil), e =>
    cases e
    exact call_max2 hc pins s σ H _ us Q I rv ⟨i, j, rfl, okD.here q rh (.int _)⟩
theorem cl_gcd : CallR X (.builtin "math.gcd") (RLf X.K gcdL) := by
  intro pins s σ H xs us Q I rv ⟨z, st, ds, d, st', rh, ps, e, q⟩
  match ds, ps, e with
  | [.int i, .int j], .cons (.int _) (.cons (.int _) .nil), e =>
    cases e
    exact cr_gcd pins s σ H _ us Q I rv ⟨i, j, rfl, okD.here q rh (.int _)⟩
theorem one_ints {ds : List D} {r : D × Sto} {g : List Int → Option (D × Sto)} (h : (match ds with
  | [d] => (asLF d st).bind fun es => (intsO es).bind g
  | _ => none) = some r) : ∃ d es is, ds = [d] ∧ asLF d st = some es ∧ intsO es = some is ∧ g is = some r := by
  match ds, h with
  | [d], h =>
    obtain ⟨es, h1, h⟩ := Option.bind_eq_some_iff.mp h
    obtain ⟨is, h2, h⟩ := Option.bind_eq_some_iff.mp h
    exact ⟨d, es, is, rfl, h1, h2, h⟩
theorem cl_sum (hc : X.calm = true) : CallR X (.builtin "sum") (RLf X.K sumL) := by
  intro pins s σ H xs us Q I rv ⟨z, st, ds, d, st', rh, ps, e, q⟩
  obtain ⟨d0, es, is, rfl, h1, h2, h3⟩ := one_ints e
  cases h3
  match ps with
  | .cons (v := v0) p0 .nil =>
    obtain ⟨a, ys, rfl, hs, rs⟩ := asLF_at rh p0 h1
    rw [ints_at rs h2] at hs
    exact cr_sum hc pins s σ H _ us Q I rv ⟨a, is, rfl, hs, okD.here q rh (.int _)⟩
theorem cl_sortF : CallR X (.builtin "sorted") (RLf X.K sortFL) := by
  intro pins s σ H xs us Q I rv ⟨z, st, ds, d, st', rh, ps, e, q⟩
  obtain ⟨d0, es, is, rfl, h1, h2, h3⟩ := one_ints e
  cases h3
  match ps with
  | .cons (v := v0) p0 .nil =>
    obtain ⟨a, ys, rfl, hs, rs⟩ := asLF_at rh p0 h1
    rw [ints_at rs h2] at hs
    refine cr_sortedI pins s σ H _ us Q I rv ⟨a, is, rfl, hs, fun ns p pm so n => ?_⟩
    rw [sorted_one (pm.trans (sortI_perm is).symm) so (sortI_sorted is)]
    exact okD.newF q rh (reps_ints _) n
theorem cl_sortC : CallR X (.builtin "sorted") (RLf X.K sortCL) := by
  intro pins s σ H xs us Q I rv ⟨z, st, ds, d, st', rh, ps, e, q⟩
  obtain ⟨d0, es, is, rfl, h1, h2, h3⟩ := one_ints e
  cases h3
  match ps with
  | .cons (v := v0) p0 .nil =>
    obtain ⟨a, ys, rfl, hs, rs⟩ := asLF_at rh p0 h1
    rw [ints_at rs h2] at hs
    refine cr_sortedI pins s σ H _ us Q I rv ⟨a, is, rfl, hs, fun ns p pm so n => ?_⟩
    rw [sorted_one (pm.trans (sortI_perm is).symm) so (sortI_sorted is)]
    exact okD.newC q rh (reps_ints _) n
end
/-! isinstance with a built-in type -/
def tyN : D → String
  | .non => "NoneType" | .bl _ => "bool" | .int _ => "int" | .str _ => "str" | .tup _ => "tuple" | .lst _ => "list" | .ref _ => "list" | .fro _ => "list" | .sref _ => "set" | .dic _ _ => "dict"
def isiB (T : String) (d : D) : Bool := (kitB (tyN d) T).getD false
def isInt : D → Bool | .int _ => true | .bl _ => true | _ => false
def isBool : D → Bool | .bl _ => true | _ => false
def isTup : D → Bool | .tup _ => true | _ => false
def isStr : D → Bool | .str _ => true | _ => false
def isLst : D → Bool | .lst _ => true | .ref _ => true | .fro _ => true | _ => false
def isiF (p : D → Bool) (f : EF) : EF := fun en st => (f en st).bind fun d st1 => .ok (.bl (p d)) st1
theorem kit_int (d : D) : kitB (tyN d) "int" = some (isInt d) := by cases d <;> (dsimp only [tyN, isInt]; decide +kernel)
theorem kit_bool (d : D) : kitB (tyN d) "bool" = some (isBool d) := by cases d <;> (dsimp only [tyN, isBool]; decide +kernel)
theorem kit_tup (d : D) : kitB (tyN d) "tuple" = some (isTup d) := by cases d <;> (dsimp only [tyN, isTup]; decide +kernel)
theorem kit_str (d : D) : kitB (tyN d) "str" = some (isStr d) := by cases d <;> (dsimp only [tyN, isStr]; decide +kernel)
theorem kit_lst (d : D) : kitB (tyN d) "list" = some (isLst d) := by cases d <;> (dsimp only [tyN, isLst]; decide +kernel)
/-- .. of sets too -/
def TyY (K : PySem.W.Frag) (w : World) (H : Hp) (v : V) (t : Value) : Prop := TyX K H v t ∨ (∃ a S n, v = .ref a ∧ H a = some (SetO w a S n) ∧ t = .type "set") ∨ ∃ a o, v = .ref a ∧ H a = some (dO a o) ∧ o.ExactDict ∧ t = .type "dict"
def rIsiY (K : PySem.W.Frag) (w : World) : List V → Hp → VK → Prop := fun xs H Q => ∃ (x c : V) (t u : Value) (b : Bool), xs = [x, c] ∧ ClsV c u ∧ TyY K w H x t ∧ PySem.W.kitOne K t u = some b ∧ Q (.bl b) H
theorem call_isiY {X : Cx} : CallR X (.builtin "isinstance") (rIsiY X.K X.w) := by
  intro pins s σ H xs us Q I r ⟨x, c, t, u, b, e1, k, ty, e, q⟩
  rcases ty with ty | ⟨a, S, n, rfl, ha, rfl⟩ | ⟨a, o, rfl, ha, ex, rfl⟩
  · exact call_isi pins s σ H xs us Q I r ⟨x, c, t, u, b, e1, k, ty, e, q⟩
  · subst e1
    obtain ⟨u1, u2, rfl, r1, r2⟩ := vals2 r
    obtain rfl : u1 = Value.ref a := r1
    obtain rfl := k.eq r2
    obtain ⟨o, es, ep, tb, ho, ex, _⟩ := setO_get I ha
    exact PySem.W.kia_one PySem.W.kitx_set I.kIn ⟨o, ho, ex.1⟩ e (fun z => nomatch z) fun tk => ⟨.bl b, H, I.tok tk, rfl, q⟩
  · subst e1
    obtain ⟨u1, u2, rfl, r1, r2⟩ := vals2 r
    obtain rfl : u1 = Value.ref a := r1
    obtain rfl := k.eq r2
    have ho : s.heap.get? a = some o := (show ObjOk X.prog X.w H s.heap a (dO a o) from I.hok a _ ha).1
    exact PySem.W.kia_one PySem.W.kitx_dict I.kIn ⟨o, ho, ex.1⟩ e (fun z => nomatch z) fun tk => ⟨.bl b, H, I.tok tk, rfl, q⟩
theorem tyX_at {K : PySem.W.Frag} {w : World} {z : Z} {H : Hp} {st : Sto} {v : V} {d : D} (hw : Tabs.wd = some w) (r : RelH K z H st) (p : Rep K z H v d) : TyY K w H v (.type (tyN d)) ∨ (TyY K w H v (.type "dict") ∧ ∃ n, d = .sref n) := by
  have dct : ∀ {a kk xs}, DctAt K z H a kk xs → TyY K w H (.ref a) (.type "dict") := fun h => let ⟨_, _, _, _, _, _, o, h4, h5, _⟩ := h; .inr (.inr ⟨_, o, rfl, h4, h5.1, rfl⟩)
  cases p with
  | non => exact .inl <| .inl <| .base .non
  | bl b => exact .inl <| .inl <| .base (.bl b)
  | int i => exact .inl <| .inl <| .base (.int i)
  | str x => exact .inl <| .inl <| .base (.str x)
  | tup t rs =>
    rcases t.t with ⟨_, t | ⟨o, t⟩⟩ | ⟨o, its, n, h1, h2, _⟩
    · exact .inl <| .inl <| .base (.tup t)
    · exact .inl <| .inl <| .fTuple t
    · exact .inl <| .inl <| .kTuple h1 h2
  | lst f e rs => exact .inl <| .inl <| .base (.lst e)
  | fro t rs =>
    rcases t with ⟨_, t | ⟨o, t⟩⟩ | ⟨o, its, n, h1, h2, _⟩
    · exact .inl <| .inl <| .base (.lst t)
    · exact .inl <| .inl <| .base (.frz t)
    · exact .inl <| .inl <| .kList h1 h2
  | @ref a n hn hk =>
    obtain ⟨ds, xs, _, h, _⟩ := r.isL hn hk
    exact .inl <| .inl <| .base (.lst h)
  | @sref a n hn hk =>
    rcases r.isS hn hk with ⟨S, w', _, h1, h2⟩ | ⟨ks, ds, xs, _, h, _⟩
    · rw [hw] at h1
      cases h1
      exact .inl <| .inr <| .inl ⟨a, _, _, rfl, h2, rfl⟩
    · exact .inr ⟨dct h, n, rfl⟩
  | dic h _ =>
    rcases h.2 with ⟨_, _, _, h⟩ | ⟨_, _, _, _, h⟩
    · exact .inl <| .inl <| .base (.dK h)
    · exact .inl <| dct h
section
variable {X : Cx} {xm : List Addr} {W : WX} {k : Nat} {a : Expr} {f : EF} {p p2 pos : Pos} {T : String} {x : Str}
theorem sn_isi {pr : D → Bool} (G : GX X xm W k) (hk : ∀ d, kitB (tyN d) T = some (pr d)) (ha : PE X a (TEf X.K xm W f)) (hg : Gl X "isinstance") (hm : X.mg "isinstance" = none) (hg2 : Gl X x) (hm2 : X.mg x = none) (hv2 : bootBuiltins x = some (.type T))
    (hn2 : x ≠ "__name__" := by decide) (hdb2 : (x == ("__debug__" : Str)) = false := by decide)
    (he : starEach [a, .Name x p2] X.env = (false, eval a X.env) :: starEach [.Name x p2] X.env := by rfl) (hpl : (backTo pos (starEach [.Name x p2] X.env)).any (·.1) = false := by rfl) (he2 : starEach [.Name x p2] X.env = (false, eval (.Name x p2) X.env) :: starEach [] X.env := by rfl) (hdc : ∀ n, pr (.sref n) = pr (.dic [] []) := by intro _; rfl) :
    PE X (.Call (.Name "isinstance" p) [a, .Name x p2] [] pos) (TEf X.K xm W (isiF pr f)) :=
  (pe_callB call_isiY hg hm (by decide +kernel) (pa_cons ha (pa_cons (pe_bltn (v := .ty T) hg2 hm2 hv2 rfl hn2 hdb2) pa_nil he2) he) (by decide) (by decide) he hpl).imp fun σ H Q ⟨z, en, st, rh, re, h⟩ => by
    refine seqE' rh re (wp_bind.mp h) fun d1 st1 v1 z1 H1 q1 e1 r1 re1 p1 => ?_
    rcases tyX_at G.wd r1 p1 with ty | ⟨ty, n, rfl⟩
    · exact ⟨v1, .ty T, .type (tyN d1), .type T, pr d1, rfl, .ty T, ty, kit_ty (hk d1), q1 _ z1 H1 e1 r1 (.bl _)⟩
    · rw [hdc n] at q1
      exact ⟨v1, .ty T, .type "dict", .type T, pr (.dic [] []), rfl, .ty T, ty, kit_ty (hk (.dic [] [])), q1 _ z1 H1 e1 r1 (.bl _)⟩
end
end Ev

namespace Ev
open PySem PySem.Spec PyProof.Rows L2 RZ
variable [Tabs]

/-! ## what is walked -/
def seqI (f : EF) : IF := fun en st => (f en st).bind fun d st1 => match d with
  | .tup ds => .ok (.items ds) st1
  | .lst ds => .ok (.items ds) st1
  | .fro ds => .ok (.items ds) st1
  | .ref n => .ok (.cell n) st1
  | _ => .bad
def rangeD (lo : Int) (n : Nat) : List D := (List.range n).map fun i => .int (lo + (i : Nat))
def bnd (j : Int) : Bool := decide (-(2 ^ 62) ≤ j) && decide (j < 2 ^ 62)
def rng1I (fs : AF) : IF := fun en st => (fs en st).bind fun ds st1 => match ds with
  | [.int j] => if bnd j then .ok (.items (rangeD 0 j.toNat)) st1 else .bad
  | _ => .bad
def rng2I (fs : AF) : IF := fun en st => (fs en st).bind fun ds st1 => match ds with
  | [.int i, .int j] => if bnd i && bnd j then .ok (.items (rangeD i (j - i).toNat)) st1 else .bad
  | _ => .bad
def frz : D → Option (List D)
  | .lst ds => some ds
  | .fro ds => some ds
  | _ => none
def enumF (n : Nat) : List D → List D
  | [] => []
  | d :: r => .tup [.int (n : Nat), d] :: enumF (n + 1) r
def enumI (fs : AF) : IF := fun en st => (fs en st).bind fun ds st1 => match ds with
  | [d] => match frz d with
    | some es => .ok (.items (enumF 0 es)) st1
    | none => .bad
  | _ => .bad
def zipF : List D → List D → List D
  | a :: r, b :: s => .tup [a, b] :: zipF r s
  | _, _ => []
theorem enumF_get : ∀ (n i : Nat) (ds : List D) (d : D), (enumF n ds)[i]? = some d → ∃ e, ds[i]? = some e ∧ d = .tup [.int ((n + i : Nat)), e]
  | n, 0, a :: r, d, h => ⟨a, rfl, (Option.some.inj h).symm⟩
  | n, i + 1, a :: r, d, h => by
    obtain ⟨e, h1, h2⟩ := enumF_get (n + 1) i r d h
    exact ⟨e, h1, by rw [h2]; congr 3; omega⟩
  | n, i, [], d, h => by simp [enumF] at h
theorem enumF_length : ∀ (n : Nat) (ds : List D), (enumF n ds).length = ds.length
  | _, [] => rfl
  | n, _ :: r => congrArg (· + 1) (enumF_length (n + 1) r)
theorem zipF_get : ∀ (i : Nat) (as bs : List D) (d : D), (zipF as bs)[i]? = some d → ∃ a b, as[i]? = some a ∧ bs[i]? = some b ∧ d = .tup [a, b]
  | 0, a :: r, b :: s, d, h => ⟨a, b, rfl, rfl, (Option.some.inj h).symm⟩
  | i + 1, a :: r, b :: s, d, h => zipF_get i r s d h
  | i, [], _, d, h => by simp [zipF] at h
  | i, _ :: _, [], d, h => by simp [zipF] at h
theorem zipF_length : ∀ (as bs : List D), (zipF as bs).length = min as.length bs.length
  | a :: r, b :: s => by
    show (zipF r s).length + 1 = min (r.length + 1) (s.length + 1)
    rw [zipF_length r s]
    omega
  | [], _ => by simp [zipF]
  | _ :: _, [] => by simp [zipF]
theorem PI.orr {X : Cx} {tg l : Expr} {t t' : TI} (h : PI X tg l t) (h' : PI X tg l t') : PI X tg l (fun σ H R => t σ H R ∨ t' σ H R) := ⟨fun pins s σ H R I q => q.elim (h.run pins s σ H R I) (h'.run pins s σ H R I)⟩
theorem _root_.L2.PI.imp {X : Cx} {tg l : Expr} {t t' : TI} (h : PI X tg l t) (w : ∀ σ H R, t' σ H R → t σ H R) : PI X tg l t' := ⟨fun pins s σ H R I q => h.run pins s σ H R I (w σ H R q)⟩
section
variable {K : PySem.W.Frag} {z : Z} {H : Hp} {a : Addr} {xs : List V} {ds : List D}
theorem itI_tup (t : TupP K z H a xs ds) (rs : Reps K z H xs ds) : ItI K z H ds (Itt K a) := fun z1 H1 st e rh => by
  have s := (t.ext0 e).seq
  have r := rs.ext0 e
  refine ⟨fun i hi => ⟨xs, s, by rw [r.length]; exact hi⟩, fun i d hd => ?_⟩
  obtain ⟨v, hv, rv⟩ := r.getD hd
  refine ⟨⟨xs, v, s, hv⟩, fun x H2 y => ⟨z1, ?_⟩⟩
  obtain ⟨rfl, y⟩ := y
  have e2 := y xs s
  rw [hv] at e2
  cases e2
  exact ⟨.refl, rh, rv⟩
theorem itI_lst (t : ∀ z1 H1, Ex0 z H z1 H1 → SqL K H1 a xs) (rs : Reps K z H xs ds) : ItI K z H ds (Itl K a) := fun z1 H1 st e rh => by
  have s := t z1 H1 e
  have r := rs.ext0 e
  refine ⟨fun i hi => ⟨xs, s, by rw [r.length]; exact hi⟩, fun i d hd => ?_⟩
  obtain ⟨v, hv, rv⟩ := r.getD hd
  refine ⟨⟨xs, v, s, hv⟩, fun x H2 y => ⟨z1, ?_⟩⟩
  obtain ⟨rfl, y⟩ := y
  have e2 := y xs s
  rw [hv] at e2
  cases e2
  exact ⟨.refl, rh, rv⟩
theorem frz_at {v : V} {d : D} (p : Rep K z H v d) (h : frz d = some ds) : ∃ a xs, v = .ref a ∧ (∀ z1 H1, Ex0 z H z1 H1 → SqL K H1 a xs) ∧ Reps K z H xs ds := by
  cases p with
  | @lst a xs es f e rs =>
    cases h
    exact ⟨a, xs, rfl, fun z1 H1 x => SqL.of ((x.fz a f).2.trans e), rs⟩
  | @fro a xs es t rs =>
    cases h
    exact ⟨a, xs, rfl, fun z1 H1 x => (t.ext0 x).seq, rs⟩
  | _ => cases h
theorem itC {n : Nat} (hn : z.mu[n]? = some a) : ItC K z H n (Itl K a) := fun z1 H1 st ds e r hc => by
  obtain ⟨xs, hx, rs⟩ := r.cell (e.mu _ _ hn) hc
  refine ⟨fun i hi => ⟨xs, SqL.of hx, by rw [rs.length]; exact hi⟩, fun i d hd => ?_⟩
  obtain ⟨v, hv, rv⟩ := rs.getD hd
  refine ⟨⟨xs, v, SqL.of hx, hv⟩, fun x H2 y => ?_⟩
  obtain ⟨rfl, y⟩ := y
  have e2 := y xs (SqL.of hx)
  rw [hv] at e2
  cases e2
  exact ⟨rfl, rv⟩
theorem itI_rng (lo : Int) (n : Nat) : ItI K z H (rangeD lo n) (Itr lo n) := fun z1 H1 st e rh => by
  have hl : (rangeD lo n).length = n := by simp [rangeD]
  refine ⟨fun i hi => by rw [hl] at hi; exact hi, fun i d hd => ?_⟩
  have hi : i < n := by
    have := (List.getElem?_eq_some_iff.mp hd).1
    omega
  have hd : ((List.range n).map fun i => D.int (lo + (i : Nat)))[i]? = some d := hd
  rw [List.getElem?_map, List.getElem?_range hi] at hd
  have e2 := Option.some.inj hd
  subst e2
  refine ⟨hi, fun x H2 y => ?_⟩
  obtain ⟨rfl, rfl⟩ := y
  exact ⟨z1, .refl, rh, .int _⟩
theorem itI_enum (t : ∀ z1 H1, Ex0 z H z1 H1 → SqL K H1 a xs) (rs : Reps K z H xs ds) : ItI K z H (enumF 0 ds) (Ite K a) := fun z1 H1 st e rh => by
  have s := t z1 H1 e
  have r := rs.ext0 e
  refine ⟨fun i hi => ⟨xs, s, by rw [enumF_length] at hi; rw [r.length]; exact hi⟩, fun i d hd => ?_⟩
  obtain ⟨w, hw, rfl⟩ := enumF_get 0 i ds d hd
  obtain ⟨v, hv, rv⟩ := r.getD hw
  refine ⟨⟨xs, v, s, hv⟩, fun x H2 y => ?_⟩
  obtain ⟨T, x', rfl, nT, rfl, y⟩ := y
  have e2 := y xs s
  rw [hv] at e2
  cases e2
  have x2 := ext_add (o := .tup [.int (i : Nat), v]) rh nT
  refine ⟨z1.add T, x2, rh.add nT, .tup (.of (.inr rfl) upd_same rfl) ?_⟩
  rw [Nat.zero_add]
  exact .cons (.int _) (.cons (rv.ext x2) .nil)
end
section
variable {X : Cx} {xm : List Addr} {W : WX} {k : Nat} {a b c e e2 l tg : Expr} {es elts : List Expr} {f g : EF} {fs : AF} {p pos tpos : Pos} {kk : Nat}
theorem si_seq (hl : PE X l (TEf X.K xm W f)) : PI X tg l (TIf X.K xm W (seqI f)) :=
  (PI.orr (pi_tup hl) (pi_list hl)).imp fun σ H Rq ⟨z, en, st, rh, re, h⟩ => by
    have h := wp_bind.mp h
    cases q : f en st with
    | bad =>
      rw [q] at h
      exact h.elim
    | ex c p st1 =>
      rw [q] at h
      exact .inl (seqE' (k := fun _ _ => False) rh re (by rw [q]; exact h) fun _ _ _ _ _ w => w.elim)
    | ok d st1 =>
      rw [q] at h
      have go : ∀ (t : TE → TI), True := fun _ => trivial
      cases d with
      | tup ds =>
        refine .inl (seqE' (k := fun d' st' => d' = .tup ds ∧ st' = st1) rh re (by rw [q]; exact ⟨rfl, rfl⟩) fun d' st' v z1 H1 w e1 r1 re1 p1 => ?_)
        obtain ⟨rfl, rfl⟩ := w
        cases p1 with
        | @tup a xs _ t rs => exact ⟨a, rfl, ⟨xs, t.seq⟩, h _ z1 H1 e1 r1 (itI_tup t rs)⟩
      | lst ds =>
        refine .inr (seqE' (k := fun d' st' => d' = .lst ds ∧ st' = st1) rh re (by rw [q]; exact ⟨rfl, rfl⟩) fun d' st' v z1 H1 w e1 r1 re1 p1 => ?_)
        obtain ⟨rfl, rfl⟩ := w
        obtain ⟨a, xs, rfl, t, rs⟩ := frz_at p1 rfl
        exact ⟨a, rfl, ⟨xs, t z1 H1 Ext.refl.toEx0⟩, h _ z1 H1 e1 r1 (itI_lst t rs)⟩
      | fro ds =>
        refine .inr (seqE' (k := fun d' st' => d' = .fro ds ∧ st' = st1) rh re (by rw [q]; exact ⟨rfl, rfl⟩) fun d' st' v z1 H1 w e1 r1 re1 p1 => ?_)
        obtain ⟨rfl, rfl⟩ := w
        obtain ⟨a, xs, rfl, t, rs⟩ := frz_at p1 rfl
        exact ⟨a, rfl, ⟨xs, t z1 H1 Ext.refl.toEx0⟩, h _ z1 H1 e1 r1 (itI_lst t rs)⟩
      | ref n =>
        refine .inr (seqE' (k := fun d' st' => d' = .ref n ∧ st' = st1) rh re (by rw [q]; exact ⟨rfl, rfl⟩) fun d' st' v z1 H1 w e1 r1 re1 p1 => ?_)
        obtain ⟨rfl, rfl⟩ := w
        cases p1 with
        | @ref a _ hn hk =>
          have hl : n < st'.length := r1.len ▸ (List.getElem?_eq_some_iff.mp hn).1
          have hc : st'[n]? = some st'[n] := List.getElem?_eq_getElem hl
          cases w : st'[n] with
          | set S =>
            have kk := r1.knd n _ hc
            rw [w, hk] at kk
            cases kk
          | dct ks0 ds0 =>
            have kk := r1.knd n _ hc
            rw [w, hk] at kk
            cases kk
          | lst ds =>
            rw [w] at hc
            obtain ⟨xs, hx, _⟩ := r1.cell hn hc
            exact ⟨a, rfl, ⟨xs, SqL.of hx⟩, h _ z1 H1 e1 r1 (itC hn)⟩
      | _ => exact h.elim
theorem bnd_ok {j : Int} (h : bnd j = true) : -(2 ^ 62) ≤ j ∧ j < 2 ^ 62 := by
  unfold bnd at h
  simp only [Bool.and_eq_true, decide_eq_true_eq] at h
  exact h
theorem si_rng1 (hg : Gl X "range") (hm : X.mg "range" = none) (ha : PA X [a] (TAf X.K xm W fs)) (hs : starEach [a] X.env = [(false, eval a X.env)] := by rfl) : PI X tg (.Call (.Name "range" p) [a] [] pos) (TIf X.K xm W (rng1I fs)) :=
  (pi_range1 hg hm ha hs).imp fun σ H Rq ⟨z, en, st, rh, re, h⟩ => by
    refine seqA' rh re (wp_bind.mp h) fun d1 st1 v1 z1 H1 q1 e1 r1 re1 p1 => ?_
    match d1, p1, q1 with
    | [.int j], .cons (.int _) .nil, q1 =>
      by_cases hb : bnd j = true
      · simp only [if_pos hb] at q1
        obtain ⟨b1, b2⟩ := bnd_ok hb
        exact ⟨j, rfl, b1, b2, q1 _ z1 H1 e1 r1 (itI_rng 0 _)⟩
      · simp only [if_neg hb] at q1
        exact q1.elim
theorem si_rng2 (hg : Gl X "range") (hm : X.mg "range" = none) (ha : PA X [a, b] (TAf X.K xm W fs)) (hs : starEach [a, b] X.env = [(false, eval a X.env), (false, eval b X.env)] := by rfl) (hs2 : starEach [b] X.env = [(false, eval b X.env)] := by rfl) :
    PI X tg (.Call (.Name "range" p) [a, b] [] pos) (TIf X.K xm W (rng2I fs)) :=
  (pi_range2 hg hm ha hs hs2).imp fun σ H Rq ⟨z, en, st, rh, re, h⟩ => by
    refine seqA' rh re (wp_bind.mp h) fun d1 st1 v1 z1 H1 q1 e1 r1 re1 p1 => ?_
    match d1, p1, q1 with
    | [.int i, .int j], .cons (.int _) (.cons (.int _) .nil), q1 =>
      by_cases hb : (bnd i && bnd j) = true
      · simp only [if_pos hb] at q1
        rw [Bool.and_eq_true] at hb
        obtain ⟨b1, b2⟩ := bnd_ok hb.1
        obtain ⟨b3, b4⟩ := bnd_ok hb.2
        exact ⟨i, j, rfl, ⟨b1, b2, b3, b4⟩, q1 _ z1 H1 e1 r1 (itI_rng i _)⟩
      · simp only [if_neg hb] at q1
        exact q1.elim
theorem si_enum (hg : Gl X "enumerate") (hm : X.mg "enumerate" = none) (ha : PA X [e] (TAf X.K xm W fs)) (hs : starEach [e] X.env = [(false, eval e X.env)] := by rfl) : PI X (.Tuple elts kk tpos) (.Call (.Name "enumerate" p) [e] [] pos) (TIf X.K xm W (enumI fs)) :=
  (pi_enum hg hm ha hs).imp fun σ H Rq ⟨z, en, st, rh, re, h⟩ => by
    refine seqA' rh re (wp_bind.mp h) fun d1 st1 v1 z1 H1 q1 e1 r1 re1 p1 => ?_
    match d1, p1, q1 with
    | [d], .cons p1 .nil, q1 =>
      cases hf : frz d with
      | none =>
        simp only [hf] at q1
        exact q1.elim
      | some ds =>
        simp only [hf] at q1
        obtain ⟨a, xs, rfl, t, rs⟩ := frz_at p1 hf
        exact ⟨a, xs, rfl, t z1 H1 Ext.refl.toEx0, q1 _ z1 H1 e1 r1 (itI_enum t rs)⟩
end
end Ev

namespace Ev
open PySem PySem.Spec PyProof.Rows L2 RZ
variable [Tabs]

/-! ## comprehensions: a frozen list; nothing may be raised within -/
def W0 : WX := fun _ _ _ _ => False
def wipeE (en : En) : List Nat → En
  | [] => en
  | v :: vs => (wipeE en vs).set v none
def lcI (own : List Nat) (g : GF) (t : TF) (elt : EF) : List D → En → Sto → R (List D)
  | [], _, st => .ok [] st
  | d :: r, en, st => match g d st (wipeE en own) with
    | none => .bad
    | some en1 => match t en1 st with
      | .ok true st1 => match elt en1 st1 with
        | .ok y st2 => (lcI own g t elt r en st2).bind fun ys st3 => .ok (y :: ys) st3
        | _ => .bad
      | .ok false st1 => lcI own g t elt r en st1
      | _ => .bad
def lcC (own : List Nat) (g : GF) (t : TF) (elt : EF) (n : Nat) : Nat → Nat → En → Sto → R (List D)
  | 0, _, _, _ => .bad
  | m + 1, i, en, st => match st[n]? with
    | none => .bad
    | some (.set _) => .bad
    | some (.dct _ _) => .bad
    | some (.lst ds) => match ds[i]? with
      | none => .ok [] st
      | some d => match g d st (wipeE en own) with
        | none => .bad
        | some en1 => match t en1 st with
          | .ok true st1 => match elt en1 st1 with
            | .ok y st2 => (lcC own g t elt n m (i + 1) en st2).bind fun ys st3 => .ok (y :: ys) st3
            | _ => .bad
          | .ok false st1 => lcC own g t elt n m (i + 1) en st1
          | _ => .bad
def lcY (own : List Nat) (g : GF) (t : TF) (elt : EF) (nx : Nat → Sto → Option (Option D)) : Nat → Nat → En → Sto → R (List D)
  | 0, _, _, _ => .bad
  | m + 1, i, en, st => match nx i st with
    | none => .bad
    | some none => .ok [] st
    | some (some d) => match g d st (wipeE en own) with
      | none => .bad
      | some en1 => match t en1 st with
        | .ok true st1 => match elt en1 st1 with
          | .ok y st2 => (lcY own g t elt nx m (i + 1) en st2).bind fun ys st3 => .ok (y :: ys) st3
          | _ => .bad
        | .ok false st1 => lcY own g t elt nx m (i + 1) en st1
        | _ => .bad
def yesT : TF := fun _ st => .ok true st
def lcG (own : List Nat) (g : GF) (t : TF) (elt : EF) (itf : IF) : AF := fun en st => (itf en st).bind fun it st1 => match it with
  | .items ds => if ds.length ≤ sizeLine then lcI own g t elt ds en st1 else .bad
  | .cell n => if cellLen n st1 < 1000000 then lcC own g t elt n (cellLen n st1 + 1) 0 en st1 else .bad
  | .dyn fuel nx => if fuel < 1000000 then lcY own g t elt nx fuel 0 en st1 else .bad
def lcF (own : List Nat) (g : GF) (t : TF) (elt : EF) (itf : IF) : EF := fun en st => (lcG own g t elt itf en st).bind fun ds st1 => .ok (.lst ds) st1
theorem wipeE_get {en : En} {i : Nat} {d : D} : ∀ {vs : List Nat}, (wipeE en vs)[i]? = some (some d) → en[i]? = some (some d) ∧ i ∉ vs
  | [], h => ⟨h, by simp⟩
  | v :: vs, h => by
    have h : ((wipeE en vs).set v none)[i]? = some (some d) := h
    by_cases e : v = i
    · subst e
      by_cases l : v < (wipeE en vs).length
      · rw [List.getElem?_set_self l] at h
        cases h
      · rw [List.getElem?_eq_none (by rw [List.length_set]; omega)] at h
        cases h
    · rw [List.getElem?_set_ne e] at h
      obtain ⟨a, b⟩ := wipeE_get h
      exact ⟨a, by rw [List.mem_cons, not_or]; exact ⟨fun q => e q.symm, b⟩⟩
theorem wipe_keep {σ : L2.St} {i : Nat} {x : V} (h : σ[i]? = some (some x)) : ∀ {vs : List Nat}, i ∉ vs → (wipe σ vs)[i]? = some (some x)
  | [], _ => h
  | v :: vs, n => by
    rw [List.mem_cons, not_or] at n
    show ((wipe σ vs).set v none)[i]? = some (some x)
    rw [List.getElem?_set_ne (fun e => n.1 e.symm)]
    exact wipe_keep h n.2
theorem wipeE_length (en : En) : ∀ vs : List Nat, (wipeE en vs).length = en.length
  | [] => rfl
  | v :: vs => by
    show ((wipeE en vs).set v none).length = _
    rw [List.length_set, wipeE_length en vs]
theorem RelE.wipe {K : PySem.W.Frag} {z : Z} {H : Hp} {σ : L2.St} {en : En} (h : RelE K z H σ en) (vs : List Nat) : RelE K z H (L2.wipe σ vs) (wipeE en vs) := by
  refine ⟨by rw [wipe_length, wipeE_length, h.1], fun i d q => ?_⟩
  obtain ⟨a, b⟩ := wipeE_get q
  obtain ⟨v, hv, r⟩ := h.2 i d a
  exact ⟨v, wipe_keep hv b, r⟩
theorem wipe_idem (σ : L2.St) (vs : List Nat) : L2.wipe (L2.wipe σ vs) vs = L2.wipe σ vs := by
  have one : ∀ (us : List Nat) (τ : L2.St), (∀ v ∈ us, v ∈ vs) → L2.wipe (L2.wipe τ us) vs = L2.wipe τ vs := by
    intro us
    induction us with
    | nil => intro τ _; rfl
    | cons u us ih =>
      intro τ h
      show L2.wipe ((L2.wipe τ us).set u none) vs = _
      rw [wipe_set (h u List.mem_cons_self)]
      exact ih τ fun v hv => h v (List.mem_cons_of_mem _ hv)
  exact one vs σ fun _ h => h
def TTs (K : PySem.W.Frag) (xm : List Addr) (t : TF) : TT := TTf K xm W0 t
section
variable {X : Cx} {xm : List Addr} {W : WX} {k : Nat} {elt tg iter c : Expr} {ifs : List Expr} {scope : Scope} {own : List (Str × Nat)} {pos : Pos} {f : EF} {t : TF} {gf : GF} {itf : IF}
theorem GX.blk (G : GX X xm W k) (s : Shared) (H : Hp) (scope : Scope) (cenv : Env) (fp : List Addr) : GX (X.blk s H scope cenv fp) xm W0 k := ⟨takes0, PassesOwn.never, G.rm, G.gd, G.nd, G.cm, G.wd⟩
theorem st_yes : PTs X [] (TTf X.K xm W yesT) := ⟨fun pins s σ H Q I ⟨z, en, st, rh, re, h⟩ => pts_nil.run pins s σ H Q I (h z H .refl rh)⟩
theorem st_one (h : PT X c (TTf X.K xm W t)) : PTs X [c] (TTf X.K xm W t) := pts_one h
theorem lc_read {K : PySem.W.Frag} {vs : List Nat} (σ : L2.St) (H : Hp) (Q : VK) (q : TEf K xm W (lcF vs gf t f itf) σ H Q) : tLc (TIf K xm W itf) (TGf K vs gf) (TTf K xm W0 t) (TEf K xm W0 f) vs σ H Q := by
  obtain ⟨z, en, st, rh, re, h⟩ := q
  have h := wp_bind.mp (wp_bind.mp h)
  refine ⟨z, en, st, rh, re, wp_mono h (fun it st1 q J z1 H1 e1 r1 hJ dA nD => ?_) fun _ _ _ q => q⟩
  have re1 := re.ext e1
  -- what holds between two turns
  let Pv : List D → Z → Hp → Sto → Prop := fun acc z2 H2 st2 => Ext z1 H1 z2 H2 ∧ RelH K z2 H2 st2 ∧ dA ∉ z2.mu ∧ ¬ z2.fz dA ∧ ∃ xs, H2 dA = some (.lst xs) ∧ Reps K z2 H2 xs acc
  have nD1 : dA ∉ z1.mu := r1.nin nD
  have fD1 : ¬ z1.fz dA := fun w => r1.fz dA w nD
  have start : Pv [] z1 (upd H1 dA (.lst [])) st1 := ⟨ext_by r1 nD, r1.off fD1 nD1 (fun w => (r1.tb dA w).1.live nD), nD1, fD1, [], upd_same, .nil⟩
  -- within a turn, the data of the block's own is laid; then D is as it was
  have move : ∀ {acc z2 H2 st2 z3 H3 st3}, Pv acc z2 H2 st2 → Ext z2 H2 z3 H3 → RelH K z3 H3 st3 → Pv acc z3 H3 st3 := by
    rintro acc z2 H2 st2 z3 H3 st3 ⟨a, b, c, d, xs, hx, rs⟩ e r
    have l : H2 dA ≠ none := by rw [hx]; simp
    refine ⟨a.trans e, r, fun w => (e.nw dA w).elim c l, fun w => (e.nf dA w).elim d l, xs, (e.fr dA l c (fun w => (b.tb dA w).1.no hx)).trans hx, rs.ext e⟩
  have grow : ∀ {acc z2 H2 st2 v d}, Pv acc z2 H2 st2 → Rep K z2 H2 v d → ∃ xs, H2 dA = some (.lst xs) ∧ xs.length = acc.length ∧ Pv (acc ++ [d]) z2 (upd H2 dA (.lst (xs ++ [v]))) st2 := by
    rintro acc z2 H2 st2 v d ⟨a, b, c, d', xs, hx, rs⟩ rv
    have x0 : Ex0 z2 H2 z2 (upd H2 dA (.lst (xs ++ [v]))) := ex0_off d'
    exact ⟨xs, hx, rs.length, a.off nD d', b.off d' c (fun w => (b.tb dA w).1.no hx), c, d', xs ++ [v], upd_same, (rs.ext0 x0).append (.cons (rv.ext0 x0) .nil)⟩
  have done : ∀ {acc z2 H2 st2}, Pv acc z2 H2 st2 → okD K z H Q (.lst acc) st2 → Q (.ref dA) H2 := by
    rintro acc z2 H2 st2 ⟨a, b, c, d, xs, hx, rs⟩ ok
    have l : H2 dA ≠ none := by rw [hx]; simp
    have x0 : Ex0 z2 H2 (z2.add dA) H2 := ⟨fun _ _ q => q, fun _ q => ⟨.inl q, rfl⟩, fun _ _ _ => rfl⟩
    have b1 : Ext z1 H1 (z2.add dA) H2 := ⟨⟨a.mu, fun x w => ⟨.inl (a.fz x w).1, (a.fz x w).2⟩, a.kd⟩, a.fr, a.nw, fun x w => w.elim (a.nf x) fun e => .inr (e ▸ nD), a.lv, a.tb⟩
    have b2 : RelH K (z2.add dA) H2 st2 := ⟨b.len, b.nd, fun x hx w => w.elim (b.nfz x hx) fun e => c (e ▸ hx), fun x w => w.elim (b.fz x) fun e => e ▸ l, fun i x cl hi hc => (b.cells i x cl hi hc).ext0 x0 rfl, fun P hP => ⟨(b.tb P hP).1, (b.tb P hP).2.1, fun w => w.elim (b.tb P hP).2.2 fun e => TabH.no (e ▸ (b.tb P hP).1) hx⟩, b.tbk, b.knd⟩
    exact ok _ (z2.add dA) H2 (e1.trans b1) b2 (.lst (.inr rfl) hx (rs.ext0 x0))
  cases it with
  | items ds =>
    have hJ : ItI K z1 H1 ds J := hJ
    by_cases hl : ds.length ≤ sizeLine
    · simp only [if_pos hl] at q
      refine ⟨fun i m H2 => m = ds.length - i ∧ i ≤ ds.length ∧ ∃ acc z2 st2, acc.length ≤ i ∧ Pv acc z2 H2 st2 ∧ (lcI vs gf t f (ds.drop i) en st2).wp (fun ys st3 => okD K z H Q (.lst (acc ++ ys)) st3) (fun _ _ _ => True), ⟨ds.length, rfl, Nat.zero_le _, [], z1, st1, Nat.le_refl _, start, wp_mono q (fun ys st3 q => q) fun _ _ _ _ => trivial⟩, ?_⟩
      rintro i m H2 ⟨rfl, hi, acc, z2, st2, la, pv, w⟩
      obtain ⟨js, jg⟩ := hJ z2 H2 st2 pv.1.toEx0 pv.2.1
      by_cases hlt : i < ds.length
      · have hd : ds[i]? = some ds[i] := List.getElem?_eq_getElem hlt
        obtain ⟨go, yl⟩ := jg i _ hd
        rw [List.drop_eq_getElem_cons hlt] at w
        unfold lcI at w
        refine .inr ⟨go, fun H' => ∃ acc z2 st2, acc.length ≤ i + 1 ∧ Pv acc z2 H' st2 ∧ (lcI vs gf t f (ds.drop (i + 1)) en st2).wp (fun ys st3 => okD K z H Q (.lst (acc ++ ys)) st3) (fun _ _ _ => True), fun H' q => ⟨ds.length - (i + 1), by omega, rfl, hlt, q⟩, fun x H3 y => ?_⟩
        obtain ⟨z3, e3, r3, p3⟩ := yl x H3 y
        have pv3 := move pv e3 r3
        cases wg : gf ds[i] st2 (wipeE en vs) with
        | none =>
          simp only [wg] at w
          exact w.elim
        | some en1 =>
          simp only [wg] at w
          refine ⟨z3, wipeE en vs, st2, ds[i], en1, r3, ((re1.ext pv.1).ext e3).wipe vs, p3, wg, fun σ2 re2 hw => ⟨hw.trans (wipe_idem _ _), ?_⟩⟩
          cases wt : t en1 st2 with
          | bad =>
            simp only [wt] at w
            exact w.elim
          | ex c p st3 =>
            simp only [wt] at w
            exact w.elim
          | ok b st3 =>
            simp only [wt] at w
            refine seqT' (k := fun b' st' => b' = b ∧ st' = st3) r3 re2 (by rw [wt]; exact ⟨rfl, rfl⟩) fun b' st' z4 H4 hb e4 r4 re4 => ?_
            obtain ⟨rfl, rfl⟩ := hb
            have pv4 := move pv3 e4 r4
            cases b' with
            | false =>
              exact ⟨acc, z4, st', by omega, pv4, w⟩
            | true =>
              cases wf : f en1 st' with
              | bad =>
                simp only [wf] at w
                exact w.elim
              | ex c p st5 =>
                simp only [wf] at w
                exact w.elim
              | ok y st5 =>
                simp only [wf] at w
                refine seqE' (k := fun y' st' => y' = y ∧ st' = st5) r4 re4 (by rw [wf]; exact ⟨rfl, rfl⟩) fun y' st6 v z5 H5 hb e5 r5 re5 p5 => ?_
                obtain ⟨rfl, rfl⟩ := hb
                obtain ⟨xs, hx, hxl, pv6⟩ := grow (move pv4 e5 r5) p5
                refine ⟨xs, hx, by omega, acc ++ [y'], z5, st6, by rw [List.length_append]; simp; omega, pv6, ?_⟩
                refine wp_mono (wp_bind.mp w) (fun ys st7 q => ?_) fun _ _ _ q => q
                rw [List.append_assoc]
                exact q
      · have e : i = ds.length := by omega
        subst e
        rw [List.drop_length] at w
        have w : okD K z H Q (.lst (acc ++ [])) st2 := w
        rw [List.append_nil] at w
        exact .inl ⟨js _ (Nat.le_refl _), done pv w⟩
    · simp only [if_neg hl] at q
      exact q.elim
  | cell n =>
    have hJ : ItC K z1 H1 n J := hJ
    by_cases hl : cellLen n st1 < 1000000
    · simp only [if_pos hl] at q
      refine ⟨fun i m H2 => i + m ≤ 1000000 ∧ ∃ acc z2 st2, acc.length ≤ i ∧ Pv acc z2 H2 st2 ∧ (lcC vs gf t f n m i en st2).wp (fun ys st3 => okD K z H Q (.lst (acc ++ ys)) st3) (fun _ _ _ => True), ⟨cellLen n st1 + 1, by omega, [], z1, st1, Nat.le_refl _, start, wp_mono q (fun ys st3 q => q) fun _ _ _ _ => trivial⟩, ?_⟩
      rintro i m H2 ⟨hm, acc, z2, st2, la, pv, w⟩
      cases m with
      | zero => exact w.elim
      | succ m =>
        unfold lcC at w
        cases hc : st2[n]? with
        | none =>
          simp only [hc] at w
          exact w.elim
        | some cl =>
          cases cl with
          | set S =>
            simp only [hc] at w
            exact w.elim
          | dct ks0 ds0 =>
            simp only [hc] at w
            exact w.elim
          | lst ds =>
            simp only [hc] at w
            obtain ⟨js, jg⟩ := hJ z2 H2 st2 ds pv.1.toEx0 pv.2.1 hc
            cases hd : ds[i]? with
            | none =>
              simp only [hd] at w
              have w : okD K z H Q (.lst (acc ++ [])) st2 := w
              rw [List.append_nil] at w
              exact .inl ⟨js _ (List.getElem?_eq_none_iff.mp hd), done pv w⟩
            | some d =>
              simp only [hd] at w
              obtain ⟨go, yl⟩ := jg i d hd
              refine .inr ⟨go, fun H' => i + 1 + m ≤ 1000000 ∧ ∃ acc z2 st2, acc.length ≤ i + 1 ∧ Pv acc z2 H' st2 ∧ (lcC vs gf t f n m (i + 1) en st2).wp (fun ys st3 => okD K z H Q (.lst (acc ++ ys)) st3) (fun _ _ _ => True), fun H' q => ⟨m, Nat.lt_succ_self m, q⟩, fun x H3 y => ?_⟩
              obtain ⟨rfl, p3⟩ := yl x H3 y
              cases wg : gf d st2 (wipeE en vs) with
              | none =>
                simp only [wg] at w
                exact w.elim
              | some en1 =>
                simp only [wg] at w
                refine ⟨z2, wipeE en vs, st2, d, en1, pv.2.1, (re1.ext pv.1).wipe vs, p3, wg, fun σ2 re2 hw => ⟨hw.trans (wipe_idem _ _), ?_⟩⟩
                cases wt : t en1 st2 with
                | bad =>
                  simp only [wt] at w
                  exact w.elim
                | ex c p st3 =>
                  simp only [wt] at w
                  exact w.elim
                | ok b st3 =>
                  simp only [wt] at w
                  refine seqT' (k := fun b' st' => b' = b ∧ st' = st3) pv.2.1 re2 (by rw [wt]; exact ⟨rfl, rfl⟩) fun b' st' z4 H4 hb e4 r4 re4 => ?_
                  obtain ⟨rfl, rfl⟩ := hb
                  have pv4 := move pv e4 r4
                  cases b' with
                  | false => exact ⟨by omega, acc, z4, st', by omega, pv4, w⟩
                  | true =>
                    cases wf : f en1 st' with
                    | bad =>
                      simp only [wf] at w
                      exact w.elim
                    | ex c p st5 =>
                      simp only [wf] at w
                      exact w.elim
                    | ok y st5 =>
                      simp only [wf] at w
                      refine seqE' (k := fun y' st' => y' = y ∧ st' = st5) r4 re4 (by rw [wf]; exact ⟨rfl, rfl⟩) fun y' st6 v z5 H5 hb e5 r5 re5 p5 => ?_
                      obtain ⟨rfl, rfl⟩ := hb
                      obtain ⟨xs, hx, hxl, pv6⟩ := grow (move pv4 e5 r5) p5
                      have hs : sizeLine = 16777216 := sizeLine_eq
                      refine ⟨xs, hx, by omega, by omega, acc ++ [y'], z5, st6, by rw [List.length_append]; simp; omega, pv6, ?_⟩
                      refine wp_mono (wp_bind.mp w) (fun ys st7 q => ?_) fun _ _ _ q => q
                      rw [List.append_assoc]
                      exact q
    · simp only [if_neg hl] at q
      exact q.elim
  | dyn fuel nx =>
    have hJ : ItY K z1 H1 nx J := hJ
    by_cases hl : fuel < 1000000
    · simp only [if_pos hl] at q
      refine ⟨fun i m H2 => i + m ≤ 1000000 ∧ ∃ acc z2 st2, acc.length ≤ i ∧ Pv acc z2 H2 st2 ∧ (lcY vs gf t f nx m i en st2).wp (fun ys st3 => okD K z H Q (.lst (acc ++ ys)) st3) (fun _ _ _ => True), ⟨fuel, by omega, [], z1, st1, Nat.le_refl _, start, wp_mono q (fun ys st3 q => q) fun _ _ _ _ => trivial⟩, ?_⟩
      rintro i m H2 ⟨hm, acc, z2, st2, la, pv, w⟩
      cases m with
      | zero => exact w.elim
      | succ m =>
        unfold lcY at w
        have hn := hJ z2 H2 st2 i pv.1.toEx0 pv.2.1
        cases hx : nx i st2 with
        | none =>
          simp only [hx] at w
          exact w.elim
        | some o =>
          cases o with
          | none =>
            simp only [hx] at w hn
            have w : okD K z H Q (.lst (acc ++ [])) st2 := w
            rw [List.append_nil] at w
            exact .inl ⟨hn, done pv w⟩
          | some d =>
            simp only [hx] at w hn
            obtain ⟨go, yl⟩ := hn
            refine .inr ⟨go, fun H' => i + 1 + m ≤ 1000000 ∧ ∃ acc z2 st2, acc.length ≤ i + 1 ∧ Pv acc z2 H' st2 ∧ (lcY vs gf t f nx m (i + 1) en st2).wp (fun ys st3 => okD K z H Q (.lst (acc ++ ys)) st3) (fun _ _ _ => True), fun H' q => ⟨m, Nat.lt_succ_self m, q⟩, fun x H3 y => ?_⟩
            obtain ⟨z3, e3, r3, p3⟩ := yl x H3 y
            have pv3 := move pv e3 r3
            cases wg : gf d st2 (wipeE en vs) with
            | none =>
              simp only [wg] at w
              exact w.elim
            | some en1 =>
              simp only [wg] at w
              refine ⟨z3, wipeE en vs, st2, d, en1, r3, ((re1.ext pv.1).ext e3).wipe vs, p3, wg, fun σ2 re2 hw => ⟨hw.trans (wipe_idem _ _), ?_⟩⟩
              cases wt : t en1 st2 with
              | bad =>
                simp only [wt] at w
                exact w.elim
              | ex c p st3 =>
                simp only [wt] at w
                exact w.elim
              | ok b st3 =>
                simp only [wt] at w
                refine seqT' (k := fun b' st' => b' = b ∧ st' = st3) r3 re2 (by rw [wt]; exact ⟨rfl, rfl⟩) fun b' st' z4 H4 hb e4 r4 re4 => ?_
                obtain ⟨rfl, rfl⟩ := hb
                have pv4 := move pv3 e4 r4
                cases b' with
                | false => exact ⟨by omega, acc, z4, st', by omega, pv4, w⟩
                | true =>
                  cases wf : f en1 st' with
                  | bad =>
                    simp only [wf] at w
                    exact w.elim
                  | ex c p st5 =>
                    simp only [wf] at w
                    exact w.elim
                  | ok y st5 =>
                    simp only [wf] at w
                    refine seqE' (k := fun y' st' => y' = y ∧ st' = st5) r4 re4 (by rw [wf]; exact ⟨rfl, rfl⟩) fun y' st6 v z5 H5 hb e5 r5 re5 p5 => ?_
                    obtain ⟨rfl, rfl⟩ := hb
                    obtain ⟨xs, hx, hxl, pv6⟩ := grow (move pv4 e5 r5) p5
                    have hs : sizeLine = 16777216 := sizeLine_eq
                    refine ⟨xs, hx, by omega, by omega, acc ++ [y'], z5, st6, by rw [List.length_append]; simp; omega, pv6, ?_⟩
                    refine wp_mono (wp_bind.mp w) (fun ys st7 q => ?_) fun _ _ _ q => q
                    rw [List.append_assoc]
                    exact q
    · simp only [if_neg hl] at q
      exact q.elim
theorem sn_lc (own : List (Str × Nat)) (G : GX X xm W k) (hi : PI X tg iter (TIf X.K xm W itf)) (ok : BlkOk X.N X.env.scope scope own)
    (hg : ∀ (s : Shared) (H : Hp) (C : Addr) (cl : List (Str × Addr)) (fp : List Addr), GX (X.blk s H scope (compEnvC scope cl C X.env) fp) xm W0 k → PG (X.blk s H scope (compEnvC scope cl C X.env) fp) tg (TGf X.K (own.map (·.2)) gf))
    (ht : ∀ (s : Shared) (H : Hp) (C : Addr) (cl : List (Str × Addr)) (fp : List Addr), GX (X.blk s H scope (compEnvC scope cl C X.env) fp) xm W0 k → PTs (X.blk s H scope (compEnvC scope cl C X.env) fp) ifs (TTf X.K xm W0 t))
    (he : ∀ (s : Shared) (H : Hp) (C : Addr) (cl : List (Str × Addr)) (fp : List Addr), GX (X.blk s H scope (compEnvC scope cl C X.env) fp) xm W0 k → PE (X.blk s H scope (compEnvC scope cl C X.env) fp) elt (TEf X.K xm W0 f))
    (hs : ∀ x, foldedSetIterable iter X.env x = pure x := by intro _; rfl) : PE X (.ListComp elt [⟨tg, iter, ifs, 0⟩] scope pos) (TEf X.K xm W (lcF (own.map (·.2)) gf t f itf)) :=
  (pe_lc G.cm G.nd hi ok (fun s H C cl fp => hg s H C cl fp (G.blk ..)) (fun s H C cl fp => ht s H C cl fp (G.blk ..)) (fun s H C cl fp => he s H C cl fp (G.blk ..)) hs).imp lc_read
theorem ss_setLc (own : List (Str × Nat)) (G : GX X xm W k) (i : Nat) {y : Str} {py spos : Pos} (hi : PI X tg iter (TIf X.K xm W itf)) (ok : BlkOk X.N X.env.scope scope own)
    (hg : ∀ (s : Shared) (H : Hp) (C : Addr) (cl : List (Str × Addr)) (fp : List Addr), GX (X.blk s H scope (compEnvC scope cl C X.env) fp) xm W0 k → PG (X.blk s H scope (compEnvC scope cl C X.env) fp) tg (TGf X.K (own.map (·.2)) gf))
    (ht : ∀ (s : Shared) (H : Hp) (C : Addr) (cl : List (Str × Addr)) (fp : List Addr), GX (X.blk s H scope (compEnvC scope cl C X.env) fp) xm W0 k → PTs (X.blk s H scope (compEnvC scope cl C X.env) fp) ifs (TTf X.K xm W0 t))
    (he : ∀ (s : Shared) (H : Hp) (C : Addr) (cl : List (Str × Addr)) (fp : List Addr), GX (X.blk s H scope (compEnvC scope cl C X.env) fp) xm W0 k → PE (X.blk s H scope (compEnvC scope cl C X.env) fp) elt (TEf X.K xm W0 f))
    (hy : X.N[i]? = some y := by rfl) (hyl : X.env.scope.names.lookup y = some .local := by rfl) (hsw : swapsWith (.ListComp elt [⟨tg, iter, ifs, 0⟩] scope pos) (some (.Name y py)) spos.line X.env = pure true := by exact sw_true rfl rfl rfl (by decide +kernel))
    (hs : ∀ x, foldedSetIterable iter X.env x = pure x := by intro _; rfl) : PS X (.Assign [.Name y py] (.ListComp elt [⟨tg, iter, ifs, 0⟩] scope pos) spos) (TSf X.K xm W (setS i (lcF (own.map (·.2)) gf t f itf))) :=
  (ps_setLc G.cm G.nd hy hyl hsw hi ok (fun s H C cl fp => hg s H C cl fp (G.blk ..)) (fun s H C cl fp => ht s H C cl fp (G.blk ..)) (fun s H C cl fp => he s H C cl fp (G.blk ..)) hs).imp fun E σ H ⟨z, en, st, rh, re, h⟩ => by
    have w : TEf X.K xm W (lcF (own.map (·.2)) gf t f itf) σ H fun x H1 => gName i x σ H1 E.nx := seqE' rh re (sat_bind re h) fun d1 st1 v1 z1 H1 q1 e1 r1 re1 p1 => by
      unfold nameG at q1
      by_cases l : i < en.length
      · rw [if_pos l] at q1
        exact q1 _ z1 H1 e1 r1 (re1.set p1 l)
      · rw [if_neg l] at q1
        exact False.elim q1
    exact lc_read σ H _ w
end

end Ev

namespace Ev
open PySem PySem.Spec PyProof.Rows L2 RZ
variable [Tabs]

/-! ## a comprehension with two sources, no tests -/
def lc2I (own : List Nat) (g : GF) (itf1 : IF) (own1 : List Nat) (g1 : GF) (elt : EF) : List D → En → Sto → R (List D)
  | [], _, st => .ok [] st
  | d :: r, en, st => match g d st (wipeE en own) with
    | none => .bad
    | some en1 => match itf1 en1 st with
      | .ok (.items es) st1 => if es.length ≤ 1000 then (match lcI own1 g1 yesT elt es en1 st1 with
        | .ok ys st2 => (lc2I own g itf1 own1 g1 elt r en st2).bind fun zs st3 => .ok (ys ++ zs) st3
        | _ => .bad) else .bad
      | _ => .bad
/-- .. over a cell, which may be read at each turn -/
def lc2N (own : List Nat) (g : GF) (itf1 : IF) (own1 : List Nat) (g1 : GF) (elt : EF) (n : Nat) : Nat → Nat → En → Sto → R (List D)
  | 0, _, _, _ => .bad
  | m + 1, i, en, st => match st[n]? with
    | some (.lst ds) => match ds[i]? with
      | none => .ok [] st
      | some d => match g d st (wipeE en own) with
        | none => .bad
        | some en1 => match itf1 en1 st with
          | .ok (.items es) st1 => if es.length ≤ 1000 then (match lcI own1 g1 yesT elt es en1 st1 with
            | .ok ys st2 => (lc2N own g itf1 own1 g1 elt n m (i + 1) en st2).bind fun zs st3 => .ok (ys ++ zs) st3
            | _ => .bad) else .bad
          | _ => .bad
    | _ => .bad
def lc2G (own : List Nat) (g : GF) (itf : IF) (own1 : List Nat) (g1 : GF) (itf1 : IF) (elt : EF) : AF := fun en st => (itf en st).bind fun it st1 => match it with
  | .items ds => if ds.length ≤ 1000 then lc2I own g itf1 own1 g1 elt ds en st1 else .bad
  | .cell n => if cellLen n st1 < 1000 then lc2N own g itf1 own1 g1 elt n (cellLen n st1 + 1) 0 en st1 else .bad
  | .dyn _ _ => .bad
/-- a fresh list: frozen, or a cell -/
def freshD (c : Bool) (ys : List D) (st : Sto) : D × Sto := if c = true then (.ref st.length, st ++ [.lst ys]) else (.lst ys, st)
def lc2F (own : List Nat) (g : GF) (itf : IF) (own1 : List Nat) (g1 : GF) (itf1 : IF) (elt : EF) : EF := fun en st => (lc2G own g itf own1 g1 itf1 elt en st).bind fun ys st2 => .ok (.lst ys) st2
def lc2C (own : List Nat) (g : GF) (itf : IF) (own1 : List Nat) (g1 : GF) (itf1 : IF) (elt : EF) : EF := fun en st => (lc2G own g itf own1 g1 itf1 elt en st).bind fun ys st2 => .ok (.ref st2.length) (st2 ++ [.lst ys])
def lc2R (c : Bool) (own : List Nat) (g : GF) (itf : IF) (own1 : List Nat) (g1 : GF) (itf1 : IF) (elt : EF) : EF := fun en st => (lc2G own g itf own1 g1 itf1 elt en st).bind fun ys st2 => .ok (freshD c ys st2).1 (freshD c ys st2).2
section
variable {X : Cx} {xm : List Addr} {W : WX} {k : Nat} {elt tg iter tg1 iter1 : Expr} {scope : Scope} {own : List (Str × Nat)} {pos : Pos} {f : EF} {gf gf1 : GF} {itf itf1 : IF}
theorem ex0_push {K : PySem.W.Frag} {z : Z} {H : Hp} {p : Addr} {b : Bool} : Ex0 z H (z.pushK p b) H := ⟨fun i a q => by
  show (z.mu ++ [p])[i]? = some a
  rw [List.getElem?_append_left (List.getElem?_eq_some_iff.mp q).1]
  exact q, fun _ q => ⟨q, rfl⟩, fun i a q => if_neg (Nat.ne_of_lt (List.getElem?_eq_some_iff.mp q).1)⟩
theorem RelH.adopt {K : PySem.W.Frag} {z : Z} {H : Hp} {st : Sto} (h : RelH K z H st) {p : Addr} {cl : Cell} (nm : p ∉ z.mu) (nf : ¬ z.fz p) (nt : p ∉ z.tb) (r : CellR K (z.pushK p cl.isS) H p cl) : RelH K (z.pushK p cl.isS) H (st ++ [cl]) := by
  refine ⟨by show (z.mu ++ [p]).length = _; rw [List.length_append, List.length_append, h.len]; rfl, ?_, fun a ha q => ?_, h.fz, fun i a c hi hc => ?_, fun P hP => ⟨(h.tb P hP).1, fun w => (List.mem_append.mp w).elim (h.tb P hP).2.1 fun e => nt ((List.mem_singleton.mp e) ▸ hP), (h.tb P hP).2.2⟩, h.tbk, fun i c q => ?_⟩
  · exact List.nodup_append.mpr ⟨h.nd, List.nodup_cons.mpr ⟨by simp, List.nodup_nil⟩, fun a ha b hb q => nm (by
      rw [List.mem_singleton] at hb
      rw [← hb, ← q]
      exact ha)⟩
  · rcases List.mem_append.mp ha with ha | ha
    · exact h.nfz a ha q
    · rw [List.mem_singleton] at ha
      exact nf (ha ▸ q)
  · have hi' : (z.mu ++ [p])[i]? = some a := hi
    by_cases l : i < z.mu.length
    · rw [List.getElem?_append_left l] at hi'
      rw [List.getElem?_append_left (h.len ▸ l)] at hc
      exact (h.cells i a c hi' hc).ext0 (ex0_push (K := K)) rfl
    · rw [List.getElem?_append_right (by omega)] at hi'
      rw [List.getElem?_append_right (by rw [← h.len]; omega), ← h.len] at hc
      cases k : i - z.mu.length with
      | zero =>
        rw [k] at hi' hc
        have e1 := Option.some.inj hi'
        have e2 := Option.some.inj hc
        subst e1
        subst e2
        exact r
      | succ j =>
        rw [k] at hi'
        simp at hi'
  · show c.isS = if i = z.mu.length then cl.isS else z.kd i
    by_cases l : i < z.mu.length
    · rw [if_neg (Nat.ne_of_lt l)]
      rw [List.getElem?_append_left (h.len ▸ l)] at q
      exact h.knd i c q
    · rw [List.getElem?_append_right (by rw [← h.len]; omega), ← h.len] at q
      cases k : i - z.mu.length with
      | zero =>
        rw [k] at q
        rw [if_pos (by omega)]
        exact congrArg Cell.isS (Option.some.inj q).symm
      | succ j =>
        rw [k] at q
        simp at q
theorem lc2_read {K : PySem.W.Frag} {vs vs1 : List Nat} {c : Bool} (σ : L2.St) (H : Hp) (Q : VK) (q : TEf K xm W (lc2R c vs gf itf vs1 gf1 itf1 f) σ H Q) : tLc2 (TIf K xm W itf) (TGf K vs gf) (TTf K xm W0 yesT) (TIf K xm W0 itf1) (TGf K vs1 gf1) (TTf K xm W0 yesT) (TEf K xm W0 f) vs vs1 σ H Q := by
  obtain ⟨z, en, st, rh, re, h⟩ := q
  have h := wp_bind.mp (wp_bind.mp h)
  refine ⟨z, en, st, rh, re, wp_mono h (fun it st1 q J z1 H1 e1 r1 hJ dA nD => ?_) fun _ _ _ q => q⟩
  have re1 := re.ext e1
  have hs : sizeLine = 16777216 := sizeLine_eq
  let Pv : List D → Z → Hp → Sto → Prop := fun acc z2 H2 st2 => Ext z1 H1 z2 H2 ∧ RelH K z2 H2 st2 ∧ dA ∉ z2.mu ∧ ¬ z2.fz dA ∧ ∃ xs, H2 dA = some (.lst xs) ∧ Reps K z2 H2 xs acc
  have nD1 : dA ∉ z1.mu := r1.nin nD
  have fD1 : ¬ z1.fz dA := fun w => r1.fz dA w nD
  have start : Pv [] z1 (upd H1 dA (.lst [])) st1 := ⟨ext_by r1 nD, r1.off fD1 nD1 (fun w => (r1.tb dA w).1.live nD), nD1, fD1, [], upd_same, .nil⟩
  have move : ∀ {acc z2 H2 st2 z3 H3 st3}, Pv acc z2 H2 st2 → Ext z2 H2 z3 H3 → RelH K z3 H3 st3 → Pv acc z3 H3 st3 := by
    rintro acc z2 H2 st2 z3 H3 st3 ⟨a, b, c, d, xs, hx, rs⟩ e r
    have l : H2 dA ≠ none := by rw [hx]; simp
    refine ⟨a.trans e, r, fun w => (e.nw dA w).elim c l, fun w => (e.nf dA w).elim d l, xs, (e.fr dA l c (fun w => (b.tb dA w).1.no hx)).trans hx, rs.ext e⟩
  have grow : ∀ {acc z2 H2 st2 v d}, Pv acc z2 H2 st2 → Rep K z2 H2 v d → ∃ xs, H2 dA = some (.lst xs) ∧ xs.length = acc.length ∧ Ex0 z2 H2 z2 (upd H2 dA (.lst (xs ++ [v]))) ∧ Pv (acc ++ [d]) z2 (upd H2 dA (.lst (xs ++ [v]))) st2 := by
    rintro acc z2 H2 st2 v d ⟨a, b, c, d', xs, hx, rs⟩ rv
    have x0 : Ex0 z2 H2 z2 (upd H2 dA (.lst (xs ++ [v]))) := ex0_off d'
    exact ⟨xs, hx, rs.length, x0, a.off nD d', b.off d' c (fun w => (b.tb dA w).1.no hx), c, d', xs ++ [v], upd_same, (rs.ext0 x0).append (.cons (rv.ext0 x0) .nil)⟩
  have done : ∀ {acc z2 H2 st2}, Pv acc z2 H2 st2 → okD K z H Q (freshD c acc st2).1 (freshD c acc st2).2 → Q (.ref dA) H2 := by
    rintro acc z2 H2 st2 ⟨a, b, d1, d, xs, hx, rs⟩ ok
    have l : H2 dA ≠ none := by rw [hx]; simp
    cases c with
    | false =>
      have ok : okD K z H Q (.lst acc) st2 := ok
      have x0 : Ex0 z2 H2 (z2.add dA) H2 := ⟨fun _ _ q => q, fun _ q => ⟨.inl q, rfl⟩, fun _ _ _ => rfl⟩
      have b1 : Ext z1 H1 (z2.add dA) H2 := ⟨⟨a.mu, fun x w => ⟨.inl (a.fz x w).1, (a.fz x w).2⟩, a.kd⟩, a.fr, a.nw, fun x w => w.elim (a.nf x) fun e => .inr (e ▸ nD), a.lv, a.tb⟩
      have b2 : RelH K (z2.add dA) H2 st2 := ⟨b.len, b.nd, fun x hx w => w.elim (b.nfz x hx) fun e => d1 (e ▸ hx), fun x w => w.elim (b.fz x) fun e => e ▸ l, fun i x cl hi hc => (b.cells i x cl hi hc).ext0 x0 rfl, fun P hP => ⟨(b.tb P hP).1, (b.tb P hP).2.1, fun w => w.elim (b.tb P hP).2.2 fun e => TabH.no (e ▸ (b.tb P hP).1) hx⟩, b.tbk, b.knd⟩
      exact ok _ (z2.add dA) H2 (e1.trans b1) b2 (.lst (.inr rfl) hx (rs.ext0 x0))
    | true =>
      have ok : okD K z H Q (.ref st2.length) (st2 ++ [.lst acc]) := ok
      have x0 : Ex0 z2 H2 (z2.push dA) H2 := ex0_push (K := K)
      have b1 : Ext z1 H1 (z2.push dA) H2 := ⟨⟨fun i x w => x0.mu i x (a.mu i x w), a.fz, fun i x w => (x0.kd i x (a.mu i x w)).trans (a.kd i x w)⟩, a.fr, fun x w => (List.mem_append.mp w).elim (a.nw x) fun e => .inr ((List.mem_singleton.mp e) ▸ nD), a.nf, a.lv, a.tb⟩
      have b2 : RelH K (z2.push dA) H2 (st2 ++ [.lst acc]) := RelH.adopt (cl := .lst acc) b d1 d (fun w => (b.tb dA w).1.no hx) ⟨xs, hx, rs.ext0 x0⟩
      exact ok _ (z2.push dA) H2 (e1.trans b1) b2 (.ref (by
        show (z2.mu ++ [dA])[st2.length]? = some dA
        rw [← b.len, List.getElem?_append_right (Nat.le_refl _), Nat.sub_self]
        rfl) (if_pos b.len.symm))
  have turn : ∀ (rest : Sto → R (List D)) (B : Nat) (acc : List D) (z3 : Z) (H3 : Hp) (st2 : Sto) (en1 : En) (σ2 : L2.St) (Nx : Hp → Prop), Pv acc z3 H3 st2 → RelE K z3 H3 σ2 en1 → acc.length ≤ B → B + 1000 < sizeLine →
      (match itf1 en1 st2 with
        | .ok (.items es) st1 => if es.length ≤ 1000 then (match lcI vs1 gf1 yesT f es en1 st1 with
          | .ok ys st2 => (rest st2).bind fun zs st3 => .ok (ys ++ zs) st3
          | _ => .bad) else .bad
        | _ => (.bad : R (List D))).wp (fun ys st3 => okD K z H Q (freshD c (acc ++ ys) st3).1 (freshD c (acc ++ ys) st3).2) (fun _ _ _ => True) →
      (∀ acc' z' H' st', acc'.length ≤ B + 1000 → Pv acc' z' H' st' → (rest st').wp (fun ys st3 => okD K z H Q (freshD c (acc' ++ ys) st3).1 (freshD c (acc' ++ ys) st3).2) (fun _ _ _ => True) → Nx H') →
      TTf K xm W0 yesT σ2 H3 fun b H3 => if b = true then TIf K xm W0 itf1 σ2 H3 fun J1 H4 => ∃ W1 : Nat → Nat → Hp → Prop, (∃ m, W1 0 m H4) ∧ ∀ j k H, W1 j k H →
        (J1.stop j H ∧ Nx H) ∨ (J1.go j H ∧ ∃ Nx1 : Hp → Prop, (∀ H', Nx1 H' → ∃ k', k' < k ∧ W1 (j + 1) k' H') ∧ ∀ x H', J1.yld j H x H' → TGf K vs1 gf1 x (wipe σ2 vs1) H' fun σ3 H5 => wipe σ3 vs1 = wipe σ2 vs1 ∧ TTf K xm W0 yesT σ3 H5 fun b H6 =>
          if b = true then TEf K xm W0 f σ3 H6 fun y H7 => ∃ acc, H7 dA = some (.lst acc) ∧ acc.length < sizeLine ∧ Nx1 (upd H7 dA (.lst (acc ++ [y]))) else Nx1 H6)
      else Nx H3 := by
    intro rest B acc z3 H3 st2 en1 σ2 Nx pv3 re2 la lB w nxt
    refine ⟨z3, en1, st2, pv3.2.1, re2, fun z4 H4 e4 r4 => ?_⟩
    refine Eq.mpr (if_pos rfl) ?_
    have pv4 := move pv3 e4 r4
    have re4 := re2.ext e4
    cases wi : itf1 en1 st2 with
    | bad =>
      simp only [wi] at w
      exact w.elim
    | ex c p st3 =>
      simp only [wi] at w
      exact w.elim
    | ok it1 st3 =>
      cases it1 with
      | dyn _ _ =>
        simp only [wi] at w
        exact w.elim
      | cell n =>
        simp only [wi] at w
        exact w.elim
      | items es =>
        simp only [wi] at w
        by_cases hl1 : es.length ≤ 1000
        · rw [if_pos hl1] at w
          refine ⟨z4, en1, st2, r4, re4, ?_⟩
          rw [wi]
          intro J1 z5 H5 e5 r5 hJ1
          have hJ1 : ItI K z5 H5 es J1 := hJ1
          have pv5 := move pv4 e5 r5
          have re5 := re4.ext e5
          have w' : (lcI vs1 gf1 yesT f es en1 st3).wp (fun ys st4 => (rest st4).wp (fun zs st5 => okD K z H Q (freshD c (acc ++ (ys ++ zs)) st5).1 (freshD c (acc ++ (ys ++ zs)) st5).2) (fun _ _ _ => True)) (fun _ _ _ => False) := by
            cases wq : lcI vs1 gf1 yesT f es en1 st3 with
            | ok ys st4 =>
              rw [wq] at w
              have w : ((rest st4).bind fun zs st3 => .ok (ys ++ zs) st3).wp (fun ys st3 => okD K z H Q (freshD c (acc ++ ys) st3).1 (freshD c (acc ++ ys) st3).2) (fun _ _ _ => True) := w
              show (rest st4).wp _ _
              exact wp_mono (wp_bind.mp w) (fun zs st5 q => q) fun _ _ _ q => q
            | ex c p st4 =>
              rw [wq] at w
              exact w
            | bad =>
              rw [wq] at w
              exact w
          refine ⟨fun j m H6 => m = es.length - j ∧ j ≤ es.length ∧ ∃ ac1 z6 st6, ac1.length ≤ j ∧ Ex0 z5 H5 z6 H6 ∧ Pv (acc ++ ac1) z6 H6 st6 ∧ RelE K z6 H6 σ2 en1 ∧ (lcI vs1 gf1 yesT f (es.drop j) en1 st6).wp (fun ys st4 => (rest st4).wp (fun zs st5 => okD K z H Q (freshD c (acc ++ (ac1 ++ ys ++ zs)) st5).1 (freshD c (acc ++ (ac1 ++ ys ++ zs)) st5).2) (fun _ _ _ => True)) (fun _ _ _ => False), ⟨es.length, rfl, Nat.zero_le _, [], z5, st3, Nat.le_refl _, Ext.refl.toEx0, by rw [List.append_nil]; exact pv5, re5, w'⟩, ?_⟩
          rintro j m H6 ⟨rfl, hj, ac1, z6, st6, la1, x6, pv6, re6, w6⟩
          obtain ⟨js1, jg1⟩ := hJ1 z6 H6 st6 x6 pv6.2.1
          by_cases hlt1 : j < es.length
          · have hd1 : es[j]? = some es[j] := List.getElem?_eq_getElem hlt1
            obtain ⟨go1, yl1⟩ := jg1 j _ hd1
            rw [List.drop_eq_getElem_cons hlt1] at w6
            unfold lcI at w6
            refine .inr ⟨go1, fun H' => ∃ ac1 z6 st6, ac1.length ≤ j + 1 ∧ Ex0 z5 H5 z6 H' ∧ Pv (acc ++ ac1) z6 H' st6 ∧ RelE K z6 H' σ2 en1 ∧ (lcI vs1 gf1 yesT f (es.drop (j + 1)) en1 st6).wp (fun ys st4 => (rest st4).wp (fun zs st5 => okD K z H Q (freshD c (acc ++ (ac1 ++ ys ++ zs)) st5).1 (freshD c (acc ++ (ac1 ++ ys ++ zs)) st5).2) (fun _ _ _ => True)) (fun _ _ _ => False), fun H' q => ⟨es.length - (j + 1), by omega, rfl, hlt1, q⟩, fun x1 H7 y1 => ?_⟩
            obtain ⟨z7, e7, r7, p7⟩ := yl1 x1 H7 y1
            have pv7 := move pv6 e7 r7
            have re7 := re6.ext e7
            cases wg1 : gf1 es[j] st6 (wipeE en1 vs1) with
            | none =>
              simp only [wg1] at w6
              exact w6.elim
            | some en2 =>
              simp only [wg1] at w6
              refine ⟨z7, wipeE en1 vs1, st6, es[j], en2, r7, re7.wipe vs1, p7, wg1, fun σ3 re8 hw1 => ⟨hw1.trans (wipe_idem _ _), ?_⟩⟩
              refine ⟨z7, en2, st6, r7, re8, fun z8 H8 e8 r8 => ?_⟩
              refine Eq.mpr (if_pos rfl) ?_
              have pv8 := move pv7 e8 r8
              have re8' := re8.ext e8
              have w6 : (match f en2 st6 with
                | .ok y st2 => (lcI vs1 gf1 yesT f (es.drop (j + 1)) en1 st2).bind fun ys st3 => .ok (y :: ys) st3
                | _ => .bad).wp (fun ys st4 => (rest st4).wp (fun zs st5 => okD K z H Q (freshD c (acc ++ (ac1 ++ ys ++ zs)) st5).1 (freshD c (acc ++ (ac1 ++ ys ++ zs)) st5).2) (fun _ _ _ => True)) (fun _ _ _ => False) := w6
              cases wf : f en2 st6 with
              | bad =>
                simp only [wf] at w6
                exact w6.elim
              | ex c p st9 =>
                simp only [wf] at w6
                exact w6.elim
              | ok y st9 =>
                simp only [wf] at w6
                refine seqE' (k := fun y' st' => y' = y ∧ st' = st9) r8 re8' (by rw [wf]; exact ⟨rfl, rfl⟩) fun y' st10 v z9 H9 hb e9 r9 re9 p9 => ?_
                obtain ⟨rfl, rfl⟩ := hb
                obtain ⟨xs, hx, hxl, x9, pv9⟩ := grow (move pv8 e9 r9) p9
                have hxl : xs.length = acc.length + ac1.length := by rw [hxl, List.length_append]
                refine ⟨xs, hx, by omega, ac1 ++ [y'], z9, st10, by rw [List.length_append]; simp; omega, (((x6.trans e7.toEx0).trans e8.toEx0).trans e9.toEx0).trans x9, by rw [← List.append_assoc]; exact pv9, ((re7.ext e8).ext e9).ext0 x9, ?_⟩
                refine wp_mono (wp_bind.mp w6) (fun ys st7 q => ?_) fun _ _ _ q => q
                have e : ac1 ++ [y'] ++ ys = ac1 ++ y' :: ys := by simp
                rw [e]
                exact q
          · have e : j = es.length := by omega
            subst e
            rw [List.drop_length] at w6
            refine .inl ⟨js1 _ (Nat.le_refl _), nxt (acc ++ ac1) z6 H6 st6 (by rw [List.length_append]; omega) pv6 ?_⟩
            have w6 : (rest st6).wp (fun zs st5 => okD K z H Q (freshD c (acc ++ (ac1 ++ [] ++ zs)) st5).1 (freshD c (acc ++ (ac1 ++ [] ++ zs)) st5).2) (fun _ _ _ => True) := w6
            refine wp_mono w6 (fun zs st7 q => ?_) fun _ _ _ q => q
            rw [List.append_nil] at q
            rw [List.append_assoc]
            exact q
        · rw [if_neg hl1] at w
          exact w.elim
  cases it with
  | dyn _ _ => exact q.elim
  | items ds =>
    have hJ : ItI K z1 H1 ds J := hJ
    by_cases hl : ds.length ≤ 1000
    · simp only [if_pos hl] at q
      refine ⟨fun i m H2 => m = ds.length - i ∧ i ≤ ds.length ∧ ∃ acc z2 st2, acc.length ≤ 1000 * i ∧ Pv acc z2 H2 st2 ∧ (lc2I vs gf itf1 vs1 gf1 f (ds.drop i) en st2).wp (fun ys st3 => okD K z H Q (freshD c (acc ++ ys) st3).1 (freshD c (acc ++ ys) st3).2) (fun _ _ _ => True), ⟨ds.length, rfl, Nat.zero_le _, [], z1, st1, Nat.le_refl _, start, wp_mono q (fun ys st3 q => q) fun _ _ _ _ => trivial⟩, ?_⟩
      rintro i m H2 ⟨rfl, hi, acc, z2, st2, la, pv, w⟩
      obtain ⟨js, jg⟩ := hJ z2 H2 st2 pv.1.toEx0 pv.2.1
      by_cases hlt : i < ds.length
      · have hd : ds[i]? = some ds[i] := List.getElem?_eq_getElem hlt
        obtain ⟨go, yl⟩ := jg i _ hd
        rw [List.drop_eq_getElem_cons hlt] at w
        unfold lc2I at w
        refine .inr ⟨go, fun H' => ∃ acc z2 st2, acc.length ≤ 1000 * (i + 1) ∧ Pv acc z2 H' st2 ∧ (lc2I vs gf itf1 vs1 gf1 f (ds.drop (i + 1)) en st2).wp (fun ys st3 => okD K z H Q (freshD c (acc ++ ys) st3).1 (freshD c (acc ++ ys) st3).2) (fun _ _ _ => True), fun H' q => ⟨ds.length - (i + 1), by omega, rfl, hlt, q⟩, fun x H3 y => ?_⟩
        obtain ⟨z3, e3, r3, p3⟩ := yl x H3 y
        have pv3 := move pv e3 r3
        cases wg : gf ds[i] st2 (wipeE en vs) with
        | none =>
          simp only [wg] at w
          exact w.elim
        | some en1 =>
          simp only [wg] at w
          refine ⟨z3, wipeE en vs, st2, ds[i], en1, r3, ((re1.ext pv.1).ext e3).wipe vs, p3, wg, fun σ2 re2 hw => ⟨hw.trans (wipe_idem _ _), ?_⟩⟩
          exact turn (lc2I vs gf itf1 vs1 gf1 f (ds.drop (i + 1)) en) (1000 * i) acc z3 H3 st2 en1 σ2 _ pv3 re2 la (by omega) w fun acc' z' H' st' l p w => ⟨acc', z', st', by omega, p, w⟩
      · have e : i = ds.length := by omega
        subst e
        rw [List.drop_length] at w
        have w : okD K z H Q (freshD c (acc ++ []) st2).1 (freshD c (acc ++ []) st2).2 := w
        rw [List.append_nil] at w
        exact .inl ⟨js _ (Nat.le_refl _), done pv w⟩
    · simp only [if_neg hl] at q
      exact q.elim
  | cell n =>
    have hJ : ItC K z1 H1 n J := hJ
    by_cases hl : cellLen n st1 < 1000
    · simp only [if_pos hl] at q
      refine ⟨fun i m H2 => i + m ≤ 1000 ∧ ∃ acc z2 st2, acc.length ≤ 1000 * i ∧ Pv acc z2 H2 st2 ∧ (lc2N vs gf itf1 vs1 gf1 f n m i en st2).wp (fun ys st3 => okD K z H Q (freshD c (acc ++ ys) st3).1 (freshD c (acc ++ ys) st3).2) (fun _ _ _ => True), ⟨cellLen n st1 + 1, by omega, [], z1, st1, Nat.le_refl _, start, wp_mono q (fun ys st3 q => q) fun _ _ _ _ => trivial⟩, ?_⟩
      rintro i m H2 ⟨hm, acc, z2, st2, la, pv, w⟩
      cases m with
      | zero => exact w.elim
      | succ m =>
        unfold lc2N at w
        cases hc : st2[n]? with
        | none =>
          simp only [hc] at w
          exact w.elim
        | some cl =>
          cases cl with
          | set S =>
            simp only [hc] at w
            exact w.elim
          | dct ks0 ds0 =>
            simp only [hc] at w
            exact w.elim
          | lst ds =>
            simp only [hc] at w
            obtain ⟨js, jg⟩ := hJ z2 H2 st2 ds pv.1.toEx0 pv.2.1 hc
            cases hd : ds[i]? with
            | none =>
              simp only [hd] at w
              have w : okD K z H Q (freshD c (acc ++ []) st2).1 (freshD c (acc ++ []) st2).2 := w
              rw [List.append_nil] at w
              exact .inl ⟨js _ (List.getElem?_eq_none_iff.mp hd), done pv w⟩
            | some d =>
              simp only [hd] at w
              obtain ⟨go, yl⟩ := jg i d hd
              refine .inr ⟨go, fun H' => i + 1 + m ≤ 1000 ∧ ∃ acc z2 st2, acc.length ≤ 1000 * (i + 1) ∧ Pv acc z2 H' st2 ∧ (lc2N vs gf itf1 vs1 gf1 f n m (i + 1) en st2).wp (fun ys st3 => okD K z H Q (freshD c (acc ++ ys) st3).1 (freshD c (acc ++ ys) st3).2) (fun _ _ _ => True), fun H' q => ⟨m, Nat.lt_succ_self m, q⟩, fun x H3 y => ?_⟩
              obtain ⟨rfl, p3⟩ := yl x H3 y
              cases wg : gf d st2 (wipeE en vs) with
              | none =>
                simp only [wg] at w
                exact w.elim
              | some en1 =>
                simp only [wg] at w
                refine ⟨z2, wipeE en vs, st2, d, en1, pv.2.1, (re1.ext pv.1).wipe vs, p3, wg, fun σ2 re2 hw => ⟨hw.trans (wipe_idem _ _), ?_⟩⟩
                exact turn (lc2N vs gf itf1 vs1 gf1 f n m (i + 1) en) (1000 * i) acc z2 _ st2 en1 σ2 _ pv re2 la (by omega) w fun acc' z' H' st' l p w => ⟨by omega, acc', z', st', by omega, p, w⟩
    · simp only [if_neg hl] at q
      exact q.elim
theorem sn_lc2r (c : Bool) (own : List (Str × Nat)) (vs1 : List Nat) (G : GX X xm W k) (hi : PI X tg iter (TIf X.K xm W itf)) (ok : BlkOk X.N X.env.scope scope own) (hv : ∀ i ∈ vs1, i ∈ own.map (·.2))
    (hg : ∀ (s : Shared) (H : Hp) (C : Addr) (cl : List (Str × Addr)) (fp : List Addr), GX (X.blk s H scope (compEnvC scope cl C X.env) fp) xm W0 k → PG (X.blk s H scope (compEnvC scope cl C X.env) fp) tg (TGf X.K (own.map (·.2)) gf))
    (hi1 : ∀ (s : Shared) (H : Hp) (C : Addr) (cl : List (Str × Addr)) (fp : List Addr), GX (X.blk s H scope (compEnvC scope cl C X.env) fp) xm W0 k → PI (X.blk s H scope (compEnvC scope cl C X.env) fp) tg1 iter1 (TIf X.K xm W0 itf1))
    (hg1 : ∀ (s : Shared) (H : Hp) (C : Addr) (cl : List (Str × Addr)) (fp : List Addr), GX (X.blk s H scope (compEnvC scope cl C X.env) fp) xm W0 k → PG (X.blk s H scope (compEnvC scope cl C X.env) fp) tg1 (TGf X.K vs1 gf1))
    (he : ∀ (s : Shared) (H : Hp) (C : Addr) (cl : List (Str × Addr)) (fp : List Addr), GX (X.blk s H scope (compEnvC scope cl C X.env) fp) xm W0 k → PE (X.blk s H scope (compEnvC scope cl C X.env) fp) elt (TEf X.K xm W0 f))
    (hs : ∀ x, foldedSetIterable iter X.env x = pure x := by intro _; rfl) (hs1 : ∀ env x, foldedSetIterable iter1 env x = pure x := by intro _ _; rfl) :
    PE X (.ListComp elt [⟨tg, iter, [], 0⟩, ⟨tg1, iter1, [], 0⟩] scope pos) (TEf X.K xm W (lc2R c (own.map (·.2)) gf itf vs1 gf1 itf1 f)) :=
  (pe_lc2 G.cm G.nd hi ok hv (fun s H C cl fp => hg s H C cl fp (G.blk ..)) (fun s H C cl fp => st_yes) (fun s H C cl fp => hi1 s H C cl fp (G.blk ..)) (fun s H C cl fp => hg1 s H C cl fp (G.blk ..)) (fun s H C cl fp => st_yes) (fun s H C cl fp => he s H C cl fp (G.blk ..)) hs hs1).imp lc2_read
theorem ss_setLc2r (c : Bool) (own : List (Str × Nat)) (vs1 : List Nat) (G : GX X xm W k) (i : Nat) {y : Str} {py spos : Pos} (hi : PI X tg iter (TIf X.K xm W itf)) (ok : BlkOk X.N X.env.scope scope own) (hv : ∀ i ∈ vs1, i ∈ own.map (·.2))
    (hg : ∀ (s : Shared) (H : Hp) (C : Addr) (cl : List (Str × Addr)) (fp : List Addr), GX (X.blk s H scope (compEnvC scope cl C X.env) fp) xm W0 k → PG (X.blk s H scope (compEnvC scope cl C X.env) fp) tg (TGf X.K (own.map (·.2)) gf))
    (hi1 : ∀ (s : Shared) (H : Hp) (C : Addr) (cl : List (Str × Addr)) (fp : List Addr), GX (X.blk s H scope (compEnvC scope cl C X.env) fp) xm W0 k → PI (X.blk s H scope (compEnvC scope cl C X.env) fp) tg1 iter1 (TIf X.K xm W0 itf1))
    (hg1 : ∀ (s : Shared) (H : Hp) (C : Addr) (cl : List (Str × Addr)) (fp : List Addr), GX (X.blk s H scope (compEnvC scope cl C X.env) fp) xm W0 k → PG (X.blk s H scope (compEnvC scope cl C X.env) fp) tg1 (TGf X.K vs1 gf1))
    (he : ∀ (s : Shared) (H : Hp) (C : Addr) (cl : List (Str × Addr)) (fp : List Addr), GX (X.blk s H scope (compEnvC scope cl C X.env) fp) xm W0 k → PE (X.blk s H scope (compEnvC scope cl C X.env) fp) elt (TEf X.K xm W0 f))
    (hy : X.N[i]? = some y := by rfl) (hyl : X.env.scope.names.lookup y = some .local := by rfl) (hsw : swapsWith (.ListComp elt [⟨tg, iter, [], 0⟩, ⟨tg1, iter1, [], 0⟩] scope pos) (some (.Name y py)) spos.line X.env = pure true := by exact sw_true rfl rfl rfl (by decide +kernel))
    (hs : ∀ x, foldedSetIterable iter X.env x = pure x := by intro _; rfl) (hs1 : ∀ env x, foldedSetIterable iter1 env x = pure x := by intro _ _; rfl) :
    PS X (.Assign [.Name y py] (.ListComp elt [⟨tg, iter, [], 0⟩, ⟨tg1, iter1, [], 0⟩] scope pos) spos) (TSf X.K xm W (setS i (lc2R c (own.map (·.2)) gf itf vs1 gf1 itf1 f))) :=
  (ps_setLc2 G.cm G.nd hy hyl hsw hi ok hv (fun s H C cl fp => hg s H C cl fp (G.blk ..)) (fun s H C cl fp => st_yes) (fun s H C cl fp => hi1 s H C cl fp (G.blk ..)) (fun s H C cl fp => hg1 s H C cl fp (G.blk ..)) (fun s H C cl fp => st_yes) (fun s H C cl fp => he s H C cl fp (G.blk ..)) hs hs1).imp fun E σ H ⟨z, en, st, rh, re, h⟩ => by
    have w : TEf X.K xm W (lc2R c (own.map (·.2)) gf itf vs1 gf1 itf1 f) σ H fun x H1 => gName i x σ H1 E.nx := seqE' rh re (sat_bind re h) fun d1 st1 v1 z1 H1 q1 e1 r1 re1 p1 => by
      unfold nameG at q1
      by_cases l : i < en.length
      · rw [if_pos l] at q1
        exact q1 _ z1 H1 e1 r1 (re1.set p1 l)
      · rw [if_neg l] at q1
        exact False.elim q1
    exact lc2_read σ H _ w
end
end Ev

namespace Ev
open PySem PySem.Spec PyProof.Rows L2 RZ
variable [Tabs]

/-! ## a def that hands back frozen data and leaves the store as it was: its own cells are dropped -/
mutual
def refB (n : Nat) : D → Bool
  | .ref k => decide (k < n)
  | .sref k => decide (k < n)
  | .tup ds => refBs n ds
  | .lst ds => refBs n ds
  | .fro ds => refBs n ds
  | .non => true
  | .bl _ => true
  | .int _ => true
  | .str _ => true
  | .dic _ ds => refBs n ds
def refBs (n : Nat) : List D → Bool
  | [] => true
  | d :: r => refB n d && refBs n r
end
mutual
def dEq : D → D → Bool
  | .non, .non => true
  | .bl a, .bl b => a == b
  | .int a, .int b => a == b
  | .str a, .str b => decide (a = b)
  | .tup a, .tup b => dEqs a b
  | .lst a, .lst b => dEqs a b
  | .fro a, .fro b => dEqs a b
  | .ref a, .ref b => a == b
  | .sref a, .sref b => a == b
  | .dic k a, .dic l b => decide (k = l) && dEqs a b
  | _, _ => false
def dEqs : List D → List D → Bool
  | [], [] => true
  | a :: r, b :: s => dEq a b && dEqs r s
  | _, _ => false
end
mutual
theorem dEq_refl : ∀ d : D, dEq d d = true
  | .non => rfl
  | .bl b => by unfold dEq; exact beq_self_eq_true b
  | .int i => by unfold dEq; exact beq_self_eq_true i
  | .str s => by unfold dEq; exact decide_eq_true rfl
  | .tup ds => by unfold dEq; exact dEqs_refl ds
  | .lst ds => by unfold dEq; exact dEqs_refl ds
  | .fro ds => by unfold dEq; exact dEqs_refl ds
  | .ref n => by unfold dEq; exact beq_self_eq_true n
  | .sref n => by unfold dEq; exact beq_self_eq_true n
  | .dic k ds => by unfold dEq; rw [decide_eq_true rfl, dEqs_refl ds]; rfl
theorem dEqs_refl : ∀ ds : List D, dEqs ds ds = true
  | [] => rfl
  | d :: r => by unfold dEqs; rw [dEq_refl d, dEqs_refl r]; rfl
end
mutual
theorem dEq_eq : ∀ a b : D, dEq a b = true → a = b
  | .non, b, h => by cases b <;> first | rfl | (unfold dEq at h; cases h)
  | .bl a, b, h => by cases b <;> first | (unfold dEq at h; exact congrArg D.bl (eq_of_beq h)) | (unfold dEq at h; cases h)
  | .int a, b, h => by cases b <;> first | (unfold dEq at h; exact congrArg D.int (eq_of_beq h)) | (unfold dEq at h; cases h)
  | .str a, b, h => by cases b <;> first | (unfold dEq at h; exact congrArg D.str (of_decide_eq_true h)) | (unfold dEq at h; cases h)
  | .tup a, b, h => by cases b <;> first | (unfold dEq at h; exact congrArg D.tup (dEqs_eq _ _ h)) | (unfold dEq at h; cases h)
  | .lst a, b, h => by cases b <;> first | (unfold dEq at h; exact congrArg D.lst (dEqs_eq _ _ h)) | (unfold dEq at h; cases h)
  | .fro a, b, h => by cases b <;> first | (unfold dEq at h; exact congrArg D.fro (dEqs_eq _ _ h)) | (unfold dEq at h; cases h)
  | .ref a, b, h => by cases b <;> first | (unfold dEq at h; exact congrArg D.ref (eq_of_beq h)) | (unfold dEq at h; cases h)
  | .sref a, b, h => by cases b <;> first | (unfold dEq at h; exact congrArg D.sref (eq_of_beq h)) | (unfold dEq at h; cases h)
  | .dic k a, b, h => by
    cases b <;> first | (unfold dEq at h; rw [Bool.and_eq_true] at h; rw [of_decide_eq_true h.1, dEqs_eq _ _ h.2]) | (unfold dEq at h; cases h)
theorem dEqs_eq : ∀ a b : List D, dEqs a b = true → a = b
  | [], b, h => by cases b <;> first | rfl | (unfold dEqs at h; cases h)
  | x :: r, b, h => by
    cases b with
    | nil =>
      unfold dEqs at h
      cases h
    | cons y s =>
      unfold dEqs at h
      rw [Bool.and_eq_true] at h
      rw [dEq_eq x y h.1, dEqs_eq r s h.2]
end
def cEq : Cell → Cell → Bool
  | .lst a, .lst b => dEqs a b
  | .set a, .set b => decide (a = b)
  | .dct k a, .dct l b => decide (k = l) && dEqs a b
  | _, _ => false
theorem cEq_refl : ∀ c : Cell, cEq c c = true
  | .lst a => dEqs_refl a
  | .set a => decide_eq_true rfl
  | .dct k a => by
    show (decide (k = k) && dEqs a a) = true
    rw [decide_eq_true rfl, dEqs_refl a]; rfl
theorem cEq_eq : ∀ a b : Cell, cEq a b = true → a = b
  | .lst a, .lst b, h => congrArg Cell.lst (dEqs_eq a b h)
  | .set a, .set b, h => congrArg Cell.set (of_decide_eq_true h)
  | .dct k a, .dct l b, h => by
    unfold cEq at h
    rw [Bool.and_eq_true] at h
    rw [of_decide_eq_true h.1, dEqs_eq a b h.2]
/-- the store begins with the other one -/
def begB : Sto → Sto → Bool
  | [], _ => true
  | a :: r, b :: s => cEq a b && begB r s
  | _ :: _, [] => false
theorem begB_app : ∀ (st ex : Sto), begB st (st ++ ex) = true
  | [], _ => rfl
  | c :: r, ex => by
    show (cEq c c && begB r (r ++ ex)) = true
    rw [cEq_refl, begB_app r ex]
    rfl
theorem begB_refl (st : Sto) : begB st st = true := by
  have := begB_app st []
  rwa [List.append_nil] at this
theorem begB_eq : ∀ (st st' : Sto), begB st st' = true → ∃ ex, st' = st ++ ex
  | [], st', _ => ⟨st', rfl⟩
  | c :: r, [], h => by cases h
  | c :: r, d :: s, h => by
    have h : (cEq c d && begB r s) = true := h
    rw [Bool.and_eq_true] at h
    obtain ⟨ex, e⟩ := begB_eq r s h.2
    exact ⟨ex, by rw [← cEq_eq c d h.1, e]; rfl⟩
/-- own cells are frozen -/
def frzD (st : Sto) (n : Nat) : Nat → D → Option D
  | 0, _ => none
  | m + 1, d => if refB n d = true then some d else match d with
    | .ref k => match st[k]? with
      | some (.lst ds) => (mapO (frzD st n m) ds).map .lst
      | _ => none
    | .tup ds => (mapO (frzD st n m) ds).map .tup
    | .lst ds => (mapO (frzD st n m) ds).map .lst
    | _ => none
def frzP (st : Sto) (n : Nat) : Pay → Option Pay
  | none => some none
  | some (f, d) => (frzD st n 12 d).map fun d' => some (f, d')
def fnZ (n : Nat) (g : SF) : List D → Sto → R D := fun ds st => match g (ds.map some ++ List.replicate (n - ds.length) none) st with
  | .nx _ st' => if begB st st' = true then .ok .non st else .bad
  | .rt d st' => if begB st st' = true then (match frzD st' st.length 12 d with
    | some d' => .ok d' st
    | none => .bad) else .bad
  | .ex c p _ st' => if begB st st' = true then (match frzP st' st.length p with
    | some p' => .ex c p' st
    | none => .bad) else .bad
  | _ => .bad
section
variable {K : PySem.W.Frag} {z z' : Z} {H H' : Hp} {st ex : Sto}
mutual
theorem Rep.refB : ∀ {v : V} {d : D}, Rep K z H v d → Ev.refB z.mu.length d = true
  | _, _, .non => by unfold Ev.refB; rfl
  | _, _, .bl b => by unfold Ev.refB; rfl
  | _, _, .int i => by unfold Ev.refB; rfl
  | _, _, .str x => by unfold Ev.refB; rfl
  | _, _, .tup h r => by unfold Ev.refB; exact Reps.refBs r
  | _, _, .lst f h r => by unfold Ev.refB; exact Reps.refBs r
  | _, _, .ref h k => by unfold Ev.refB; exact decide_eq_true (List.getElem?_eq_some_iff.mp h).1
  | _, _, .fro h r => by unfold Ev.refB; exact Reps.refBs r
  | _, _, .sref h k => by unfold Ev.refB; exact decide_eq_true (List.getElem?_eq_some_iff.mp h).1
  | _, _, .dic h r => by unfold Ev.refB; exact Reps.refBs r
theorem Reps.refBs : ∀ {vs : List V} {ds : List D}, Reps K z H vs ds → Ev.refBs z.mu.length ds = true
  | _, _, .nil => by unfold Ev.refBs; rfl
  | _, _, .cons r t => by unfold Ev.refBs; rw [Rep.refB r, Reps.refBs t]; rfl
end
/-- what is left when the cells made since are dropped -/
def Z.cut (z z' : Z) (H' : Hp) : Z := ⟨z.mu, fun a => z'.fz a ∨ (a ∈ z'.mu ∧ a ∉ z.mu ∧ ∃ xs, H' a = some (.lst xs)), z.tb, z.kd⟩
theorem ext_cut (e : Ext z H z' H') : Ext z H (z.cut z' H') H' :=
  ⟨⟨fun _ _ h => h, fun a h => ⟨.inl (e.fz a h).1, (e.fz a h).2⟩, fun _ _ _ => rfl⟩, e.fr, fun a h => .inl h, fun a h => h.elim (e.nf a) fun q => (e.nw a q.1).elim (fun w => absurd w q.2.1) .inr, e.lv, rfl⟩
theorem mu_at (e : Ext z H z' H') {k : Nat} {a : Addr} (h : z'.mu[k]? = some a) (hk : k < z.mu.length) : z.mu[k]? = some a := by
  have q := List.getElem?_eq_getElem hk
  rw [q, ← e.mu k _ q, h]
mutual
theorem KeyAt.fz0 {z1 : Z} (w : ∀ a, z.fz a → z1.fz a) : ∀ {v : V} {k : NestedKey}, KeyAt K z H v k → KeyAt K z1 H v k
  | _, _, .num i => .num i
  | _, _, .tup h n r => .tup (h.imp (fun q => ⟨w _ q.1, q.2⟩) fun q => q) n (KeyAts.fz0 w r)
theorem KeyAts.fz0 {z1 : Z} (w : ∀ a, z.fz a → z1.fz a) : ∀ {vs : List V} {ks : List NestedKey}, KeyAts K z H vs ks → KeyAts K z1 H vs ks
  | _, _, .nil => .nil
  | _, _, .cons r t => .cons (KeyAt.fz0 w r) (KeyAts.fz0 w t)
end
theorem DctAt.fz0 {z1 : Z} {a : Addr} {kk : List NestedKey} {xs : List V} (h : DctAt K z H a kk xs) (w : ∀ a, z.fz a → z1.fz a) : DctAt K z1 H a kk xs :=
  let ⟨h1, h2, h3, h4, bs, us, o, h5, h6, h7, h8⟩ := h
  ⟨h1, h2, h3, h4, bs, us, o, h5, h6, h7.fz0 w, h8⟩
mutual
/-- data that names old cells only -/
theorem Rep.cut (e : Ext z H z' H') : ∀ {v : V} {d : D}, Rep K z' H' v d → Ev.refB z.mu.length d = true → Rep K (z.cut z' H') H' v d
  | _, _, .non, _ => .non
  | _, _, .bl b, _ => .bl b
  | _, _, .int i, _ => .int i
  | _, _, .str x, _ => .str x
  | _, _, .tup h r, q => .tup ⟨h.t.elim (fun w => .inl ⟨.inl w.1, w.2⟩) .inr, h.p.imp (fun w => w) fun w => ⟨.inl w.1, w.2⟩⟩ (Reps.cut e r (by unfold Ev.refB at q; exact q))
  | _, _, .lst f h r, q => .lst (.inl f) h (Reps.cut e r (by unfold Ev.refB at q; exact q))
  | _, _, .ref (n := n) h k, q => by
    unfold Ev.refB at q
    have hn := mu_at e h (of_decide_eq_true q)
    exact .ref hn ((e.kd n _ hn).symm.trans k)
  | _, _, .fro h r, q => .fro (h.elim (fun w => .inl ⟨.inl w.1, w.2⟩) .inr) (Reps.cut e r (by unfold Ev.refB at q; exact q))
  | _, _, .sref (n := n) h k, q => by
    unfold Ev.refB at q
    have hn := mu_at e h (of_decide_eq_true q)
    exact .sref hn ((e.kd n _ hn).symm.trans k)
  | _, _, .dic h r, q => .dic ⟨.inl h.1, h.2.imp (fun w => w) fun ⟨kk, w0, w1, w2, w3⟩ => ⟨kk, w0, w1, w2, w3.fz0 fun _ => .inl⟩⟩ (Reps.cut e r (by unfold Ev.refB at q; exact q))
theorem Reps.cut (e : Ext z H z' H') : ∀ {vs : List V} {ds : List D}, Reps K z' H' vs ds → Ev.refBs z.mu.length ds = true → Reps K (z.cut z' H') H' vs ds
  | _, _, .nil, _ => .nil
  | _, _, .cons r t, q => by
    unfold Ev.refBs at q
    rw [Bool.and_eq_true] at q
    exact .cons (Rep.cut e r q.1) (Reps.cut e t q.2)
end
variable [Tabs]
theorem rel_cut (h : RelH K z H st) (e : Ext z H z' H') (h' : RelH K z' H' (st ++ ex)) : RelH K (z.cut z' H') H' st := by
  have sub : ∀ a, a ∈ z.mu → a ∈ z'.mu := fun a ha => by
    obtain ⟨i, hi⟩ := List.mem_iff_getElem?.mp ha
    exact List.mem_of_getElem? (e.mu i a hi)
  refine ⟨h.len, h.nd, fun a ha q => ?_, fun a q => ?_, fun n a c hn hc => ?_, fun P hP => ?_, h.tbk, h.knd⟩
  · rcases q with q | q
    · exact h'.nfz a (sub a ha) q
    · exact q.2.1 ha
  · rcases q with q | ⟨_, _, xs, q⟩
    · exact h'.fz a q
    · rw [q]
      simp
  · have hn : z.mu[n]? = some a := hn
    have hl : n < st.length := h.len ▸ (List.getElem?_eq_some_iff.mp hn).1
    have c' := h'.cells n a c (e.mu n a hn) (by rw [List.getElem?_append_left hl]; exact hc)
    have c0 := h.cells n a c hn hc
    cases c with
    | lst ds =>
      obtain ⟨xs, hx, rs⟩ := c'
      obtain ⟨ys, hy, rs0⟩ := c0
      exact ⟨xs, hx, Reps.cut e rs (Reps.refBs rs0)⟩
    | set S => exact c'
    | dct ks0 ds0 =>
      obtain ⟨xs, hx, rs⟩ := c'
      obtain ⟨ys, hy, rs0⟩ := c0
      exact ⟨xs, hx.fz0 fun _ => .inl, Reps.cut e rs (Reps.refBs rs0)⟩
  · have hP' : P ∈ z'.tb := by rw [e.tb]; exact hP
    obtain ⟨a, b, c⟩ := h'.tb P hP'
    exact ⟨a, (h.tb P hP).2.1, fun w => w.elim c fun q => b q.1⟩
theorem mapO_some {α β : Type} {f : α → Option β} : ∀ {xs : List α} {ys : List β}, mapO f xs = some ys → xs = [] ∧ ys = [] ∨ ∃ x r y s, xs = x :: r ∧ ys = y :: s ∧ f x = some y ∧ mapO f r = some s
  | [], ys, h => .inl ⟨rfl, (Option.some.inj h).symm⟩
  | x :: r, ys, h => by
    have h : (f x).bind (fun b => (mapO f r).bind fun bs => some (b :: bs)) = some ys := h
    obtain ⟨y, hy, h⟩ := Option.bind_eq_some_iff.mp h
    obtain ⟨s, hs, h⟩ := Option.bind_eq_some_iff.mp h
    exact .inr ⟨x, r, y, s, rfl, (Option.some.inj h).symm, hy, hs⟩
theorem frzD_int {st : Sto} {n : Nat} : ∀ {m : Nat} {d : D} {i : Int}, frzD st n m d = some (.int i) → d = .int i
  | 0, _, _, q => by cases q
  | m + 1, d, i, q => by
    unfold frzD at q
    split at q
    · exact Option.some.inj q
    · split at q
      · split at q
        · obtain ⟨es, _, hq⟩ := Option.map_eq_some_iff.mp q
          cases hq
        · cases q
      · obtain ⟨es, _, hq⟩ := Option.map_eq_some_iff.mp q
        cases hq
      · obtain ⟨es, _, hq⟩ := Option.map_eq_some_iff.mp q
        cases hq
      · cases q
theorem frzD_tup {st : Sto} {n : Nat} : ∀ {m : Nat} {d : D} {es : List D}, frzD st n m d = some (.tup es) → d = .tup es ∨ ∃ m' ds, d = .tup ds ∧ mapO (frzD st n m') ds = some es
  | 0, _, _, q => by cases q
  | m + 1, d, es, q => by
    unfold frzD at q
    split at q
    · exact .inl (Option.some.inj q)
    · split at q
      · split at q
        · obtain ⟨es', _, hq⟩ := Option.map_eq_some_iff.mp q
          cases hq
        · cases q
      · obtain ⟨es', h, hq⟩ := Option.map_eq_some_iff.mp q
        injection hq with hq
        subst hq
        exact .inr ⟨m, _, rfl, h⟩
      · obtain ⟨es', _, hq⟩ := Option.map_eq_some_iff.mp q
        cases hq
      · cases q
theorem mapO_two {α β : Type} {f : α → Option β} {xs : List α} {y1 y2 : β} (h : mapO f xs = some [y1, y2]) : ∃ x1 x2, xs = [x1, x2] ∧ f x1 = some y1 ∧ f x2 = some y2 := by
  rcases mapO_some h with ⟨_, q⟩ | ⟨x, r, y, s, rfl, e, h1, h2⟩
  · cases q
  · cases e
    rcases mapO_some h2 with ⟨_, q⟩ | ⟨x', r', y', s', rfl, e', h3, h4⟩
    · cases q
    · cases e'
      rcases mapO_some h4 with ⟨rfl, _⟩ | ⟨_, _, _, _, _, q, _, _⟩
      · exact ⟨x, x', rfl, h1, h3⟩
      · cases q
theorem plk_back {st : Sto} {n m : Nat} {d d' : D} (h : frzD st n m d = some d') (p : plk d' = true) : plk d = true := by
  obtain ⟨i, j, k, rfl⟩ : ∃ i j k, d' = .tup [.int i, .tup [.int j, .int k]] := by
    unfold plk at p
    split at p
    · exact ⟨_, _, _, rfl⟩
    · cases p
  rcases frzD_tup h with rfl | ⟨m', ds, rfl, q⟩
  · rfl
  · obtain ⟨x1, x2, rfl, h1, h2⟩ := mapO_two q
    rw [frzD_int h1]
    rcases frzD_tup h2 with rfl | ⟨m2, ds2, rfl, q2⟩
    · rfl
    · obtain ⟨y1, y2, rfl, h3, h4⟩ := mapO_two q2
      rw [frzD_int h3, frzD_int h4]
      rfl
theorem npl_frz {st : Sto} {n m : Nat} {ds es : List D} (h : mapO (frzD st n m) ds = some es) (p : npl ds = true) : npl es = true := by
  rcases mapO_some h with ⟨_, rfl⟩ | ⟨x, r, y, s, rfl, rfl, h1, h2⟩
  · rfl
  · show (!plk y) = true
    cases e : plk y with
    | false => rfl
    | true =>
      have q : (!plk x) = true := p
      rw [plk_back h1 e] at q
      cases q
theorem TupP.cut {a : Addr} {xs : List V} {ds es : List D} (t : TupP K z' H' a xs ds) (n : npl ds = true → npl es = true) : TupP K (z.cut z' H') H' a xs es :=
  ⟨t.t.elim (fun w => .inl ⟨.inl w.1, w.2⟩) .inr, t.p.imp n fun w => ⟨.inl w.1, w.2⟩⟩
theorem frz_reps {m : Nat} (f : ∀ {v : V} {d d' : D}, Rep K z' H' v d → frzD (st ++ ex) st.length m d = some d' → Rep K (z.cut z' H') H' v d') : ∀ {vs : List V} {ds ds' : List D}, Reps K z' H' vs ds → mapO (frzD (st ++ ex) st.length m) ds = some ds' → Reps K (z.cut z' H') H' vs ds'
  | _, _, _, .nil, h => by
    cases h
    exact .nil
  | _, _, _, .cons r t, h => by
    rcases mapO_some h with ⟨q, _⟩ | ⟨x, r', y, s, e, rfl, h1, h2⟩
    · cases q
    · cases e
      exact .cons (f r h1) (frz_reps f t h2)
theorem rep_cut (h : RelH K z H st) (e : Ext z H z' H') (h' : RelH K z' H' (st ++ ex)) : ∀ (m : Nat) {v : V} {d d' : D}, Rep K z' H' v d → frzD (st ++ ex) st.length m d = some d' → Rep K (z.cut z' H') H' v d'
  | 0, _, _, _, _, q => by cases q
  | m + 1, v, d, d', r, q => by
    unfold frzD at q
    split at q
    · rename_i hb
      rw [← Option.some.inj q]
      exact Rep.cut e r (by rw [h.len]; exact hb)
    · rename_i hb
      cases r with
      | @tup a xs ds t rs =>
        obtain ⟨es, he, hq⟩ := Option.map_eq_some_iff.mp q
        rw [← hq]
        exact .tup (t.cut (npl_frz he)) (frz_reps (rep_cut h e h' m) rs he)
      | @lst a xs ds f hx rs =>
        obtain ⟨es, he, hq⟩ := Option.map_eq_some_iff.mp q
        rw [← hq]
        exact .lst (.inl f) hx (frz_reps (rep_cut h e h' m) rs he)
      | @ref a k hk kd =>
        have hkn : ¬ k < st.length := fun w => hb (by unfold refB; exact decide_eq_true w)
        have hl : k < (st ++ ex).length := h'.len ▸ (List.getElem?_eq_some_iff.mp hk).1
        have hc := List.getElem?_eq_getElem hl
        generalize (st ++ ex)[k] = c at hc
        cases c with
        | set S =>
          simp only [hc] at q
          cases q
        | dct ks0 ds0 =>
          simp only [hc] at q
          cases q
        | lst ds =>
          simp only [hc] at q
          obtain ⟨es, he, hq⟩ := Option.map_eq_some_iff.mp q
          rw [← hq]
          obtain ⟨xs, hx, rs⟩ := h'.cells k a _ hk hc
          refine .lst (.inr ⟨List.mem_of_getElem? hk, fun w => ?_, xs, hx⟩) hx (frz_reps (rep_cut h e h' m) rs he)
          obtain ⟨j, hj⟩ := List.mem_iff_getElem?.mp w
          have := nd_ix h'.nd (e.mu j a hj) hk
          have hj' := (List.getElem?_eq_some_iff.mp hj).1
          rw [h.len] at hj'
          omega
      | _ => cases q
end
section
variable {P : Program} {w : World} {K : PySem.W.Frag} {mg : Str → Option Value} {base : Heap} {xm : List Addr}
theorem FnG.byZ (hw : Tabs.wd = some w) {x qual : Str} {st : Stmt} {f : Addr} {fd : FuncData} {N ps : List Str} {k n m : Nat} {g : SF} (F : Fun K x qual st f fd) (S : FnScope N ps (defScope st)) (hn : N.length = n) (hm : ps.length = m)
    (hb : ∀ (cdv : Value) (A : Around) (outer : List Env) (s : Shared) (H : Hp) (E : XK), GX (cxOf (L2.CX P w) P w K mg base N qual (defScope st) f cdv A outer s H E) xm (fun cls d _ H => E cls d H) k →
      PSs (cxOf (L2.CX P w) P w K mg base N qual (defScope st) f cdv A outer s H E) (defBody st) (TSf K xm (fun cls d _ H => E cls d H) g)) : FnG P w K mg base (k + 1) f fd ps (spF K xm (fnZ n g) m) := by
  subst hn hm
  refine FnG.body F S (fun vs H Q E ⟨z, ds, st, _, rs, hl, _⟩ => rs.length.trans hl) fun cdv A outer s H vs Q E room gd h => ?_
  obtain ⟨z, ds, sto, rh, rs, hl, h⟩ := h
  refine ⟨_, hb cdv A outer s H E ⟨takes_of rfl rfl rfl rfl, passes_of rfl, room, gd, S.nd, rfl, hw⟩, z, _, sto, rh, relE_start N rfl rs, ?_⟩
  unfold fnZ at h
  generalize g (ds.map some ++ List.replicate (N.length - ds.length) none) sto = r at h ⊢
  cases r with
  | nx en st' =>
    simp only at h
    split at h
    · rename_i hq
      obtain ⟨ex, rfl⟩ := begB_eq _ _ hq
      exact fun σ' z' H' e r' _ => h _ (z.cut z' H') H' (ext_cut e) (rel_cut rh e r') .non
    · exact h.elim
  | rt d st' =>
    simp only at h
    split at h
    · rename_i hq
      obtain ⟨ex, rfl⟩ := begB_eq _ _ hq
      cases hf : frzD (sto ++ ex) sto.length 12 d with
      | none =>
        rw [hf] at h
        exact h.elim
      | some d' =>
        rw [hf] at h
        exact fun v z' H' e r' p => h v (z.cut z' H') H' (ext_cut e) (rel_cut rh e r') (rep_cut rh e r' 12 p hf)
    · exact h.elim
  | ex c p en st' =>
    simp only at h
    split at h
    · rename_i hq
      obtain ⟨ex, rfl⟩ := begB_eq _ _ hq
      cases hf : frzP (sto ++ ex) sto.length p with
      | none =>
        rw [hf] at h
        exact h.elim
      | some p' =>
        rw [hf] at h
        refine fun cls dd σ' z' H' e r' _ x => h cls dd (z.cut z' H') H' (ext_cut e) (rel_cut rh e r') ⟨x.1, ?_⟩
        cases p with
        | none =>
          cases hf
          exact x.2
        | some q =>
          obtain ⟨d', hd, hq⟩ := Option.map_eq_some_iff.mp (show (frzD (sto ++ ex) sto.length 12 q.2).map (fun d' => some (q.1, d')) = some p' from hf)
          subst hq
          obtain ⟨a, v, ha, hx, rv⟩ := x.2
          exact ⟨a, v, ha, hx, rep_cut rh e r' 12 rv hd⟩
    · exact h.elim
  | bk en st' => exact h.elim
  | ct en st' => exact h.elim
  | bad => exact h.elim
end
end Ev

namespace Ev
open PySem PySem.Spec PyProof.Rows L2 RZ
variable [Tabs]

/-! ## a, b = x, y -/
def parS (i j : Nat) (fs : AF) : SF := fun en st => bindS (fs en st) en fun ds st1 => match ds with
  | [d, e] => if i < en.length ∧ j < en.length then .nx ((en.set i (some d)).set j (some e)) st1 else .bad
  | _ => .bad
section
variable {X : Cx} {xm : List Addr} {W : WX} {k : Nat} {x y : Str} {a b : Expr} {px py pt pos : Pos} {kt k2 : Nat} {pt2 : Pos} {fs : AF}
theorem ss_par (G : GX X xm W k) (i j : Nat) (ha : PA X [a, b] (TAf X.K xm W fs)) (hi : X.N[i]? = some x := by rfl) (hj : X.N[j]? = some y := by rfl) (hij : i ≠ j := by decide)
    (hx : X.env.scope.names.lookup x = some .local := by rfl) (hy : X.env.scope.names.lookup y = some .local := by rfl)
    (hw : swappedStores [.Tuple [.Name x px, .Name y py] kt pt] (.Tuple [a, b] k2 pt2) X.env = pure (some [x, y]) := by rfl)
    (hs : swapsWithSole [.Tuple [.Name x px, .Name y py] kt pt] (.Tuple [a, b] k2 pt2) pos.line X.env = pure false := by rfl) :
    PS X (.Assign [.Tuple [.Name x px, .Name y py] kt pt] (.Tuple [a, b] k2 pt2) pos) (TSf X.K xm W (parS i j fs)) :=
  (ps_par G.cm G.nd hi hj hij hx hy ha hw hs).imp fun E σ H ⟨z, en, st, rh, re, h⟩ => by
    refine seqA' rh re (sat_bind re h) fun ds st1 vs z1 H1 q1 e1 r1 re1 p1 => ?_
    match ds, p1, q1 with
    | [d, e], .cons (v := v) pd (.cons (v := w) pe .nil), q1 =>
      by_cases l : i < en.length ∧ j < en.length
      · simp only [if_pos l] at q1
        exact ⟨v, w, rfl, q1 _ z1 H1 e1 r1 ((re1.set pd l.1).set pe (by rw [List.length_set]; exact l.2))⟩
      · simp only [if_neg l] at q1
        exact False.elim q1
end

/-! ## own errors made of a text: raised, caught -/
structure ExAt (K : PySem.W.Frag) (mg : Str → Option Value) (xm : List Addr) (x : Str) (c : Nat) : Prop where
  ex : ∃ C, xm[c]? = some C ∧ mg x = some (.ref C) ∧ PySem.W.keepIn K (.ref C) = true ∧ PySem.W.excIn K C [.type "ValueError", .type "Exception", .type "BaseException", .type "object"] "ValueError.__new__" = true ∧
    PySem.W.subIn K (.ref C) (.type "BaseException") = some true ∧ PySem.W.typeIn K (.ref C) = some (.type "type")
def raiseS (c : Nat) : SF := fun en st => .ex c none en st
section
variable {X : Cx} {xm : List Addr} {W : WX} {k c : Nat} {x m : Str} {j : Nat} {p p2 pos rpos : Pos}
theorem ss_raise (E : ExAt X.K X.mg xm x c) (G : GX X xm W k) (hg : Gl X x := by rfl) (hdb : (x == ("__debug__" : Str)) = false := by decide) :
    PS X (.Raise (some (.Call (.Name x p) [.Constant (.str m) j p2] [] pos)) none rpos) (TSf X.K xm W (raiseS c)) := by
  obtain ⟨C, hc, gC, kC, xC, bC, tC⟩ := E.ex
  exact (ps_raise G.cm G.tk (pmk_own PySem.F.excBase_ValueError xC gC kC (raises_own bC tC) hg hdb)).imp fun D σ H ⟨z, en, st, rh, re, h⟩ => h _ _ σ z H .refl rh re ⟨⟨C, hc, rfl⟩, rfl⟩
/-- what an except clause for the class at C0 asks of the classes that fly: which it takes -/
structure CatchAt (K : PySem.W.Frag) (xm : List Addr) (C0 : Addr) (cc : Nat → Bool) : Prop where
  is : ∀ (c : Nat) C, xm[c]? = some C → PySem.W.exmOne K (.ref C) (.ref C0) = some (cc c)
/-- .. and isinstance for the class at C0 -/
structure IsAt (K : PySem.W.Frag) (xm : List Addr) (C0 : Addr) (cc : Nat → Bool) : Prop where
  is : ∀ (c : Nat) C, xm[c]? = some C → PySem.W.kitOne K (.ref C) (.ref C0) = some (cc c)
  ok : ∀ (c : Nat) C, xm[c]? = some C → ExcC K C
/-- try: body / except X as n: y = s if isinstance(n, T) else t -/
def tryA (cc sb : Nat → Bool) (i j : Nat) (s t : Str) (u : SF) : SF := fun en st => match u en st with
  | .ex c none en1 st1 => if cc c then (if j < en1.length ∧ i < en1.length then .nx (((en1.set i none).set j (some (.str (if sb c then s else t)))).set i none) st1 else .bad) else .ex c none en1 st1
  | .ex _ (some _) _ _ => .bad
  | r => r
theorem RelE.forget {K : PySem.W.Frag} {z : Z} {H : Hp} {σ : L2.St} {en : En} (h : RelE K z H σ en) (i : Nat) (v : Option V) : RelE K z H (σ.set i v) (en.set i none) := by
  refine ⟨by rw [List.length_set, List.length_set, h.1], fun n d q => ?_⟩
  by_cases l : i = n
  · subst l
    by_cases hl : i < en.length
    · rw [List.getElem?_set_self hl] at q
      cases q
    · rw [List.getElem?_eq_none (by rw [List.length_set]; omega)] at q
      cases q
  · rw [List.getElem?_set_ne l] at q
    obtain ⟨w, a, b⟩ := h.2 n d q
    exact ⟨w, by rw [List.getElem?_set_ne l]; exact a, b⟩
variable {n y xi ti : Str} {np npos pos' py p1 p3 p4 p5 p6 : Pos} {s t : Str} {js jt : Nat} {ps pt : Pos} {body : List Stmt} {u : SF} {cc sb : Nat → Bool} {C0 T0 : Addr}
theorem ss_tryA (i jy : Nat) (G : GX X xm W k) (hc0 : X.mg x = some (.ref C0)) (hcc : CatchAt X.K xm C0 cc) (ht0 : X.mg ti = some (.ref T0)) (hsb : IsAt X.K xm T0 sb)
    (hb : ∀ (W' : WX) (pn : List (Addr × Obj)) (xe : Value → Shared → Prop), GX (X.tr pn xe) xm W' k → PSs (X.tr pn xe) body (TSf X.K xm W' u))
    (hs : X.stack = X.env :: X.outer) (hf : X.env.frame = some X.env.locals) (hi : X.N[i]? = some n) (hln : X.env.kindOf n = some .local) (hgx : Gl X x) (hdx : (x == ("__debug__" : Str)) = false) (hgt : Gl X ti) (hdt : (ti == ("__debug__" : Str)) = false)
    (hgi : Gl X "isinstance") (hmi : X.mg "isinstance" = none) (hnd : (n == ("__debug__" : Str)) = false) (hnc : (n == ("__classdict__" : Str)) = false) (hj : X.N[jy]? = some y) (hly : X.env.scope.names.lookup y = some .local)
    (he1 : starEach [.Name n p1, .Name ti p3] X.env = (false, eval (.Name n p1) X.env) :: starEach [.Name ti p3] X.env) (he2 : starEach [.Name ti p3] X.env = (false, eval (.Name ti p3) X.env) :: starEach [] X.env) (hpl : (backTo p4 (starEach [.Name ti p3] X.env)).any (·.1) = false)
    (hsw : swapsWith (.IfExp (.Call (.Name "isinstance" np) [.Name n p1, .Name ti p3] [] p4) (.Constant (.str s) js ps) (.Constant (.str t) jt pt) p5) (some (.Name y py)) p6.line X.env = pure false) :
    PS X (.Try body [.ExceptHandler (some (.Name x npos)) (some n) [.Assign [.Name y py] (.IfExp (.Call (.Name "isinstance" np) [.Name n p1, .Name ti p3] [] p4) (.Constant (.str s) js ps) (.Constant (.str t) jt pt) p5) p6] pos'] [] [] pos)
      (TSf X.K xm W (tryA cc sb i jy s t u)) := by
  refine (ps_try_as (c := .ref C0) (i := i) (tb := fun W' => TSf X.K xm W' u) (ts := fun a cls d => fun E σ H => ∃ c C, xm[c]? = some C ∧ cls = .ref C ∧ d = none ∧ σ[i]? = some (some (.ref a)) ∧ E.nx (σ.set jy (some (.str (if sb c then s else t)))) H) hs hf G.nd hi hln ⟨hgx, hdx, .inl hc0⟩ G.tk
    (fun W' pn xe tk po => hb W' pn xe ⟨tk, po, G.rm, G.gd, G.nd, G.cm, G.wd⟩) (fun a oe cls d pn hz hv => ⟨fun pins s1 σ H E I q => ?_⟩)).imp fun E σ H ⟨z, en, st, rh, re, h⟩ => ?_
  · -- the suite
    obtain ⟨c, C, hc, rfl, rfl, hσ, q⟩ := q
    have test : PE (X.suite a ((a, oe) :: pn)) (.Call (.Name "isinstance" np) [.Name n p1, .Name ti p3] [] p4) (tCB (rIsE X.K C a) (tCons (tVar i) (tCons (tC (.ref T0)) tNil))) :=
      pe_callB (call_isE (hsb.ok c C hc) hz hv) hgi hmi (by decide +kernel) (pa_cons (pe_var (X := X.suite a ((a, oe) :: pn)) (i := i) hi (.inl hln) hnd hnc) (pa_cons (pe_glob (X := X.suite a ((a, oe) :: pn)) (v := .ref T0) hgt ht0 rfl hdt) pa_nil he2) he1) (by decide) (by decide) he1 hpl
    have stm := ps_set (X := X.suite a ((a, oe) :: pn)) (pos := p6) (pos' := py) (i := jy) (x := y) G.nd hj (.inl hly) (pe_ifExp (pt_val test) (pe_str (x := s) (j := js) (pos := ps)) (pe_str (x := t) (j := jt) (pos := pt))) hsw (.inr hly)
    refine (pss_one stm).run pins s1 σ H E I ?_
    refine ⟨.ref a, hσ, .ref T0, .ref T0, sb c, rfl, fun u hu => hu, hsb.is c C hc, sb c, rfl, ?_⟩
    cases e : sb c with
    | true =>
      rw [e] at q
      exact q
    | false =>
      rw [e] at q
      exact q
  · -- the whole
    refine ⟨z, en, st, rh, re, ?_⟩
    unfold tryA at h
    cases w : u en st with
    | nx en1 st1 =>
      rw [w] at h
      exact h
    | bk en1 st1 =>
      rw [w] at h
      exact h
    | ct en1 st1 =>
      rw [w] at h
      exact h
    | rt d st1 =>
      rw [w] at h
      exact h
    | bad =>
      rw [w] at h
      exact h
    | ex c p en1 st1 =>
      rw [w] at h
      cases p with
      | some v => exact h.elim
      | none =>
        rintro cls dd σ1 z1 H1 e1 r1 re1 ⟨⟨C, hC, rfl⟩, rfl⟩
        refine ⟨cc c, hcc.is c C hC, fun hcT b nb => ?_, fun hcF => ?_⟩
        · simp only [hcT, if_true] at h
          by_cases l : jy < en1.length ∧ i < en1.length
          · simp only [if_pos l] at h
            have hil : i < σ1.length := by rw [re1.1]; exact l.2
            refine ⟨c, C, hC, rfl, rfl, List.getElem?_set_self hil, ?_⟩
            refine h _ z1 H1 e1 r1 ?_
            exact ((re1.forget i _).set (.str _) (by rw [List.length_set]; exact l.1)).forget i none
          · simp only [if_neg l] at h
            exact h.elim
        · simp only [hcF] at h
          exact h _ _ σ1 z1 H1 e1 r1 re1 ⟨⟨C, hC, rfl⟩, rfl⟩
end
/-! ## what the texts of the laws name -/
def bigFuel : Nat := 2 ^ 65536
theorem bt_len : bootBuiltins "len" = some (.builtin "len") := by decide +kernel
theorem bt_abs : bootBuiltins "abs" = some (.builtin "abs") := by decide +kernel
theorem bt_sum : bootBuiltins "sum" = some (.builtin "sum") := by decide +kernel
theorem bt_repr : bootBuiltins "repr" = some (.builtin "repr") := by decide +kernel
theorem bt_min : bootBuiltins "min" = some (.builtin "min") := by decide +kernel
theorem bt_max : bootBuiltins "max" = some (.builtin "max") := by decide +kernel
theorem bt_sorted : bootBuiltins "sorted" = some (.builtin "sorted") := by decide +kernel
theorem bt_int : bootBuiltins "int" = some (.type "int") := by decide +kernel
theorem bt_list : bootBuiltins "list" = some (.type "list") := by decide +kernel
theorem bt_tuple : bootBuiltins "tuple" = some (.type "tuple") := by decide +kernel
theorem bt_bool : bootBuiltins "bool" = some (.type "bool") := by decide +kernel
theorem bt_str : bootBuiltins "str" = some (.type "str") := by decide +kernel
theorem sn_glob {X : Cx} {xm : List Addr} {W : WX} {x : Str} {v : V} {d : D} {pos : Pos} (h : ∃ u, X.mg x = some u ∧ RelV v u) (r : ∀ z H, Rep X.K z H v d) (hg : Gl X x := by rfl) (hd : (x == ("__debug__" : Str)) = false := by decide) : PE X (.Name x pos) (TEf X.K xm W (litF d)) := by
  obtain ⟨u, hm, hr⟩ := h
  exact sn_lit (pe_glob hg hm hr hd) r
/-- what an except clause, isinstance say of two classes: by the chain of bases -/
theorem cls_chain {K : PySem.W.Frag} {t : Value} {S : Addr} {b : Bool} (h2 : PySem.W.isClsIn K S = true) (h3 : PySem.W.typeIn K (.ref S) = some (.type "type")) (h4 : PySem.W.subIn K t (.ref S) = some b) : PySem.W.kitCls K t (.ref S) = some b := by
  have e2 : ((PySem.W.clsIn K S).isSome && PySem.W.typeIn K (.ref S) == some (.type "type")) = true := by
    rw [show (PySem.W.clsIn K S).isSome = true from h2, h3]
    rfl
  exact (if_pos e2).trans h4
theorem exm_by {K : PySem.W.Frag} {C S : Addr} {b : Bool} (h1 : PySem.W.subIn K (.ref S) (.type "BaseException") = some true) (h2 : PySem.W.isClsIn K S = true) (h3 : PySem.W.typeIn K (.ref S) = some (.type "type")) (h4 : PySem.W.subIn K (.ref C) (.ref S) = some b) : PySem.W.exmOne K (.ref C) (.ref S) = some b :=
  (if_pos (by rw [h1]; rfl)).trans (cls_chain h2 h3 h4)
theorem kit_by {K : PySem.W.Frag} {C S : Addr} {b : Bool} (h0 : PySem.W.subIn K (.ref S) (.ref S) = some true) (h2 : PySem.W.isClsIn K S = true) (h3 : PySem.W.typeIn K (.ref S) = some (.type "type")) (h4 : PySem.W.subIn K (.ref C) (.ref S) = some b) : PySem.W.kitOne K (.ref C) (.ref S) = some b := by
  by_cases e : C = S
  · subst e
    rw [h0] at h4
    rw [← h4]
    exact if_pos (by simp)
  · exact (if_neg (by simpa using e)).trans (cls_chain h2 h3 h4)
end Ev

namespace Ev
open PySem PySem.Spec PyProof.Rows L2 RZ
variable [Tabs]

/-! ## a, b, c = x, y, z -/
def par3S (i j l : Nat) (fs : AF) : SF := fun en st => bindS (fs en st) en fun ds st1 => match ds with
  | [d, e, f] => if i < en.length ∧ j < en.length ∧ l < en.length then .nx (((en.set i (some d)).set j (some e)).set l (some f)) st1 else .bad
  | _ => .bad
section
variable {X : Cx} {xm : List Addr} {W : WX} {k : Nat} {x y z : Str} {a b c : Expr} {px py pz pt pos : Pos} {kt k2 : Nat} {pt2 : Pos} {fs : AF}
theorem ss_par3 (G : GX X xm W k) (i j l : Nat) (ha : PA X [a, b, c] (TAf X.K xm W fs)) (hi : X.N[i]? = some x := by rfl) (hj : X.N[j]? = some y := by rfl) (hl : X.N[l]? = some z := by rfl) (hij : i ≠ j := by decide) (hil : i ≠ l := by decide) (hjl : j ≠ l := by decide)
    (hx : X.env.scope.names.lookup x = some .local := by rfl) (hy : X.env.scope.names.lookup y = some .local := by rfl) (hz : X.env.scope.names.lookup z = some .local := by rfl)
    (hw : swappedStores [.Tuple [.Name x px, .Name y py, .Name z pz] kt pt] (.Tuple [a, b, c] k2 pt2) X.env = pure (some [x, y, z]) := by rfl)
    (hs : swapsWithSole [.Tuple [.Name x px, .Name y py, .Name z pz] kt pt] (.Tuple [a, b, c] k2 pt2) pos.line X.env = pure false := by rfl) :
    PS X (.Assign [.Tuple [.Name x px, .Name y py, .Name z pz] kt pt] (.Tuple [a, b, c] k2 pt2) pos) (TSf X.K xm W (par3S i j l fs)) :=
  (ps_par3 G.cm G.nd hi hj hl hij hil hjl hx hy hz ha hw hs).imp fun E σ H ⟨z, en, st, rh, re, h⟩ => by
    refine seqA' rh re (sat_bind re h) fun ds st1 vs z1 H1 q1 e1 r1 re1 p1 => ?_
    match ds, p1, q1 with
    | [d, e, f], .cons (v := u) pd (.cons (v := v) pe (.cons (v := w) pf .nil)), q1 =>
      by_cases h : i < en.length ∧ j < en.length ∧ l < en.length
      · simp only [if_pos h] at q1
        exact ⟨u, v, w, rfl, q1 _ z1 H1 e1 r1 (((re1.set pd h.1).set pe (by rw [List.length_set]; exact h.2.1)).set pf (by rw [List.length_set, List.length_set]; exact h.2.2))⟩
      · simp only [if_neg h] at q1
        exact False.elim q1
end
end Ev

/-! all(.. for .. in ..): the element asked where it stands, under the generator's own frame, by the layer's judgements -/
namespace Ev
open PySem PySem.Spec PyProof.Rows L2 GxR
variable [Tabs]

/-- the context of the generator's frame -/
abbrev gnx (X : Cx) (s : Shared) (H : Hp) (A : Around) (ce : Env) (fp : List Addr) : Cx :=
  { X with A := A, s_0 := s, H_0 := H, env := ce, outer := X.stack, stack := ce :: X.stack, ex := fp, fn := fun _ => false, pn := [], xe := fun _ _ => False }
structure GenOk (N : List Str) (sc scope : Scope) (own : List (Str × Nat)) : Prop extends BlkOk N sc scope own where
  co : scope.isCoroutine = false
  nocell : ∀ y ∈ scope.names, y.2 ≠ .cell
  dot : scope.names.lookup (".0" : Str) = some NameKind.local
abbrev gce (X : Cx) (scope : Scope) (L : Addr) (code : Value) : Env := genEnv scope (cloFrom X.env.cells scope.names []) L code builtinsNs X.env
section
variable {X : Cx} {pins : List (Addr × Obj)} {σ : L2.St} {H : Hp} {s s5 : Shared} {scope : Scope} {own : List (Str × Nat)} {fp : List Addr} {A' : Around} {code : Value} {m : Str → Option Value}
theorem gen_start (I : Inv X pins σ H s) (ok : GenOk X.N X.env.scope scope own) (hN : X.N.Nodup) (hfp : ∀ b ∈ fp, FpOk X pins H b ∧ b < s.heap.objs.size)
    (hA : X.calm = true → A'.handled = none) (hF : A'.frames = some (gce X scope s.heap.objs.size code :: X.stack))
    (kp : ∀ b o, s.heap.get? b = some o → s5.heap.get? b = some o) (os : s5.os = s.os) (br : AllBare s5.gens) (ns : s5.heap.Ns s.heap.objs.size m) :
    Inv (gnx X s H A' (gce X scope s.heap.objs.size code) fp) [] (wipe σ (own.map (·.2))) H s5 := by
  have hfree : ∀ y ∈ scope.names, y.2 = .free → ∃ c, X.env.cells.lookup y.1 = some c := fun y hy e => (ok.free y hy e).elim (fun k => I.ok.has _ (.inl k)) fun k => I.ok.has _ (.inr k)
  have mem : ∀ {y c}, (cloFrom X.env.cells scope.names []).lookup y = some c → X.env.cells.lookup y = some c ∧ c < s.heap.objs.size := fun {y c} e => by
    rcases cloFrom_mem (PySem.mem_of_lookup e) with hm | ⟨h1, rfl⟩
    · cases hm
    · obtain ⟨c, hc⟩ := hfree _ h1 rfl
      rw [hc]
      obtain ⟨w, z⟩ := I.cell _ _ hc
      exact ⟨rfl, z.lt⟩
  have look : ∀ {y}, scope.names.lookup y = some .free → ∃ c, (cloFrom X.env.cells scope.names []).lookup y = some c ∧ X.env.cells.lookup y = some c := fun {y} hl => by
    obtain ⟨c', e'⟩ := mem_lookup (cloFrom_has (cells := X.env.cells) (acc := []) (PySem.mem_of_lookup hl))
    exact ⟨c', e', (mem e').1⟩
  have only : ∀ {y}, scope.names.lookup y = some .cell → False := fun {y} e => ok.nocell _ (PySem.mem_of_lookup e) rfl
  have okB : (gnx X s H A' (gce X scope s.heap.objs.size code) fp).Ok := by
    refine ⟨I.ok.mod, ok.kind, I.ok.glob, rfl, Nat.le_refl _, fun y z c e1 e2 => I.ok.inj y z c (mem e1).1 (mem e2).1, fun y hy => ?_, fun y c z _ => (nomatch z), hA, hF, .inr ⟨rfl, rfl⟩, fun b hb => ⟨Nat.ne_of_lt (hfp b hb).2, fun y c e z => ?_⟩,
      I.bs, Nat.le_trans I.ok.bsz I.sz, fun b o e hb => ?_, fun b hb z => ?_, I.stack, I.stkFree⟩
    · rcases hy with hy | hy
      · exact (only hy).elim
      · obtain ⟨c, h1, _⟩ := look hy
        exact ⟨c, h1⟩
    · exact (hfp b hb).1.2.2.2.2.1 y c (mem e).1 z
    · rcases (hfp b hb).1.2.2.2.1 with z | z
      · exact I.ok.noex b o e z
      · exact absurd (Nat.lt_of_lt_of_le (Heap.lt_size e) (Nat.le_trans I.ok.bsz z)) (Nat.lt_irrefl _)
    · rcases List.mem_cons.mp (I.stkSub b z) with z | z
      · exact (hfp b hb).1.2.1 z
      · exact (hfp b hb).1.2.2.1 z
  refine ⟨okB, os, br, Un.kept kp, ⟨m, ns, fun i y av e1 e2 e3 => ?_⟩, fun y c e => ?_, I.hok.fresh (Nat.le_refl _), fun y c e => I.freeC y c (mem e).1, fun p hp => absurd (show p ∈ ([] : List (Addr × Obj)) ++ [] from hp) (by simp), I.hok.kept kp, by rw [wipe_length]; exact I.len⟩
  · obtain ⟨e2, hne⟩ := wipe_some e2
    have hfr : scope.names.lookup y = some .free := by
      have no : ∀ k, scope.names.lookup y = some k → ¬ (k = .local ∨ k = .cell) := fun k e hh => by
        rcases ok.own _ (PySem.mem_of_lookup e) hh with e' | e'
        · obtain ⟨p, hp, hpy⟩ := List.mem_map.mp e'
          have e3 := ok.ix p hp
          have : p.1 = y := hpy
          rw [this] at e3
          exact hne (List.mem_map.mpr ⟨p, hp, nodup_ix hN e3 e1⟩)
        · exact e' (List.mem_of_getElem? e1)
      have e3 : Vis scope y := e3
      rcases e3 with e3 | e3 | e3
      · exact (no _ e3 (.inl rfl)).elim
      · exact (no _ e3 (.inr rfl)).elim
      · exact e3
    obtain ⟨m', hn, hl⟩ := I.loc
    have hvis : Vis X.env.scope y := (ok.free _ (PySem.mem_of_lookup hfr) rfl).elim (fun k => .inr (.inl k)) (fun k => .inr (.inr k))
    obtain ⟨w, r, q⟩ := hl i y av e1 e2 hvis
    refine ⟨w, r, .inr ⟨.inr hfr, ?_⟩⟩
    obtain ⟨c, h1, h2⟩ := look hfr
    rcases q with ⟨k, _⟩ | ⟨_, c', e', z⟩
    · have k : X.env.scope.names.lookup y = some .local := k
      rcases ok.free _ (PySem.mem_of_lookup hfr) rfl with k' | k' <;> rw [show X.env.scope.names.lookup y = _ from k'] at k <;> cases k
    · rw [h2] at e'
      cases e'
      exact ⟨c, h1, z.keeps kp⟩
  · obtain ⟨w, z⟩ := I.cell y c (mem e).1
    exact ⟨w, z.keeps kp⟩
/-- .. nothing but the rest of the state changes -/
theorem inv_idle (I : Inv X pins σ H s) (os : s5.os = s.os) (kp : ∀ b o, s.heap.get? b = some o → s5.heap.get? b = some o) (br : AllBare s5.gens) : Inv X pins σ H s5 :=
  I.call' (ch := []) os (Un.kept kp) (I.hok.kept kp) br fun b z => by simp at z
end

/-! ### the generator's own turns -/
structure Idle (s u : Shared) : Prop where
  os : u.os = s.os
  heap : u.heap = s.heap
  bare : AllBare u.gens
def protoA (Y : Cx) (pins : List (Addr × Obj)) (Q : VK) : Protocol := fun _ _ v s kap =>
  ∃ b σ H, v = .bool b ∧ Inv Y pins σ H s ∧ (b = false → Q (.bl false) H) ∧ (b = true → ∀ u, Idle s u → kap (.send .none) u)
def endA (Y : Cx) (pins : List (Addr × Obj)) (Q : VK) : GenEnd := fun _ _ r s => r = .ok .next ∧ ∃ σ H, Inv Y pins σ H s ∧ Q (.bl true) H
abbrev gxe (el tg it : Expr) (sc : Scope) (gp : Pos) : Expr := .GeneratorExp el [⟨tg, it, [], 0⟩] sc gp
/-- W: by the turn and a measure -/
def AllW (J : It) (g : TG) (te : TE) (vs : List Nat) (σ : L2.St) (Q : VK) (W : Nat → Nat → Hp → Prop) : Prop := ∀ i m H, W i m H →
  (J.stop i H ∧ Q (.bl true) H) ∨ (J.go i H ∧ ∃ Nx : Hp → Prop, (∀ H', Nx H' → ∃ m', m' < m ∧ W (i + 1) m' H') ∧ ∀ x H', J.yld i H x H' → g x (wipe σ vs) H' fun σ2 H2 => wipe σ2 vs = wipe σ vs ∧
    te σ2 H2 fun y H3 => ∃ b, y = .bl b ∧ (b = false → Q (.bl false) H3) ∧ (b = true → Nx H3))
section
variable {Y : Cx} {B : Around} {pn : List (Addr × Obj)} {σ : L2.St} {el tg iter : Expr} {scope : Scope} {gp : Pos} {it : Addr} {fp : List Addr} {tn : Nat → Heap → Prop} {J : It} {g : TG} {te : TE} {vs : List Nat} {Q : VK} {W : Nat → Nat → Hp → Prop}
theorem loopA (hB : B.over (.compLoop (gxe el tg iter scope gp) 0 (.ref it) .none Y.env) [] = Y.A) (hco : Y.env.scope.isCoroutine = false) (hc : Y.calm = true) (hxe : Y.xe = fun _ _ => False)
    (T : Turn Y.prog Y.w Y.K tg J fp it tn) (hfp : ∀ H, (∀ b ∈ fp, H b = none) → ∀ b ∈ fp, FpOk Y pn H b) (pg : PG Y tg g) (pe : PE Y el te) (turn : AllW J g te vs σ Q W) :
    ∀ (m i n : Nat) (s₀ s : Shared) (H : Hp), m < n → Inv Y pn (wipe σ vs) H s → tn i s.heap → (∀ b ∈ fp, H b = none) → W i m H →
      Seg (model Y.prog Y.w) B (endA Y pn Q) (protoA Y pn Q) n s₀ (.compLoop (gxe el tg iter scope gp) 0 (.ref it) .none Y.env) ((model Y.prog Y.w).den (.compLoop (gxe el tg iter scope gp) 0 (.ref it) .none Y.env)) [] s := by
  intro m
  induction m using Nat.strongRecOn with
  | ind m ih =>
    intro i n s₀ s H hn I st nf w
    show Seg _ B _ _ n s₀ _ ((compTurn (gxe el tg iter scope gp) 0 (.ref it) .none Y.env).onRaise (leaving Y.env)) [] s
    rw [compTurn_gen, Sem.onRaise_eq_wrap]
    rcases turn i m H w with ⟨stop, q⟩ | ⟨go, Nx, hNx, step⟩
    · refine seg_bind_wrap (wpAny_standAt (seg_bind_wrap ?_))
      rw [hB]
      refine thnF (T.done Y rfl rfl rfl hc i pn s _ H (fun _ _ => False) I (hfp H nf) st stop) fun r s1 ⟨hr, I1⟩ => ?_
      subst hr
      exact seg_end (.ok .next) ⟨rfl, _, H, I1, q⟩
    · obtain ⟨n, rfl⟩ : ∃ k, n = k + 1 := ⟨n - 1, by omega⟩
      refine seg_bind_wrap (wpAny_standAt (seg_bind_wrap ?_))
      rw [hB]
      refine thnF (T.item Y rfl rfl rfl hc i pn s _ H (fun _ _ => False) I (hfp H nf) st go) fun r s1 ⟨u, hr, h1⟩ => ?_
      subst hr
      refine seg_bind_wrap ?_
      rw [hB]
      refine thnF h1 fun _ s2 ⟨x, H2, I2, r2, y2, st2, n2⟩ => ?_
      have I2' := I2.pinned (hfp H2 n2) (T.obj _ _ st2)
      refine seg_bind_wrap ?_
      rw [hB]
      have pr := pg.run _ s2 _ H2 x u _ I2' r2 (step x H2 y2)
      rw [hxe] at pr
      refine thnF pr fun _ s3 ⟨σ3, H3, I3, hw3, q3⟩ => ?_
      simp only [List.forIn_nil]
      refine seg_bind_wrap (wpAny_pure ?_)
      simp only [if_true]
      have yl : ∀ v, yieldOut Y.env v = yieldValue v := fun v => by simp only [yieldOut, hco, Bool.false_eq_true, if_false]
      simp only [yl]
      rw [Sem.bind_eq_wrap', Sem.bind_eq_wrap', Sem.wrap_wrap, Sem.wrap_wrap]
      refine seg_wrap ?_
      rw [hB]
      have er := pe.run _ s3 σ3 H3 _ I3 q3
      rw [hxe] at er
      refine thnF er fun v s4 ⟨y, H4, I4, r4, b, eb, qf, qt⟩ => ?_
      subst eb
      have ev : v = Value.bool b := r4
      subst ev
      refine seg_at (seg_yield rfl rfl rfl ⟨b, σ3, H4, rfl, I4.unpinned, qf, fun hb u idle => ?_⟩)
      obtain ⟨m', hm, w'⟩ := hNx H4 (qt hb)
      have pin' : ∀ b ∈ fp, ∀ o, s2.heap.get? b = some o → s4.heap.get? b = some o ∧ H4 b = none := fun b hb o e =>
        let z := I4.pin (b, o) (List.mem_append_right _ (List.mem_append_right _ (mem_pinsAt hb e)))
        ⟨z.1, z.2.1⟩
      have st4 : tn (i + 1) s4.heap := T.keep _ _ _ st2 fun b hb o e => (pin' b hb o e).1
      have nf4 : ∀ b ∈ fp, H4 b = none := fun b hb => by
        obtain ⟨o, e, _⟩ := T.obj _ _ st2 b hb
        exact (pin' b hb o e).2
      have hl : (wipe σ vs).length = σ3.length := by rw [← hw3, wipe_length]
      have I5 : Inv Y pn (wipe σ vs) H4 u := inv_idle ((I4.unpinned).weak hl fun j v e => by
        rw [← hw3] at e
        exact (wipe_some e).1) idle.os (fun b o e => by rw [idle.heap]; exact e) idle.bare
      exact seg_again rfl (ih m' hm (i + 1) n u u H4 (by omega) I5 (by rw [idle.heap]; exact st4) nf4 w')
theorem startA (hB : B.over (.compLoop (gxe el tg iter scope gp) 0 (.ref it) .none Y.env) [] = Y.A) (hco : Y.env.scope.isCoroutine = false) (hc : Y.calm = true) (hxe : Y.xe = fun _ _ => False)
    (T : Turn Y.prog Y.w Y.K tg J fp it tn) (hfp : ∀ H, (∀ b ∈ fp, H b = none) → ∀ b ∈ fp, FpOk Y pn H b) (pg : PG Y tg g) (pe : PE Y el te) (turn : AllW J g te vs σ Q W)
    (m n : Nat) (s₀ s : Shared) (H : Hp) (hn : m < n) (I : Inv Y pn (wipe σ vs) H s) (st : tn 0 s.heap) (nf : ∀ b ∈ fp, H b = none) (w : W 0 m H) :
      Seg (model Y.prog Y.w) B (endA Y pn Q) (protoA Y pn Q) n s₀ (.compStart (gxe el tg iter scope gp) 0 (.ref it) .none Y.env) ((model Y.prog Y.w).den (.compStart (gxe el tg iter scope gp) 0 (.ref it) .none Y.env)) [] s := by
  have lp := loopA hB hco hc hxe T hfp pg pe turn m 0 n s₀ s H hn I st nf w
  show Seg _ B _ _ n s₀ _ ((compStart (gxe el tg iter scope gp) 0 (.ref it) .none Y.env).onRaise (leaving Y.env)) [] s
  unfold compStart
  rw [Sem.onRaise_eq_wrap]
  show Seg _ B _ _ n s₀ _ ((ask >>= _).wrap _ _ _ _) [] s
  refine seg_bind_wrap (wpAny_askSetting ?_)
  split
  · exact seg_again rfl lp
  · refine seg_bind_wrap (wpAny_rule ?_)
    show Seg _ B _ _ n s₀ _ ((standAt iter.pos >>= _).wrap _ _ _ _) [] s
    exact seg_bind_wrap (wpAny_standAt (seg_bind_wrap (T.self _ 0 s _ _ st (seg_again rfl lp))))
end

/-! ### all(g) -/
section
variable {Y : Cx} {A : Around} {a : Addr} {g : Nat} {go : Obj} {Q : VK} {R : Result → Shared → Prop}
theorem loopAll (hh : A.handled = none) (hd : A.depth < recursionLimit) (hgo : ∀ h : Heap, h.get? a = some go → h.IsGen a g)
    (hR : ∀ b σ H s s', Inv Y [(a, go)] σ H s → (∀ c o, s.heap.get? c = some o → s'.heap.get? c = some o) → s'.os = s.os → AllBare s'.gens → Q (.bl b) H → R (.ok (.ret (.bool b))) s') :
    ∀ (n : Nat) (s : Shared), s.heap.IsGen a g → s.heap.NoLimit → AllBare s.gens → (∃ gs, s.gens[g]? = some gs ∧ gs.Goes (model Y.prog Y.w) A.in1.in1 (endA Y [(a, go)] Q) (protoA Y [(a, go)] Q) n (.send .none) (s.setGen g .running)) →
      codeAny (model Y.prog Y.w) A (.builtin "all.loop" ⟨[.ref a], []⟩) R s := by
  have own : ∀ {σ H} {s : Shared}, Inv Y [(a, go)] σ H s → s.heap.IsGen a g := fun I => hgo _ (I.pin (a, go) (List.mem_append_right _ List.mem_cons_self)).1
  intro n
  induction n with
  | zero =>
    intro s hg hl hb ⟨gs, hgs, hgoes⟩
    refine codeAny_builtin F.entry_all_loop ?_
    rw [Around.under_plainId F.plain_all_loop _]
    show wpAny _ A.in1 (pyNext (.ref a) >>= _) _ _ s
    refine wpAny_bind (wpAny_pyNext_genexpQ (A := A.in1) (P := fun _ _ s1 => ∃ σ H, Inv Y [(a, go)] σ H s1 ∧ Q (.bl true) H) hh hl hd hg hgs hgoes (fun v s1 gs' hbare hv => ?_) (fun s1 hp h' hk => ?_))
    · obtain ⟨b, σ, H, rfl, I, qf, qt⟩ := hv
      refine wpAny_bind (wpAny_holding (wpAny_truthy_bool (wpAny_bind (wpAny_letGo ?_))))
      cases b with
      | true => exact (qt rfl { s1 with gens := #[] } ⟨rfl, rfl, .empty⟩).elim
      | false =>
        simp only [Bool.false_eq_true, if_false]
        exact wpAny_bind (wpAny_rule (wpAny_pure (hR false _ _ _ _ I (fun _ _ e => e) rfl (allBare_setGen I.bare hbare) (qf rfl))))
    · obtain ⟨σ, H, I, q⟩ := hp
      exact wpAny_bind (wpAny_rule (wpAny_pure (hR true _ _ _ _ I hk rfl (allBare_setGen I.bare rfl) q)))
  | succ n ih =>
    intro s hg hl hb ⟨gs, hgs, hgoes⟩
    have hgl : g < s.gens.size := (Array.getElem?_eq_some_iff.mp hgs).1
    refine codeAny_builtin F.entry_all_loop ?_
    rw [Around.under_plainId F.plain_all_loop _]
    show wpAny _ A.in1 (pyNext (.ref a) >>= _) _ _ s
    refine wpAny_bind (GenW.wpAny_gsz (n := g + 1) hgl (wpAny_pyNext_genexpQ (A := A.in1) (P := fun _ _ s1 => ∃ σ H, Inv Y [(a, go)] σ H s1 ∧ Q (.bl true) H) hh hl hd hg hgs hgoes (fun v s1 gs' hbare hv => ?_) (fun s1 hp h' hk => ?_)))
    · intro hsz
      obtain ⟨b, σ, H, rfl, I, qf, qt⟩ := hv
      refine wpAny_bind (wpAny_holding (wpAny_truthy_bool (wpAny_bind (wpAny_letGo ?_))))
      cases b with
      | false =>
        simp only [Bool.false_eq_true, if_false]
        exact wpAny_bind (wpAny_rule (wpAny_pure (hR false _ _ _ _ I (fun _ _ e => e) rfl (allBare_setGen I.bare hbare) (qf rfl))))
      | true =>
        simp only [if_true]
        have hsz1 : g < s1.gens.size := by
          have q : (s1.setGen g gs').gens.size = s1.gens.size := GenW.setGen_size _ _ _
          have hsz' : g + 1 ≤ (s1.setGen g gs').gens.size := hsz
          omega
        refine wpAny_pure ⟨plainId_quiet F.plain_all_loop _, ih (s1.setGen g gs') (show s1.heap.IsGen a g from own I) (show s1.heap.NoLimit from I.nolimit) (allBare_setGen I.bare hbare) ⟨gs', setGen_at hsz1, ?_⟩⟩
        exact qt rfl _ ⟨rfl, rfl, allBare_setGen (allBare_setGen I.bare hbare) rfl⟩
    · intro _
      obtain ⟨σ, H, I, q⟩ := hp
      exact wpAny_bind (wpAny_rule (wpAny_pure (hR true _ _ _ _ I hk rfl (allBare_setGen I.bare rfl) q)))
end

/-! ### the whole call -/
section
variable {X : Cx} {xm : List Addr} {W0' : WX} {k : Nat} {c P : Addr} {el iter tg : Expr} {scope : Scope} {own : List (Str × Nat)} {p pos gpos : Pos} {wi : TI} {g : TG} {te : TE}
theorem framesO {B : Around} {ce : Env} {fr : List Env} (hf : B.frames = some fr) (c : Code) (hc : c.envs = [ce]) : (B.over c []).frames = some (ce :: fr) := by
  show pushEnvs c.envs (pushEnvs _ B.frames) = _
  rw [hf, hc]
  rfl
theorem guardsO {B : Around} (hg : B.guards = some []) (c : Code) (hc : c.guards = []) : (B.over c []).guards = some [] := by
  show pushGuards c.guards (pushGuards _ B.guards) = _
  rw [hg, hc]
  rfl
/-- the generator stands ready; all walks it -/
theorem all_fin {W : WX} {pins : List (Addr × Obj)} {σ : L2.St} {H : Hp} {s : Shared} {Q : VK} {it : Addr} {fp : List Addr} {tn : Nat → Heap → Prop} {J : It} {Wf : Nat → Nat → Hp → Prop} {m : Nat} {code : Value} {h' : Heap} {mm : Str → Option Value} {nm qn : Value} {tk : Nat}
    (G : GX X xm W (k + 1)) (ok : GenOk X.N X.env.scope scope own)
    (hpg : ∀ (s : Shared) (H : Hp) (A' : Around) (code : Value) (fp : List Addr), GX (gnx X s H A' (gce X scope s.heap.objs.size code) fp) xm W0 k → PG (gnx X s H A' (gce X scope s.heap.objs.size code) fp) tg g)
    (hel : ∀ (s : Shared) (H : Hp) (A' : Around) (code : Value) (fp : List Addr), GX (gnx X s H A' (gce X scope s.heap.objs.size code) fp) xm W0 k → PE (gnx X s H A' (gce X scope s.heap.objs.size code) fp) el te)
    (I : Inv X pins σ H s) (T : Turn X.prog X.w X.K tg J fp it tn) (st : tn 0 s.heap) (f : ∀ b ∈ fp, FpOk X pins H b) (w : Wf 0 m H) (turn : AllW J g te (own.map (·.2)) σ Q Wf)
    (ns : h'.Ns s.heap.objs.size mm) (sb : Heap.SameBut s.heap.objs.size (s.heap.push { cls := .type "frame", data := .dict #[] }) h') :
    wpAny (model X.prog X.w) X.A (call (.builtin "all") [.ref h'.objs.size]) (EP X pins σ Q) X.xe
      { s with gens := s.gens.push (.fresh (.compStart (gxe el tg iter scope gpos) 0 (.ref it) .none (gce X scope s.heap.objs.size code))), toks := tk, heap := h'.push { cls := .type "generator", data := .fields #[.int s.gens.size 0, nm, qn] } } := by
  have hh : X.A.handled = none := I.ok.hd G.cm
  generalize hgo : ({ cls := .type "generator", data := .fields #[.int s.gens.size 0, nm, qn] } : Obj) = go
  have isg : ∀ h : Heap, h.get? h'.objs.size = some go → h.IsGen h'.objs.size s.gens.size := fun h e => ⟨go, nm, qn, e, by rw [← hgo], by rw [← hgo], by rw [← hgo]⟩
  generalize hs5 : ({ s with gens := s.gens.push (.fresh (.compStart (gxe el tg iter scope gpos) 0 (.ref it) .none (gce X scope s.heap.objs.size code))), toks := tk, heap := h'.push go } : Shared) = s5
  have h5 : s5.heap = h'.push go := by rw [← hs5]
  have g5 : s5.gens = s.gens.push (.fresh (.compStart (gxe el tg iter scope gpos) 0 (.ref it) .none (gce X scope s.heap.objs.size code))) := by rw [← hs5]
  have sz : h'.objs.size = s.heap.objs.size + 1 := by rw [sb.1, Heap.size_push]
  have kp : ∀ b o, s.heap.get? b = some o → s5.heap.get? b = some o := fun b o e => by
    rw [h5]
    exact Heap.get?_push_of_some _ (sb.extBut b o (Nat.ne_of_lt (Heap.lt_size e)) (Heap.get?_push_of_some _ e))
  have hfp : ∀ b ∈ fp, FpOk X pins H b ∧ b < s.heap.objs.size := fun b hb => ⟨f b hb, let ⟨o, e, _⟩ := T.obj _ _ st b hb; Heap.lt_size e⟩
  have br5 : AllBare s5.gens := by
    rw [g5]
    exact AllBare.push I.bare rfl
  generalize hA' : X.A.in1.in1.over (.compLoop (gxe el tg iter scope gpos) 0 (.ref it) .none (gce X scope s.heap.objs.size code)) [] = A'
  have a1 : A'.handled = none := by
    rw [← hA']
    exact hh
  have a2 : A'.depth ≤ X.A.depth + 1 := by
    rw [← hA']
    exact Nat.le_of_eq rfl
  have a3 : A'.units ≤ X.A.units + 5 := by
    rw [← hA']
    exact Nat.le_of_eq rfl
  have a4 : A'.frames = some (gce X scope s.heap.objs.size code :: X.stack) := by
    rw [← hA']
    exact framesO (B := X.A.in1.in1) I.ok.frames _ rfl
  have a5 : A'.guards = some [] := by
    rw [← hA']
    exact guardsO (B := X.A.in1.in1) G.gd _ rfl
  have GY : GX (gnx X s H A' (gce X scope s.heap.objs.size code) fp) xm W0 k := ⟨takes0, PassesOwn.never, ⟨a1, by have := G.rm.dp; show A'.depth + 3 * k + 5 < _; omega, by have := G.rm.un; show A'.units + 16 * k + 200 < _; omega⟩, a5, G.nd, G.cm, G.wd⟩
  have I5 : Inv (gnx X s H A' (gce X scope s.heap.objs.size code) fp) [] (wipe σ (own.map (·.2))) H s5 := gen_start I ok G.nd hfp (fun _ => a1) a4 kp (by rw [← hs5]) br5 (m := mm) (by
    rw [h5]
    exact ns.push _)
  have ha5 : s5.heap.get? h'.objs.size = some go := by
    rw [h5]
    exact Heap.get?_push_size _ (by rw [← hgo]; rfl)
  have ngo : ∀ v, go.data ≠ .cell v := fun v z => by
    rw [← hgo] at z
    cases z
  have I6 : Inv (gnx X s H A' (gce X scope s.heap.objs.size code) fp) [(h'.objs.size, go)] (wipe σ (own.map (·.2))) H s5 := I5.pins_of fun q hq => by
    rw [List.mem_singleton.mp hq]
    refine ⟨ha5, I.hok.fresh (by rw [sz]; exact Nat.le_succ _), by show h'.objs.size ≠ s.heap.objs.size; rw [sz]; exact Nat.succ_ne_self _, fun z => ?_, ngo⟩
    have z : h'.objs.size ∈ frs X.stack := z
    obtain ⟨_, o, ho, _⟩ := I.stack.mem z
    have := Heap.lt_size ho
    rw [sz] at this
    exact absurd (Nat.lt_of_succ_lt this) (Nat.lt_irrefl _)
  have apart : ∀ b ∈ fp, b ≠ h'.objs.size := fun b hb z => by
    have := (hfp b hb).2
    rw [z, sz] at this
    exact absurd (Nat.lt_of_succ_lt this) (Nat.lt_irrefl _)
  have fpo : ∀ H' : Hp, (∀ b ∈ fp, H' b = none) → ∀ b ∈ fp, FpOk (gnx X s H A' (gce X scope s.heap.objs.size code) fp) [(h'.objs.size, go)] H' b := fun H' hn b hb =>
    ⟨hn b hb, (I6.ok.exf b hb).1, I6.ok.exfs b hb, .inl hb, fun x c e => (I6.ok.exf b hb).2 x c e, fun q hq => by
      rw [List.mem_singleton.mp (show q ∈ [(h'.objs.size, go)] from hq)]
      exact fun z => apart b hb z.symm⟩
  have st5 : tn 0 s5.heap := T.keep _ _ _ st fun b _ o e => kp b o e
  have start := fun s₀ s' (I' : Inv (gnx X s H A' (gce X scope s.heap.objs.size code) fp) [(h'.objs.size, go)] (wipe σ (own.map (·.2))) H s') (st' : tn 0 s'.heap) =>
    startA (Y := gnx X s H A' (gce X scope s.heap.objs.size code) fp) (B := X.A.in1.in1) (pn := [(h'.objs.size, go)]) (gp := gpos) (scope := scope) (iter := iter) hA' ok.co G.cm rfl T fpo (hpg _ _ _ _ _ GY) (hel _ _ _ _ _ GY) turn m (m + 1) s₀ s' H (Nat.lt_succ_self m) I' st' (fun b hb => (f b hb).1) w
  refine call_function_tree F.kind_all F.plain_all F.entry_all (F.args_all1 _) ?_
  unfold Builtin.«all»
  refine wpAny_bind (m := oneArg "all" _) (wpAny_pure ?_)
  refine wpAny_bind (wpAny_pyIter_gen (isg _ ha5) ?_)
  refine wpAny_pure ⟨plainId_quiet F.plain_all_loop _, ?_⟩
  refine loopAll (Y := gnx X s H A' (gce X scope s.heap.objs.size code) fp) (go := go) (Q := Q) hh G.rm.depth isg (fun b σ' H' s1 s2 I' kp' os' br' q => ?_) (m + 1) s5 (isg _ ha5) I6.nolimit br5 ⟨.fresh (.compStart (gxe el tg iter scope gpos) 0 (.ref it) .none (gce X scope s.heap.objs.size code)), by rw [g5]; exact Array.getElem?_push_size .., rfl, ?_⟩
  · have I7 := inv_idle I' os' kp' br'
    refine ⟨.bl b, H', I.call' (ch := fp) I7.os I7.base I7.hok I7.bare fun c hc => ⟨(f c hc).2.2.2.1, (f c hc).2.1, (f c hc).2.2.2.2.1, (f c hc).2.2.2.2.2⟩, rfl, q⟩
  · exact start _ _ (inv_idle I6 rfl (fun _ _ e => e) (allBare_setGen br5 rfl)) st5
def tAll (P : Addr) (wi : TI) (g : TG) (te : TE) (vs : List Nat) : TE := fun σ H Q => wi σ H fun J H1 => TabG H1 P ∧ ∀ H2, Tabbed P H1 H2 → ∃ W : Nat → Nat → Hp → Prop, (∃ m, W 0 m H2) ∧ AllW J g te vs σ Q W
theorem pe_all {W : WX} (G : GX X xm W (k + 1)) (hg : Gl X "all") (hm : X.mg "all" = none) (hb : bootBuiltins "all" = some (.builtin "all")) (TB : TabB X.base X.mg c P) (hcode : X.env.code = .ref c) (ok : GenOk X.N X.env.scope scope own) (hi : PI X tg iter wi)
    (hpg : ∀ (s : Shared) (H : Hp) (A' : Around) (code : Value) (fp : List Addr), GX (gnx X s H A' (gce X scope s.heap.objs.size code) fp) xm W0 k → PG (gnx X s H A' (gce X scope s.heap.objs.size code) fp) tg g)
    (hel : ∀ (s : Shared) (H : Hp) (A' : Around) (code : Value) (fp : List Addr), GX (gnx X s H A' (gce X scope s.heap.objs.size code) fp) xm W0 k → PE (gnx X s H A' (gce X scope s.heap.objs.size code) fp) el te)
    (hs : ∀ v, genFold iter X.env v = pure v) (he : starEach [gxe el tg iter scope gpos] X.env = (false, eval (gxe el tg iter scope gpos) X.env) :: starEach [] X.env := by rfl) :
    PE X (.Call (.Name "all" p) [gxe el tg iter scope gpos] [] pos) (tAll P wi g te (own.map (·.2))) := by
  refine ⟨fun pins s σ H Q I h => ?_⟩
  refine wpAny_Call_Name_kw (ld_blt I hg hm hb ?_)
  refine PyProof.Rows.callWith_builtin1 ?_ he (by rfl)
  rw [he]
  show wpAny _ _ (spliced ((false, eval (gxe el tg iter scope gpos) X.env) :: backTo pos (starEach [] X.env))) _ _ s
  have hfree : ∀ y ∈ scope.names, y.2 = .free → ∃ c, X.env.cells.lookup y.1 = some c := fun y hy e => (ok.free y hy e).elim (fun k => I.ok.has _ (.inl k)) fun k => I.ok.has _ (.inr k)
  refine Calls.spliced_cons (wpAny_GeneratorExp_make ok.co (closure_ok hfree) ok.nocell ok.dot ok.kind G.rm.depth ?_ hs)
  refine thn (hi.run pins s σ H _ I h) fun xv s1 h1 => thn h1 fun itv s2 h2 => ?_
  obtain ⟨it, fp, tn, J, H2, rfl, I2, T, st2, f2, ⟨ps, hP, ht⟩, q⟩ := h2
  refine ⟨I2.nolimit, ?_⟩
  have hPs : s2.heap.get? P = some { cls := .none, data := .fields ps } := I2.hok P _ hP
  have cd : PySem.W.CodeHd s2.heap c P := TB.code.keeps I2.bk
  have cont : ∀ (code : Value) (h3 : Heap) (tk : Nat) (more : Array Value), (∀ b o, b ≠ P → s2.heap.get? b = some o → h3.get? b = some o) → h3.get? P = some { cls := .none, data := .fields (ps ++ more) } → TriplesOk (ps ++ more).toList →
      ∃ H3, Inv X pins σ H3 { s2 with heap := h3, toks := tk } ∧ (∀ b ∈ fp, FpOk X pins H3 b) ∧ tn 0 h3 ∧ Tabbed P H2 H3 := by
    intro code h3 tk more k3 p3 t3
    refine ⟨_, inv_tab (more := more) (h' := h3) (g' := s2.gens) (d' := s2.drawn) (t' := tk) I2 hP k3 p3 I2.bare, fun b hb => ?_, T.keep _ _ _ st2 fun b hb o e => k3 b o (fun z => ?_) e, ⟨⟨ps ++ more, upd_same, t3⟩, fun b hb => upd_ne hb⟩⟩
    · refine ⟨?_, (f2 b hb).2⟩
      rw [upd_ne fun z => by
        have := (f2 b hb).1
        rw [z, hP] at this
        cases this]
      exact (f2 b hb).1
    · have := (f2 b hb).1
      rw [z, hP] at this
      cases this
  have fin : ∀ (code : Value) (s4 : Shared) (H3 : Hp), Inv X pins σ H3 s4 → (∀ b ∈ fp, FpOk X pins H3 b) → tn 0 s4.heap → Tabbed P H2 H3 → wpAny (model X.prog X.w) X.A (builtinsFor X.env.globals X.env.builtins) (fun bi s₄ =>
        ∀ h', h'.Ns s₄.heap.objs.size (fun y => if y = ".0" then some (.ref it) else none) → Heap.SameBut s₄.heap.objs.size (s₄.heap.push { cls := .type "frame", data := .dict #[] }) h' →
          wpAny (model X.prog X.w) X.A (spliced (backTo pos (starEach [] X.env))) (fun us s' => wpAny (model X.prog X.w) X.A (call (.builtin "all") (Value.ref h'.objs.size :: us)) (EP X pins σ Q) X.xe s') X.xe { s₄ with
            gens := s₄.gens.push (.fresh (.compStart (gxe el tg iter scope gpos) 0 (.ref it) .none (genEnv scope (cloFrom X.env.cells scope.names []) s₄.heap.objs.size code bi X.env))),
            toks := s₄.toks + 1 + 1 + 1,
            heap := h'.push { cls := .type "generator", data := .fields #[.int s₄.gens.size 0, .str "<genexpr>" (s₄.toks + 1), .str (X.env.qual ++ "<genexpr>") (s₄.toks + 1 + 1)] } }) X.xe s4 := by
    intro code s4 H3 I4 f4 st4 tb
    obtain ⟨bm, ob, e1, e2, e3, e4, e5, e6, e7, e8⟩ := TB.bm
    refine wpAny_builtinsFor (m := X.mg) (by rw [I4.ok.glob]; exact I4.mod.glob.keeps I4.bk) e1 e2 (I4.bk _ _ e5) e6 e7 e8 fun h' ns sb => ?_
    refine Calls.spliced_nil ?_
    obtain ⟨Wf, ⟨m, w⟩, turn⟩ := q H3 tb
    exact all_fin G ok hpg hel I4 T st4 f4 w turn ns sb
  cases hf : codeAmong gpos ps.toList with
  | none =>
    refine wpAny_genexprCodeX hcode (cd.code hPs ht) (cd.tab hPs) hf fun c' h3 tk hx hge hlt hco' _ htab' _ => ?_
    obtain ⟨o1, vs, f1, tf, fl, tg', inF, tx, tt, op, _, _, _, _, _, _, _, _, _, htr, _⟩ := hco'
    obtain ⟨H3, a, b, d, e⟩ := cont (.ref c') h3 tk _ (fun b o hb e => hx b o hb e) htab'.2 htr
    exact fin _ _ _ a b d e
  | some cv =>
    refine wpAny_genexprCode_hit hcode (cd.code hPs ht) hf ?_
    obtain ⟨H3, a, b, d, e⟩ := cont cv s2.heap s2.toks #[] (fun _ _ _ e => e) (by simpa using hPs) (by simpa using ht)
    exact fin _ _ _ a b d e
end
end Ev

namespace Ev
open PySem PySem.Spec PyProof.Rows L2 GxR RZ
variable [Tabs]

/-! ## all(.. for .. in ..) on data -/
def allI (own : List Nat) (g : GF) (elt : EF) : List D → En → Sto → R D
  | [], _, st => .ok (.bl true) st
  | d :: r, en, st => match g d st (wipeE en own) with
    | none => .bad
    | some en1 => match elt en1 st with
      | .ok (.bl true) st1 => allI own g elt r en st1
      | .ok (.bl false) st1 => .ok (.bl false) st1
      | _ => .bad
def allF (own : List Nat) (g : GF) (elt : EF) (itf : IF) : EF := fun en st => (itf en st).bind fun it st1 => match it with
  | .items ds => allI own g elt ds en st1
  | .cell _ => .bad
  | .dyn _ _ => .bad
section
variable {X : Cx} {xm : List Addr} {W : WX} {k : Nat} {c P : Addr} {el iter tg : Expr} {scope : Scope} {own : List (Str × Nat)} {p pos gpos : Pos} {f : EF} {gf : GF} {itf : IF}
theorem all_read {K : PySem.W.Frag} {vs : List Nat} (hP : P ∈ Tabs.tb) (σ : L2.St) (H : Hp) (Q : VK) (q : TEf K xm W (allF vs gf f itf) σ H Q) : tAll P (TIf K xm W itf) (TGf K vs gf) (TEf K xm W0 f) vs σ H Q := by
  obtain ⟨z, en, st, rh, re, h⟩ := q
  refine ⟨z, en, st, rh, re, wp_mono (wp_bind.mp h) (fun it st1 q J z1 H1 e1 r1 hJ => ?_) fun _ _ _ q => q⟩
  have re1 := re.ext e1
  have hP1 := r1.tbk P hP
  obtain ⟨tP, nP, fP⟩ := r1.tb P hP1
  refine ⟨tP, fun H2 ⟨tb, same⟩ => ?_⟩
  have e2 : Ext z1 H1 z1 H2 := ⟨⟨fun _ _ w => w, fun a w => ⟨w, same a fun e => fP (e ▸ w)⟩, fun _ _ _ => rfl⟩, fun a _ _ t => same a fun e => t (e ▸ hP1), fun a w => .inl w, fun a w => .inl w, fun a n => by
    by_cases e : a = P
    · rw [e]
      exact TabH.live tb
    · rw [same a e]
      exact n, rfl⟩
  have r2 : RelH K z1 H2 st1 := ⟨r1.len, r1.nd, r1.nfz, fun a w => e2.lv a (r1.fz a w), fun i a c hi hc => (r1.cells i a c hi hc).ext e2 (same a fun e => nP (e ▸ List.mem_of_getElem? hi)), fun P' hP' => ⟨by
    by_cases e : P' = P
    · rw [e]
      exact tb
    · obtain ⟨ps, h1, h2⟩ := (r1.tb P' hP').1
      exact ⟨ps, (same P' e).trans h1, h2⟩, (r1.tb P' hP').2⟩, r1.tbk, r1.knd⟩
  cases it with
  | cell n => exact q.elim
  | dyn _ _ => exact q.elim
  | items ds =>
    have hJ : ItI K z1 H1 ds J := hJ
    refine ⟨fun i m H3 => m = ds.length - i ∧ i ≤ ds.length ∧ ∃ z3 st3, Ext z1 H1 z3 H3 ∧ RelH K z3 H3 st3 ∧ (allI vs gf f (ds.drop i) en st3).wp (okD K z H Q) (exW K xm z H W σ), ⟨ds.length, rfl, Nat.zero_le _, z1, st1, e2, r2, q⟩, ?_⟩
    rintro i m H3 ⟨rfl, hi, z3, st3, e3, r3, w⟩
    obtain ⟨js, jg⟩ := hJ z3 H3 st3 e3.toEx0 r3
    by_cases hlt : i < ds.length
    · have hd : ds[i]? = some ds[i] := List.getElem?_eq_getElem hlt
      obtain ⟨go, yl⟩ := jg i _ hd
      rw [List.drop_eq_getElem_cons hlt] at w
      unfold allI at w
      refine .inr ⟨go, fun H' => ∃ z4 st4, Ext z1 H1 z4 H' ∧ RelH K z4 H' st4 ∧ (allI vs gf f (ds.drop (i + 1)) en st4).wp (okD K z H Q) (exW K xm z H W σ), fun H' q => ⟨ds.length - (i + 1), by omega, rfl, hlt, q⟩, fun x H4 y => ?_⟩
      obtain ⟨z4, e4, r4, p4⟩ := yl x H4 y
      cases wg : gf ds[i] st3 (wipeE en vs) with
      | none =>
        simp only [wg] at w
        exact w.elim
      | some en1 =>
        simp only [wg] at w
        refine ⟨z4, wipeE en vs, st3, ds[i], en1, r4, ((re1.ext e3).ext e4).wipe vs, p4, wg, fun σ2 re2 hw => ⟨hw.trans (wipe_idem _ _), ?_⟩⟩
        cases wf : f en1 st3 with
        | bad =>
          simp only [wf] at w
          exact w.elim
        | ex c p st5 =>
          simp only [wf] at w
          exact w.elim
        | ok y st5 =>
          simp only [wf] at w
          refine seqE' (k := fun y' st' => y' = y ∧ st' = st5) r4 re2 (by rw [wf]; exact ⟨rfl, rfl⟩) fun y' st6 v z5 H5 hb e5 r5 re5 p5 => ?_
          obtain ⟨rfl, rfl⟩ := hb
          have e6 := (e3.trans e4).trans e5
          cases y' with
          | bl b =>
            cases p5
            refine ⟨b, rfl, fun hb => ?_, fun hb => ?_⟩
            · subst hb
              exact okD.ext (Q := Q) (e1.trans e6) w _ z5 H5 .refl r5 (.bl false)
            · subst hb
              exact ⟨z5, st6, e6, r5, w⟩
          | _ => exact w.elim
    · have e : i = ds.length := by omega
      subst e
      rw [List.drop_length] at w
      exact .inl ⟨js _ (Nat.le_refl _), okD.ext (Q := Q) (e1.trans e3) w _ z3 H3 .refl r3 (.bl true)⟩
/-- a def's own code object, its table among those that are tracked -/
structure AtTab (X : Cx) (c P : Addr) : Prop where
  code : X.env.code = .ref c
  tab : TabB X.base X.mg c P
  mem : P ∈ Tabs.tb
theorem sn_all (own : List (Str × Nat)) (T : AtTab X c P) (G : GX X xm W (k + 1)) (hm : X.mg "all" = none) (hi : PI X tg iter (TIf X.K xm W itf)) (ok : GenOk X.N X.env.scope scope own)
    (hpg : ∀ (s : Shared) (H : Hp) (A' : Around) (code : Value) (fp : List Addr), GX (gnx X s H A' (gce X scope s.heap.objs.size code) fp) xm W0 k → PG (gnx X s H A' (gce X scope s.heap.objs.size code) fp) tg (TGf X.K (own.map (·.2)) gf))
    (hel : ∀ (s : Shared) (H : Hp) (A' : Around) (code : Value) (fp : List Addr), GX (gnx X s H A' (gce X scope s.heap.objs.size code) fp) xm W0 k → PE (gnx X s H A' (gce X scope s.heap.objs.size code) fp) el (TEf X.K xm W0 f))
    (hg : Gl X "all" := by rfl) (hs : ∀ v, genFold iter X.env v = pure v := by intro _; rfl) (he : starEach [gxe el tg iter scope gpos] X.env = (false, eval (gxe el tg iter scope gpos) X.env) :: starEach [] X.env := by rfl) :
    PE X (.Call (.Name "all" p) [gxe el tg iter scope gpos] [] pos) (TEf X.K xm W (allF (own.map (·.2)) gf f itf)) :=
  (pe_all G hg hm boot_all T.tab T.code ok hi hpg hel hs he).imp (all_read T.mem)
end
def genC (scope : Scope) : Bool := !scope.isCoroutine && (scope.names.all fun y => decide (y.2 ≠ .cell)) && decide (scope.names.lookup (".0" : Str) = some NameKind.local)
theorem genOk_by {N : List Str} {sc scope : Scope} {own : List (Str × Nat)} (h : blkC N sc scope own = true) (h2 : genC scope = true) : GenOk N sc scope own := by
  unfold genC at h2
  simp only [Bool.and_eq_true, Bool.not_eq_true', List.all_eq_true, decide_eq_true_eq] at h2
  exact { blkOk_by h with co := h2.1.1, nocell := h2.1.2, dot := h2.2 }

/-! ## a def whose code object has a tracked table -/
structure FunT (K : PySem.W.Frag) (x qual : Str) (st : Stmt) (f : Addr) (fd : FuncData) (c : Addr) : Prop where
  ex : ∃ (oc : Value) (od : Option Addr) (kV doc pm : Value) (an : Option Addr) (ct : Value) (osl : Array (Option Value)),
    fd = PySem.W.fnOf x qual (defArgs st) (defBody st) (defScope st) .none kV doc pm an (.ref c) ct ∧ K.lookup f = some ⟨oc, od, .func fd, osl⟩ ∧ PySem.W.codeIn K (.ref c) qual = true
section
variable {P : Program} {w : World} {K : PySem.W.Frag} {mg : Str → Option Value} {base : Heap} {xm : List Addr}
theorem funT_mk {x qual : Str} {st : Stmt} {f c : Addr} {oc : Value} {od an : Option Addr} {osl : Array (Option Value)} {kV doc pm ct : Value} (l : K.lookup f = some ⟨oc, od, .func (PySem.W.fnOf x qual (defArgs st) (defBody st) (defScope st) .none kV doc pm an (.ref c) ct), osl⟩)
    (h : PySem.W.codeIn K (.ref c) qual = true) : FunT K x qual st f (PySem.W.fnOf x qual (defArgs st) (defBody st) (defScope st) .none kV doc pm an (.ref c) ct) c := ⟨oc, od, kV, doc, pm, an, ct, osl, rfl, l, h⟩
theorem FnG.byT (hw : Tabs.wd = some w) {x qual : Str} {st : Stmt} {f c T : Addr} {fd : FuncData} {N ps : List Str} {k n m : Nat} {g : SF} (F : FunT K x qual st f fd c) (TB : TabB base mg c T) (M : T ∈ Tabs.tb) (S : FnScope N ps (defScope st)) (hn : N.length = n) (hm : ps.length = m)
    (hb : ∀ (A : Around) (outer : List Env) (s : Shared) (H : Hp) (E : XK), GX (cxOf (L2.CX P w) P w K mg base N qual (defScope st) f (.ref c) A outer s H E) xm (fun cls d _ H => E cls d H) k → AtTab (cxOf (L2.CX P w) P w K mg base N qual (defScope st) f (.ref c) A outer s H E) c T →
      PSs (cxOf (L2.CX P w) P w K mg base N qual (defScope st) f (.ref c) A outer s H E) (defBody st) (TSf K xm (fun cls d _ H => E cls d H) g)) : FnG P w K mg base (k + 1) f fd ps (spF K xm (fnF n g) m) := by
  subst hn hm
  obtain ⟨oc, od, kV, doc, pm, an, ct, osl, efd, lk, hcd⟩ := F.ex
  refine FnG.bodyC efd lk hcd S (fun vs H Q E ⟨z, ds, st, _, rs, hl, _⟩ => rs.length.trans hl) fun A outer s H vs Q E room gd h => ?_
  obtain ⟨z, ds, sto, rh, rs, hl, h⟩ := h
  refine ⟨_, hb A outer s H E ⟨takes_of rfl rfl rfl rfl, passes_of rfl, room, gd, S.nd, rfl, hw⟩ ⟨rfl, TB, M⟩, z, _, sto, rh, relE_start N rfl rs, ?_⟩
  unfold fnF at h
  generalize g (ds.map some ++ List.replicate (N.length - ds.length) none) sto = r at h ⊢
  cases r with
  | nx en st' => exact fun σ' z' H' e r' _ => h _ z' H' e r' .non
  | rt d st' => exact h
  | ex c p en st' => exact fun cls dd σ' z' H' e r' _ x => h cls dd z' H' e r' x
  | bk en st' => exact h.elim
  | ct en st' => exact h.elim
  | bad => exact h.elim
end
end Ev
namespace Ev
open PySem PySem.Spec PyProof.Rows L2 GxR RZ
/-! ## the law's head, with tables -/
abbrev emptyT : Obj := { cls := .none, data := .fields #[] }
section
variable {P : Program} {w : World} {K : PySem.W.Frag} {mg mb : Str → Option Value} {xm : List Addr} {k : Nat} {fa a : Addr} {fd : FuncData} {x : Str} {F : List D → Sto → R D} {s1 : Shared} {vs : List Value} {ns : List Int} {cs : List (Addr × Addr)}
/-- what is spoken of: the tables, and the script where no text names it -/
def headH (T : List Addr) (K : PySem.W.Frag) (a : Addr) (o : Obj) (u : HO) : Hp := fun b => if b ∈ T then some (.tbl #[]) else if b = a ∧ K.lookup a = none then some (.frz o u) else none
theorem head_callT (KX : K.In s1.heap) (hns : s1.heap.Ns mainGlobals mg) (hb : s1.heap.Ns builtinsNs mb) (hbb : ∀ x : Str, x ≠ "__name__" → mb x = bootBuiltins x) (hlim : s1.heap.NoLimit) (hg : s1.gens = #[])
    (hT : ∀ p ∈ cs, PySem.W.CodeHd s1.heap p.1 p.2 ∧ s1.heap.get? p.2 = some emptyT) (nT : ∀ p ∈ cs, K.lookup p.2 = none)
    (hbm : ∃ (bm : Addr) (ob : Obj), mg "__builtins__" = some (.ref bm) ∧ bm ≠ builtinsNs ∧ s1.heap.get? bm = some ob ∧ ob.cls = .type "module" ∧ ob.dict = some builtinsNs ∧ ob.data = .plain)
    (ha : s1.heap.get? a = some { cls := .type "list", data := .seq vs.toArray }) (hi : IntsAre vs ns) (hl : ns.length ≤ sizeLine) (hr : Room k callerA)
    (Fn : ∀ base : Heap, K.In base → base.Ns mainGlobals mg → (∀ p ∈ cs, TabB base mg p.1 p.2) → FnG P w K mg base k fa fd [x] (@spF ⟨cs.map (·.2), some w⟩ K xm F 1)) (hbind : ∀ (s : Shared) (u : Value), BindsTo s fd ⟨[u], []⟩ [(x, u)])
    (hF : ∃ st, F [.fro (ns.map .int)] [] = .ok (.bl true) st) :
    codeAny (model P w) callerA (.call (.ref fa) ⟨[.ref a], []⟩) (fun r s' => r = .ok (.ret (.bool true)) ∧ OldK s1.heap s'.heap ∧ s'.os = s1.os ∧ AllBare s'.gens) s1 := by
  have rv := vals_ints hi
  have lenV := hi.length
  obtain ⟨stF, hF⟩ := hF
  have isT : ∀ b ∈ cs.map (·.2), s1.heap.get? b = some emptyT := fun b hb => by
    obtain ⟨p, hp, rfl⟩ := List.mem_map.mp hb
    exact (hT p hp).2
  have aT : a ∉ cs.map (·.2) := fun q => by
    have e := isT a q
    rw [ha] at e
    exact absurd (congrArg Obj.cls (Option.some.inj e)) (fun z => by cases z)
  generalize hH : headH (cs.map (·.2)) K a { cls := .type "list", data := .seq vs.toArray } (.lst (ns.map V.int)) = H
  have HT : ∀ b ∈ cs.map (·.2), H b = some (.tbl #[]) := fun b hb => by
    rw [← hH]
    exact if_pos hb
  have HA : K.lookup a = none → H a = some (.frz { cls := .type "list", data := .seq vs.toArray } (.lst (ns.map V.int))) := fun hk => by
    rw [← hH]
    exact (if_neg aT).trans (if_pos ⟨rfl, hk⟩)
  have HN : ∀ b, b ∉ cs.map (·.2) → (b = a → K.lookup a ≠ none) → H b = none := fun b n1 n2 => by
    rw [← hH]
    exact (if_neg n1).trans (if_neg fun q => n2 q.1 q.2)
  have any : ∀ b u, H b = some u → (b ∈ cs.map (·.2) ∧ u = .tbl #[]) ∨ (b = a ∧ K.lookup a = none ∧ u = .frz { cls := .type "list", data := .seq vs.toArray } (.lst (ns.map V.int))) := fun b u e => by
    by_cases h1 : b ∈ cs.map (·.2)
    · rw [HT b h1] at e
      exact .inl ⟨h1, (Option.some.inj e).symm⟩
    · by_cases h2 : b = a ∧ K.lookup a = none
      · rw [h2.1, HA h2.2] at e
        exact .inr ⟨h2.1, h2.2, (Option.some.inj e).symm⟩
      · rw [HN b h1 fun q r => h2 ⟨q, r⟩] at e
        cases e
  have hok : HOk P w H s1.heap := fun b u e => by
    rcases any b u e with ⟨h1, rfl⟩ | ⟨rfl, _, rfl⟩
    · exact isT b h1
    · exact ⟨ha, by rw [List.length_map]; exact hl, vs, _, rv, ha⟩
  have other : ∀ {b : Addr} {o : Obj}, s1.heap.get? b = some o → o.cls ≠ .none → (∀ us n, o.data ≠ .seq us n) → H b = none := fun {b o} e h1 h2 => HN b (fun q => by
    rw [isT b q] at e
    cases e
    exact h1 rfl) fun q => by
    rw [q, ha] at e
    cases e
    exact (h2 _ _ rfl).elim
  have dictN : ∀ {b : Addr} {o : Obj} {es : Array DictEntry} {ep : Nat}, s1.heap.get? b = some o → o.data = .dict es ep → H b = none := fun {b o es ep} e d => HN b (fun q => by
    rw [isT b q] at e
    cases e
    cases d) fun q => by
    rw [q, ha] at e
    cases e
    have d' : Data.seq vs.toArray _ = Data.dict es ep := d
    cases d'
  have nsB : ∀ {b : Addr} {m : Str → Option Value}, s1.heap.Ns b m → (hidT s1.heap H).Ns b m := fun {b m} ⟨o, es, ep, e, d, r⟩ => ⟨o, es, ep, hidT_get e (dictN e d), d, r⟩
  have kb : K.In (hidT s1.heap H) := fun b o e => hidT_get (KX b o e) (HN b (fun q => by
    obtain ⟨p, hp, rfl⟩ := List.mem_map.mp q
    rw [nT p hp] at e
    cases e) fun q r => by
    rw [q, r] at e
    cases e)
  have md : Mod K mg (hidT s1.heap H) := ⟨kb, nsB hns, ⟨mb, nsB hb, hbb⟩, let ⟨mc, h1, h2⟩ := hlim; ⟨mc, nsB h1, h2⟩⟩
  have tabs : ∀ p ∈ cs, TabB (hidT s1.heap H) mg p.1 p.2 := fun p hp => by
    obtain ⟨ch, hP⟩ := hT p hp
    obtain ⟨bm, ob, b1, b2, b3, b4, b5, b6⟩ := hbm
    refine ⟨?_, ⟨bm, ob, b1, b2, fun q => ?_, fun q => ?_, hidT_get b3 (other b3 (by rw [b4]; nofun) (by rw [b6]; nofun)), b4, b5, b6⟩, fun q => ?_⟩
    · obtain ⟨o, us, file, tf, flags, tg, inF, text, tt, c1, c2, c3, rest⟩ := ch
      exact ⟨o, us, file, tf, flags, tg, inF, text, tt, hidT_get c1 (other c1 (by rw [c2]; nofun) (by rw [c3]; nofun)), c2, c3, rest⟩
    · obtain ⟨o, es, ep, e, d, _⟩ := hns
      rw [q, e] at b3
      cases b3
      rw [d] at b6
      cases b6
    · rw [q, hP] at b3
      cases b3
      cases b6
    · obtain ⟨o, es, ep, e, d, _⟩ := hns
      rw [q, hP] at e
      cases e
      cases d
  have e0 : Env0 P w K mg (hidT s1.heap H) callerA [] s1 H := ⟨rfl, md, fun b o e => of_hidT e, Nat.le_of_eq (hidT_size _ _), trivial, fun b hb => (nomatch (show b ∈ ([] : List Addr) from hb)), hok, .of_eq hg⟩
  have lst : LstZ K ⟨[], fun b => b = a ∧ K.lookup a = none, cs.map (·.2), fun _ => false⟩ H a (ns.map V.int) := by
    cases hk : K.lookup a with
    | some o =>
      have e := KX a o hk
      rw [ha] at e
      cases e
      exact .inr ⟨_, vs.toArray, _, hk, rfl, rfl, rfl, by rw [List.size_toArray, lenV]; exact hl, by simpa using rv⟩
    | none => exact .inl ⟨⟨rfl, rfl⟩, .inr ⟨_, HA hk⟩⟩
  have pr : @spF ⟨cs.map (·.2), some w⟩ K xm F 1 [.ref a] H (fun v _ => v = .bl true) (fun _ _ _ => False) := by
    letI : Tabs := ⟨cs.map (·.2), some w⟩
    refine ⟨⟨[], fun b => b = a ∧ K.lookup a = none, cs.map (·.2), fun _ => false⟩, [.fro (ns.map .int)], [], ⟨rfl, List.nodup_nil, fun b q => (nomatch q), fun b q => ?_, fun i b c q => absurd q (by simp), fun T q => ⟨⟨#[], HT T q, trivial⟩, by simp, fun z => aT (z.1 ▸ q)⟩, fun T q => q, fun i c q => absurd q (by simp)⟩, .cons (.fro lst (reps_ints ns)) .nil, rfl, ?_⟩
    · rw [q.1, HA q.2]
      simp
    · rw [hF]
      intro v z' H' _ _ p
      cases p
      rfl
  refine codeAny_mono ((Fn _ kb (nsB hns) tabs).run callerA [] s1 H ⟨[.ref a], []⟩ [.ref a] [.ref a] _ _ hr rfl e0 (hbind s1 (.ref a)) (.cons rfl .nil) pr) fun r s' h => ?_
  match r, h with
  | .error er, h =>
    obtain ⟨_, _, _, _, _, _, _, _, _, _, _, _, q⟩ := h
    exact q.elim
  | .ok (.ret u), ⟨v, H', os, bare, un, hok', r', q⟩ =>
    have q' : v = .bl true := q
    subst q'
    obtain rfl : u = Value.bool true := r'
    have stay : ∀ b o, b ∉ cs.map (·.2) → s1.heap.get? b = some o → s'.heap.get? b = some o := fun b o n e => by
      cases q : H b with
      | none => exact un.keep b o e q (fun z => (nomatch (show b ∈ ([] : List Addr) from z))) (by simp)
      | some u =>
        rcases any b u q with ⟨h1, _⟩ | ⟨rfl, _, rfl⟩
        · exact (n h1).elim
        · obtain ⟨e1, _⟩ := hok b _ q
          obtain ⟨e2, _⟩ := hok' b _ (un.frzs b _ _ q)
          rw [e] at e1
          cases e1
          exact e2
    have more : ∀ b ∈ cs.map (·.2), isCodeTable s1.heap b ∧ ∃ ps : Array Value, s'.heap.get? b = some { cls := .none, data := .fields ps } := fun b hb => by
      obtain ⟨p, hp, rfl⟩ := List.mem_map.mp hb
      obtain ⟨ps, z⟩ := un.tbls p.2 #[] (HT p.2 hb)
      exact ⟨((hT p hp).1.tab (hT p hp).2).isCodeTable, _, hok' p.2 _ z⟩
    refine ⟨rfl, ⟨fun b o e => ?_, fun b o e => ?_⟩, os, bare⟩
    · by_cases h1 : b ∈ cs.map (·.2)
      · obtain ⟨it, ps, z⟩ := more b h1
        rw [isT b h1] at e
        cases e
        exact .inr (.inl ⟨it, rfl, #[], ps, rfl, by rw [Array.empty_append]; exact z⟩)
      · exact .inl (stay b o h1 e)
    · by_cases h1 : b ∈ cs.map (·.2)
      · obtain ⟨_, ps, z⟩ := more b h1
        exact ⟨_, z⟩
      · exact ⟨o, stay b o h1 e⟩
end
theorem noTab_at {K : PySem.W.Frag} {h : Heap} {T : Addr} (X : K.In h) (hK : PySem.W.noTabs K = true) (e : h.get? T = some emptyT) : K.lookup T = none := by
  cases q : K.lookup T with
  | none => rfl
  | some o =>
    have e1 := X T o q
    rw [e] at e1
    cases e1
    have z := List.all_eq_true.mp hK (T, emptyT) (PySem.W.mem_of_lookupK q)
    cases z
/-- the goal behind k_head; the names: of the defs whose tables grow -/
theorem walkG {l : PySem.W.OpenLaw} {k : Nat} {q : Program} {loose : List Str} {XP : (Str → Option Value) → Heap → Prop} {YP : World → Heap → Prop} {d : DefRec} {K : Params → PySem.W.Frag} {x : Str} {F : List D → Sto → R D} (names : List Str)
    (hq : (names.all fun y => ((recsOf q).find? fun e => e.name == y).isSome) = true) (hK : ∀ P, PySem.W.noTabs (K P) = true)
    (hn : l.most = some 63) (hdf : d.params.defaults = []) (hr : Room k callerA) (hY : ∀ (w : World) (h : Heap), YP w h → (K w.params).In h)
    (Fn : ∀ (w : World) (mg : Str → Option Value) (fa : Addr) (h : Heap), (K w.params).In h → h.Ns mainGlobals mg → mg d.name = some (.ref fa) →
      ∃ (cs : List (Addr × Addr)) (fd : FuncData) (xm : List Addr), (∀ p ∈ cs, ∃ y ∈ names, PySem.W.tabIn (K w.params) y = some p) ∧ (∀ (s : Shared) (u : Value), BindsTo s fd ⟨[u], []⟩ [(x, u)]) ∧
        ∀ base : Heap, (K w.params).In base → base.Ns mainGlobals mg → (∀ p ∈ cs, TabB base mg p.1 p.2) → FnG l.prog w (K w.params) mg base k fa fd [x] (@spF ⟨cs.map (·.2), some w⟩ (K w.params) xm F 1))
    (hF : ∀ ns : List Int, ns.length ≤ 63 → ∃ st, F [.fro (ns.map .int)] [] = .ok (.bl true) st) : PySem.W.WalkO q loose XP YP l.row.toRowW d [] (fun f vs => PySem.call f vs) := by
  refine Att.attach_call hn hdf fun w s0 s1 mg mb fa o pm cd doc a vs ns G Y ho hd hcd hmg hobj hints hlen hg => ?_
  have KX := hY w _ Y
  obtain ⟨cs, fd, xm, ht, hb, hf⟩ := Fn w mg fa _ KX G.T.g hmg
  have tabs : ∀ p ∈ cs, PySem.W.CodeHd s1.heap p.1 p.2 ∧ s1.heap.get? p.2 = some emptyT := fun p hp => by
    obtain ⟨y, hy, e⟩ := ht p hp
    have z := List.all_eq_true.mp hq y hy
    obtain ⟨d', hd'⟩ := Option.isSome_iff_exists.mp z
    exact PySem.W.tab_of G.T KX hd' e
  exact head_callT KX G.T.g G.T.b G.T.builtins G.T.nolimit hg tabs (fun p hp => noTab_at KX (hK _) (tabs p hp).2) G.T.bmain hobj hints (Nat.le_trans hlen (by decide)) hr hf hb (hF ns hlen)
end Ev

/-! sorted(set(a list of ints)) -/
namespace Ev
open PySem PySem.Spec PyProof.Rows L2 RZ

abbrev setO0 (w : World) : Obj := { cls := .type "set", dict := none, data := .set #[] 0 (.fresh 0 0 (!w.params.followText "set-order")) }
theorem bt_set : bootBuiltins "set" = some (.type "set") := by decide +kernel
section
variable {P : Program} {w : World} {A : Around} {E : Value → Shared → Prop} {s : Shared}
set_option maxHeartbeats 8000000 in
theorem set_of_list {l : Addr} {xs : Array Value} (is : List Int) {Q : Value → Shared → Prop} (hA : A.handled = none) (lst : s.heap.IsList l xs) (iv : IntsAre xs.toList is) (few : is.length + 1 < scanBound)
    (fin : ∀ (h2 : Heap) (k c : Nat), SetR w h2 s.heap.objs.size (fun j => decide (j ∈ is)) c → c ≤ is.length → (∀ b o, s.heap.get? b = some o → h2.get? b = some o) → Q (.ref s.heap.objs.size) { s with heap := h2, toks := k }) :
    wpAny (model P w) A (call (.type "set") [.ref l]) Q E s := by
  have many : xs.size = is.length := (Array.length_toList ..).symm.trans iv.length
  obtain ⟨cc, rest, mro⟩ := F.called_set.mro; have mk := F.called_set.made; have sb := F.called_set.sub
  refine wpAny_call (codeAny_of_tree (show wpAny _ _ (callAny (.type "set") _) _ _ _ from wpAny_pure ⟨Code.quiet_builtin _ (by decide +kernel), codeAny_builtin F.entry_type_call ?_⟩))
  rw [Around.under_plain (weight_type_call_type "set" [Value.ref l] []) rfl]; have k1 := F.called_set.notType; have k2 := F.called_set.canCreate; have k3 := F.typeCall_set_1 (.ref l)
  (repeat (any_goals (first | assumption | wp_step)))
  refine codeAny_mono (code_set_led1 (.ref l) (E := E) (Q₁ := fun o t => o = .ref s.heap.objs.size ∧ t = { s with heap := s.heap.push (setO0 w) }) ⟨rfl, rfl⟩) fun r t hr => ?_
  rcases r with er | fl
  · exact hr
  rcases fl with _ | _ | _ | ob; all_goals first | exact hr.elim | skip
  · obtain ⟨q1, q2⟩ := hr; subst q1; subst q2
    have new : (s.heap.push (setO0 w)).get? s.heap.objs.size = some (setO0 w) := Heap.get?_push_size _ rfl
    have ty : Shared.TypeIs { s with heap := s.heap.push (setO0 w) } (.ref s.heap.objs.size) "set" := ⟨_, new, rfl⟩
    have k4 := F.called_set.init.lookup; have k5 := F.called_set.init.bind (.ref s.heap.objs.size)
    (repeat (any_goals (first | assumption | wp_step)))
    refine codeAny_mono (codeAny_call_builtin (R := wants (fun u t => u = .none ∧ ∃ h2 k c, t = { s with heap := h2, toks := k } ∧ SetR w h2 s.heap.objs.size (fun j => decide (j ∈ is)) c ∧ c ≤ is.length ∧
      ∀ b o, s.heap.get? b = some o → h2.get? b = some o) E) F.called_set.init.plain F.entry_set_init (check_set_init_1 ty ?_)) fun u t hu => ?_
    · obtain ⟨⟨oc, od, odat, osl⟩, ho, hc, nl, hd⟩ := lst; simp only at hc hd; subst hc hd
      have ho2 : (s.heap.push (setO0 w)).get? l = some { cls := .type "list", dict := od, data := .seq xs nl, slots := osl } := Heap.get?_push_of_some _ ho
      have k6 := F.sub_list_set; have k7 := F.sub_list_frozenset; have k8 : (Value.type "list" == Value.type "dict") = false := by decide
      have lst2 : (s.heap.push (setO0 w)).IsList l xs := ⟨_, ho2, rfl, nl, rfl⟩
      unfold Builtin.«set.__init__» noKeywords Builtin.Frozenset.updateFrom; generalize hPI : pyIter = PI; wp_walk; subst hPI
      refine wpAny_pyIter_list lst2 (wpAny_bind (wpAny_runValue ?_))
      have low : l < s.heap.objs.size := Heap.lt_size ho
      have n1 : l ≠ (s.heap.push (setO0 w)).objs.size := by rw [Heap.size_push]; exact Nat.ne_of_lt (Nat.lt_succ_of_lt low)
      have n2 : s.heap.objs.size ∉ [(s.heap.push (setO0 w)).objs.size, l] := by
        rw [Heap.size_push]; intro z; rcases List.mem_cons.mp z with z | z
        · exact absurd z (Nat.ne_of_lt (Nat.lt_succ_self _))
        · exact absurd (List.mem_singleton.mp z) (Nat.ne_of_gt low)
      have vals : ∀ (i : Nat) (v : Value), xs[i]? = some v → ∃ k t, is[i]? = some k ∧ v = .int k t := fun i v hv => by
        have hi : i < is.length := by rw [← many]; exact (Array.getElem?_eq_some_iff.mp hv).1
        obtain ⟨t, e⟩ := IntsAre.int_at iv i v (by rw [Array.getElem?_toList]; exact hv)
        exact ⟨is[i], t, List.getElem?_eq_getElem hi, by rw [e, List.getD_eq_getElem?_getD, List.getElem?_eq_getElem hi]; rfl⟩
      refine set_update_ints ((Walks.list (show A.in1.in1.in1.handled = none from hA) _ l n1 xs).toS) s.heap.objs.size n2 is many few vals (xs.size - 0) 0 _ (by omega) (Nat.zero_le _) ⟨⟨_, Heap.get?_push_size _ rfl, rfl, rfl⟩, lst2.push _⟩ ?start ?after
      case start => exact ⟨0, Nat.le_refl 0, setR_new_at (Heap.get?_push_of_some _ new)⟩
      case after =>
        rintro ⟨h2, g2, d2, k2, os2⟩ c mv hc R
        have e1 : g2 = s.gens := mv.gens
        have e2 : d2 = s.drawn := mv.drawn
        have e3 : os2 = s.os := mv.os
        subst e1 e2 e3
        refine (show wpAny _ _ _ _ _ _ from wpAny_pure (show wpAny _ _ (ret Value.none) _ _ _ from wpAny_pure ⟨rfl, h2, k2, c, rfl, R, many ▸ hc, fun b o e => ?_⟩))
        have lt := Heap.lt_size e
        refine mv.heap b o (fun z => ?_) (Heap.get?_push_of_some _ (Heap.get?_push_of_some _ e))
        rcases List.mem_cons.mp z with z | z
        · exact absurd z (Nat.ne_of_lt lt)
        · have z := List.mem_singleton.mp z
          rw [Heap.size_push] at z
          exact absurd z (Nat.ne_of_lt (Nat.lt_succ_of_lt lt))
    · rcases u with er | fl
      · exact hu
      rcases fl with _ | _ | _ | ob; all_goals first | exact hu.elim | skip
      · obtain ⟨q1, h2, k, c, q2, R, hc, kp⟩ := hu; subst q1; subst q2
        (repeat (any_goals (first | assumption | wp_step)))
        exact fin _ _ _ R hc kp
end
end Ev

namespace Ev
open PySem PySem.Spec PyProof.Rows L2 RZ
/-- sorted and each once -/
def putI (x : Int) : List Int → List Int
  | [] => [x]
  | y :: r => if x < y then x :: y :: r else if x = y then y :: r else y :: putI x r
def setI : List Int → List Int
  | [] => []
  | x :: r => putI x (setI r)
theorem putI_mem {x k : Int} : ∀ {l : List Int}, k ∈ putI x l ↔ k = x ∨ k ∈ l
  | [] => by simp [putI]
  | y :: r => by
    unfold putI
    split
    · simp
    · split
      · rename_i h
        subst h
        simp
      · rw [List.mem_cons, putI_mem (l := r), List.mem_cons]
        constructor
        · rintro (h | h | h)
          · exact .inr (.inl h)
          · exact .inl h
          · exact .inr (.inr h)
        · rintro (h | h | h)
          · exact .inr (.inl h)
          · exact .inl h
          · exact .inr (.inr h)
theorem setI_mem {k : Int} : ∀ {l : List Int}, k ∈ setI l ↔ k ∈ l
  | [] => Iff.rfl
  | x :: r => by
    show k ∈ putI x (setI r) ↔ _
    rw [putI_mem, setI_mem (l := r), List.mem_cons]
theorem putI_lt {x : Int} : ∀ {l : List Int}, l.Pairwise (· < ·) → (putI x l).Pairwise (· < ·)
  | [], _ => by simp [putI]
  | y :: r, h => by
    have hy := List.pairwise_cons.mp h
    unfold putI
    split
    · rename_i l
      refine List.pairwise_cons.mpr ⟨fun a ha => ?_, h⟩
      rcases List.mem_cons.mp ha with rfl | ha
      · exact l
      · exact Int.lt_trans l (hy.1 a ha)
    · split
      · exact h
      · refine List.pairwise_cons.mpr ⟨fun a ha => ?_, putI_lt hy.2⟩
        rcases putI_mem.mp ha with rfl | ha
        · omega
        · exact hy.1 a ha
theorem setI_lt : ∀ {l : List Int}, (setI l).Pairwise (· < ·)
  | [] => .nil
  | _ :: r => putI_lt (setI_lt (l := r))
theorem lt_one : ∀ {l m : List Int}, l.Pairwise (· < ·) → m.Pairwise (· < ·) → (∀ k, k ∈ l ↔ k ∈ m) → l = m
  | [], [], _, _, _ => rfl
  | [], y :: m, _, _, h => absurd ((h y).mpr List.mem_cons_self) (by simp)
  | x :: l, [], _, _, h => absurd ((h x).mp List.mem_cons_self) (by simp)
  | x :: l, y :: m, hl, hm, h => by
    have h1 := List.pairwise_cons.mp hl
    have h2 := List.pairwise_cons.mp hm
    have e : x = y := by
      rcases List.mem_cons.mp ((h x).mp List.mem_cons_self) with q | q
      · exact q
      · rcases List.mem_cons.mp ((h y).mpr List.mem_cons_self) with p | p
        · exact p.symm
        · have a := h2.1 x q
          have b := h1.1 y p
          omega
    subst e
    rw [lt_one h1.2 h2.2 fun k => ?_]
    constructor
    · intro q
      rcases List.mem_cons.mp ((h k).mp (List.mem_cons_of_mem _ q)) with e | e
      · have := h1.1 k q
        omega
      · exact e
    · intro q
      rcases List.mem_cons.mp ((h k).mpr (List.mem_cons_of_mem _ q)) with e | e
      · have := h2.1 k q
        omega
      · exact e
def sortSL : OL := fun ds st => match ds with
  | [d] => (asLF d st).bind fun es => (intsO es).bind fun is => if is.length < 60 then some (.lst ((setI is).map .int), st) else none
  | _ => none
def sortSC : OL := fun ds st => match ds with
  | [d] => (asLF d st).bind fun es => (intsO es).bind fun is => if is.length < 60 then some (.ref st.length, st ++ [.lst ((setI is).map .int)]) else none
  | _ => none
variable [Tabs]
section
variable {X : Cx} {xm : List Addr} {W : WX} {k : Nat} {e : Expr} {es : List Expr} {fs : AF} {p p2 pos q2 : Pos}
def rSetL (w : World) (K : PySem.W.Frag) : List V → Hp → VK → Prop := fun vs H Q => ∃ (l : Addr) (is : List Int), vs = [V.ref l] ∧ SqL K H l (is.map V.int) ∧ is.length + 1 < scanBound ∧ ∀ p c, H p = none → c ≤ is.length → Q (.ref p) (upd H p (SetO w p (fun j => decide (j ∈ is)) c))
theorem cr_setL (hc : X.calm = true) : CallR X (.type "set") (rSetL X.w X.K) := by
  intro pins s σ H vs us Q I r h
  obtain ⟨l, is, rfl, hq, few, q⟩ := h
  rw [Vals.ref1 r]
  obtain ⟨its, rv, hp, hz⟩ := I.list hq
  refine set_of_list is (I.ok.hd hc) hp.isList (by simpa using Vals.ints rv) few fun h2 k c R hcl kp => ?_
  exact ⟨.ref _, upd H s.heap.objs.size (SetO X.w s.heap.objs.size (fun j => decide (j ∈ is)) c), I.laid (t' := k) kp (Nat.le_refl _) (setO_new R), rfl, q _ c (I.hok.fresh (Nat.le_refl _)) hcl⟩
theorem set_read {op : OL} (hop : ∀ ds st d st', op ds st = some (d, st') → ∃ d0 es is, ds = [d0] ∧ asLF d0 st = some es ∧ intsO es = some is ∧ is.length < 60 ∧
      ∀ {K : PySem.W.Frag} {z : Z} {H : Hp} {Q : VK}, okD K z H Q d st' → RelH K z H st → ∀ p, H p = none → Q (.ref p) (upd H p (.lst ((setI is).map V.int)))) {w : World} {K : PySem.W.Frag} (σ : L2.St) (H : Hp) (Q : VK) (q : TEf K xm W (opLF op fs) σ H Q) :
    tCB (rSortedSet w) (tCons (tCB (rSetL w K) (TAf K xm W fs)) tNil) σ H Q := by
  obtain ⟨z, en, st, rh, re, h⟩ := q
  refine seqA' rh re (wp_bind.mp h) fun ds st1 vs z1 H1 q1 e1 r1 re1 p1 => ?_
  obtain ⟨d, st3, e3, q3⟩ := wp_ofO q1
  obtain ⟨d0, es, is, rfl, h1, h2, few, fin⟩ := hop _ _ _ _ e3
  cases p1 with
  | cons pv t =>
    cases t
    obtain ⟨a, xs, rfl, sq, rs⟩ := asLF_at r1 pv h1
    have ex := ints_at rs h2
    subst ex
    refine ⟨a, is, rfl, sq, by unfold scanBound; omega, fun p c np hc => ⟨p, _, c, rfl, upd_same, by omega, fun ns p2 hlt hm hn np2 => ?_⟩⟩
    have en : ns = setI is := lt_one hlt setI_lt fun j => by
      rw [hm j, setI_mem]
      simp
    subst en
    have e2 := ext_by (o := SetO w p (fun j => decide (j ∈ is)) c) r1 np
    exact fin (q3.ext (e1.trans e2)) (r1.off (fun w => r1.fz p w np) (r1.nin np) fun w => (r1.tb p w).1.live np) p2 np2
theorem sn_sortset {op : OL} (hop : ∀ ds st d st', op ds st = some (d, st') → ∃ d0 es is, ds = [d0] ∧ asLF d0 st = some es ∧ intsO es = some is ∧ is.length < 60 ∧
      ∀ {K : PySem.W.Frag} {z : Z} {H : Hp} {Q : VK}, okD K z H Q d st' → RelH K z H st → ∀ p, H p = none → Q (.ref p) (upd H p (.lst ((setI is).map V.int)))) (G : GX X xm W k)
    (hm : X.mg "sorted" = none) (hm2 : X.mg "set" = none) (ha : PA X [e] (TAf X.K xm W fs)) (hg : Gl X "sorted" := by rfl) (hg2 : Gl X "set" := by rfl)
    (he : starEach [.Call (.Name "set" p2) [e] [] q2] X.env = (false, eval (.Call (.Name "set" p2) [e] [] q2) X.env) :: starEach [] X.env := by rfl) (he2 : starEach [e] X.env = (false, eval e X.env) :: starEach [] X.env := by rfl) :
    PE X (.Call (.Name "sorted" p) [.Call (.Name "set" p2) [e] [] q2] [] pos) (TEf X.K xm W (opLF op fs)) :=
  (pe_callB (cr_sortedSet G.cm) hg hm bt_sorted (pa_cons (pe_callTy (cr_setL G.cm) hg2 hm2 bt_set ha (by decide) (by decide) he2 (by rfl)) pa_nil he) (by decide) (by decide) he (by rfl)).imp (set_read hop)
theorem sortSL_ok : ∀ ds st d st', sortSL ds st = some (d, st') → ∃ d0 es is, ds = [d0] ∧ asLF d0 st = some es ∧ intsO es = some is ∧ is.length < 60 ∧
      ∀ {K : PySem.W.Frag} {z : Z} {H : Hp} {Q : VK}, okD K z H Q d st' → RelH K z H st → ∀ p, H p = none → Q (.ref p) (upd H p (.lst ((setI is).map V.int))) := by
  intro ds st d st' h
  match ds, h with
  | [d0], h =>
    obtain ⟨es, h1, h⟩ := Option.bind_eq_some_iff.mp (show (asLF d0 st).bind (fun es => (intsO es).bind fun is => if is.length < 60 then some (D.lst ((setI is).map .int), st) else none) = some (d, st') from h)
    obtain ⟨is, h2, h⟩ := Option.bind_eq_some_iff.mp h
    by_cases few : is.length < 60
    · rw [if_pos few] at h
      cases h
      exact ⟨d0, es, is, rfl, h1, h2, few, fun ok r p n => okD.newF ok r (reps_ints _) n⟩
    · rw [if_neg few] at h
      cases h
theorem sortSC_ok : ∀ ds st d st', sortSC ds st = some (d, st') → ∃ d0 es is, ds = [d0] ∧ asLF d0 st = some es ∧ intsO es = some is ∧ is.length < 60 ∧
      ∀ {K : PySem.W.Frag} {z : Z} {H : Hp} {Q : VK}, okD K z H Q d st' → RelH K z H st → ∀ p, H p = none → Q (.ref p) (upd H p (.lst ((setI is).map V.int))) := by
  intro ds st d st' h
  match ds, h with
  | [d0], h =>
    obtain ⟨es, h1, h⟩ := Option.bind_eq_some_iff.mp (show (asLF d0 st).bind (fun es => (intsO es).bind fun is => if is.length < 60 then some (D.ref st.length, st ++ [.lst ((setI is).map .int)]) else none) = some (d, st') from h)
    obtain ⟨is, h2, h⟩ := Option.bind_eq_some_iff.mp h
    by_cases few : is.length < 60
    · rw [if_pos few] at h
      cases h
      exact ⟨d0, es, is, rfl, h1, h2, few, fun ok r p n => okD.newC ok r (reps_ints _) n⟩
    · rw [if_neg few] at h
      cases h
end
end Ev

/-! sets of ints: a display of one, add, not in, sorted -/
namespace Ev
open PySem PySem.Spec PyProof.Rows L2 RZ
variable [Tabs]
section
variable {X : Cx} {xm : List Addr} {W : WX} {k : Nat} {e : Expr} {es : List Expr} {f g : EF} {fs : AF} {te : TE} {p p2 pos apos q2 : Pos}
def tSet1 (w : World) (te : TE) : TE := fun σ H Q => te σ H fun x H1 => ∃ j, x = .int j ∧ ∀ p, H1 p = none → Q (.ref p) (upd H1 p (SetO w p (fun i => decide (i ∈ [j])) 1))
theorem pe_set1 (he : PE X e te) (hc : PySem.W.kdsCode X.K X.env.code = true) (hs : starEach [e] X.env = [(false, eval e X.env)] := by rfl) : PE X (.Set [e] 0 pos) (tSet1 X.w te) := by
  refine ⟨fun pins s σ H Q I h => ?_⟩
  rw [arm_eval_Set, hs]
  refine wpAny_bind (wpAny_standAt (wpAny_bind (PySem.W.kds_main I.kIn hc fun b => ?_)))
  unfold setDisplay newSet setsByText
  rw [if_neg (show ¬ ((displayRoad 0 [e] == DisplayRoad.constants) = true) from fun z => by cases z)]
  refine wpAny_bind (wpAny_bind (wpAny_bind (wpAny_askSetting (wpAny_pure ?_))))
  simp only [newObj]
  refine wpAny_bind (wpAny_alloc (wpAny_pure ?_))
  dsimp only
  refine wpAny_bind (wpAny_holding ?_)
  have hn : H s.heap.objs.size = none := I.hok.fresh (Nat.le_refl _)
  have fp : FpOk X pins H s.heap.objs.size := I.fpOk (Nat.le_refl _) hn
  have new : (s.heap.push (setO0 X.w)).get? s.heap.objs.size = some (setO0 X.w) := Heap.get?_push_size _ rfl
  have I1 : Inv X pins σ H { s with heap := s.heap.push (setO0 X.w) } := I.kept (t' := s.toks) fun b o q => Heap.get?_push_of_some _ q
  have I2 : Inv X (pins ++ [(s.heap.objs.size, setO0 X.w)]) σ H { s with heap := s.heap.push (setO0 X.w) } := I1.pins_of fun q hq => (List.mem_append.mp hq).elim (fun z => I1.pin q (List.mem_append_right _ z)) fun z => by
    rw [List.mem_singleton.mp z]
    exact ⟨new, hn, fp.2.1, fp.2.2.1, fun v z => by cases z⟩
  have few : (if ([(false, eval e X.env)].map fun (star, t) => (star, do let v ← t; standAt pos; pure v)).length > 30 then 0 else (([(false, eval e X.env)].map fun (star, t) => (star, do let v ← t; standAt pos; pure v)).findIdx? (·.1)).getD ([(false, eval e X.env)].map fun (star, t) => (star, do let v ← t; standAt pos; pure v)).length) = 1 := rfl
  rw [few]
  show wpAny _ _ ((((eval e X.env >>= fun v => standAt pos >>= fun _ => pure v) >>= fun v => holding [v] (pure []) >>= fun r => pure (v :: r)) >>= _) : Sem _) _ _ _
  refine wpAny_bind (wpAny_bind (wpAny_bind (thn (he.run _ _ σ H _ I2 h) fun v s1 ⟨x, H1, I3, r3, j, ex, q⟩ => wpAny_bind (wpAny_standAt (wpAny_pure ?_)))))
  subst ex
  obtain ⟨tk, rfl⟩ := r3
  refine wpAny_bind (wpAny_holding (wpAny_pure (wpAny_pure ?_)))
  obtain ⟨o1, o2, o3, o4, o5⟩ := I3.pin (s.heap.objs.size, setO0 X.w) (List.mem_append_right _ (List.mem_append_right _ List.mem_cons_self))
  have I4 := I3.unpinned
  refine wpAny_bind (wpAny_holding ?_)
  simp only [List.forIn_cons, List.forIn_nil]
  refine wpAny_bind (wpAny_bind (wpAny_bind ?_))
  unfold setAdd
  refine wpAny_holding (wpAny_bind ((intKind X.prog X.w).pyHash (k := j) (intKind_is _ _ _ _) ?_))
  have R0 : SetR X.w s1.heap s.heap.objs.size (fun i => decide (i ∈ ([] : List Int).take 0)) 0 := setR_new_at o1
  refine setR_add_hashed (s := { s1 with toks := s1.toks + 1 }) R0 (by unfold scanBound; omega) fun h2 sb R => ?_
  refine wpAny_pure (wpAny_pure (wpAny_pure ?_))
  simp only [List.map_cons, List.map_nil, List.drop_succ_cons, List.drop_zero, List.forIn_nil]
  refine wpAny_bind (wpAny_pure (wpAny_pure (wpAny_pure ?_)))
  have R1 : SetR X.w h2 s.heap.objs.size (fun i => decide (i ∈ [j])) 1 := R.congr fun i => by simp
  refine ⟨.ref s.heap.objs.size, upd H1 s.heap.objs.size (SetO X.w s.heap.objs.size (fun i => decide (i ∈ [j])) 1), ?_, rfl, q _ o2⟩
  have nu : ∀ b u, H1 b = some u → b ≠ s.heap.objs.size := fun b u z w => by rw [w, o2] at z; cases z
  refine I4.step (ch := [s.heap.objs.size]) (g' := s1.gens) (d' := s1.drawn) (t' := s1.toks + 1) (fun b hb => ?_) (fun b o _ _ hc z _ => (sb.2 b fun w => hc (List.mem_singleton.mpr w)).trans z) (fun b o _ _ hc z _ => ⟨o.slots, (sb.2 b fun w => hc (List.mem_singleton.mpr w)).trans z⟩)
    (fun b o hc _ z => by rw [upd_ne fun w => hc (List.mem_singleton.mpr w)]; exact z) (fun b o hc z => ⟨o, (sb.2 b fun w => hc (List.mem_singleton.mpr w)).trans z⟩) (fun b xs z => by rw [upd_ne (nu b _ z)]; exact z) (fun b o u z => by rw [upd_ne (nu b _ z)]; exact z) (fun b ps z => ⟨#[], by rw [upd_ne (nu b _ z), z]; simp⟩)
    (fun m hm => ?_) (fun b u z => ?_) I4.bare
  · rw [List.mem_singleton.mp hb]
    refine ⟨.inr I.sz, o3, fun x c hx => ?_, fun q hq => ?_⟩
    · exact fp.2.2.2.2.1 x c hx
    · exact fp.2.2.2.2.2 q hq
  · obtain ⟨o, es, ep, ho, r⟩ := hm
    exact ⟨o, es, ep, (sb.2 _ fun w => o3 w.symm).trans ho, r⟩
  · by_cases w : b = s.heap.objs.size
    · subst w
      rw [upd_same] at z
      cases z
      exact setO_new R1
    · rw [upd_ne w] at z
      refine (I4.hok b u z).stay (fun d v hd y => (sb.2 d ?_).trans y) (fun d y => by rw [upd_ne (nu d _ y)]; exact y) fun d xs y => by rw [upd_ne (nu d _ y)]; exact y
      rcases hd with hd | hd
      · rw [hd]
        exact w
      · exact nu d _ hd
/-- on data -/
def set1F (f : EF) : EF := fun en st => (f en st).bind fun d st1 => match d with
  | .int j => .ok (.sref st1.length) (st1 ++ [.set [j]])
  | _ => .bad
theorem okD.newS {K : PySem.W.Frag} {z : Z} {H : Hp} {st : Sto} {Q : VK} {w : World} {S : List Int} {p : Addr} (hw : Tabs.wd = some w) (h : okD K z H Q (.sref st.length) (st ++ [.set S])) (r : RelH K z H st) (n : H p = none) :
    Q (.ref p) (upd H p (SetO w p (fun i => decide (i ∈ S)) S.length)) :=
  h _ (z.pushK p true) _ (ext_push r n) (r.pushC (cl := .set S) n ⟨w, hw, upd_same⟩) (.sref (by
    show (z.mu ++ [p])[st.length]? = some p
    rw [← r.len, List.getElem?_append_right (Nat.le_refl _), Nat.sub_self]
    rfl) (if_pos r.len.symm))
theorem sn_set1 (G : GX X xm W k) (he : PE X e (TEf X.K xm W f)) (hc : PySem.W.kdsCode X.K X.env.code = true) (hs : starEach [e] X.env = [(false, eval e X.env)] := by rfl) : PE X (.Set [e] 0 pos) (TEf X.K xm W (set1F f)) :=
  (pe_set1 he hc hs).imp fun σ H Q ⟨z, en, st, rh, re, h⟩ => by
    refine seqE' rh re (wp_bind.mp h) fun d1 st1 v1 z1 H1 q1 e1 r1 re1 p1 => ?_
    cases d1 with
    | int j =>
      cases p1
      exact ⟨j, rfl, fun p n => okD.newS (S := [j]) G.wd (okD.ext e1 q1) r1 n⟩
    | _ => exact q1.elim
def setOf (st : Sto) (n : Nat) : Option (List Int) := match st[n]? with
  | some (.set S) => some S
  | _ => none
def notinD : O2
  | .int i, .sref n, st => (setOf st n).bind fun S => some (.bl (!decide (i ∈ S)), st)
  | _, _, _ => none
def inD : O2
  | .int i, .sref n, st => (setOf st n).bind fun S => some (.bl (decide (i ∈ S)), st)
  | _, _, _ => none
theorem setOf_at {K : PySem.W.Frag} {z : Z} {H : Hp} {st : Sto} {w : World} {n : Nat} {a : Addr} {S : List Int} (hw : Tabs.wd = some w) (r : RelH K z H st) (hn : z.mu[n]? = some a) (h : setOf st n = some S) : st[n]? = some (.set S) ∧ H a = some (SetO w a (fun i => decide (i ∈ S)) S.length) := by
  unfold setOf at h
  split at h
  · rename_i S' hc
    cases h
    obtain ⟨w', h1, h2⟩ := r.cell hn hc
    rw [hw] at h1
    cases h1
    exact ⟨hc, h2⟩
  · cases h
theorem or_notin (hw : Tabs.wd = some X.w) : OpR X (compareOp .NotIn) (R2f X.K notinD) := by
  intro pins s σ H x y v u Q I rx ry ⟨z, st, da, db, d, st', rh, px, py, e, q⟩
  cases px with
  | int i =>
    cases py with
    | @sref a n hn hk =>
      obtain ⟨S, hS, e⟩ := Option.bind_eq_some_iff.mp (show (setOf st n).bind (fun S => some (D.bl (!decide (i ∈ S)), st)) = some (d, st') from e)
      cases e
      obtain ⟨_, h2⟩ := setOf_at hw rh hn hS
      exact or_snotin pins s σ H _ _ v u Q I rx ry ⟨i, a, _, _, rfl, rfl, h2, okD.here q rh (.bl _)⟩
    | _ => cases e
  | _ => cases py <;> cases e
theorem or_in (hw : Tabs.wd = some X.w) : OpR X (compareOp .In) (R2f X.K inD) := by
  intro pins s σ H x y v u Q I rx ry ⟨z, st, da, db, d, st', rh, px, py, e, q⟩
  cases px with
  | int i =>
    cases py with
    | @sref a n hn hk =>
      obtain ⟨S, hS, e⟩ := Option.bind_eq_some_iff.mp (show (setOf st n).bind (fun S => some (D.bl (decide (i ∈ S)), st)) = some (d, st') from e)
      cases e
      obtain ⟨_, h2⟩ := setOf_at hw rh hn hS
      exact or_sin pins s σ H _ _ v u Q I rx ry ⟨i, a, _, _, rfl, rfl, h2, okD.here q rh (.bl _)⟩
    | _ => cases e
  | _ => cases py <;> cases e
def putS (i : Int) (S : List Int) : List Int := if i ∈ S then S else S ++ [i]
def addF (o : EF) (f : EF) : EF := fun en st => (o en st).bind fun d st1 => match d with
  | .sref n => if setOf st1 n = none then .bad else (f en st1).bind fun y st2 => match y with
    | .int i => match setOf st2 n with
      | some S => if S.length < 60 then .ok .non (st2.set n (.set (putS i S))) else .bad
      | none => .bad
    | _ => .bad
  | _ => .bad
theorem sn_add {o : Expr} (G : GX X xm W k) (ho : PE X o (TEf X.K xm W g)) (ha : PE X e (TEf X.K xm W f))
    (hbase : attributeBase o "add" X.env (eval o X.env) = eval o X.env := by rfl)
    (hfew : ((backTo pos (starEach (e :: []) X.env)).all (fun x => !x.1) && (backToKw pos (keywordEach [] X.env)).all (fun x => x.1.isSome)
      && decide ((e :: []).length + ([] : List Keyword).length + (if ([] : List Keyword).isEmpty then 0 else 1) < 30)) = true := by rfl)
    (hline : (apos.endLine == pos.line) = true := by rfl) (hs : starEach (e :: []) X.env = (false, eval e X.env) :: starEach [] X.env := by rfl) (hplain : (backTo pos (starEach [] X.env)).any (·.1) = false := by rfl) :
    PE X (.Call (.Attribute o "add" apos) [e] [] pos) (TEf X.K xm W (addF g f)) :=
  (pe_sadd ho (pa_cons ha pa_nil hs) hbase hfew hline hs hplain).imp fun σ H Q ⟨z, en, st, rh, re, h⟩ => by
    refine seqE' rh re (wp_bind.mp h) fun d1 st1 v1 z1 H1 q1 e1 r1 re1 p1 => ?_
    -- it is a set all along
    cases d1 with
    | sref n =>
      cases p1 with
      | @sref a _ hn hk =>
        by_cases hs0 : setOf st1 n = none
        · simp only [if_pos hs0] at q1
          exact q1.elim
        simp only [if_neg hs0] at q1
        obtain ⟨S0, hS0⟩ := Option.ne_none_iff_exists'.mp hs0
        have ha0 := (setOf_at G.wd r1 hn hS0).2
        refine ⟨⟨a, _, _, rfl, ha0⟩, ?_⟩
        refine seqE' r1 re1 (wpD_ext e1 (wp_bind.mp q1) fun _ _ q => q) fun d2 st2 v2 z2 H2 q2 e2 r2 re2 p2 => ?_
        cases d2 with
        | int i =>
          cases p2
          have hn2 := e2.mu _ _ hn
          have hk2 := (e2.kd _ _ hn).trans hk
          cases hS : setOf st2 n with
          | none =>
            simp only [hS] at q2
            exact q2.elim
          | some S =>
            simp only [hS] at q2
            by_cases few : S.length < 60
            · rw [if_pos few] at q2
              obtain ⟨_, h2⟩ := setOf_at G.wd r2 hn2 hS
              refine ⟨a, i, _, S.length, rfl, rfl, h2, by unfold scanBound; omega, ?_⟩
              have eq1 : SetO X.w a (fun j => decide (j ∈ S) || decide (j = i)) (if decide (i ∈ S) = true then S.length else S.length + 1) = SetO X.w a (fun j => decide (j ∈ putS i S)) (putS i S).length := by
                unfold putS
                by_cases m : i ∈ S
                · rw [if_pos (decide_eq_true m), if_pos m]
                  congr 1
                  funext j
                  by_cases ej : j = i
                  · subst ej
                    simp [m]
                  · simp [ej]
                · rw [if_neg (by simpa using m), if_neg m, List.length_append]
                  congr 1
                  funext j
                  simp [List.mem_append]
              rw [eq1]
              have e3 := ext_write (o := SetO X.w a (fun j => decide (j ∈ putS i S)) (putS i S).length) r2 hn2
              exact okD.ext (Q := Q) (e1.trans e2) q2 _ z2 _ e3 (r2.writeC (cl := .set (putS i S)) hn2 hk2 ⟨X.w, G.wd, upd_same⟩) .non
            · rw [if_neg few] at q2
              exact q2.elim
        | _ => exact q2.elim
    | _ => exact q1.elim
/-- sorted(a set): a frozen list, a cell -/
def sortSetF : OL := fun ds st => match ds with
  | [.sref n] => (setOf st n).bind fun S => if S.length < 60 ∧ S.Nodup then some (.lst ((setI S).map .int), st) else none
  | _ => none
def sortSetC : OL := fun ds st => match ds with
  | [.sref n] => (setOf st n).bind fun S => if S.length < 60 ∧ S.Nodup then some (.ref st.length, st ++ [.lst ((setI S).map .int)]) else none
  | _ => none
theorem cl_sortSet {op : OL} (G : GX X xm W k) (hop : ∀ ds st d st', op ds st = some (d, st') → ∃ n S, ds = [.sref n] ∧ setOf st n = some S ∧ S.length < 60 ∧
      ∀ {K : PySem.W.Frag} {z : Z} {H : Hp} {Q : VK}, okD K z H Q d st' → RelH K z H st → ∀ p, H p = none → Q (.ref p) (upd H p (.lst ((setI S).map V.int)))) : CallR X (.builtin "sorted") (RLf X.K op) := by
  intro pins s σ H vs us Q I r ⟨z, st, ds, d, st', rh, ps, e, q⟩
  obtain ⟨n, S, rfl, hS, few, fin⟩ := hop _ _ _ _ e
  cases ps with
  | cons pv t =>
    cases t
    cases pv with
    | @sref a _ hn hk =>
      obtain ⟨_, ha⟩ := setOf_at G.wd rh hn hS
      refine cr_sortedSet G.cm pins s σ H _ us Q I r ⟨a, _, _, rfl, ha, by omega, fun ns p lt hm hl np => ?_⟩
      have en : ns = setI S := lt_one lt setI_lt fun j => by
        rw [hm j, setI_mem]
        simp
      subst en
      exact fin q rh p np
theorem sortSetF_ok : ∀ ds st d st', sortSetF ds st = some (d, st') → ∃ n S, ds = [.sref n] ∧ setOf st n = some S ∧ S.length < 60 ∧
      ∀ {K : PySem.W.Frag} {z : Z} {H : Hp} {Q : VK}, okD K z H Q d st' → RelH K z H st → ∀ p, H p = none → Q (.ref p) (upd H p (.lst ((setI S).map V.int))) := by
  intro ds st d st' h
  unfold sortSetF at h
  split at h
  · rename_i n
    obtain ⟨S, hS, h⟩ := Option.bind_eq_some_iff.mp h
    by_cases few : S.length < 60 ∧ S.Nodup
    · rw [if_pos few] at h
      cases h
      exact ⟨n, S, rfl, hS, few.1, fun ok r p np => okD.newF ok r (reps_ints _) np⟩
    · rw [if_neg few] at h
      cases h
  · cases h
theorem sortSetC_ok : ∀ ds st d st', sortSetC ds st = some (d, st') → ∃ n S, ds = [.sref n] ∧ setOf st n = some S ∧ S.length < 60 ∧
      ∀ {K : PySem.W.Frag} {z : Z} {H : Hp} {Q : VK}, okD K z H Q d st' → RelH K z H st → ∀ p, H p = none → Q (.ref p) (upd H p (.lst ((setI S).map V.int))) := by
  intro ds st d st' h
  unfold sortSetC at h
  split at h
  · rename_i n
    obtain ⟨S, hS, h⟩ := Option.bind_eq_some_iff.mp h
    by_cases few : S.length < 60 ∧ S.Nodup
    · rw [if_pos few] at h
      cases h
      exact ⟨n, S, rfl, hS, few.1, fun ok r p np => okD.newC ok r (reps_ints _) np⟩
    · rw [if_neg few] at h
      cases h
  · cases h
end
end Ev

namespace Ev
open PySem PySem.Spec PyProof.Rows L2 RZ
variable [Tabs]
section
variable {X : Cx} {xm : List Addr} {W : WX} {k : Nat} {a b : Expr} {f g : EF} {p p2 pos q2 : Pos}
/-! list(range(a, b)) -/
def rgD (i j : Int) : List D := (List.range (j - i).toNat).map fun n => .int (i + (n : Nat))
def lrgF (f g : EF) : EF := fun en st => (f en st).bind fun x st1 => (g en st1).bind fun y st2 => match x, y with
  | .int i, .int j => if decide (-1000000 ≤ i) && decide (i ≤ 1000000) && decide (-1000000 ≤ j) && decide (j ≤ 1000000) then .ok (.lst (rgD i j)) st2 else .bad
  | _, _ => .bad
theorem reps_rg {K : PySem.W.Frag} {z : Z} {H : Hp} (i j : Int) : Reps K z H (rgV i j) (rgD i j) := by
  unfold rgV rgD
  generalize List.range (j - i).toNat = l
  induction l with
  | nil => exact .nil
  | cons n r ih => exact .cons (.int _) ih
theorem sn_lrg (G : GX X xm W k) (hm : X.mg "list" = none) (hm2 : X.mg "range" = none) (ha : PE X a (TEf X.K xm W f)) (hb : PE X b (TEf X.K xm W g)) (hg : Gl X "list" := by rfl) (hg2 : Gl X "range" := by rfl)
    (na : starEach [.Call (.Name "range" p2) [a, b] [] q2] X.env = (false, eval (.Call (.Name "range" p2) [a, b] [] q2) X.env) :: starEach [] X.env := by rfl)
    (n1 : starEach [a, b] X.env = (false, eval a X.env) :: starEach [b] X.env := by rfl) (n2 : starEach [b] X.env = (false, eval b X.env) :: starEach [] X.env := by rfl) (hp : (backTo q2 (starEach [b] X.env)).any (·.1) = false := by rfl) :
    PE X (.Call (.Name "list" p) [.Call (.Name "range" p2) [a, b] [] q2] [] pos) (TEf X.K xm W (lrgF f g)) :=
  (pe_listRg G.cm hg hm (prg_2 hg2 hm2 ha hb n1 n2 hp) na).imp fun σ H Q ⟨z, en, st, rh, re, h⟩ => by
    refine seqE' rh re (wp_bind.mp h) fun d1 st1 v1 z1 H1 q1 e1 r1 re1 p1 => ?_
    refine seqE' r1 re1 (wpD_ext e1 (wp_bind.mp q1) fun _ _ q => q) fun d2 st2 v2 z2 H2 q2 e2 r2 re2 p2 => ?_
    cases d1 with
    | int i =>
      cases p1
      cases d2 with
      | int j =>
        cases p2
        by_cases hb : (decide (-1000000 ≤ i) && decide (i ≤ 1000000) && decide (-1000000 ≤ j) && decide (j ≤ 1000000)) = true
        · simp only [if_pos hb] at q2
          simp only [Bool.and_eq_true, decide_eq_true_eq] at hb
          exact ⟨i, j, rfl, rfl, ⟨by omega, by omega, by omega, by omega, by omega⟩, fun p n => okD.newF (okD.ext (e1.trans e2) q2) r2 (reps_rg i j) n⟩
        · simp only [if_neg hb] at q2
          exact q2.elim
      | _ => exact q2.elim
    | _ => cases d2 <;> exact q2.elim
end
section
variable {P : Program} {w : World} {K : PySem.W.Frag} {mg : Str → Option Value} {base : Heap} {xm : List Addr}
/-- a def whose own code object is known -/
theorem FnG.byK (hw : Tabs.wd = some w) {x qual : Str} {st : Stmt} {f : Addr} {fd : FuncData} {N ps : List Str} {k n m : Nat} {g : SF} (F : Fun K x qual st f fd) (S : FnScope N ps (defScope st)) (hn : N.length = n) (hm : ps.length = m)
    (hb : ∀ (cdv : Value) (A : Around) (outer : List Env) (s : Shared) (H : Hp) (E : XK), PySem.W.kdsCode K cdv = true → GX (cxOf (L2.CX P w) P w K mg base N qual (defScope st) f cdv A outer s H E) xm (fun cls d _ H => E cls d H) k →
      PSs (cxOf (L2.CX P w) P w K mg base N qual (defScope st) f cdv A outer s H E) (defBody st) (TSf K xm (fun cls d _ H => E cls d H) g)) : FnG P w K mg base (k + 1) f fd ps (spF K xm (fnF n g) m) := by
  subst hn hm
  obtain ⟨oc, od, kV, doc, pm, an, cdv, ct, osl, efd, lk, hcd⟩ := F.ex
  refine FnG.bodyC efd lk hcd S (fun vs H Q E ⟨z, ds, st, _, rs, hl, _⟩ => rs.length.trans hl) fun A outer s H vs Q E room gd h => ?_
  obtain ⟨z, ds, sto, rh, rs, hl, h⟩ := h
  refine ⟨_, hb cdv A outer s H E (kdsCode_of hcd) ⟨takes_of rfl rfl rfl rfl, passes_of rfl, room, gd, S.nd, rfl, hw⟩, z, _, sto, rh, relE_start N rfl rs, ?_⟩
  unfold fnF at h
  generalize g (ds.map some ++ List.replicate (N.length - ds.length) none) sto = r at h ⊢
  cases r with
  | nx en st' => exact fun σ' z' H' e r' _ => h _ z' H' e r' .non
  | rt d st' => exact h
  | ex c p en st' => exact fun cls dd σ' z' H' e r' _ x => h cls dd z' H' e r' x
  | bk en st' => exact h.elim
  | ct en st' => exact h.elim
  | bad => exact h.elim
end
end Ev

/-! a tuple times 0, times 1 -/
namespace Ev
open PySem PySem.Spec PyProof.Rows L2 RZ
theorem tmul_none (l : Addr) (items : Array Value) (x : Int) (u : Tok) (h0 : (decide (x < -2 ^ 63) || decide (x ≥ 2 ^ 63)) = false) (h1 : (items.isEmpty || x == 1) = false) (h2 : (decide (x ≤ 0) || items.isEmpty) = true) :
    Meets (Builtin.«tuple.__mul__» { pos := [.ref l, .int x u] }) fun _ R s => IsTup s.heap l items ∧ R (.ok (.ret (.ref s.heap.objs.size))) { s with heap := s.heap.push { cls := .type "tuple", data := .seq #[] } } := by
  refine Meets.of_wp fun prog w A R s h => ?_
  obtain ⟨ht, h⟩ := h
  refine wpAny_ite_false (decide_eq_false (by rw [h0]; exact Bool.false_ne_true)) (wpAny_bind (tupleItemsOf_ ht ?_))
  refine wpAny_ite_false (by simp [h1]) ?_
  refine wpAny_ite_true (by simp [h2]) ?_
  refine wpAny_bind (wpAny_newObj_type (wpAny_pure ⟨_, rfl, h⟩) (Nat.zero_le _))
theorem tmul_same (l : Addr) (items : Array Value) (x : Int) (u : Tok) (h0 : (decide (x < -2 ^ 63) || decide (x ≥ 2 ^ 63)) = false) (h1 : (items.isEmpty || x == 1) = true) :
    Meets (Builtin.«tuple.__mul__» { pos := [.ref l, .int x u] }) fun _ R s => IsTup s.heap l items ∧ R (.ok (.ret (.ref l))) s := by
  refine Meets.of_wp fun prog w A R s h => ?_
  obtain ⟨ht, h⟩ := h
  refine wpAny_ite_false (decide_eq_false (by rw [h0]; exact Bool.false_ne_true)) (wpAny_bind (tupleItemsOf_ ht ?_))
  refine wpAny_ite_true (by simp [h1]) ?_
  refine wpAny_bind (wpAny_bind (wpAny_typeOf ht.typeIs (wpAny_pure ?_)))
  refine wpAny_ite_true rfl ?_
  exact wpAny_bind (wpAny_rule (wpAny_pure ⟨_, rfl, h⟩))
/-- few times -/
def rRepF (K : PySem.W.Frag) : R2 := fun x y H Q => ∃ l k xs, x = V.ref l ∧ y = V.int k ∧ SqT K H l xs ∧ xs ≠ [] ∧ ((k = 1 ∧ Q (.ref l) H) ∨ (k = 0 ∧ ∀ p, H p = none → Q (.ref p) (upd H p (.tup []))))
theorem op_repF {X : Cx} : OpR X (binaryOp .Mult) (rRepF X.K) := by
  intro pins s σ H x y v u Q I rx ry ⟨l, k, xs, ex, ey, hT, hne, q⟩
  subst ex ey
  cases rx
  obtain ⟨t, rfl⟩ := ry
  obtain ⟨its, r, ht, hs⟩ := I.tuple hT
  have hi : its.toArray.isEmpty = false := by
    cases r with
    | nil => exact absurd rfl hne
    | cons _ _ => rfl
  have ho := ht
  obtain ⟨⟨cls, dd, data, sl⟩, ho, hc, n, hd⟩ := ho
  cases hc
  cases hd
  refine wpAny_binaryOp_repeat_ref (by decide) ht.typeIs (fun s' => typeIs_int s' k t) noFill_tuple_mul PySem.F.fills_int_mul PySem.F.slot_int_rmul repeat_tuple PySem.F.slot_int_index.lookup
    (call_meets PySem.F.slot_int_rmul (typeIs_int s k t) PySem.F.entry_int_rmul (PySem.F.args_int_rmul_2 (.int k t) (.ref l)) (int_rmul_tuple k t l its.toArray n dd sl) ⟨ho, rfl, ht.typeIs, ?_⟩)
  rcases q with ⟨rfl, q⟩ | ⟨rfl, q⟩
  · exact call_meets PySem.F.slot_tuple_mul ht.typeIs PySem.F.entry_tuple_mul (PySem.F.args_tuple_mul_2 (.ref l) (.int 1 t)) (tmul_same l its.toArray 1 t (by decide) (by rw [hi]; rfl)) ⟨ht, .ref l, H, I, rfl, q⟩
  · exact call_meets PySem.F.slot_tuple_mul ht.typeIs PySem.F.entry_tuple_mul (PySem.F.args_tuple_mul_2 (.ref l) (.int 0 t)) (tmul_none l its.toArray 0 t (by decide) (by rw [hi]; rfl) (by rfl)) ⟨ht, .ref s.heap.objs.size, upd H s.heap.objs.size (.tup []),
      I.laid (fun b ob q => Heap.get?_push_of_some _ q) (Nat.le_refl _) ⟨Nat.zero_le _, [], .nil, IsTup.new _ _⟩, rfl, q _ (I.hok.fresh (Nat.le_refl _))⟩
/-! a tuple from its end -/
theorem adj_rev (n : Nat) : Builtin.Slice.sliceAdjust none none (-1) (n : Nat) = (((n : Nat) : Int) - 1, -1) := by
  unfold Builtin.Slice.sliceAdjust
  simp
theorem pl_rev (n : Nat) : Builtin.Slice.slicePlaces (((n : Nat) : Int) - 1) (-1) (-1) = n := by
  unfold Builtin.Slice.slicePlaces
  simp
  try omega
theorem slice_rev {prog : Program} {w : World} {A : Around} {E : Value → Shared → Prop} {s : Shared} {sl : Addr} {vk : Value} {n : Nat} {Q : Int × Int × Nat → Shared → Prop} (hs : s.heap.IsSliceOf sl .none .none vk) (pk : IsPart vk (some (-1))) (h : Q (((n : Nat) : Int) - 1, -1, n) s) :
    wpAny (model prog w) A (Builtin.Slice.sliceApplied (.ref sl) (pure ((n : Nat) : Int))) Q E s := by
  obtain ⟨o, ho, hc, hd⟩ := hs
  refine wpAny_bind (wpAny_bind (wpAny_field ho hd rfl (wpAny_bind (wpAny_field ho hd rfl (wpAny_bind (wpAny_field ho hd rfl (wpAny_pure (wpAny_bind (HT.slicePart_ pk ?_)))))))))
  refine wpAny_ite_false (by rfl) (wpAny_bind (slicePart_none (wpAny_bind (slicePart_none (wpAny_bind (wpAny_pure ?_))))))
  show wpAny (model prog w) A (match Builtin.Slice.sliceAdjust none none (-1) ((n : Nat) : Int) with | (lo, hi) => pure (lo, (-1 : Int), Builtin.Slice.slicePlaces lo hi (-1))) Q E s
  rw [adj_rev]
  show wpAny (model prog w) A (pure ((((n : Nat) : Int) - 1), (-1 : Int), Builtin.Slice.slicePlaces (((n : Nat) : Int) - 1) (-1) (-1))) Q E s
  rw [pl_rev]
  exact wpAny_pure h
theorem fm_congr {α β : Type} {f g : α → Option β} : ∀ {l : List α}, (∀ x ∈ l, f x = g x) → l.filterMap f = l.filterMap g
  | [], _ => rfl
  | x :: r, h => by
    rw [List.filterMap_cons, List.filterMap_cons, h x List.mem_cons_self, fm_congr (l := r) fun y hy => h y (List.mem_cons_of_mem _ hy)]
theorem pick_rev (its : List Value) : ((List.range its.toArray.size).filterMap fun k => its.toArray[((((its.toArray.size : Nat) : Int) - 1) + ((k : Nat) : Int) * (-1)).toNat]?) = its.reverse := by
  have e : ((List.range its.toArray.size).filterMap fun k => its.toArray[((((its.toArray.size : Nat) : Int) - 1) + ((k : Nat) : Int) * (-1)).toNat]?) = (List.range its.length).filterMap fun k => its.reverse[k]? := by
    rw [List.size_toArray]
    refine fm_congr fun k hk => ?_
    have hk := List.mem_range.mp hk
    rw [List.getElem?_reverse hk, List.getElem?_toArray]
    congr 1
    omega
  rw [e]
  have := W.krv_all its.reverse.toArray
  simp only [List.size_toArray, List.length_reverse, List.getElem?_toArray] at this
  exact this
theorem getItem_rev {prog : Program} {w : World} {A : Around} {E : Value → Shared → Prop} {s : Shared} {t sl : Addr} {its : List Value} {vk : Value} {Q : Value → Shared → Prop} (ht : IsTup s.heap t its.toArray) (hs : s.heap.IsSliceOf sl .none .none vk) (pk : IsPart vk (some (-1))) (hz : its.length ≤ sizeLine)
    (h : Q (.ref s.heap.objs.size) { s with heap := s.heap.push { cls := .type "tuple", data := .seq its.reverse.toArray } }) : wpAny (model prog w) A (getItem (.ref t) (.ref sl)) Q E s := by
  obtain ⟨o, ho, hc, hd⟩ := id hs
  have hT : s.TypeIs (.ref sl) "slice" := ⟨o, ho, hc⟩
  refine wpAny_holding (wpAny_bind (wpAny_sequenceKey ht.typeIs (by decide) (wpAny_bind (wpAny_callSpecial?_slot ht.typeIs slot_tuple_getitem (wpAny_call_entry slot_tuple_getitem ht.typeIs entry_tuple_getitem ?_ (args_tuple_getitem _ _))))))
  show wpAny _ _ (Builtin.Tuple.tupleItemsOf (.ref t) >>= _) _ _ _
  refine wpAny_bind (tupleItemsOf_ ht (wpAny_bind (wpAny_typeOf hT ?_)))
  refine wpAny_ite_true (by rfl) (wpAny_bind (slice_rev hs pk ?_))
  refine wpAny_ite_false (by simp) ?_
  show wpAny _ _ (Builtin.Tuple.tupleExact (List.filterMap _ (List.range its.toArray.size)).toArray >>= _) _ _ _
  rw [pick_rev]
  exact wpAny_bind (wpAny_newObj_type (wpAny_pure ⟨_, rfl, wpAny_pure h⟩) (by show its.reverse.toArray.size ≤ sizeLine; rw [List.size_toArray, List.length_reverse]; exact hz))
section
variable {X : Cx} {e c : Expr} {te : TE} {tk : TO} {pos p2 : Pos}
def tRev (K : PySem.W.Frag) (te : TE) (tk : TO) : TE := fun σ H Q => te σ H fun x H1 => tk σ H1 fun o H2 => o = some (-1) ∧ ∃ a xs, x = V.ref a ∧ SqT K H2 a xs ∧ NewP H2 xs.reverse Q
theorem vals_rev {xs : List V} {its : List Value} (r : Vals xs its) : Vals xs.reverse its.reverse := by
  induction r with
  | nil => exact .nil
  | cons h t ih =>
    rw [List.reverse_cons, List.reverse_cons]
    exact ih.append (.cons h .nil)
theorem pe_rev (he : PE X e te) (hk : PO X (some c) tk) : PE X (.Subscript e (.Slice none none (some c) p2) pos) (tRev X.K te tk) := by
  refine ⟨fun pins s σ H Q I h => Subscript_ (thn (he.run pins s σ H _ I h) fun v s1 ⟨x, H1, I1, r1, q1⟩ => wpAny_Slice ?_)⟩
  rw [evalPart_none]
  refine wpAny_pure (wpAny_pure (thn (hk.run pins s1 σ H1 _ I1 q1) fun vk s2 ⟨o, H2, I2, pk, eo, a, xs, ex, hT, q⟩ => ?_))
  subst eo ex
  cases r1
  have I3 : Inv X pins σ H2 { s2 with heap := s2.heap.push { cls := .type "slice", data := .fields #[.none, .none, vk] } } := I2.kept (t' := s2.toks) fun b ob q => Heap.get?_push_of_some _ q
  obtain ⟨its, r, ht, hz⟩ := I3.tuple hT
  refine tail_any ht.typeIs slot_tuple_getitem.lookup (getItem_rev ht (Heap.IsSliceOf.new _ _ _ _) pk (by rw [← r.length]; exact hz) ?_) rfl
  exact new_laid I3 (by rw [List.length_reverse]; exact hz) (vals_rev r) q
end
variable [Tabs]
section
variable {X : Cx} {xm : List Addr} {W : WX} {k : Nat} {e c : Expr} {f g : EF} {pos p2 : Pos}
def revF (f : EF) : EF := fun en st => (f en st).bind fun d st1 => match d with
  | .tup ds => .ok (.tup ds.reverse) st1
  | _ => .bad
theorem reps_rev {K : PySem.W.Frag} {z : Z} {H : Hp} : ∀ {vs : List V} {ds : List D}, Reps K z H vs ds → Reps K z H vs.reverse ds.reverse
  | _, _, .nil => .nil
  | _, _, .cons h t => by
    rw [List.reverse_cons, List.reverse_cons]
    exact (reps_rev t).append (.cons h .nil)
theorem sn_rev (he : PE X e (TEf X.K xm W f)) (hc : PE X c (TEf X.K xm W (op1F negD (litF (.int 1))))) : PE X (.Subscript e (.Slice none none (some c) p2) pos) (TEf X.K xm W (revF f)) :=
  (pe_rev he (sp_so hc)).imp fun σ H Q ⟨z, en, st, rh, re, h⟩ => by
    refine seqE' rh re (wp_bind.mp h) fun d1 st1 v1 z1 H1 q1 e1 r1 re1 p1 => ?_
    cases d1 with
    | tup ds =>
      refine ⟨z1, en, st1, r1, re1, ?_⟩
      intro z2 H2 e2 r2
      cases p1 with
      | @tup a xs _ t rs =>
        have t2 := (Rep.tup t rs).ext e2
        cases t2 with
        | @tup _ xs2 _ t2 rs2 =>
          exact ⟨rfl, a, xs2, rfl, t2.seq, okD.newP (okD.ext (e1.trans e2) q1) r2 (reps_rev rs2)⟩
    | _ => exact q1.elim
/-- a tuple that is told, some times -/
def mulTD : O2 := fun x y st => match x, y with
  | .tup a, .int k => if a ≠ [] ∧ k = 1 then some (.tup a, st) else if a ≠ [] ∧ k = 0 then some (.tup [], st) else mulD (.tup a) (.int k) st
  | x, y => mulD x y st
theorem or_mulT : OpR X (binaryOp .Mult) (R2f X.K mulTD) := by
  intro pins s σ H x y v u Q I rx ry ⟨z, st, da, db, d, st', rh, px, py, e, q⟩
  have rest : mulD da db st = some (d, st') → wpAny (model X.prog X.w) X.A (binaryOp .Mult v u) (EP X pins σ Q) X.xe s := fun e => or_mul pins s σ H x y v u Q I rx ry ⟨z, st, da, db, d, st', rh, px, py, e, q⟩
  cases da with
  | tup a =>
    cases db with
    | int k =>
      have e : (if a ≠ [] ∧ k = 1 then some (D.tup a, st) else if a ≠ [] ∧ k = 0 then some (.tup [], st) else mulD (.tup a) (.int k) st) = some (d, st') := e
      split at e
      · rename_i h
        cases e
        cases py
        cases px with
        | @tup p xs _ t1 r1 =>
          refine op_repF pins s σ H _ _ v u Q I rx ry ⟨p, k, xs, rfl, rfl, t1.seq, fun w => ?_, .inl ⟨h.2, okD.here q rh (.tup t1 r1)⟩⟩
          subst w
          cases r1
          exact h.1 rfl
      · split at e
        · rename_i h
          cases e
          cases py
          cases px with
          | @tup p xs _ t1 r1 =>
            refine op_repF pins s σ H _ _ v u Q I rx ry ⟨p, k, xs, rfl, rfl, t1.seq, fun w => ?_, .inr ⟨h.2, fun p n => okD.newT q rh .nil n rfl⟩⟩
            subst w
            cases r1
            exact h.1 rfl
        · exact rest e
    | _ => exact rest e
  | _ => exact rest e
/-- a sum of lists that is changed later: a cell -/
def addC : O2 := fun a b st => match asL a st, asL b st with
  | some x, some y => if x.length + y.length ≤ sizeLine then some (.ref st.length, st ++ [.lst (x ++ y)]) else none
  | _, _ => none
theorem or_addC : OpR X (binaryOp .Add) (R2f X.K addC) := by
  intro pins s σ H x y v u Q I rx ry ⟨z, st, da, db, d, st', rh, px, py, e, q⟩
  unfold addC at e
  split at e
  · rename_i xs ys h1 h2
    split at e
    · rename_i hl
      cases e
      obtain ⟨a, vs, rfl, e1, r1⟩ := asL_at rh px h1
      obtain ⟨b, ws, rfl, e2, r2⟩ := asL_at rh py h2
      exact op_cat pins s σ H _ _ v u Q I rx ry ⟨a, b, vs, ws, rfl, rfl, e1, e2, by rw [r1.length, r2.length]; exact hl, fun p n => okD.newC q rh (r1.append r2) n⟩
    · cases e
  · cases e
end
end Ev

namespace Ev
open PySem PySem.Spec PyProof.Rows L2 RZ
variable [Tabs]

/-! ## list(zip(a, b)) of frozen lists -/
theorem zip_no_len : typeLookup (.type "zip") "__len__" = pure none := by rw [typeLookup_type, builtinLookup_eq_fast]; kernel_rfl
theorem zip_no_hint : typeLookup (.type "zip") "__length_hint__" = pure none := by rw [typeLookup_type, builtinLookup_eq_fast]; kernel_rfl
structure Zst (h : Heap) (S a b z TI TO i1 i2 : Addr) (i : Nat) : Prop where
  ti : IsPair h TI (.ref i1) (.ref i2)
  l1 : h.IsListIter i1 a i
  l2 : h.IsListIter i2 b i
  to : ∃ o, h.get? TO = some o
  zz : (IsZip h z TI TO .none ∧ ∃ x y, IsPair h TO x y) ∨ ∃ T f oT, IsZipHeld h z TI TO T f ∧ h.get? T = some oT ∧ T ≠ z ∧ T ≠ i1 ∧ T ≠ i2 ∧ T ≠ S
theorem drain_zip {X : Cx} {pins : List (Addr × Obj)} {σ : L2.St} {A : Around} {R : Result → Shared → Prop} {S a b z TI TO i1 i2 : Addr} (hh : A.handled = none) (D : ZipApart z TI TO i1 i2 a b) (dS : S ∉ [z, TI, TO, i1, i2, a, b]) {z0 : Z} {H0 : Hp} {st : Sto} {xs ys : List V} {ds es : List Ev.D}
    (hq : ∀ z1 H1, Ex0 z0 H0 z1 H1 → SqL X.K H1 a xs ∧ SqL X.K H1 b ys) (rx : Reps X.K z0 H0 xs ds) (ry : Reps X.K z0 H0 ys es) (hl : (zipF ds es).length ≤ 1000)
    (hend : ∀ s' acc c H' z' ts, Ext z0 H0 z' H' → RelH X.K z' H' st → Reps X.K z' H' ts (zipF ds es) → Inv X pins σ H' s' → FpOk X pins H' S → s'.heap.get? S = some (lstObj acc c) → Vals ts acc.toList → R (.ok (.ret .none)) s') :
    ∀ (k i : Nat) (s : Shared) (H : Hp) (z1 : Z) (ts : List V) (acc : Array Value) (c : Nat), (zipF ds es).length - i = k → i ≤ (zipF ds es).length → Ext z0 H0 z1 H → RelH X.K z1 H st → Reps X.K z1 H ts ((zipF ds es).take i) → Inv X pins σ H s →
      (∀ b ∈ [z, TI, TO, i1, i2, S], FpOk X pins H b) → s.heap.get? S = some (lstObj acc c) → Vals ts acc.toList → acc.size = i → Zst s.heap S a b z TI TO i1 i2 i → codeAny (model X.prog X.w) A (.builtin "list.extend.loop" ⟨[.ref S, .ref z, .none], []⟩) R s := by
  have hs : sizeLine = 16777216 := sizeLine_eq
  simp only [List.mem_cons, List.not_mem_nil, or_false, not_or] at dS
  obtain ⟨d1, d2, d3, d4, d5, d6, d7⟩ := dS
  intro k
  induction k with
  | zero =>
    intro i s H z1 ts acc c hk hi e r rt I hf hS hv ha st
    have hin : i = (zipF ds es).length := by omega
    obtain ⟨hqx, hqy⟩ := hq z1 H e.toEx0
    obtain ⟨its, rv, p, _⟩ := I.list hqx
    obtain ⟨its2, rv2, p2, _⟩ := I.list hqy
    have l1 := rv.length
    have l2 := rv2.length
    have l3 := rx.length
    have l4 := ry.length
    have zl := zipF_length ds es
    have he : its.toArray[i]? = none ∨ its2.toArray[i]? = none := by
      rcases Nat.le_total ds.length es.length with q | q
      · exact .inl (by simp; omega)
      · exact .inr (by simp; omega)
    have fin : ∀ h', (∀ c o, c ≠ z → c ≠ TO → c ≠ i1 → c ≠ i2 → s.heap.get? c = some o → h'.get? c = some o) → R (.ok (.ret .none)) { s with heap := h' } := fun h' hk => by
      have I2 : Inv X pins σ H { s with heap := h' } := I.turnedL (t' := s.toks) (ch := [z, TI, TO, i1, i2, S]) (fun c o hb q =>
        hk c o (fun q' => hb (by simp [q'])) (fun q' => hb (by simp [q'])) (fun q' => hb (by simp [q'])) (fun q' => hb (by simp [q'])) q) hf
      have rt' : Reps X.K z1 H ts (zipF ds es) := by
        rw [hin, List.take_length] at rt
        exact rt
      exact hend _ acc c H z1 ts e r rt' I2 (hf S (by simp)) (hk S _ d1 d3 d4 d5 hS) hv
    refine codeAny_builtin F.entry_extend_loop ?_
    rw [Around.under_plainId F.plain_extend_loop _]
    show wpAny _ A.in1 (pyNext (.ref z) >>= _) _ _ s
    refine wpAny_bind ?_
    rcases st.zz with ⟨hz, x, y, hTO⟩ | ⟨T, f, oT, hz, hT, r1, r2, r3, r4⟩
    · exact wpAny_pyNext_zip_end (A := A.in1) hh D hz st.ti hTO st.l1 st.l2 p.isList p2.isList he fun h' hk => wpAny_pure (fin h' hk)
    · exact wpAny_pyNext_zip_end_held (A := A.in1) hh D hz hT st.ti st.l1 st.l2 p.isList p2.isList he fun h' hk => wpAny_pure (fin h' fun c o a1 _ a3 a4 => hk c o a1 a3 a4)
  | succ k ih =>
    intro i s H z1 ts acc c hk hi e r rt I hf hS hv ha st
    have hlt : i < (zipF ds es).length := by omega
    obtain ⟨hqx, hqy⟩ := hq z1 H e.toEx0
    obtain ⟨its, rv, p, _⟩ := I.list hqx
    obtain ⟨its2, rv2, p2, _⟩ := I.list hqy
    obtain ⟨d, e', hd, he', hde⟩ := zipF_get i ds es _ (List.getElem?_eq_getElem hlt)
    obtain ⟨x, hx, rdx⟩ := (rx.ext e).getD hd
    obtain ⟨y, hy, rdy⟩ := (ry.ext e).getD he'
    obtain ⟨u, hu, ru⟩ := rv.get hx
    obtain ⟨u2, hu2, ru2⟩ := rv2.get hy
    have lt : ∀ {c o}, s.heap.get? c = some o → s.heap.objs.size ≠ c := fun e => Nat.ne_of_gt (Heap.lt_size e)
    have n1 : s.heap.objs.size ≠ i1 := let ⟨_, e, _⟩ := st.l1; lt e
    have n2 : s.heap.objs.size ≠ i2 := let ⟨_, e, _⟩ := st.l2; lt e
    have nS : s.heap.objs.size ≠ S := lt hS
    have nz : s.heap.objs.size ≠ z := by
      rcases st.zz with ⟨hz, _⟩ | ⟨_, _, _, hz, _⟩ <;> exact lt hz
    have nTI : s.heap.objs.size ≠ TI := lt st.ti
    -- behind the next item
    have go : ∀ h' (zs : ∀ h'', h''.get? z = h'.get? z → (∀ c, c ≠ S → h''.get? c = h'.get? c) → (IsZip h'' z TI TO .none ∧ ∃ x y, IsPair h'' TO x y) ∨ ∃ T f oT, IsZipHeld h'' z TI TO T f ∧ h''.get? T = some oT ∧ T ≠ z ∧ T ≠ i1 ∧ T ≠ i2 ∧ T ≠ S),
        h'.IsListIter i1 a (i + 1) → h'.IsListIter i2 b (i + 1) → (∃ o, h'.get? TO = some o) → IsPair h' s.heap.objs.size u u2 → (∀ c o, c ≠ z → c ≠ TO → c ≠ i1 → c ≠ i2 → s.heap.get? c = some o → h'.get? c = some o) →
        wpAny (model X.prog X.w) A.in1 (updateSeq S (·.push (.ref s.heap.objs.size)) >>= fun _ => again (.builtin "list.extend.loop" ⟨[.ref S, .ref z, .none], []⟩))
          (fun fin s' => match fin with | .done f => R (.ok f) s' | .again c' => c'.quiet = true ∧ codeAny (model X.prog X.w) A c' R s') (fun e s' => R (.error e) s') { s with heap := h' } := by
      intro h' zs h1' h2' hto hT hk
      have hS' : h'.get? S = some (lstObj acc c) := hk S _ d1 d3 d4 d5 hS
      have oth : ∀ b, b ≠ S → (h'.update S (Obj.mapSeq (·.push (.ref s.heap.objs.size)))).get? b = h'.get? b := fun b hb => Heap.get?_update_other _ _ (Ne.symm hb)
      refine wpAny_bind ?_
      refine wpAny_updateSeq hS' rfl (wpAny_pure ⟨plainId_quiet F.plain_extend_loop _, ?_⟩) (by rw [ha]; omega) (by show (acc.push _).size ≤ sizeLine + 1; rw [Array.size_push]; omega)
      have hT2 : (h'.update S (Obj.mapSeq (·.push (.ref s.heap.objs.size)))).get? s.heap.objs.size = some { cls := .type "tuple", data := .seq #[u, u2] } := (oth _ nS).trans hT
      have new : ObjOk X.prog X.w (upd H s.heap.objs.size (frT [u, u2] [x, y])) (h'.update S (Obj.mapSeq (·.push (.ref s.heap.objs.size)))) s.heap.objs.size (frT [u, u2] [x, y]) :=
        frT_ok (by show 2 ≤ sizeLine; omega) (.cons ru (.cons ru2 .nil)) hT2
      have I1 : Inv X pins σ (upd H s.heap.objs.size (frT [u, u2] [x, y])) { s with heap := h'.update S (Obj.mapSeq (·.push (.ref s.heap.objs.size))) } :=
        I.turnedNew (t' := s.toks) (ch := [z, TI, TO, i1, i2, S]) (fun c o hb q => (oth c (fun q' => hb (by simp [q']))).trans (hk c o (fun q' => hb (by simp [q'])) (fun q' => hb (by simp [q'])) (fun q' => hb (by simp [q'])) (fun q' => hb (by simp [q'])) q)) hf (Nat.le_refl _) new
      have nH : H s.heap.objs.size = none := I.hok.fresh (Nat.le_refl _)
      have x1 := ext_add (o := frT [u, u2] [x, y]) r nH
      refine ih (i + 1) _ (upd H s.heap.objs.size (frT [u, u2] [x, y])) (z1.add s.heap.objs.size) (ts ++ [.ref s.heap.objs.size]) (acc.push (.ref s.heap.objs.size)) _ (by omega) hlt (e.trans x1) (r.add nH) ?_ I1 (fun b hb => ?_) (Heap.get?_update_self _ hS' rfl) ?_ (by rw [Array.size_push, ha]) ⟨?_, ?_, ?_, hto.imp fun o q => (oth _ (Ne.symm d3)).trans q, zs _ (oth _ (Ne.symm d1)) oth⟩
      · have : (zipF ds es).take (i + 1) = (zipF ds es).take i ++ [.tup [d, e']] := by
          rw [List.take_add_one, List.getElem?_eq_getElem hlt, hde]
          rfl
        rw [this]
        exact (rt.ext x1).append (.cons (.tup (PlZ.tup ⟨.inr rfl, _, upd_same⟩) (.cons (rdx.ext x1) (.cons (rdy.ext x1) .nil))) .nil)
      · have q := hf b hb
        refine ⟨?_, q.2⟩
        rw [upd_ne]
        · exact q.1
        · intro w
          simp only [List.mem_cons, List.not_mem_nil, or_false] at hb
          rcases hb with rfl | rfl | rfl | rfl | rfl | rfl
          · exact nz w.symm
          · exact nTI w.symm
          · obtain ⟨o, ho⟩ := st.to
            exact lt ho w.symm
          · exact n1 w.symm
          · exact n2 w.symm
          · exact nS w.symm
      · rw [Array.toList_push]
        exact hv.append (.cons rfl .nil)
      · exact (oth _ (Ne.symm d2)).trans (hk _ _ D.TIz D.TITO D.TIi1 D.TIi2 st.ti)
      · exact h1'.at fun o q => (oth _ (Ne.symm d4)).trans q
      · exact h2'.at fun o q => (oth _ (Ne.symm d5)).trans q
    refine codeAny_builtin F.entry_extend_loop ?_
    rw [Around.under_plainId F.plain_extend_loop _]
    show wpAny _ A.in1 (pyNext (.ref z) >>= _) _ _ s
    refine wpAny_bind ?_
    rcases st.zz with ⟨hz, x', y', hTO⟩ | ⟨T, f, oT, hz, hT, r1, r2, r3, r4⟩
    · refine wpAny_pyNext_zip_item (A := A.in1) D hz st.ti hTO st.l1 st.l2 p.isList p2.isList (x := u) (y := u2) (by simpa using hu) (by simpa using hu2) fun h' a1 a2 a3 a4 a5 a6 hk => ?_
      exact go h' (fun h'' q1 q2 => .inr ⟨s.heap.objs.size, false, _, q1.trans a1, (q2 _ nS).trans a5, nz, n1, n2, nS⟩) a3 a4 ⟨_, a2⟩ a5 hk
    · refine wpAny_pyNext_zip_item_held (A := A.in1) D hz hT st.ti st.l1 st.l2 p.isList p2.isList (x := u) (y := u2) (by simpa using hu) (by simpa using hu2) fun h' a1 a3 a4 a5 a6 hk => ?_
      exact go h' (fun h'' q1 q2 => .inr ⟨T, true, oT, q1.trans a1, (q2 _ r4).trans (hk _ _ r1 r2 r3 hT), r1, r2, r3, r4⟩) a3 a4 (st.to.imp fun o q => hk _ _ D.TOz D.TOi1 D.TOi2 q) a5 (fun c o b1 _ b3 b4 => hk c o b1 b3 b4)
/-- an object of ours is tracked from now on -/
theorem Inv_trackF {X : Cx} {pins : List (Addr × Obj)} {σ : L2.St} {H : Hp} {s : Shared} {T : Addr} {ob : HO} (I : Inv X pins σ H s) (hf : FpOk X pins H T) (new : ObjOk X.prog X.w (upd H T ob) s.heap T ob) : Inv X pins σ (upd H T ob) s := by
  have hn : H T = none := hf.1
  refine I.step (h' := s.heap) (t' := s.toks) (g' := s.gens) (d' := s.drawn) (ch := [T]) (fun b hb => ?_) (fun b o _ _ hc e _ => e) (fun b o _ _ hc e _ => ⟨o.slots, e⟩)
    (fun b o hb e n => ?_) (fun b o hc e => ⟨o, e⟩) (fun b xs e => ?_) (fun b o u e => ?_) (fun b ps e => ⟨#[], ?_⟩) (fun m hm => ?_) (fun b u e => ?_) I.bare
  · rw [List.mem_singleton.mp hb]
    exact ⟨hf.2.2.2.1, hf.2.1, hf.2.2.2.2.1, hf.2.2.2.2.2⟩
  · rw [upd_ne (fun w => hb (by simp [w]))]; exact n
  · rw [upd_ne (ne_of_none e hn)]; exact e
  · rw [upd_ne (ne_of_none e hn)]; exact e
  · rw [upd_ne (ne_of_none e hn), e]; simp
  · exact hm
  · by_cases hb : b = T
    · subst hb
      rw [upd_same] at e
      cases e
      exact new
    · rw [upd_ne hb] at e
      exact (I.hok b u e).stay (fun c v hc q => q) (fun c q => by rw [upd_ne (ne_of_none q hn)]; exact q) fun c xs q => by rw [upd_ne (ne_of_none q hn)]; exact q
/-- a new list out of it -/
theorem call_list_zip {X : Cx} {pins : List (Addr × Obj)} {σ : L2.St} {H : Hp} {s : Shared} {a b z TI TO i1 i2 : Addr} {Q : VK} {z0 : Z} {st : Sto} {xs ys : List V} {ds es : List Ev.D} (hc : X.calm = true) (D : ZipApart z TI TO i1 i2 a b) (I : Inv X pins σ H s)
    (r0 : RelH X.K z0 H st) (hq : ∀ z1 H1, Ex0 z0 H z1 H1 → SqL X.K H1 a xs ∧ SqL X.K H1 b ys) (rx : Reps X.K z0 H xs ds) (ry : Reps X.K z0 H ys es) (hl : (zipF ds es).length ≤ 1000)
    (hf : ∀ b ∈ [z, TI, TO, i1, i2], FpOk X pins H b) (hz : IsZip s.heap z TI TO .none) (hTI : IsPair s.heap TI (.ref i1) (.ref i2)) (hTO : IsPair s.heap TO .none .none) (h1 : s.heap.IsListIter i1 a 0) (h2 : s.heap.IsListIter i2 b 0)
    (q : okD X.K z0 H Q (.lst (zipF ds es)) st) : wpAny (model X.prog X.w) X.A (call (.type "list") [.ref z]) (EP X pins σ Q) X.xe s := by
  obtain ⟨hqx, hqy⟩ := hq z0 H Ext.refl.toEx0
  obtain ⟨its, rv, pl, _⟩ := I.list hqx
  obtain ⟨its2, rv2, pl2, _⟩ := I.list hqy
  have ltz : z < s.heap.objs.size := Heap.lt_size hz
  have ltTI : TI < s.heap.objs.size := Heap.lt_size hTI
  have ltTO : TO < s.heap.objs.size := Heap.lt_size hTO
  have lt1 : i1 < s.heap.objs.size := let ⟨_, e, _⟩ := h1; Heap.lt_size e
  have lt2 : i2 < s.heap.objs.size := let ⟨_, e, _⟩ := h2; Heap.lt_size e
  have lta : a < s.heap.objs.size := pl.lt
  have ltb : b < s.heap.objs.size := pl2.lt
  have hSz : s.heap.objs.size ≠ z := Nat.ne_of_gt ltz
  refine callType_codes (Q₁ := fun obj s₁ => obj = .ref s.heap.objs.size ∧ s₁ = { s with heap := s.heap.push { cls := .type "list", data := .seq #[] } }) F.called_list (F.typeCall_list_1 _) F.entry_list_init
    (code_list_new _ ⟨rfl, rfl⟩) fun obj s₁ h₁ => ?_
  obtain ⟨rfl, rfl⟩ := h₁
  have hS : (s.heap.push { cls := .type "list", data := .seq #[] }).get? s.heap.objs.size = some { cls := .type "list", data := .seq #[] } := Heap.get?_push_size _ rfl
  refine ⟨⟨_, hS, rfl⟩, F.args_list_init_2 _ _, ?_⟩
  show wpAny _ X.A.in1.in1 (do let old ← Builtin.List.listItems (.ref s.heap.objs.size); Builtin.List.listUpdate (.ref s.heap.objs.size) (fun _ => #[]); letGo old.toList.reverse; Builtin.List.listExtendWith (.ref s.heap.objs.size) (.ref z) .none) _ _ _
  refine wpAny_bind ?_
  unfold Builtin.List.listItems
  refine wpAny_bind (wpAny_seqItems hS rfl (wpAny_pure ?_))
  show wpAny _ X.A.in1.in1 (updateSeq s.heap.objs.size (fun _ => #[]) >>= fun _ => letGo (#[] : Array Value).toList.reverse >>= fun _ => Builtin.List.listExtendWith (.ref s.heap.objs.size) (.ref z) .none) _ _ _
  refine wpAny_bind (wpAny_updateSeq hS rfl ?_)
  have hS2 := Heap.get?_update_self (Obj.mapSeq (fun _ => (#[] : Array Value))) hS rfl
  refine wpAny_bind (wpAny_letGo ?_)
  unfold Builtin.List.listExtendWith
  have up : ∀ (h : Heap) (f : Obj → Obj), (∀ b o, s.heap.get? b = some o → h.get? b = some o) → ∀ b o, s.heap.get? b = some o → (h.update s.heap.objs.size f).get? b = some o := fun h f q b o e =>
    (Heap.get?_update_other _ _ (Ne.symm (Nat.ne_of_lt (Heap.lt_size e)))).trans (q b o e)
  have k1 : ∀ b o, s.heap.get? b = some o → (s.heap.push { cls := .type "list", data := .seq #[] }).get? b = some o := fun b o e => Heap.get?_push_of_some _ e
  have k2 := up _ (Obj.mapSeq (fun _ => (#[] : Array Value))) k1
  have zty : ∀ {s' : Shared}, (∀ b o, s.heap.get? b = some o → s'.heap.get? b = some o) → s'.TypeIs (.ref z) "zip" := fun {s'} q => ⟨_, q _ _ hz, rfl⟩
  refine wpAny_bind (wpAny_typeOf (zty (s' := { s with heap := _ }) k2) ?_)
  have g1 : Builtin.List.listSameRef (.ref s.heap.objs.size) (.ref z) = false := by simp [Builtin.List.listSameRef, hSz]
  have g2 : (Value.type "zip" == Value.type "list") = false := by decide
  have g3 : (Value.type "zip" == Value.type "tuple") = false := by decide
  simp only [g1, g2, g3, Bool.or_false, Bool.false_eq_true, if_false]
  refine wpAny_bind (wpAny_pyIter_zip (s := { s with heap := _ }) (k2 _ _ hz) ?_)
  refine wpAny_bind (wpAny_holding ?_)
  unfold Builtin.List.listLengthHint
  refine wpAny_bind (wpAny_specialOf (zty (s' := { s with heap := _ }) k2) zip_no_len ?_)
  show wpAny _ X.A.in1.in1 (specialOf (Value.ref z) (Str.ofString "__length_hint__") >>= _) _ _ _
  refine wpAny_bind (wpAny_specialOf (zty (s' := { s with heap := _ }) k2) zip_no_hint ?_)
  refine wpAny_pure ?_
  have cont : ∀ (h' : Heap) (c : Nat), (∀ b o, s.heap.get? b = some o → h'.get? b = some o) → h'.get? s.heap.objs.size = some (lstObj #[] c) →
      codeAny (model X.prog X.w) X.A.in1 (.builtin "list.extend.loop" ⟨[.ref s.heap.objs.size, .ref z, .none], []⟩) (wants (fun r s₂ => r = .none ∧ EP X pins σ Q (.ref s.heap.objs.size) s₂) X.xe) { s with heap := h' } := by
    intro h' c hk hS'
    have I2 : Inv X pins σ H { s with heap := h' } := I.kept (t' := s.toks) hk
    have fS : FpOk X pins H s.heap.objs.size := I.fpOk (Nat.le_refl _) (I.hok.fresh (Nat.le_refl _))
    refine drain_zip (X := X) (pins := pins) (σ := σ) (A := X.A.in1) (I.ok.hd hc) D (S := s.heap.objs.size) ?_ hq rx ry hl ?_ _ 0 _ H z0 [] #[] c rfl (Nat.zero_le _) .refl r0 .nil I2 ?_ hS' .nil rfl ⟨hk _ _ hTI, h1.at fun o e => hk _ o e, h2.at fun o e => hk _ o e, ⟨_, hk _ _ hTO⟩, .inl ⟨hk _ _ hz, _, _, hk _ _ hTO⟩⟩
    · simp only [List.mem_cons, List.not_mem_nil, or_false, not_or]
      exact ⟨hSz, Nat.ne_of_gt ltTI, Nat.ne_of_gt ltTO, Nat.ne_of_gt lt1, Nat.ne_of_gt lt2, Nat.ne_of_gt lta, Nat.ne_of_gt ltb⟩
    · intro s' acc c' H' z' ts e r rt I' fS' hS'' hv
      have nS : H' s.heap.objs.size = none := fS'.1
      have len : ts.length = (zipF ds es).length := rt.length
      have hs : sizeLine = 16777216 := sizeLine_eq
      refine ⟨rfl, .ref s.heap.objs.size, upd H' s.heap.objs.size (.lst ts), ?_, rfl, okD.newF (q.ext e) r rt nS⟩
      exact Inv_trackF I' fS' ⟨by omega, acc.toList, c', hv, by rw [hS'']⟩
    · intro b hb
      simp only [List.mem_cons, List.not_mem_nil, or_false] at hb
      rcases hb with rfl | rfl | rfl | rfl | rfl | rfl
      · exact hf _ (by simp)
      · exact hf _ (by simp)
      · exact hf _ (by simp)
      · exact hf _ (by simp)
      · exact hf _ (by simp)
      · exact fS
  show wpAny _ X.A.in1.in1 (rule "list.extend.makes-room" >>= fun _ => Builtin.List.listTouch (.ref s.heap.objs.size) >>= fun _ =>
    again (.builtin "list.extend.loop" ⟨[.ref s.heap.objs.size, .ref z, .none], []⟩)) _ _ _
  refine wpAny_bind (wpAny_rule ?_)
  refine wpAny_bind ?_
  show wpAny _ X.A.in1.in1 (updateSeq s.heap.objs.size (·.push .none) >>= fun _ => updateSeq s.heap.objs.size (·.pop)) _ _ _
  refine wpAny_bind (wpAny_updateSeq hS2 rfl ?_)
  have hS3 := Heap.get?_update_self (Obj.mapSeq (·.push Value.none)) hS2 rfl
  refine wpAny_updateSeq (hz := by seq_fits) hS3 rfl ?_
  have hS4 := Heap.get?_update_self (Obj.mapSeq (·.pop)) hS3 rfl
  have k4 := up _ (Obj.mapSeq (·.pop)) (up _ (Obj.mapSeq (·.push Value.none)) k2)
  exact wpAny_pure ⟨plainId_quiet F.plain_extend_loop _, cont _ _ k4 hS4⟩
def lzipF (fs : AF) : EF := fun en st => (fs en st).bind fun ds st1 => match ds with
  | [x, y] => match frz x, frz y with
    | some a, some b => if (zipF a b).length ≤ 1000 then .ok (.lst (zipF a b)) st1 else .bad
    | _, _ => .bad
  | _ => .bad
section
variable {X : Cx} {xm : List Addr} {W : WX} {k : Nat} {e e2 : Expr} {fs : AF} {p p2 pos pos2 : Pos}
theorem sn_lzip (G : GX X xm W k) (hml : X.mg "list" = none) (hmz : X.mg "zip" = none) (ha : PA X [e, e2] (TAf X.K xm W fs)) (hgl : Gl X "list" := by rfl) (hgz : Gl X "zip" := by rfl)
    (hs : starEach [e, e2] X.env = (false, eval e X.env) :: starEach [e2] X.env := by rfl) (hpl : (backTo pos2 (starEach [e2] X.env)).any (·.1) = false := by rfl)
    (he : starEach [.Call (.Name "zip" p2) [e, e2] [] pos2] X.env = (false, eval (.Call (.Name "zip" p2) [e, e2] [] pos2) X.env) :: starEach [] X.env := by rfl) :
    PE X (.Call (.Name "list" p) [.Call (.Name "zip" p2) [e, e2] [] pos2] [] pos) (TEf X.K xm W (lzipF fs)) := by
  refine ⟨fun pins s σ H Q I ⟨z, en, st, rh, re, h⟩ => ?_⟩
  have ta : TAf X.K xm W fs σ H fun vs H1 => ∃ z1 st1 x y a b, Ext z H z1 H1 ∧ RelH X.K z1 H1 st1 ∧ Reps X.K z1 H1 vs [x, y] ∧ frz x = some a ∧ frz y = some b ∧ (zipF a b).length ≤ 1000 ∧ okD X.K z1 H1 Q (.lst (zipF a b)) st1 := by
    refine seqA' rh re (wp_bind.mp h) fun d1 st1 v1 z1 H1 q1 e1 r1 re1 p1 => ?_
    match d1, p1, q1 with
    | [], _, q1 => exact q1.elim
    | [_], _, q1 => exact q1.elim
    | _ :: _ :: _ :: _, _, q1 => exact q1.elim
    | [x, y], p1, q1 =>
      simp only at q1
      cases hx : frz x with
      | none =>
        rw [hx] at q1
        exact q1.elim
      | some a =>
        cases hy : frz y with
        | none =>
          rw [hx, hy] at q1
          exact q1.elim
        | some b =>
          rw [hx, hy] at q1
          simp only at q1
          split at q1
          · rename_i hl
            exact ⟨z1, st1, x, y, a, b, e1, r1, p1, hx, hy, hl, okD.ext e1 q1⟩
          · exact q1.elim
  refine wpAny_Call_Name_kw (ld_blt I hgl hml bt_list ?_ (by decide) (by decide))
  refine PyProof.Rows.callWith_type1 ?_ he rfl
  rw [he]
  show wpAny _ _ (spliced ((false, eval (.Call (.Name "zip" p2) [e, e2] [] pos2) X.env) :: backTo pos (starEach [] X.env))) _ _ s
  refine Calls.spliced_cons ?_
  refine Call_ (ld_blt I hgz hmz PyProof.Rows.boot_zip (PyProof.Rows.callWith_type1 (thn (ha.run pos2 pins s σ H _ I ta) fun us s1 ⟨vs, H1, I1, r1, q1⟩ => ?_) hs hpl))
  obtain ⟨z1, st1, x, y, a, b, e1, rh1, rs, hx, hy, hl, ok⟩ := q1
  cases rs with
  | cons px rs =>
  cases rs with
  | cons py rs =>
  cases rs
  obtain ⟨l1, xs, rfl, t1, rx⟩ := frz_at px hx
  obtain ⟨l2, ys, rfl, t2, ry⟩ := frz_at py hy
  cases r1 with
  | cons ra r1 =>
  cases r1 with
  | cons rb r1 =>
  cases r1
  cases ra
  cases rb
  obtain ⟨its, rv, p1, _⟩ := I1.list (t1 z1 H1 Ext.refl.toEx0)
  obtain ⟨its2, rv2, p2, _⟩ := I1.list (t2 z1 H1 Ext.refl.toEx0)
  refine call_zip_2 p1.isList p2.isList fun h' hz hTI hTO h1 h2 hsz hk => ?_
  refine Calls.spliced_nil ?_
  have I2 : Inv X pins σ H1 { s1 with heap := h' } := I1.kept (t' := s1.toks) hk
  refine call_list_zip (z0 := z1) (st := st1) G.cm (PySem.W.ktu_apart s1.heap.objs.size l1 l2 p1.lt p2.lt) I2 rh1 (fun z' H' w => ⟨t1 z' H' w, t2 z' H' w⟩) rx ry hl (fun c hcm => ?_) hz hTI hTO h1 h2 ok
  have hle : s1.heap.objs.size ≤ c := by
    simp only [List.mem_cons, List.not_mem_nil, or_false] at hcm
    rcases hcm with z | z | z | z | z
    · rw [z]; exact Nat.le_add_right _ _
    · rw [z]; exact Nat.le_add_right _ _
    · rw [z]; exact Nat.le_add_right _ _
    · rw [z]; exact Nat.le_refl _
    · rw [z]; exact Nat.le_add_right _ _
  exact I1.fpOk hle (I1.hok.fresh hle)
end
end Ev

namespace Ev
open PySem PySem.Spec PyProof.Rows L2 RZ
variable [Tabs]
/-! ## lcm -/
def lcmL : OL := fun ds st => match ds with
  | [.int i, .int j] => if i.natAbs.log2 < 9000 ∧ j.natAbs.log2 < 9000 then some (.int ((Nat.lcm i.natAbs j.natAbs : Nat) : Int), st) else none
  | _ => none
theorem log2_max {a b n : Nat} (ha : a.log2 < n) (hb : b.log2 < n) : (max a b).log2 < n := by
  rcases Nat.le_total a b with h | h
  · rw [Nat.max_eq_right h]; exact hb
  · rw [Nat.max_eq_left h]; exact ha
theorem lcm_log {a b : Nat} (ha : a.log2 < 9000) (hb : b.log2 < 9000) : (a.lcm b).log2 < bitsLine := by
  have h1 : a < 2 ^ (a.log2 + 1) := Nat.lt_log2_self
  have h2 : b < 2 ^ (b.log2 + 1) := Nat.lt_log2_self
  have h3 : a.lcm b ≤ 2 ^ (a.log2 + 1 + (b.log2 + 1)) := by
    rw [Nat.pow_add]
    exact Nat.le_trans (PySem.W.mc_lcm_le a b) (Nat.mul_le_mul (Nat.le_of_lt h1) (Nat.le_of_lt h2))
  refine PySem.W.mc_size (k := 300) (Nat.le_trans h3 (Nat.pow_le_pow_right (by decide) (by omega))) (by decide)
section
variable {X : Cx}
theorem cl_lcm : CallR X (.builtin "math.lcm") (RLf X.K lcmL) := by
  intro pins s σ H xs us Q I rv ⟨z, st, ds, d, st', rh, ps, e, q⟩
  unfold lcmL at e
  split at e
  · rename_i i j
    split at e
    · rename_i hl
      cases e
      cases ps with
      | cons p1 ps =>
      cases ps with
      | cons p2 ps =>
      cases ps
      cases p1
      cases p2
      obtain ⟨t, u, rfl⟩ := Vals.int2 rv
      have m1 : (max 1 i.natAbs).log2 < 9000 := log2_max (by decide) hl.1
      have m2 := log2_max hl.1 hl.2
      have z1 := lcm_log hl.1 hl.2
      refine call_function_meets PySem.W.MGF.kind_lcm PySem.W.MGF.plain_lcm PySem.W.MGF.entry_lcm (PySem.W.MGF.args_lcm _ _) (PySem.W.mg_run_lcm i t j u (by omega) (by omega) (by rw [PySem.W.mc_lcm_one]; exact z1)).meets ?_
      exact ⟨.int _, H, I.tok _, ⟨_, by rw [PySem.W.mc_lcm_one]⟩, okD.here q rh (.int _)⟩
    · cases e
  · cases e
/-! ## [x] * n as a cell -/
def mulC : O2 := fun a b st => match b with
  | .int k => (asL a st).bind fun x => if decide (-(2 ^ 63) ≤ k) && decide (k < 2 ^ 63) && decide (x.length * k.toNat ≤ sizeLine) then some (.ref st.length, st ++ [.lst (List.replicate k.toNat x).flatten]) else none
  | _ => none
theorem or_mulC : OpR X (binaryOp .Mult) (R2f X.K mulC) := by
  intro pins s σ H x y v u Q I rx ry ⟨z, st, da, db, d, st', rh, px, py, e, q⟩
  unfold mulC at e
  split at e
  · rename_i k
    cases py
    obtain ⟨xs, h1, e⟩ := Option.bind_eq_some_iff.mp e
    split at e
    · rename_i hl
      cases e
      simp only [Bool.and_eq_true, decide_eq_true_eq] at hl
      obtain ⟨a, vs, rfl, e1, r1⟩ := asL_at rh px h1
      exact op_rep pins s σ H _ _ v u Q I rx ry ⟨a, k, vs, rfl, rfl, e1, hl.1.1, hl.1.2, by rw [r1.length]; exact hl.2, fun p n => okD.newC q rh (r1.flat _) n⟩
    · cases e
  · cases e
/-! ## o[i] op= e -/
def ixLD : O2 := fun a b st => match b with
  | .int i => (asLF a st).bind fun ds => (atD ds i).bind fun d => some (d, st)
  | _ => none
theorem get_ix : PGet X (R2f X.K ixLD) := by
  intro pins s σ H x y v u Q I rx ry ⟨z, st, da, db, d, st', rh, px, py, e, q⟩
  unfold ixLD at e
  split at e
  · rename_i i
    cases py
    obtain ⟨ds, h1, e⟩ := Option.bind_eq_some_iff.mp e
    obtain ⟨d', h2, e⟩ := Option.bind_eq_some_iff.mp e
    cases e
    obtain ⟨p, xs, rfl, hq, rs⟩ := asLF_at rh px h1
    obtain ⟨w, hw, rw1⟩ := atI_at rs h2
    cases rx
    obtain ⟨t, rfl⟩ := ry
    obtain ⟨its, r, pl, hz⟩ := I.list hq
    obtain ⟨j, g1, g2, g3, g4, g5⟩ := atI_get hw
    obtain ⟨w2, ew, rw'⟩ := r.get g2
    have hl := r.length
    have hn := line63
    have fin : EP X pins σ Q w2 s := ⟨w, H, I, rw', okD.here q rh rw1⟩
    by_cases h0 : 0 ≤ i
    · have hj : i.toNat = j := by
        rw [seqIndex_of h0 g5] at g1
        exact Option.some.inj g1
      exact wpAny_getItem_list pl.isList h0 (by omega) (by rw [hj]; simpa using ew) fin
    · have hj : (i + (its.toArray.size : Int)).toNat = j := by
        rw [seqIndex_neg (by omega) g4] at g1
        rw [List.size_toArray, ← hl]
        exact Option.some.inj g1
      exact wpAny_getItem_list_neg pl.isList (by omega) (by rw [List.size_toArray] <;> omega) (by omega) (by rw [hj]; simpa using ew) fin
  · cases e
def addI2 : O2 := fun a b st => match a, b with
  | .int i, .int j => some (.int (i + j), st)
  | _, _ => none
theorem ip_addD : OpR X (inplaceOp .Add) (R2f X.K addI2) := by
  intro pins s σ H x y v u Q I rx ry ⟨z, st, da, db, d, st', rh, px, py, e, q⟩
  unfold addI2 at e
  split at e
  · cases e
    cases px
    cases py
    exact ip_add pins s σ H _ _ v u Q I rx ry ⟨_, _, rfl, rfl, okD.here q rh (.int _)⟩
  · cases e
theorem ip_subD : OpR X (inplaceOp .Sub) (R2f X.K subD) := by
  intro pins s σ H x y v u Q I rx ry ⟨z, st, da, db, d, st', rh, px, py, e, q⟩
  unfold subD at e
  split at e
  · cases e
    cases px
    cases py
    exact ip_sub pins s σ H _ _ v u Q I rx ry ⟨_, _, rfl, rfl, okD.here q rh (.int _)⟩
  · cases e
def augSubS (op : O2) (o i e : EF) : SF := fun en st => bindS (o en st) en fun l st1 => bindS (i en st1) en fun j st2 => bindS (R.ofO (ixLD l j st2)) en fun x st3 => bindS (e en st3) en fun y st4 => bindS (R.ofO (op x y st4)) en fun w st5 => match l, j with
  | .ref n, .int m => match st5[n]? with
    | some (.lst ds) => match ixN ds.length m with
      | some q => .nx en (st5.set n (.lst (ds.set q w)))
      | none => .bad
    | _ => .bad
  | _, _ => .bad
variable {xm : List Addr} {W : WX} {a b e : Expr} {f g h : EF} {tpos pos : Pos} {op : O2} {o : Operator}
theorem ss_augSub (ho : PE X a (TEf X.K xm W f)) (hi : PE X b (TEf X.K xm W g)) (he : PE X e (TEf X.K xm W h)) (hp : OpR X (inplaceOp o) (R2f X.K op))
    (ha : ∀ ov iv new, augStore b ov iv new = (do holding [new, ov, iv] (setItem ov iv new); release [new, ov, iv] []; pure .next) := by intros; rfl) :
    PS X (.AugAssign (.Subscript a b tpos) o e pos) (TSf X.K xm W (augSubS op f g h)) :=
  (ps_augS (tget := R2f X.K ixLD) (tip := R2f X.K op) ho hi get_ix he hp set_list ha).imp fun E σ H ⟨z, en, st, rh, re, hh⟩ => by
    refine seqE' rh re (sat_bind re hh) fun d1 st1 v1 z1 H1 q1 e1 r1 re1 p1 => ?_
    refine seqE' r1 re1 (wpD_ext e1 (sat_bind re q1) fun _ _ q => q) fun d2 st2 v2 z2 H2 q2 e2 r2 re2 p2 => ?_
    have q2 := sat_bind re q2
    cases w1 : ixLD d1 d2 st2 with
    | none =>
      rw [w1] at q2
      exact False.elim q2
    | some y1 =>
      rw [w1] at q2
      refine ⟨z2, st2, d1, d2, y1.1, y1.2, r2, p1.ext e2, p2, by rw [w1], fun v3 z3 H3 e3 r3 p3 => ?_⟩
      have re3 := re2.ext e3
      refine seqE' r3 re3 (wpD_ext ((e1.trans e2).trans e3) (sat_bind re q2) fun _ _ q => q) fun d4 st4 v4 z4 H4 q4 e4 r4 re4 p4 => ?_
      have q4 := sat_bind re q4
      cases w2 : op y1.1 d4 st4 with
      | none =>
        rw [w2] at q4
        exact False.elim q4
      | some y2 =>
        rw [w2] at q4
        refine ⟨z4, st4, y1.1, d4, y2.1, y2.2, r4, p3.ext e4, p4, by rw [w2], fun v5 z5 H5 e5 r5 p5 => ?_⟩
        have re5 := re4.ext e5
        have e15 := ((e2.trans e3).trans e4).trans e5
        have p1' := p1.ext e15
        have p2' := p2.ext ((e3.trans e4).trans e5)
        cases d1 with
        | ref n =>
          cases p1' with
          | @ref p _ hn hk =>
            cases d2 with
            | int m =>
              cases p2'
              cases hc : y2.2[n]? with
              | none =>
                simp only [R.ofO, R.wp, hc] at q4
                exact False.elim q4
              | some cl =>
                cases cl with
                | set S =>
                  simp only [R.ofO, R.wp, hc] at q4
                  exact False.elim q4
                | dct ks0 ds0 =>
                  simp only [R.ofO, R.wp, hc] at q4
                  exact False.elim q4
                | lst ds =>
                  simp only [R.ofO, R.wp, hc] at q4
                  obtain ⟨xs, hx, rs⟩ := r5.cell hn hc
                  cases hj : ixN ds.length m with
                  | none =>
                    simp only [hj] at q4
                    exact False.elim q4
                  | some j =>
                    simp only [hj] at q4
                    refine ⟨p, xs, m, j, rfl, rfl, hx, by rw [rs.length]; exact hj, ?_⟩
                    have e6 := ext_write (o := .lst (xs.set j v5)) r5 hn
                    exact q4 σ z5 _ ((e1.trans e15).trans e6) (r5.write hn hk (Reps.set p5 j rs)) (re5.ext e6)
            | _ => exact False.elim q4
        | _ => cases d2 <;> exact False.elim q4
end
/-! ## enumerate over a cell -/
def enumNx (n : Nat) : Nat → Sto → Option (Option D) := fun i st => match st[n]? with
  | some (.lst ds) => some ((ds[i]?).map fun d => .tup [.int (i : Nat), d])
  | _ => none
def enumAI (fs : AF) : IF := fun en st => (fs en st).bind fun ds st1 => match ds with
  | [.ref n] => match st1[n]? with
    | some (.lst _) => .ok (.dyn 99999 (enumNx n)) st1
    | _ => .bad
  | [d] => match frz d with
    | some es => .ok (.items (enumF 0 es)) st1
    | none => .bad
  | _ => .bad
theorem itY_enum {K : PySem.W.Frag} {z : Z} {H : Hp} {a : Addr} {n : Nat} (hn : z.mu[n]? = some a) : ItY K z H (enumNx n) (Ite K a) := fun z1 H1 st i e rh => by
  unfold enumNx
  cases hc : st[n]? with
  | none => trivial
  | some c =>
    cases c with
    | set S => trivial
    | dct ks0 ds0 => trivial
    | lst ds =>
      obtain ⟨xs, hx, rs⟩ := rh.cell (e.mu _ _ hn) hc
      cases hd : ds[i]? with
      | none =>
        have := List.getElem?_eq_none_iff.mp hd
        simp only [hd, Option.map]
        exact ⟨xs, SqL.of hx, by rw [rs.length]; exact this⟩
      | some d =>
        obtain ⟨v, hv, rv⟩ := rs.getD hd
        simp only [hd, Option.map]
        refine ⟨⟨xs, v, SqL.of hx, hv⟩, fun x H2 y => ?_⟩
        obtain ⟨T, x', rfl, nT, rfl, y⟩ := y
        have e2 := y xs (SqL.of hx)
        rw [hv] at e2
        cases e2
        have x2 := ext_add (o := .tup [.int (i : Nat), v]) rh nT
        exact ⟨z1.add T, x2, rh.add nT, .tup (.of (.inr rfl) upd_same rfl) (.cons (.int _) (.cons (rv.ext x2) .nil))⟩
section
variable {X : Cx} {xm : List Addr} {W : WX} {e : Expr} {elts : List Expr} {fs : AF} {p pos tpos : Pos} {kk : Nat}
theorem si_enumA (hg : Gl X "enumerate") (hm : X.mg "enumerate" = none) (ha : PA X [e] (TAf X.K xm W fs)) (hs : starEach [e] X.env = [(false, eval e X.env)] := by rfl) : PI X (.Tuple elts kk tpos) (.Call (.Name "enumerate" p) [e] [] pos) (TIf X.K xm W (enumAI fs)) :=
  (pi_enum hg hm ha hs).imp fun σ H Rq ⟨z, en, st, rh, re, h⟩ => by
    refine seqA' rh re (wp_bind.mp h) fun d1 st1 v1 z1 H1 q1 e1 r1 re1 p1 => ?_
    cases p1 with
    | nil => exact q1.elim
    | cons p1 ps =>
    cases ps with
    | cons _ _ =>
      unfold enumAI at *
      rename_i d _ _ _ _ _ _
      cases d <;> exact q1.elim
    | nil =>
      rename_i v d
      have lay : ∀ ds, frz d = some ds → (∀ J z' H', Ext z H z' H' → RelH X.K z' H' st1 → ItR X.K z' H' J (.items (enumF 0 ds)) → Rq J H') → ∃ (a : Addr) (xs : List V), [v] = [V.ref a] ∧ SqL X.K H1 a xs ∧ Rq (Ite X.K a) H1 := fun ds hf q1 => by
        obtain ⟨a, xs, rfl, t, rs⟩ := frz_at p1 hf
        exact ⟨a, xs, rfl, t z1 H1 Ext.refl.toEx0, q1 _ z1 H1 e1 r1 (itI_enum t rs)⟩
      cases p1 with
      | @ref a n hn hk =>
        simp only at q1
        cases hc : st1[n]? with
        | none =>
          simp only [hc] at q1
          exact q1.elim
        | some c =>
          cases c with
          | set S =>
            simp only [hc] at q1
            exact q1.elim
          | dct ks0 ds0 =>
            simp only [hc] at q1
            exact q1.elim
          | lst ds =>
            simp only [hc] at q1
            obtain ⟨xs, hx, rs⟩ := r1.cell hn hc
            exact ⟨a, xs, rfl, SqL.of hx, q1 _ z1 H1 e1 r1 (itY_enum hn)⟩
      | lst => exact lay _ rfl q1
      | fro => exact lay _ rfl q1
      | _ => exact q1.elim
end
end Ev

namespace Ev
open PySem PySem.Spec PyProof.Rows L2 RZ
/-! ## what is walked: a tuple, a list, the keys of a dict with n entries -/
inductive SK where
  | t | l | d (n ep : Nat)
def IsS (k : SK) (h : Heap) (l : Addr) (items : Array Value) : Prop := match k with
  | .l => h.IsList l items
  | .t => h.IsTuple l items
  | .d n ep => (l == sysModules) = false ∧ ∃ es : Array DictEntry, h.DictRaw l es ep ∧ es.size = n ∧ items = es.map fun e => e.key
def IsSI (k : SK) (h : Heap) (it l : Addr) (i : Nat) : Prop := match k with
  | .l => h.IsListIter it l i
  | .t => h.IsTupleIter it l i
  | .d n ep => h.IsKeyIter it l i n ep
def SqK (k : SK) (K : PySem.W.Frag) (H : Hp) (a : Addr) (xs : List V) : Prop := match k with
  | .l => SqL K H a xs
  | .t => SqT K H a xs
  | .d n ep => (a == sysModules) = false ∧ ∃ (o : Obj) (es : Array DictEntry), H a = some (dO a o) ∧ o.ExactDict ∧ o.data = .dict es ep ∧ es.size = n ∧ Vals xs (es.toList.map fun e => e.key)
/-- a new iterator over it -/
def itO (k : SK) (l : Addr) : Obj := match k with
  | .l => { cls := .type "list_iterator", data := .fields #[.ref l, .int 0 0] }
  | .t => { cls := .type "tuple_iterator", data := .fields #[.ref l, .int 0 0] }
  | .d n ep => { cls := .type "dict_keyiterator", data := .fields #[.ref l, .int 0 0, .int n 0, .int ep 0] }
section
variable {prog : Program} {w : World} {A : Around} {E : Value → Shared → Prop} {s0 : Shared}
theorem nextOf_key_item {jt dd : Addr} {j e0 : Nat} {es : Array DictEntry} {Q : Value → Shared → Prop} (hj : s0.heap.IsKeyIter jt dd j es.size e0) (hm : s0.heap.DictRaw dd es e0) (lt : j < es.size)
    (hQ : ∀ h', h'.IsKeyIter jt dd (j + 1) es.size e0 → Heap.SameBut jt s0.heap h' → Q es[j].key { s0 with heap := h' }) : wpAny (model prog w) A (Builtin.SmallTypes.nextOf (.ref jt)) Q E s0 := by
  obtain ⟨oj, gj, cj, dj⟩ := id hj
  obtain ⟨ob, gb, cb, db⟩ := id hm
  unfold Builtin.SmallTypes.nextOf
  refine wpAny_bind (wpAny_callSpecial?_slot (name := Str.ofString "__next__") hj.typeIs F.slot_dict_keyiterator_next
    (wpAny_call_entry F.slot_dict_keyiterator_next hj.typeIs F.entry_dict_keyiterator_next ?_ (F.args_dict_keyiterator_next_1 _)))
  refine wpAny_bind (wpAny_pure (wpAny_bind (wpAny_bind ?_)))
  first | refine wpAny_bind (wpAny_typeNameOfWhole_keyiter hj.typeIs (wpAny_pure ?_)) | refine wpAny_bind (wpAny_typeNameOf_keyiter hj.typeIs (wpAny_pure ?_))
  refine wpAny_bind (wpAny_fieldsOf gj dj ?_)
  have own0 : Builtin.Dict_items.ownsTuple "dict_keyiterator" = false := by decide
  simp only [own0, Bool.false_eq_true, if_false]
  show wpAny _ _ (if (Value.ref dd == Value.none) = true then _ else _) _ _ s0
  rw [if_neg (show ¬ ((Value.ref dd == Value.none) = true) from fun z => nomatch z)]
  refine wpAny_bind (wpAny_pure (wpAny_bind (wpAny_dictEntries gb db ?_)))
  rw [if_neg (by simp)]
  refine wpAny_bind (wpAny_pure (wpAny_bind (wpAny_dictEpoch gb db ?_)))
  rw [if_neg (by simp)]
  refine wpAny_pure ?_
  simp only [show ¬ ((j : Int) < 0) from by omega, if_false, Int.toNat_natCast, Array.getElem?_eq_getElem lt]
  refine wpAny_bind ?_
  first | refine wpAny_bind (wpAny_typeNameOfWhole_keyiter hj.typeIs (wpAny_pure ?_)) | refine wpAny_bind (wpAny_typeNameOf_keyiter hj.typeIs (wpAny_pure ?_))
  refine wpAny_bind (wpAny_isOneOf_keyiter hj.typeIs ?_)
  show wpAny _ _ (setField (.ref jt) 1 (rawInt ((j : Int) + 1)) >>= _) _ _ s0
  refine wpAny_bind (wpAny_setField gj dj (by simp) ?_)
  have hj2 : (s0.heap.update jt (Obj.mapFields (·.setIfInBounds 1 (rawInt ((j : Int) + 1))))).IsKeyIter jt dd (j + 1) es.size e0 :=
    ⟨_, Heap.get?_update_self _ gj (Obj.isFreed_of_fields (Obj.data_mapFields dj _)), (Obj.cls_mapFields ..).trans cj, by rw [Obj.data_mapFields dj]; simp [rawInt]⟩
  refine wpAny_bind (wpAny_holding ?_)
  refine wpAny_bind (wpAny_isOneOf_keyiter (s := { s0 with heap := s0.heap.update jt (Obj.mapFields (·.setIfInBounds 1 (rawInt ((j : Int) + 1)))) }) hj2.typeIs ?_)
  show wpAny _ _ (pure es[j].key) _ _ _
  exact wpAny_pure (wpAny_pure ⟨_, rfl, wpAny_pure (hQ _ hj2 (Heap.SameBut.update ..))⟩)
theorem nextOf_key_end {jt dd : Addr} {j e0 : Nat} {es : Array DictEntry} {Q : Value → Shared → Prop} (hh : A.handled = none) (hj : s0.heap.IsKeyIter jt dd j es.size e0) (hm : s0.heap.DictRaw dd es e0) (ge : es.size ≤ j)
    (hE : ∀ h' e, Heap.ExtBut jt s0.heap h' → (∃ o, h'.get? e = some o ∧ o.cls = .type "StopIteration") → E (.ref e) { s0 with heap := h' }) : wpAny (model prog w) A (Builtin.SmallTypes.nextOf (.ref jt)) Q E s0 := by
  obtain ⟨oj, gj, cj, dj⟩ := id hj
  obtain ⟨ob, gb, cb, db⟩ := id hm
  unfold Builtin.SmallTypes.nextOf
  refine wpAny_bind (wpAny_callSpecial?_slot (name := Str.ofString "__next__") hj.typeIs F.slot_dict_keyiterator_next
    (wpAny_call_entry F.slot_dict_keyiterator_next hj.typeIs F.entry_dict_keyiterator_next ?_ (F.args_dict_keyiterator_next_1 _)))
  refine wpAny_bind (wpAny_pure (wpAny_bind (wpAny_bind ?_)))
  first | refine wpAny_bind (wpAny_typeNameOfWhole_keyiter hj.typeIs (wpAny_pure ?_)) | refine wpAny_bind (wpAny_typeNameOf_keyiter hj.typeIs (wpAny_pure ?_))
  refine wpAny_bind (wpAny_fieldsOf gj dj ?_)
  have own0 : Builtin.Dict_items.ownsTuple "dict_keyiterator" = false := by decide
  simp only [own0, Bool.false_eq_true, if_false]
  show wpAny _ _ (if (Value.ref dd == Value.none) = true then _ else _) _ _ s0
  rw [if_neg (show ¬ ((Value.ref dd == Value.none) = true) from fun z => nomatch z)]
  refine wpAny_bind (wpAny_pure (wpAny_bind (wpAny_dictEntries gb db ?_)))
  rw [if_neg (by simp)]
  refine wpAny_bind (wpAny_pure (wpAny_bind (wpAny_dictEpoch gb db ?_)))
  rw [if_neg (by simp)]
  refine wpAny_pure ?_
  simp only [show ¬ ((j : Int) < 0) from by omega, if_false, Int.toNat_natCast, Array.getElem?_eq_none ge]
  refine wpAny_bind ?_
  first | refine wpAny_bind (wpAny_typeNameOfWhole_keyiter hj.typeIs (wpAny_pure ?_)) | refine wpAny_bind (wpAny_typeNameOf_keyiter hj.typeIs (wpAny_pure ?_))
  show wpAny _ _ (setField (.ref jt) 0 .none >>= _) _ _ s0
  refine wpAny_bind (wpAny_setField gj dj (by simp) ?_)
  show wpAny _ _ (newExc (.type "StopIteration") [] >>= _) _ _ _
  refine wpAny_bind ?_
  simp only [newExc, newTuple]
  refine wpAny_bind (wpAny_newObj_type (hd := by size_fits) ?_)
  refine wpAny_bind (m := firstArgMember _ _) (wpAny_of_eq (a := Value.none) (by first | rfl | (simp only [firstArgMember]; exact rfl)) ?_)
  refine wpAny_newObj_type (hd := by size_fits) ?_
  simp only [raiseNew]
  refine wpAny_bind (wpAny_handled ?_)
  rw [show A.in1.handled = none from hh]
  exact wpAny_bind (wpAny_pure (wpAny_throw (hE _ _ (((Heap.SameBut.update ..).extBut.push _).push _) ⟨_, Heap.get?_push_size _ rfl, rfl⟩)))
theorem pyIter_S {k : SK} {l : Addr} {items : Array Value} {Q : Value → Shared → Prop} (hl : IsS k s0.heap l items) (hQ : Q (.ref s0.heap.objs.size) { s0 with heap := s0.heap.push (itO k l) }) : wpAny (model prog w) A (pyIter (.ref l)) Q E s0 := by
  cases k with
  | t => exact wpAny_pyIter_tuple hl hQ
  | l => exact wpAny_pyIter_list hl hQ
  | d n ep =>
    obtain ⟨h0, es, hm, rfl, _⟩ := hl
    exact wpAny_pyIter_dict_raw h0 hm hQ
end
section
variable {k : SK} {h h' : Heap} {it l b : Addr} {items : Array Value} {i : Nat}
theorem IsSI.at (x : IsSI k h it l i) (e : ∀ o, h.get? it = some o → h'.get? it = some o) : IsSI k h' it l i := by
  cases k with
  | t => exact Heap.IsTupleIter.at (show h.IsTupleIter it l i from x) e
  | l => exact Heap.IsListIter.at (show h.IsListIter it l i from x) e
  | d n ep =>
    obtain ⟨o, ho, r⟩ := (show h.IsKeyIter it l i n ep from x)
    exact ⟨o, e _ ho, r⟩
theorem IsS.at (x : IsS k h l items) (e : ∀ o, h.get? l = some o → h'.get? l = some o) : IsS k h' l items := by
  cases k with
  | t => exact Heap.IsTuple.at (show h.IsTuple l items from x) e
  | l => exact Heap.IsList.at (show h.IsList l items from x) e
  | d n ep =>
    obtain ⟨h0, es, hm, r⟩ := x
    exact ⟨h0, es, hm.at e, r⟩
theorem IsS.push (x : IsS k h l items) (o : Obj) : IsS k (h.push o) l items := x.at fun q e => Heap.get?_push_of_some _ e
theorem IsS.lt (x : IsS k h l items) : l < h.objs.size := by
  cases k with
  | t =>
    obtain ⟨o, ho, _⟩ := (show h.IsTuple l items from x)
    exact Heap.lt_size ho
  | l =>
    obtain ⟨o, ho, _⟩ := (show h.IsList l items from x)
    exact Heap.lt_size ho
  | d n ep =>
    obtain ⟨_, es, ⟨o, ho, _⟩, _⟩ := x
    exact Heap.lt_size ho
theorem IsSI.obj (x : IsSI k h it l i) : ∃ o, h.get? it = some o ∧ ∀ v, o.data ≠ .cell v := by
  cases k with
  | t =>
    obtain ⟨o, ho, _, hd⟩ := (show h.IsTupleIter it l i from x)
    exact ⟨o, ho, fun v q => by rw [hd] at q; cases q⟩
  | l =>
    obtain ⟨o, ho, _, hd⟩ := (show h.IsListIter it l i from x)
    exact ⟨o, ho, fun v q => by rw [hd] at q; cases q⟩
  | d n ep =>
    obtain ⟨o, ho, _, hd⟩ := (show h.IsKeyIter it l i n ep from x)
    exact ⟨o, ho, fun v q => by rw [hd] at q; cases q⟩
theorem itO_nf : (itO k l).isFreed = false := by cases k <;> rfl
theorem itO_is {h : Heap} {b : Addr} (e : h.get? b = some (itO k l)) : IsSI k h b l 0 := by
  cases k <;> exact ⟨_, e, rfl, rfl⟩
theorem drawsS {prog : Program} {w : World} {A : Around} (hh : A.handled = none) (k : SK) (it l : Addr) (hne : l ≠ it) (items : Array Value) :
    Draws prog w A it [it, l] items.size (fun i v => items[i]? = some v) (fun i h => IsSI k h it l i ∧ IsS k h l items) := by
  cases k with
  | t => exact Draws.tuple hh it l hne items
  | l => exact Draws.list hh it l hne items
  | d n ep =>
    refine ⟨fun _ _ st => let ⟨o, ho, _⟩ := st.1.obj; ⟨o, ho⟩, fun _ _ _ st hk => ⟨st.1.at fun o e => hk it (by simp) o e, st.2.at fun o e => hk l (by simp) o e⟩, fun i s Q E hi st hQ => ?_, fun s Q E st hE => ?_⟩
    · obtain ⟨hi1, h0, es, hm, rfl, rfl⟩ := st
      have hlt : i < es.size := by simpa using hi
      refine nextOf_key_item hi1 hm hlt fun h' a b => ?_
      exact hQ _ h' s.toks (by simp [hlt]) ⟨a, h0, es, hm.at fun o e => b.extBut _ _ hne e, rfl, rfl⟩ b
    · obtain ⟨hi1, h0, es, hm, rfl, rfl⟩ := st
      exact nextOf_key_end hh hi1 hm (by simp) hE
theorem drawsEnd {prog : Program} {w : World} {A : Around} (hh : A.handled = none) (k : SK) (it l : Addr) (items : Array Value) (i : Nat) (hi : items.size ≤ i) :
    Draws prog w A it [it, l] i (fun _ _ => True) (fun j h => (IsSI k h it l j ∧ IsS k h l items) ∧ j = i) where
  live := fun _ _ st => let ⟨o, ho, _⟩ := st.1.1.obj; ⟨o, ho⟩
  frame := fun _ _ _ st hk => ⟨⟨st.1.1.at fun o e => hk it (by simp) o e, st.1.2.at fun o e => hk l (by simp) o e⟩, st.2⟩
  item := fun j s Q E hj st hQ => absurd st.2 (Nat.ne_of_lt hj)
  done := fun s Q E st hE => by
    have he : items[i]? = none := by simp; omega
    cases k with
    | t => exact nextOf_tuple_end hh (show s.heap.IsTupleIter it l i from st.1.1) (show s.heap.IsTuple l items from st.1.2) he hE
    | l => exact wpAny_nextOf_list_end hh (show s.heap.IsListIter it l i from st.1.1) (show s.heap.IsList l items from st.1.2) he hE
    | d n ep =>
      obtain ⟨hi1, h0, es, hm, rfl, rfl⟩ := st.1
      exact nextOf_key_end hh hi1 hm (by simpa using hi) hE
end
theorem Inv.dO_at {X : Cx} {pins : List (Addr × Obj)} {σ : L2.St} {H : Hp} {s : Shared} {a : Addr} {o : Obj} (I : Inv X pins σ H s) (h : H a = some (dO a o)) : s.heap.get? a = some o :=
  (show ObjOk X.prog X.w H s.heap a (dO a o) from I.hok a _ h).1
theorem Inv.seqK {X : Cx} {pins : List (Addr × Obj)} {σ : L2.St} {H : Hp} {s : Shared} {a : Addr} {xs : List V} (I : Inv X pins σ H s) : ∀ {k : SK}, SqK k X.K H a xs → ∃ its : List Value, Vals xs its ∧ IsS k s.heap a its.toArray
  | .l, h => by
    obtain ⟨its, rv, p, _⟩ := I.list (show SqL X.K H a xs from h)
    exact ⟨its, rv, p.isList⟩
  | .t, h => by
    obtain ⟨its, rv, p, _⟩ := I.tuple (show SqT X.K H a xs from h)
    exact ⟨its, rv, p⟩
  | .d n ep, h => by
    obtain ⟨h0, o, es, e, ex, dd, z, rv⟩ := h
    refine ⟨_, rv, h0, es, ⟨o, Inv.dO_at I e, ex, dd⟩, z, ?_⟩
    apply Array.toList_inj.mp
    simp
theorem vals_inj {xs ys : List V} {its : List Value} (h : Vals xs its) (h' : Vals ys its) : xs = ys := by
  induction h generalizing ys with
  | nil => cases h'; rfl
  | cons r t ih =>
    cases h' with
    | cons r' t' => rw [ih t', r.inj r']
theorem Inv.seqK_inj {X : Cx} {pins : List (Addr × Obj)} {σ : L2.St} {H : Hp} {s : Shared} {a : Addr} {xs ys : List V} (I : Inv X pins σ H s) : ∀ {k : SK}, SqK k X.K H a xs → SqK k X.K H a ys → xs = ys
  | .l, h, h' => I.list_inj (show SqL X.K H a xs from h) h'
  | .t, h, h' => I.tuple_inj (show SqT X.K H a xs from h) h'
  | .d n ep, h, h' => by
    obtain ⟨_, o, es, e, _, dd, _, rv⟩ := h
    obtain ⟨_, o', es', e', _, dd', _, rv'⟩ := h'
    have q := (Inv.dO_at I e).symm.trans (Inv.dO_at I e')
    cases q
    rw [dd] at dd'
    cases dd'
    exact vals_inj rv rv'
end Ev

namespace Ev
open PySem PySem.Spec PyProof.Rows L2 RZ
section
variable (k1 k2 : SK)
abbrev zipMH1 (h : Heap) (l1 : Addr) : Heap := h.push (itO k1 l1)
abbrev zipMH2 (h : Heap) (l1 l2 : Addr) : Heap := (zipMH1 k1 h l1).push (itO k2 l2)
abbrev zipMH3 (h : Heap) (l1 l2 : Addr) : Heap := (zipMH2 k1 k2 h l1 l2).push { cls := .type "tuple", data := .seq #[.ref h.objs.size, .ref (zipMH1 k1 h l1).objs.size] }
abbrev zipMH4 (h : Heap) (l1 l2 : Addr) : Heap := (zipMH3 k1 k2 h l1 l2).push { cls := .type "tuple", data := .seq #[.none, .none] }
abbrev zipMH5 (h : Heap) (l1 l2 : Addr) : Heap := (zipMH4 k1 k2 h l1 l2).push { cls := .type "zip", data := .fields #[.none, .bool false, .bool false, .ref (zipMH2 k1 k2 h l1 l2).objs.size, .ref (zipMH3 k1 k2 h l1 l2).objs.size] }
end
theorem meets_zipM_new (k1 k2 : SK) (l1 l2 : Addr) (xs ys : Array Value) :
    Meets (Builtin.«zip.__new__» ⟨[.type "zip", .ref l1, .ref l2], []⟩) (fun _ R s => IsS k1 s.heap l1 xs ∧ IsS k2 s.heap l2 ys ∧
      R (.ok (.ret (.ref (zipMH4 k1 k2 s.heap l1 l2).objs.size))) { s with heap := zipMH5 k1 k2 s.heap l1 l2 }) := by
  exact .of_wp fun prog w A R s h => by
    obtain ⟨hp, g, d, tk, os⟩ := s; obtain ⟨hl1, hl2, h⟩ := h
    have hsub := sub_zip
    have hL1 : IsS k1 (Shared.heap ⟨hp, g, d, tk, os⟩) l1 xs := hl1
    have hL2 : IsS k2 (Shared.heap ⟨hp.push (itO k1 l1), g, d, tk, os⟩) l2 ys := hl2.push _
    wp_walk using pyIter_S hL1, pyIter_S hL2
    exact ⟨_, rfl, h⟩
section
variable {prog : Program} {w : World} {A : Around} {E : Value → Shared → Prop} {s : Shared}
theorem call_zipM (k1 k2 : SK) {l1 l2 : Addr} {xs ys : Array Value} {Q : Value → Shared → Prop} (hl1 : IsS k1 s.heap l1 xs) (hl2 : IsS k2 s.heap l2 ys)
    (h : ∀ h', IsZip h' (s.heap.objs.size + 4) (s.heap.objs.size + 2) (s.heap.objs.size + 3) .none → IsPair h' (s.heap.objs.size + 2) (.ref s.heap.objs.size) (.ref (s.heap.objs.size + 1)) →
      IsPair h' (s.heap.objs.size + 3) .none .none → IsSI k1 h' s.heap.objs.size l1 0 → IsSI k2 h' (s.heap.objs.size + 1) l2 0 → h'.objs.size = s.heap.objs.size + 5 →
      (∀ c o, s.heap.get? c = some o → h'.get? c = some o) → Q (.ref (s.heap.objs.size + 4)) { s with heap := h' }) :
    wpAny (model prog w) A (call (.type "zip") [.ref l1, .ref l2]) Q E s := by
  refine callType_new F.called_zip (by decide) (F.typeCall_zip_2 _ _) (F.newCall_zip_2 _ _) (fun obj => F.args_object_init_3 obj _ _) F.entry_zip_new
    (meets_zipM_new k1 k2 l1 l2 xs ys) ⟨hl1, hl2, ?_⟩
  have z1 : (zipMH1 k1 s.heap l1).objs.size = s.heap.objs.size + 1 := Heap.size_push ..
  have z2 : (zipMH2 k1 k2 s.heap l1 l2).objs.size = s.heap.objs.size + 2 := by rw [Heap.size_push, z1]
  have z3 : (zipMH3 k1 k2 s.heap l1 l2).objs.size = s.heap.objs.size + 3 := by rw [Heap.size_push, z2]
  have z4 : (zipMH4 k1 k2 s.heap l1 l2).objs.size = s.heap.objs.size + 4 := by rw [Heap.size_push, z3]
  have z5 : (zipMH5 k1 k2 s.heap l1 l2).objs.size = s.heap.objs.size + 5 := by rw [Heap.size_push, z4]
  have g5 : (zipMH5 k1 k2 s.heap l1 l2).get? (zipMH4 k1 k2 s.heap l1 l2).objs.size = some _ := Heap.get?_push_size _ rfl
  have g4 : (zipMH5 k1 k2 s.heap l1 l2).get? (zipMH3 k1 k2 s.heap l1 l2).objs.size = some _ := Heap.get?_push_of_some _ (Heap.get?_push_size _ rfl)
  have g3 : (zipMH5 k1 k2 s.heap l1 l2).get? (zipMH2 k1 k2 s.heap l1 l2).objs.size = some _ := Heap.get?_push_of_some _ (Heap.get?_push_of_some _ (Heap.get?_push_size _ rfl))
  have g2 : (zipMH5 k1 k2 s.heap l1 l2).get? (zipMH1 k1 s.heap l1).objs.size = some _ := Heap.get?_push_of_some _ (Heap.get?_push_of_some _ (Heap.get?_push_of_some _ (Heap.get?_push_size _ itO_nf)))
  have g1 : (zipMH5 k1 k2 s.heap l1 l2).get? s.heap.objs.size = some _ := Heap.get?_push_of_some _ (Heap.get?_push_of_some _ (Heap.get?_push_of_some _ (Heap.get?_push_of_some _ (Heap.get?_push_size _ itO_nf))))
  show _ ∧ _
  rw [z2, z3, z4] at g5
  rw [z1, z2] at g3
  rw [z3] at g4
  rw [z1] at g2
  rw [z4]
  exact ⟨⟨_, g5, rfl⟩, h _ g5 g3 g4 (itO_is g1) (itO_is g2) z5 fun c o x =>
    Heap.get?_push_of_some _ (Heap.get?_push_of_some _ (Heap.get?_push_of_some _ (Heap.get?_push_of_some _ (Heap.get?_push_of_some _ x))))⟩
end
def ItzM (k1 k2 : SK) (K : PySem.W.Frag) (a b : Addr) : It :=
  ⟨fun i H => ∃ (xs ys : List V) (x y : V), SqK k1 K H a xs ∧ SqK k2 K H b ys ∧ xs[i]? = some x ∧ ys[i]? = some y,
    fun i H v H' => ∃ T x y, v = .ref T ∧ H T = none ∧ (∃ its, H' = upd H T (frT its [x, y])) ∧ (∀ xs, SqK k1 K H a xs → xs[i]? = some x) ∧ ∀ ys, SqK k2 K H b ys → ys[i]? = some y,
    fun i H => ∃ xs ys : List V, SqK k1 K H a xs ∧ SqK k2 K H b ys ∧ (xs.length ≤ i ∨ ys.length ≤ i)⟩
theorem zipSep {z TI TO i1 i2 a b : Addr} (D : ZipApart z TI TO i1 i2 a b) (hab1 : a ≠ i1) (hab2 : b ≠ i2) : ZipSep2 z TI TO i1 i2 [i1, a] [i2, b] where
  TIz := D.TIz
  TOz := D.TOz
  TITO := D.TITO
  TIi1 := D.TIi1
  mem1 := by simp
  zf1 := by simp; exact ⟨D.i1z.symm, D.l1z.symm⟩
  Tf1 := by simp; exact ⟨D.TOi1, D.l1TO.symm⟩
  TIi2 := D.TIi2
  mem2 := by simp
  zf2 := by simp; exact ⟨D.i2z.symm, D.l2z.symm⟩
  Tf2 := by simp; exact ⟨D.TOi2, D.l2TO.symm⟩
  sep1_2 := by simp; exact ⟨D.i12, D.l2i1.symm⟩
  sep2_1 := by simp; exact ⟨D.i12.symm, D.l1i2.symm⟩
end Ev

namespace Ev
open PySem PySem.Spec PyProof.Rows L2 RZ
theorem turn_zipM {P : Program} {w : World} {K : PySem.W.Frag} {elts : List Expr} {kk : Nat} {tpos : Pos} {a b z TI TO i1 i2 : Addr} (k1 k2 : SK) (D : ZipApart z TI TO i1 i2 a b) :
    Turn P w K (.Tuple elts kk tpos) (ItzM k1 k2 K a b) [z, TI, TO, i1, i2] z (fun i h => IsZip h z TI TO .none ∧ IsPair h TI (.ref i1) (.ref i2) ∧ (∃ x y, IsPair h TO x y) ∧ IsSI k1 h i1 a i ∧ IsSI k2 h i2 b i) where
  mem := by simp
  obj := fun i h st c hc => by
    obtain ⟨hz, hTI, ⟨x, y, hTO⟩, h1, h2⟩ := st
    obtain ⟨o1, e1, d1⟩ := h1.obj
    obtain ⟨o2, e2, d2⟩ := h2.obj
    have e' : c = z ∨ c = TI ∨ c = TO ∨ c = i1 ∨ c = i2 := by simpa using hc
    rcases e' with q | q | q | q | q
    · rw [q]; exact ⟨_, hz, fun v q => nomatch q⟩
    · rw [q]; exact ⟨_, hTI, fun v q => nomatch q⟩
    · rw [q]; exact ⟨_, hTO, fun v q => nomatch q⟩
    · rw [q]; exact ⟨o1, e1, d1⟩
    · rw [q]; exact ⟨o2, e2, d2⟩
  keep := fun i h h' st k => by
    obtain ⟨hz, hTI, ⟨x, y, hTO⟩, h1, h2⟩ := st
    exact ⟨k z (by simp) _ hz, k TI (by simp) _ hTI, ⟨x, y, k TO (by simp) _ hTO⟩, h1.at fun o q => k i1 (by simp) o q, h2.at fun o q => k i2 (by simp) o q⟩
  item := by
    intro X hP hw hK hc i pins s σ H E I hf st hg
    subst hP hw hK
    obtain ⟨hz, hTI, ⟨x0, y0, hTO⟩, h1, h2⟩ := st
    obtain ⟨xs, ys, x, y, hqx, hqy, hx, hy⟩ := hg
    obtain ⟨its, rv, p⟩ := Inv.seqK I hqx
    obtain ⟨its2, rv2, p2⟩ := Inv.seqK I hqy
    obtain ⟨u, hu, ru⟩ := rv.get hx
    obtain ⟨u2, hu2, ru2⟩ := rv2.get hy
    have hzl : z < s.heap.objs.size := Heap.lt_size hz
    have hh := I.ok.hd hc
    have D1 := drawsS (prog := X.prog) (w := X.w) (A := X.A.in1) hh k1 i1 a D.l1i1 its.toArray
    have D2 := drawsS (prog := X.prog) (w := X.w) (A := X.A.in1) hh k2 i2 b D.l2i2 its2.toArray
    have n1 : i < its.toArray.size := by
      have := (List.getElem?_eq_some_iff.mp hu).1
      simpa using this
    have n2 : i < its2.toArray.size := by
      have := (List.getElem?_eq_some_iff.mp hu2).1
      simpa using this
    refine wpAny_pyNext_zipD2_item (zipSep D D.l1i1 D.l2i2) D1 D2 hz hTI hTO ⟨h1, p⟩ ⟨h2, p2⟩ n1 n2 fun v1 v2 h' tk e1 e2 z' TO' st1 st2 hT hsz hk => ?_
    have e1 : v1 = u := by
      have e1 : its.toArray[i]? = some v1 := e1
      have : its[i]? = some v1 := by simpa using e1
      rw [hu] at this
      exact (Option.some.inj this).symm
    have e2 : v2 = u2 := by
      have e2 : its2.toArray[i]? = some v2 := e2
      have : its2[i]? = some v2 := by simpa using e2
      rw [hu2] at this
      exact (Option.some.inj this).symm
    subst e1 e2
    refine ⟨_, rfl, wpAny_letOwnedTupleGo_zip (s := { s with heap := h', toks := tk }) z' fun h'' z'' sb => ?_⟩
    have hT2 : h''.get? s.heap.objs.size = some { cls := .type "tuple", data := .seq #[v1, v2] } := (sb.2 _ (Nat.ne_of_gt hzl)).trans hT
    have new : ObjOk X.prog X.w (upd H s.heap.objs.size (frT [v1, v2] [x, y])) h'' s.heap.objs.size (frT [v1, v2] [x, y]) :=
      frT_ok (by show 2 ≤ sizeLine; decide) (.cons ru (.cons ru2 .nil)) hT2
    have I1 : Inv X pins σ (upd H s.heap.objs.size (frT [v1, v2] [x, y])) { s with heap := h'', toks := tk } :=
      I.turnedNew (t' := tk) (ch := [z, TI, TO, i1, i2]) (fun c o hb q => (sb.2 c (fun q' => hb (by simp [q']))).trans (hk c o (fun q' => hb (by simp [q'])) (fun q' => hb (by simp [q'])) (fun q' => hb (by simp [q'])) (fun q' => hb (by simp [q'])) q)) hf (Nat.le_refl _) new
    refine ⟨.ref s.heap.objs.size, _, I1, rfl, ⟨_, x, y, rfl, I.hok.fresh (Nat.le_refl _), ⟨_, rfl⟩, fun l hl => by rw [Inv.seqK_inj I hl hqx]; exact hx, fun l hl => by rw [Inv.seqK_inj I hl hqy]; exact hy⟩, ⟨z'', ?_, ⟨v1, v2, ?_⟩, ?_, ?_⟩, fun c hcm => ?_⟩
    · exact (sb.2 _ D.TIz).trans (hk _ _ D.TIz D.TITO D.TIi1 D.TIi2 hTI)
    · exact (sb.2 _ D.TOz).trans TO'
    · exact st1.1.at fun o q => (sb.2 _ D.i1z).trans q
    · exact st2.1.at fun o q => (sb.2 _ D.i2z).trans q
    · have hlt : c < s.heap.objs.size := by
        have e' : c = z ∨ c = TI ∨ c = TO ∨ c = i1 ∨ c = i2 := by simpa using hcm
        rcases e' with q | q | q | q | q
        · rw [q]; exact hzl
        · rw [q]; exact Heap.lt_size hTI
        · rw [q]; exact Heap.lt_size hTO
        · rw [q]; obtain ⟨_, e1, _⟩ := h1.obj; exact Heap.lt_size e1
        · rw [q]; obtain ⟨_, e2, _⟩ := h2.obj; exact Heap.lt_size e2
      rw [upd_ne (Nat.ne_of_lt hlt)]
      exact (hf c hcm).1
  done := by
    intro X hP hw hK hc i pins s σ H E I hf st hg
    subst hP hw hK
    obtain ⟨hz, hTI, ⟨x0, y0, hTO⟩, h1, h2⟩ := st
    obtain ⟨xs, ys, hqx, hqy, hend⟩ := hg
    obtain ⟨its, rv, p⟩ := Inv.seqK I hqx
    obtain ⟨its2, rv2, p2⟩ := Inv.seqK I hqy
    have l1 := rv.length
    have l2 := rv2.length
    have hh := I.ok.hd hc
    have S := zipSep D D.l1i1 D.l2i2
    have fin : ∀ h' tk, (∀ c o, c ≠ z → c ≠ TO → c ≠ i1 → c ≠ i2 → s.heap.get? c = some o → h'.get? c = some o) → (none : Option Value) = none ∧ Inv X pins σ H { s with heap := h', toks := tk } := fun h' tk hk => ⟨rfl, I.turnedL (t' := tk) (ch := [z, TI, TO, i1, i2]) (fun c o hb q =>
      hk c o (fun q' => hb (by simp [q'])) (fun q' => hb (by simp [q'])) (fun q' => hb (by simp [q'])) (fun q' => hb (by simp [q'])) q) hf⟩
    by_cases c1 : xs.length ≤ i
    · have D1 := drawsEnd (prog := X.prog) (w := X.w) (A := X.A.in1) hh k1 i1 a its.toArray i (by simp; omega)
      by_cases c2 : ys.length ≤ i
      · have D2 := drawsEnd (prog := X.prog) (w := X.w) (A := X.A.in1) hh k2 i2 b its2.toArray i (by simp; omega)
        exact wpAny_pyNext_zipD2_end S D1 D2 hz hTI hTO ⟨⟨h1, p⟩, rfl⟩ ⟨⟨h2, p2⟩, rfl⟩ (Nat.le_refl _) (Nat.le_refl _) (.inl rfl) fun h' tk hk => fin h' tk hk
      · have D2 := drawsS (prog := X.prog) (w := X.w) (A := X.A.in1) hh k2 i2 b D.l2i2 its2.toArray
        exact wpAny_pyNext_zipD2_end S D1 D2 hz hTI hTO ⟨⟨h1, p⟩, rfl⟩ ⟨h2, p2⟩ (Nat.le_refl _) (by simp; omega) (.inl rfl) fun h' tk hk => fin h' tk hk
    · have c2 : ys.length ≤ i := by
        rcases hend with q | q
        · exact absurd q c1
        · exact q
      have D1 := drawsS (prog := X.prog) (w := X.w) (A := X.A.in1) hh k1 i1 a D.l1i1 its.toArray
      have D2 := drawsEnd (prog := X.prog) (w := X.w) (A := X.A.in1) hh k2 i2 b its2.toArray i (by simp; omega)
      exact wpAny_pyNext_zipD2_end S D1 D2 hz hTI hTO ⟨h1, p⟩ ⟨⟨h2, p2⟩, rfl⟩ (by simp; omega) (Nat.le_refl _) (.inr rfl) fun h' tk hk => fin h' tk hk
  self := fun A i s Q E st h => wpAny_pyIter_zip st.1 h
def iZipM (K : PySem.W.Frag) (ta : TA) : TI := fun σ H R => ta σ H fun vs H1 => ∃ k1 k2 a b xs ys, vs = [.ref a, .ref b] ∧ SqK k1 K H1 a xs ∧ SqK k2 K H1 b ys ∧ R (ItzM k1 k2 K a b) H1
theorem pi_zipM {X : Cx} {e e2 : Expr} {ta : TA} {p pos tpos : Pos} {elts : List Expr} {kk : Nat} (hg : Gl X "zip") (hm : X.mg "zip" = none) (ha : PA X [e, e2] ta)
    (hs : starEach [e, e2] X.env = (false, eval e X.env) :: starEach [e2] X.env := by rfl) (hpl : (backTo pos (starEach [e2] X.env)).any (·.1) = false := by rfl) :
    PI X (.Tuple elts kk tpos) (.Call (.Name "zip" p) [e, e2] [] pos) (iZipM X.K ta) := by
  refine ⟨fun pins s σ H R I h => ?_⟩
  refine Call_ (ld_blt I hg hm PyProof.Rows.boot_zip (PyProof.Rows.callWith_type1 (thn (ha.run pos pins s σ H _ I h) fun us s1 ⟨vs, H1, I1, r1, q1⟩ => ?_) hs hpl))
  obtain ⟨k1, k2, a, b, xs, ys, ex, hqx, hqy, q⟩ := q1
  subst ex
  cases r1 with
  | cons r rr =>
  cases rr with
  | cons r' rr =>
  cases rr
  cases r
  cases r'
  have fresh5 : ∀ c, c ∈ [s1.heap.objs.size + 4, s1.heap.objs.size + 2, s1.heap.objs.size + 3, s1.heap.objs.size, s1.heap.objs.size + 1] → FpOk X pins H1 c := fun c hcm => by
    have e' : c = s1.heap.objs.size + 4 ∨ c = s1.heap.objs.size + 2 ∨ c = s1.heap.objs.size + 3 ∨ c = s1.heap.objs.size ∨ c = s1.heap.objs.size + 1 := by simpa using hcm
    have hle : s1.heap.objs.size ≤ c := by
      rcases e' with z | z | z | z | z
      · rw [z]; exact Nat.le_add_right _ _
      · rw [z]; exact Nat.le_add_right _ _
      · rw [z]; exact Nat.le_add_right _ _
      · rw [z]; exact Nat.le_refl _
      · rw [z]; exact Nat.le_add_right _ _
    exact I1.fpOk hle (I1.hok.fresh hle)
  obtain ⟨its, rv, p1⟩ := Inv.seqK I1 hqx
  obtain ⟨its2, rv2, p2⟩ := Inv.seqK I1 hqy
  refine call_zipM k1 k2 p1 p2 fun h' hz hTI hTO h1 h2 hsz hk => wpAny_pyIter_zip hz ?_
  have I2 : Inv X pins σ H1 { s1 with heap := h' } := I1.kept (t' := s1.toks) hk
  exact ⟨s1.heap.objs.size + 4, [s1.heap.objs.size + 4, s1.heap.objs.size + 2, s1.heap.objs.size + 3, s1.heap.objs.size, s1.heap.objs.size + 1], _, _, H1, rfl, I2, turn_zipM k1 k2 (PySem.W.ktu_apart s1.heap.objs.size a b p1.lt p2.lt), ⟨hz, hTI, ⟨_, _, hTO⟩, h1, h2⟩, fresh5, q⟩
/-! the same on data: each of the two a tuple, a frozen list -/
/-- the keys, if they are tuples -/
def unR : List (Int ⊕ NestedKey) → Option (List NestedKey)
  | [] => none
  | [.inr k] => some [k]
  | .inr k :: r => (unR r).map fun l => k :: l
  | .inl _ :: _ => none
def frzT : D → Option (List D)
  | .tup ds => some ds
  | .dic ks _ => (unR ks).map keyDs
  | d => frz d
def zipMI (fs : AF) : IF := fun en st => (fs en st).bind fun ds st1 => match ds with
  | [a, b] => match frzT a, frzT b with
    | some x, some y => .ok (.items (zipF x y)) st1
    | _, _ => .bad
  | _ => .bad
variable [Tabs]
section
variable {K : PySem.W.Frag} {z : Z} {H : Hp} {a : Addr} {xs : List V} {ds : List D}
mutual
theorem KeyAt.rep : ∀ {v : V} {k : NestedKey}, KeyAt K z H v k → Rep K z H v (keyD k)
  | _, _, .num i => by
    unfold keyD
    exact .int i
  | _, _, .tup t n r => by
    unfold keyD
    exact .tup ⟨t, .inl n⟩ (KeyAts.reps r)
theorem KeyAts.reps : ∀ {vs : List V} {ks : List NestedKey}, KeyAts K z H vs ks → Reps K z H vs (keyDs ks)
  | _, _, .nil => by
    unfold keyDs
    exact .nil
  | _, _, .cons r t => by
    unfold keyDs
    exact .cons (KeyAt.rep r) (KeyAts.reps t)
end
theorem unR_some : ∀ {ks : List (Int ⊕ NestedKey)} {l : List NestedKey}, unR ks = some l → ks = l.map .inr ∧ l ≠ []
  | [.inr k], l, h => by cases h; exact ⟨rfl, by simp⟩
  | .inr k :: y :: r, l, h => by
    obtain ⟨l', h1, rfl⟩ := Option.map_eq_some_iff.mp (show (unR (y :: r)).map (fun l => k :: l) = some l from h)
    obtain ⟨e, _⟩ := unR_some h1
    exact ⟨by rw [List.map_cons, ← e], by simp⟩
theorem unR_map : ∀ {l : List NestedKey}, l ≠ [] → unR (l.map .inr) = some l
  | [], h => absurd rfl h
  | [_], _ => rfl
  | k :: k' :: r, _ => by
    show (unR ((k' :: r).map .inr)).map _ = _
    rw [unR_map (by simp)]
    rfl
theorem ents_keys : ∀ {kk : List NestedKey} {bs : List Addr} {us : List Value}, bs.length = kk.length → us.length = kk.length → (ents kk bs us).map (fun e => e.key) = bs.map Value.ref
  | [], [], _, _, _ => rfl
  | k :: kk, b :: bs, u :: us, h1, h2 => by
    show Value.ref b :: (ents kk bs us).map _ = _
    rw [ents_keys (by simpa using h1) (by simpa using h2)]
    rfl
theorem vals_refs : ∀ bs : List Addr, Vals (bs.map V.ref) (bs.map Value.ref)
  | [] => .nil
  | _ :: bs => .cons rfl (vals_refs bs)
theorem DctAt.sq {kk : List NestedKey} {ys : List V} (h : DctAt K z H a kk ys) : ∃ (k : SK) (ws : List V), (∀ H1, H1 a = H a → SqK k K H1 a ws) ∧ Reps K z H ws (keyDs kk) := by
  obtain ⟨h1, _, _, _, bs, us, o, h4, ⟨hx, l1, l2, es, ep, hd, he⟩, h6, _⟩ := h
  refine ⟨.d es.size ep, bs.map V.ref, fun H1 e => ⟨h1, o, es, e.trans h4, hx, hd, rfl, ?_⟩, h6.reps⟩
  rw [he, ents_keys l1 l2]
  exact vals_refs bs
theorem frzT_at {v : V} {d : D} (p : Rep K z H v d) (h : frzT d = some ds) : ∃ k a xs, v = .ref a ∧ (∀ z1 H1, Ex0 z H z1 H1 → SqK k K H1 a xs) ∧ Reps K z H xs ds := by
  cases p with
  | @tup a xs es t rs =>
    cases h
    exact ⟨.t, a, xs, rfl, fun z1 H1 x => (t.ext0 x).seq, rs⟩
  | @lst a xs es f e rs =>
    cases h
    exact ⟨.l, a, xs, rfl, fun z1 H1 x => SqL.of ((x.fz a f).2.trans e), rs⟩
  | @fro a xs es t rs =>
    cases h
    exact ⟨.l, a, xs, rfl, fun z1 H1 x => (t.ext0 x).seq, rs⟩
  | @dic a ks xs _ dz rs =>
    obtain ⟨l, hl, rfl⟩ := Option.map_eq_some_iff.mp (show (unR ks).map keyDs = some ds from h)
    obtain ⟨rfl, ne⟩ := unR_some hl
    obtain ⟨fa, ⟨kk, q, _, _⟩ | ⟨kk, _, q, _, da⟩⟩ := dz
    · cases l with
      | nil => exact absurd rfl ne
      | cons k l =>
        cases kk with
        | nil => cases q
        | cons => simp at q
    · have : l = kk := (List.map_inj_right (fun _ _ h => Sum.inr.inj h)).mp q
      subst this
      obtain ⟨k, ws, hk, rw'⟩ := da.sq
      exact ⟨k, a, ws, rfl, fun z1 H1 x => hk H1 (x.fz a fa).2, rw'⟩
  | _ => cases h
theorem itI_zipM {b : Addr} {k1 k2 : SK} {ys : List V} {es : List D} (s1 : ∀ z1 H1, Ex0 z H z1 H1 → SqK k1 K H1 a xs) (s2 : ∀ z1 H1, Ex0 z H z1 H1 → SqK k2 K H1 b ys)
    (rx : Reps K z H xs ds) (ry : Reps K z H ys es) : ItI K z H (zipF ds es) (ItzM k1 k2 K a b) := fun z1 H1 st e rh => by
  have r1 := rx.ext0 e
  have r2 := ry.ext0 e
  have fin : ∀ (i : Nat) (v w : V) T H2 d, (zipF ds es)[i]? = some d → xs[i]? = some v → ys[i]? = some w → H1 T = none → (∃ its, H2 = upd H1 T (frT its [v, w])) → ∃ z2, Ext z1 H1 z2 H2 ∧ RelH K z2 H2 st ∧ Rep K z2 H2 (.ref T) d := fun i v w T H2 d hd hv hw nT e2 => by
    obtain ⟨p, q, hp, hq, rfl⟩ := zipF_get i ds es d hd
    obtain ⟨v', hv', rv⟩ := r1.getD hp
    obtain ⟨w', hw', rw'⟩ := r2.getD hq
    rw [hv] at hv'
    rw [hw] at hw'
    cases hv'
    cases hw'
    obtain ⟨its, e2⟩ := e2
    subst e2
    have x2 := ext_add (o := frT its [v, w]) rh nT
    exact ⟨z1.add T, x2, rh.add nT, .tup (PlZ.tup ⟨.inr rfl, its, upd_same⟩) (.cons (rv.ext x2) (.cons (rw'.ext x2) .nil))⟩
  have stop : ∀ i, (zipF ds es).length ≤ i → xs.length ≤ i ∨ ys.length ≤ i := fun i hi => by
    rw [zipF_length] at hi
    rw [r1.length, r2.length]
    omega
  have s1 := s1 z1 H1 e
  have s2 := s2 z1 H1 e
  refine ⟨fun i hi => ⟨xs, ys, s1, s2, stop i hi⟩, fun i d hd => ?_⟩
  obtain ⟨p, q, hp, hq, e3⟩ := zipF_get i ds es d hd
  obtain ⟨v, hv, _⟩ := r1.getD hp
  obtain ⟨w, hw, _⟩ := r2.getD hq
  refine ⟨⟨xs, ys, v, w, s1, s2, hv, hw⟩, fun x H2 y => ?_⟩
  obtain ⟨T, x', y', rfl, nT, e2, f1, f2⟩ := y
  exact fin i x' y' T H2 d hd (f1 xs s1) (f2 ys s2) nT e2
end
section
variable {X : Cx} {xm : List Addr} {W : WX} {e e2 : Expr} {elts : List Expr} {fs : AF} {p pos tpos : Pos} {kk : Nat}
theorem si_zipM (hg : Gl X "zip") (hm : X.mg "zip" = none) (ha : PA X [e, e2] (TAf X.K xm W fs)) (hs : starEach [e, e2] X.env = (false, eval e X.env) :: starEach [e2] X.env := by rfl) (hpl : (backTo pos (starEach [e2] X.env)).any (·.1) = false := by rfl) :
    PI X (.Tuple elts kk tpos) (.Call (.Name "zip" p) [e, e2] [] pos) (TIf X.K xm W (zipMI fs)) :=
  (pi_zipM hg hm ha hs hpl).imp fun σ H Rq ⟨z, en, st, rh, re, h⟩ => by
    refine seqA' rh re (wp_bind.mp h) fun d1 st1 v1 z1 H1 q1 e1 r1 re1 p1 => ?_
    cases p1 with
    | nil => exact q1.elim
    | cons p1 ps =>
    cases ps with
    | nil => exact q1.elim
    | cons p2 ps =>
    cases ps with
    | cons _ _ => exact q1.elim
    | nil =>
      rename_i v d v' d'
      simp only at q1
      cases hx : frzT d with
      | none =>
        rw [hx] at q1
        exact q1.elim
      | some x =>
        cases hy : frzT d' with
        | none =>
          rw [hx, hy] at q1
          exact q1.elim
        | some y =>
          rw [hx, hy] at q1
          obtain ⟨k1, a, xs, rfl, t1, rs1⟩ := frzT_at p1 hx
          obtain ⟨k2, b, ys, rfl, t2, rs2⟩ := frzT_at p2 hy
          exact ⟨k1, k2, a, b, xs, ys, rfl, t1 z1 H1 Ext.refl.toEx0, t2 z1 H1 Ext.refl.toEx0, q1 _ z1 H1 e1 r1 (itI_zipM t1 t2 rs1 rs2)⟩
end
/-! ## an int in a tuple or a list of ints -/
def inSq (a : Int) (is : List Int) : Bool := decide (a ∈ is)
def inQD (neg : Bool) : O2 := fun a b st => match a with
  | .int i => match b with
    | .tup ds => (intsO ds).bind fun is => some (.bl (if neg then !inSq i is else inSq i is), st)
    | d => (asLF d st).bind fun ds => (intsO ds).bind fun is => some (.bl (if neg then !inSq i is else inSq i is), st)
  | _ => none
theorem flat_ints : ∀ is : List Int, (is.map V.int).all flatV = true
  | [] => rfl
  | _ :: is => by
    rw [List.map_cons, List.all_cons, flat_ints is]
    rfl
theorem inV_ints (i : Int) : ∀ is : List Int, inV (.int i) (is.map V.int) = inSq i is
  | [] => rfl
  | j :: is => by
    have ih := inV_ints i is
    unfold inV at ih ⊢
    rw [List.map_cons, List.any_cons, ih]
    show ((j == i) || inSq i is) = inSq i (j :: is)
    unfold inSq
    by_cases e : j = i
    · subst e
      simp
    · have e' : (j == i) = false := by simpa using e
      have e2 : ¬ i = j := fun q => e q.symm
      rw [e']
      simp [e2]
section
variable {X : Cx}
theorem inQ_core {neg : Bool} (hop : OpR X (compareOp (if neg then .NotIn else .In)) (rIn X.K neg)) : OpR X (compareOp (if neg then .NotIn else .In)) (R2f X.K (inQD neg)) := by
  intro pins s σ H x y v u Q I rx ry ⟨z, st, da, db, d, st', rh, px, py, e, q⟩
  unfold inQD at e
  split at e
  · rename_i i
    cases px
    split at e
    · rename_i ds
      obtain ⟨is, h1, e⟩ := Option.bind_eq_some_iff.mp e
      cases e
      cases py with
      | @tup p xs _ t rs =>
        have hx := ints_at rs h1
        subst hx
        refine hop pins s σ H _ _ v u Q I rx ry ⟨p, _, rfl, .inr t.seq, rfl, flat_ints is, ?_⟩
        rw [inV_ints]
        exact okD.here q rh (.bl _)
    · obtain ⟨ds, h0, e⟩ := Option.bind_eq_some_iff.mp e
      obtain ⟨is, h1, e⟩ := Option.bind_eq_some_iff.mp e
      cases e
      obtain ⟨p, xs, rfl, hs, rs⟩ := asLF_at rh py h0
      have hx := ints_at rs h1
      subst hx
      refine hop pins s σ H _ _ v u Q I rx ry ⟨p, _, rfl, .inl hs, rfl, flat_ints is, ?_⟩
      rw [inV_ints]
      exact okD.here q rh (.bl _)
  · cases e
theorem or_inQ : OpR X (compareOp .In) (R2f X.K (inQD false)) := inQ_core (neg := false) op_in_seq
theorem or_notinQ : OpR X (compareOp .NotIn) (R2f X.K (inQD true)) := inQ_core (neg := true) op_notIn_seq
end
/-! a list from behind -/
def revLF (f : EF) : EF := fun en st => (f en st).bind fun d st1 => match asLF d st1 with
  | some ds => .ok (.lst ds.reverse) st1
  | none => .bad
section
variable {X : Cx} {xm : List Addr} {W : WX} {k : Nat} {e : Expr} {f : EF} {p1 p2 p3 pos : Pos}
theorem sn_revL (he : PE X e (TEf X.K xm W f)) : PE X (.Subscript e (.Slice none none (some (.UnaryOp .USub (.Constant (.int 1) k p1) p2)) p3) pos) (TEf X.K xm W (revLF f)) :=
  (pe_revL he).imp fun σ H Q ⟨z, en, st, rh, re, h⟩ => by
    refine seqE' rh re (wp_bind.mp h) fun d1 st1 v1 z1 H1 q1 e1 r1 re1 p1 => ?_
    cases hd : asLF d1 st1 with
    | none =>
      rw [hd] at q1
      exact q1.elim
    | some ds =>
      rw [hd] at q1
      obtain ⟨a, xs, rfl, hq, rs⟩ := asLF_at r1 p1 hd
      exact ⟨a, xs, rfl, hq, fun p n => okD.newF (okD.ext e1 q1) r1 (reps_rev rs) n⟩
end
end Ev

namespace Ev
open PySem PySem.Spec PyProof.Rows L2 RZ
variable [Tabs]
section
variable {X : Cx} {xm : List Addr} {W : WX} {k : Nat} {a : Expr} {f : EF} {p p2 pos q2 : Pos}
/-! xs.insert(i, y) -/
def insAt (es : List D) (i : Nat) (d : D) : List D := es.take i ++ [d] ++ es.drop i
def insM : OM := fun a ds st => match a, ds with
  | .ref n, [.int i, d] => match st[n]? with
    | some (.lst es) => if es.length < sizeLine ∧ 0 ≤ i ∧ i < 1000000 then some (.non, st.set n (.lst (insAt es i.toNat d))) else none
    | _ => none
  | _, _ => none
theorem mr_insert : MtR X "list.insert" (RMf X.K insM) := by
  intro pins s σ H x xs v us Q I rx rv ⟨z, st, da, ds, d, st', rh, px, ps, e, q⟩
  unfold insM at e
  split at e
  · rename_i n i y
    cases px with
    | @ref p _ hn hk =>
    cases ps with
    | cons p1 ps =>
    cases ps with
    | cons p2 ps =>
    cases ps
    cases p1
    split at e
    · rename_i es hc
      split at e
      · rename_i hl
        cases e
        obtain ⟨xs, hx, rs⟩ := rh.cell hn hc
        exact mt_insert pins s σ H _ _ v us Q I rx rv ⟨p, xs, i, _, rfl, rfl, hx, by rw [rs.length]; exact hl.1, hl.2.1, Int.lt_of_lt_of_le hl.2.2 (by decide), okD.write q rh hn hk (((rs.take _).append (.cons p2 .nil)).append (rs.drop _)) .non⟩
      · cases e
    · cases e
  · cases e
/-! xs.index(y) -/
def idxO (st : Sto) (d : PyData) : List PyData → Nat → Option Nat
  | [], _ => none
  | z :: r, j => if PyData.eqv z d = true then some j else idxO st d r (j + 1)
theorem idxO_at {st : Sto} {d : PyData} : ∀ {ds : List PyData} {k j : Nat}, idxO st d ds k = some j → ∃ i z, j = k + i ∧ ds[i]? = some z ∧ PyData.eqv z d = true ∧ ∀ (m : Nat) (z' : PyData), m < i → ds[m]? = some z' → PyData.eqv z' d = false
  | [], _, _, h => by cases h
  | z :: r, k, j, h => by
    unfold idxO at h
    split at h
    · rename_i e
      cases h
      exact ⟨0, z, rfl, rfl, e, fun m z' hm => absurd hm (Nat.not_lt_zero m)⟩
    · rename_i e
      obtain ⟨i, z', h1, h2, h3, h4⟩ := idxO_at h
      refine ⟨i + 1, z', by omega, h2, h3, fun m w hm hw => ?_⟩
      cases m with
      | zero =>
        cases hw
        simpa using e
      | succ m => exact h4 m w (by omega) hw
def idxM : OM := fun a ds st => match ds with
  | [d] => match toP 16 st a, toP 16 st d with
    | some (.list ps), some q => if SeqAt.shaped (.list ps) && SeqAt.shaped q then (idxO st q ps 0).map fun j => (.int (j : Nat), st) else none
    | _, _ => none
  | _ => none
theorem mr_index {k : Nat} (hr : Room k X.A) : MtR X "list.index" (RMf X.K idxM) := by
  intro pins s σ H x xs v us Q I rx rv ⟨z, st, da, ds, d, st', rh, px, ps, e, q⟩
  unfold idxM at e
  split at e
  · rename_i dd
    cases ps with
    | cons p1 ps =>
    cases ps
    split at e
    · rename_i l r h1 h2
      split at e
      · rename_i hs
        rw [Bool.and_eq_true] at hs
        obtain ⟨j, hj, e⟩ := Option.map_eq_some_iff.mp e
        cases e
        obtain ⟨i, zz, e1, e2, e3, e4⟩ := idxO_at hj
        have e1 : j = i := by omega
        subst e1
        have dx := toP_dp rh 16 _ _ _ px h1
        have dy := toP_dp rh 16 _ _ _ p1 h2
        have isr : ∃ a, x = V.ref a := by
          cases dx
          exact ⟨_, rfl⟩
        obtain ⟨a, rfl⟩ := isr
        exact mt_indexD (by have := hr.un; omega) pins s σ H _ _ v us Q I rx rv ⟨a, _, r, l, j, zz, rfl, rfl, dx, dy, hs.1, hs.2, e2, e3, e4, okD.here q rh (.int _)⟩
      · cases e
    · cases e
  · cases e
/-! list(range(n)) -/
def lrg1F (f : EF) : EF := fun en st => (f en st).bind fun x st1 => match x with
  | .int j => if decide (-1000000 ≤ j) && decide (j ≤ 1000000) then .ok (.lst (rgD 0 j)) st1 else .bad
  | _ => .bad
theorem sn_lrg1 (G : GX X xm W k) (hm : X.mg "list" = none) (hm2 : X.mg "range" = none) (ha : PE X a (TEf X.K xm W f)) (hg : Gl X "list" := by rfl) (hg2 : Gl X "range" := by rfl)
    (na : starEach [.Call (.Name "range" p2) [a] [] q2] X.env = (false, eval (.Call (.Name "range" p2) [a] [] q2) X.env) :: starEach [] X.env := by rfl)
    (n1 : starEach [a] X.env = (false, eval a X.env) :: starEach [] X.env := by rfl) :
    PE X (.Call (.Name "list" p) [.Call (.Name "range" p2) [a] [] q2] [] pos) (TEf X.K xm W (lrg1F f)) :=
  (pe_listRg G.cm hg hm (prg_1 hg2 hm2 ha n1) na).imp fun σ H Q ⟨z, en, st, rh, re, h⟩ => by
    refine seqE' rh re (wp_bind.mp h) fun d1 st1 v1 z1 H1 q1 e1 r1 re1 p1 => ?_
    cases d1 with
    | int j =>
      cases p1
      by_cases hb : (decide (-1000000 ≤ j) && decide (j ≤ 1000000)) = true
      · simp only [if_pos hb] at q1
        simp only [Bool.and_eq_true, decide_eq_true_eq] at hb
        exact ⟨j, rfl, ⟨by omega, by omega, by omega, by omega, by omega⟩, fun p n => okD.newF (okD.ext e1 q1) r1 (reps_rg 0 j) n⟩
      · simp only [if_neg hb] at q1
        exact q1.elim
    | _ => exact q1.elim
end
/-! any, all of a list of bools -/
theorem bt_any : bootBuiltins "any" = some (.builtin "any") := by decide +kernel
theorem bt_all : bootBuiltins "all" = some (.builtin "all") := by decide +kernel
def bolsO : List D → Option (List Bool)
  | [] => some []
  | .bl b :: r => (bolsO r).bind fun bs => some (b :: bs)
  | _ :: _ => none
theorem bols_at {K : PySem.W.Frag} {z : Z} {H : Hp} : ∀ {vs : List V} {ds : List D} {bs : List Bool}, Reps K z H vs ds → bolsO ds = some bs → vs = bs.map V.bl
  | _, _, _, .nil, h => by cases h; rfl
  | _, _, bs, .cons (d := d) (ds := r) p t, h => by
    cases d with
    | bl b =>
      obtain ⟨cs, hc, h⟩ := Option.bind_eq_some_iff.mp (show (bolsO r).bind (fun bs => some (b :: bs)) = some bs from h)
      cases h
      cases p
      rw [bols_at t hc]
      rfl
    | _ => cases h
def anyL : OL := fun ds st => match ds with
  | [d] => (asLF d st).bind fun es => (bolsO es).bind fun bs => some (.bl (bs.any id), st)
  | _ => none
def allL : OL := fun ds st => match ds with
  | [d] => (asLF d st).bind fun es => (bolsO es).bind fun bs => some (.bl (bs.all id), st)
  | _ => none
section
variable {X : Cx}
theorem cl_any (hc : X.calm = true) : CallR X (.builtin "any") (RLf X.K anyL) := by
  intro pins s σ H xs us Q I rv ⟨z, st, ds, d, st', rh, ps, e, q⟩
  unfold anyL at e
  split at e
  · rename_i d0
    cases ps with
    | cons p0 ps =>
    cases ps
    obtain ⟨es, h1, e⟩ := Option.bind_eq_some_iff.mp e
    obtain ⟨bs, h2, e⟩ := Option.bind_eq_some_iff.mp e
    cases e
    obtain ⟨a, ys, rfl, hs, rs⟩ := asLF_at rh p0 h1
    rw [bols_at rs h2] at hs
    exact cr_any hc pins s σ H _ us Q I rv ⟨a, bs, rfl, hs, okD.here q rh (.bl _)⟩
  · cases e
theorem cl_all (hc : X.calm = true) : CallR X (.builtin "all") (RLf X.K allL) := by
  intro pins s σ H xs us Q I rv ⟨z, st, ds, d, st', rh, ps, e, q⟩
  unfold allL at e
  split at e
  · rename_i d0
    cases ps with
    | cons p0 ps =>
    cases ps
    obtain ⟨es, h1, e⟩ := Option.bind_eq_some_iff.mp e
    obtain ⟨bs, h2, e⟩ := Option.bind_eq_some_iff.mp e
    cases e
    obtain ⟨a, ys, rfl, hs, rs⟩ := asLF_at rh p0 h1
    rw [bols_at rs h2] at hs
    exact cr_all hc pins s σ H _ us Q I rv ⟨a, bs, rfl, hs, okD.here q rh (.bl _)⟩
  · cases e
end
end Ev

namespace Ev
open PySem PySem.Spec PyProof.Rows L2 RZ
variable [Tabs]
/-! ## x in a list of data of any depth -/
def anyP (p : PyData) (qs : List PyData) : Bool := qs.any fun z => PyData.eqv z p
def inPD (neg : Bool) : O2 := fun a b st => match toP 16 st a, toP 16 st b with
  | some p, some (.list qs) => if SeqAt.shaped p && SeqAt.shaped (.list qs) then some (.bl (if neg then !anyP p qs else anyP p qs), st) else none
  | _, _ => none
section
variable {X : Cx}
theorem inP_core {neg : Bool} {k : Nat} (hop : OpR X (compareOp (if neg then .NotIn else .In)) (fun x y H Q => ∃ d ds, Dp X.K H x d ∧ Dp X.K H y (.list ds) ∧ SeqAt.shaped d = true ∧ SeqAt.shaped (.list ds) = true ∧ Q (.bl (if neg then !anyP d ds else anyP d ds)) H)) : OpR X (compareOp (if neg then .NotIn else .In)) (R2f X.K (inPD neg)) := by
  intro pins s σ H x y v u Q I rx ry ⟨z, st, da, db, d, st', rh, px, py, e, q⟩
  unfold inPD at e
  split at e
  · rename_i p qs h1 h2
    split at e
    · rename_i hs
      rw [Bool.and_eq_true] at hs
      cases e
      exact hop pins s σ H _ _ v u Q I rx ry ⟨p, qs, toP_dp rh _ _ _ _ px h1, toP_dp rh _ _ _ _ py h2, hs.1, hs.2, okD.here q rh (.bl _)⟩
    · cases e
  · cases e
theorem or_inP {k : Nat} (hr : Room k X.A) : OpR X (compareOp .In) (R2f X.K (inPD false)) := inP_core (k := k) (neg := false) (fun pins s σ H x y v u Q I rx ry h => op_inD (by have := hr.un; omega) pins s σ H x y v u Q I rx ry h)
theorem or_notinP {k : Nat} (hr : Room k X.A) : OpR X (compareOp .NotIn) (R2f X.K (inPD true)) := inP_core (k := k) (neg := true) (fun pins s σ H x y v u Q I rx ry h => op_notInD (by have := hr.un; omega) pins s σ H x y v u Q I rx ry h)
end
/-! ## sorted of tuples that begin with ints -/
abbrev Ks := List (Int ⊕ List Nat)
def kLt (a b : Ks) : Bool := PyProof.Rows.lexLt PyProof.Rows.itemOrd a b
def tupI : PyData → Bool
  | .tuple (.int _ :: _) => true
  | _ => false
theorem tupI_is {p : PyData} (h : tupI p = true) : ∃ i r, p = .tuple (.int i :: r) := by
  unfold tupI at h
  split at h
  · exact ⟨_, _, rfl⟩
  · cases h
def alk (ps : List PyData) : Bool := ps.all fun p => ps.all fun q => PySem.W.alike p q
def dTies (l : List (D × Ks)) : Bool := l.all fun a => l.all fun b => !decide (a.2 = b.2) || dEq a.1 b.1
def insT (x : D × Ks) : List (D × Ks) → List (D × Ks)
  | [] => [x]
  | y :: r => if kLt y.2 x.2 then y :: insT x r else x :: y :: r
def sortT : List (D × Ks) → List (D × Ks)
  | [] => []
  | x :: r => insT x (sortT r)
def sortDs (es : List D) (st : Sto) : Option (List D) := (mapO (toP 16 st) es).bind fun ps =>
  if ps.all (fun p => tupI p && SeqAt.shaped p) && alk ps && dTies (es.zip (ps.map PySem.W.keyToks)) then some ((sortT (es.zip (ps.map PySem.W.keyToks))).map (·.1)) else none
def sortTL : OL := fun ds st => match ds with
  | [d] => (asLF d st).bind fun es => (sortDs es st).bind fun rs => some (.lst rs, st)
  | _ => none
theorem insT_perm (x : D × Ks) : ∀ l, (insT x l).Perm (x :: l)
  | [] => .refl _
  | y :: r => by
    unfold insT
    split
    · exact ((insT_perm x r).cons y).trans (.swap x y r)
    · exact .refl _
theorem sortT_perm : ∀ l, (sortT l).Perm l
  | [] => .refl _
  | x :: r => (insT_perm x _).trans ((sortT_perm r).cons x)
def kLe (a b : D × Ks) : Prop := kLt b.2 a.2 = false
theorem kLt_irr (a : Ks) : kLt a a = false := PyProof.Rows.lex_irrefl (O := PyProof.Rows.itemOrd) a
theorem kLt_asym {a b : Ks} (h : kLt a b = true) : kLt b a = false := by
  cases q : kLt b a with
  | false => rfl
  | true =>
    have := PyProof.Rows.lex_trans (O := PyProof.Rows.itemOrd) a b a h q
    have e := kLt_irr a
    unfold kLt at e
    rw [this] at e
    cases e
theorem kLe_tr {a b c : Ks} (h1 : kLt b a = false) (h2 : kLt c b = false) : kLt c a = false := by
  cases q : kLt c a with
  | false => rfl
  | true =>
    rcases PyProof.Rows.lex_negTrans (O := PyProof.Rows.itemOrd) c b a q with h | h
    · have h2' : PyProof.Rows.lexLt PyProof.Rows.itemOrd c b = false := h2
      rw [h] at h2'
      cases h2'
    · have h1' : PyProof.Rows.lexLt PyProof.Rows.itemOrd b a = false := h1
      rw [h] at h1'
      cases h1'
theorem insT_sorted (x : D × Ks) : ∀ l, l.Pairwise kLe → (insT x l).Pairwise kLe
  | [], _ => by simp [insT]
  | y :: r, h => by
    have hp := List.pairwise_cons.mp h
    unfold insT
    split
    · rename_i q
      refine List.pairwise_cons.mpr ⟨fun z hz => ?_, insT_sorted x r hp.2⟩
      rcases List.mem_cons.mp ((insT_perm x r).mem_iff.mp hz) with rfl | hz
      · exact kLt_asym q
      · exact hp.1 z hz
    · rename_i q
      have q : kLt y.2 x.2 = false := by simpa using q
      refine List.pairwise_cons.mpr ⟨fun z hz => ?_, h⟩
      rcases List.mem_cons.mp hz with rfl | hz
      · exact q
      · exact kLe_tr q (hp.1 z hz)
theorem sortT_sorted : ∀ l, (sortT l).Pairwise kLe
  | [] => .nil
  | x :: r => insT_sorted x _ (sortT_sorted r)
theorem sortT_one {l m : List (D × Ks)} (ht : dTies l = true) (hp : m.Perm l) (hs : m.Pairwise kLe) : m = sortT l := by
  refine List.Perm.eq_of_pairwise (fun a b ha hb h1 h2 => ?_) hs (sortT_sorted l) (hp.trans (sortT_perm l).symm)
  have ha' := hp.mem_iff.mp ha
  have hb' := (sortT_perm l).mem_iff.mp hb
  have e : a.2 = b.2 := PyProof.Rows.lex_total (O := PyProof.Rows.itemOrd) a.2 b.2 h2 h1
  have t := List.all_eq_true.mp (List.all_eq_true.mp ht a ha') b hb'
  rw [decide_eq_true e, Bool.not_true, Bool.false_or] at t
  have d := dEq_eq _ _ t
  exact Prod.ext d e
section
variable {prog : Program} {w : World} {A : Around} {s : Shared}
open PySem.W PySem.SeqAt
theorem tups_cmp {vs : List Value} {f : Value → PyData} (hr : ∀ v ∈ vs, ∃ as, Reads s.heap v (f v) as) (ht : ∀ v ∈ vs, ∃ i r, f v = .tuple (.int i :: r)) (ha : ∀ v ∈ vs, ∀ u ∈ vs, alike (f v) (f u) = true) (hd : ∀ v ∈ vs, A.units + (f v).depth < cLine) :
    SrtO.Cmp prog w A s (tuples' true) (fun p => p.1 ∈ vs) (SrtO.lt2 fun v u => kLt (keyToks (f v)) (keyToks (f u))) := by
  intro p q hm hm'
  obtain ⟨as, r1⟩ := hr _ hm
  obtain ⟨bs, r2⟩ := hr _ hm'
  have hal := ha _ hm _ hm'
  have hu := hd _ hm
  obtain ⟨i, xr, e1⟩ := ht _ hm
  obtain ⟨j, yr, e2⟩ := ht _ hm'
  show wpAny (model prog w) A (keyLt' (tuples' true) p.1 q.1) (fun r s' => s' = s ∧ r = kLt (keyToks (f p.1)) (keyToks (f q.1))) (fun _ _ => False) s
  rw [e1] at r1 hu hal ⊢
  rw [e2] at r2 hal ⊢
  generalize p.1 = a at r1 ⊢
  generalize q.1 = b at r2 ⊢
  cases r1 with
  | @tuple l o xs n _ _ h1 h2 h3 h4 =>
    cases r2 with
    | @tuple l' o' xs' n' _ _ k1 k2 k3 k4 =>
      have n1 : xs.size = (PyData.int i :: xr).length := by simpa using SeqAt.ReadsAll.length _ _ _ h4
      have n2 : xs'.size = (PyData.int j :: yr).length := by simpa using SeqAt.ReadsAll.length _ _ _ k4
      refine kat_lt h1 h3 k1 k3 (katLex_alike (PyData.int i :: xr) (PyData.int j :: yr) 0 _ _ _ _ h4 k4 (by simpa [alike] using hal) ?_ (fun _ _ x r t ex => ?_) (by rw [n1, n2]) ⟨rfl, ?_⟩)
      · have : PyData.depth (.tuple (PyData.int i :: xr)) = 1 + PyData.depthAll (PyData.int i :: xr) := by simp [PyData.depth]; omega
        rw [this] at hu
        omega
      · obtain ⟨rfl, _⟩ := List.cons.inj ex
        intro q
        cases q
      · unfold kLt
        rw [show keyToks (.tuple (PyData.int i :: xr)) = keyToksAll (PyData.int i :: xr) by simp only [keyToks], show keyToks (.tuple (PyData.int j :: yr)) = keyToksAll (PyData.int j :: yr) by simp only [keyToks]]
theorem firsts_ints {h : Heap} {f : Value → PyData} : ∀ {vs : List Value}, (∀ v ∈ vs, ∃ as, Reads h v (f v) as) → (∀ v ∈ vs, ∃ i r, f v = .tuple (.int i :: r)) → ∃ fs, KatTups h vs fs ∧ fs.length = vs.length ∧ ∀ g ∈ fs, ∃ i t, g = Value.int i t
  | [], _, _ => ⟨[], KatTups.nil, rfl, fun g hg => absurd hg (by simp)⟩
  | v :: vs, hr, ht => by
    obtain ⟨fs, h1, h2, h3⟩ := firsts_ints (fun u hu => hr u (List.mem_cons_of_mem _ hu)) fun u hu => ht u (List.mem_cons_of_mem _ hu)
    obtain ⟨as, r⟩ := hr v List.mem_cons_self
    obtain ⟨i, xr, e⟩ := ht v List.mem_cons_self
    rw [e] at r
    cases r with
    | @tuple a o xs n _ _ ho hc hd hr =>
      cases q : xs.toList with
      | nil =>
        rw [q] at hr
        cases hr
      | cons g gr =>
        rw [q] at hr
        cases hr with
        | cons r1 r2 =>
          obtain ⟨tk, rfl⟩ : ∃ tk, g = Value.int i tk := by
            cases r1
            exact ⟨_, rfl⟩
          have hf : xs[0]? = some (Value.int i tk) := by rw [← Array.getElem?_toList, q]; rfl
          refine ⟨Value.int i tk :: fs, KatTups.cons ho hc hd hf h1, by rw [List.length_cons, List.length_cons, h2], fun g hg => ?_⟩
          rcases List.mem_cons.mp hg with rfl | hg
          · exact ⟨_, _, rfl⟩
          · exact h3 g hg
mutual
theorem reads_keep {h h' : Heap} (k : ∀ b o, h.get? b = some o → h'.get? b = some o) : ∀ {v : Value} {d : PyData} {as : List Addr}, Reads h v d as → Reads h' v d as
  | _, _, _, .none => .none
  | _, _, _, .bool b => .bool b
  | _, _, _, .int i t => .int i t
  | _, _, _, .str x t => .str x t
  | _, _, _, .list ho hc hd hr => .list (k _ _ ho) hc hd (readsAll_keep k hr)
  | _, _, _, .tuple ho hc hd hr => .tuple (k _ _ ho) hc hd (readsAll_keep k hr)
  | _, _, _, .dict ho hc hd h1 h2 => .dict (k _ _ ho) hc hd (readsAll_keep k h1) (readsAll_keep k h2)
theorem readsAll_keep {h h' : Heap} (k : ∀ b o, h.get? b = some o → h'.get? b = some o) : ∀ {v : List Value} {d : List PyData} {as : List Addr}, ReadsAll h v d as → ReadsAll h' v d as
  | _, _, _, .nil => .nil
  | _, _, _, .cons h1 h2 => .cons (reads_keep k h1) (readsAll_keep k h2)
end
theorem sorted_tups {l : Addr} {vs : List Value} {f : Value → PyData} {E : Value → Shared → Prop} {Q : Value → Shared → Prop} (hl : s.heap.IsList l vs.toArray) (hz : vs.length ≤ sizeLine) (hr : ∀ v ∈ vs, ∃ as, Reads s.heap v (f v) as) (ht : ∀ v ∈ vs, ∃ i r, f v = .tuple (.int i :: r)) (ha : ∀ v ∈ vs, ∀ u ∈ vs, alike (f v) (f u) = true) (hd : ∀ v ∈ vs, A.units + 2 + (f v).depth < cLine)
    (h : ∀ (h' : Heap) (d : Addr) (out : List Value), SrtO.Srtd (fun v u => kLt (keyToks (f v)) (keyToks (f u))) out → out.Perm vs → (∀ b o, s.heap.get? b = some o → h'.get? b = some o) → s.heap.objs.size ≤ d → (∃ n, h'.get? d = some (seqObj "list" out.toArray n)) → Q (.ref d) { s with heap := h' }) :
    wpAny (model prog w) A (call (.builtin "sorted") [.ref l]) Q E s := by
  refine SrtO.sorted_ord (ltv := fun v u => kLt (keyToks (f v)) (keyToks (f u))) ⟨fun x y h => kLt_asym h, fun x y z h1 h2 => kLe_tr h1 h2⟩ hl hz (fun h2 h₁ a hat kk => ?_) fun out hs hb => ?_
  · intro h' keep
    have kp : ∀ b o, s.heap.get? b = some o → h'.get? b = some o := fun b o e => keep b o (kk b o e).1 (kk b o e).2
    have hr' : ∀ v ∈ vs, ∃ as, Reads h' v (f v) as := fun v hv => let ⟨as, r⟩ := hr v hv; ⟨as, reads_keep kp r⟩
    refine ⟨tuples' true, fun Q E hq => ?_, tups_cmp (s := { s with heap := h' }) hr' ht ha fun v hv => ?_⟩
    · obtain ⟨fs, t1, t2, t3⟩ := firsts_ints hr' ht
      refine kat_kind (s := { s with heap := h' }) (T := .type "int") t1 (by omega) (fun g hg => ?_) (by rfl) ?_
      · obtain ⟨x, t, rfl⟩ := t3 g hg
        exact PySem.W.Looks.now
      · have e : (Value.type "int" != Value.type "tuple") = true := by first | decide +kernel | rfl | decide
        rw [e]
        exact hq
    · have := hd v hv
      show A.units + 1 + 1 + _ < _
      omega
  · exact h _ _ out hs hb.perm (fun b o e => PyProof.Rows.sortedAll_old e) (Nat.le_succ _) (PyProof.Rows.sortedAll_at s.heap vs out.toArray)
end
section
variable {X : Cx}
open PySem.W PySem.SeqAt in
theorem zips_mem {K : PySem.W.Frag} {z : Z} {H : Hp} : ∀ {ys : List V} {es : List D} {pl : List PyData}, Reps K z H ys es → DpAll K H ys pl → (ys.zip (es.zip pl)).map (·.1) = ys ∧ (ys.zip (es.zip pl)).map (fun w => (w.2.1, keyToks w.2.2)) = es.zip (pl.map keyToks) ∧ ∀ w ∈ ys.zip (es.zip pl), w.1 ∈ ys ∧ Rep K z H w.1 w.2.1 ∧ Dp K H w.1 w.2.2 ∧ w.2.2 ∈ pl
  | _, _, _, .nil, .nil => ⟨rfl, rfl, fun w h => nomatch h⟩
  | y :: ys, e :: es, p :: pl, .cons r rs, .cons d dd => by
    obtain ⟨h1, h2, h3⟩ := zips_mem rs dd
    refine ⟨?_, ?_, fun w hw => ?_⟩
    · show y :: (ys.zip (es.zip pl)).map (·.1) = _
      rw [h1]
    · show (e, keyToks p) :: (ys.zip (es.zip pl)).map (fun w => (w.2.1, keyToks w.2.2)) = (e, keyToks p) :: es.zip (pl.map keyToks)
      rw [h2]
    · rcases List.mem_cons.mp hw with rfl | hw
      · exact ⟨List.mem_cons_self, r, d, List.mem_cons_self⟩
      · obtain ⟨a, b, c, e⟩ := h3 w hw
        exact ⟨List.mem_cons_of_mem _ a, b, c, List.mem_cons_of_mem _ e⟩
theorem reps_zs {K : PySem.W.Frag} {z : Z} {H : Hp} : ∀ (zs : List (V × D × PyData)), (∀ w ∈ zs, Rep K z H w.1 w.2.1) → Reps K z H (zs.map (·.1)) (zs.map (·.2.1))
  | [], _ => .nil
  | w :: zs, h => .cons (h w List.mem_cons_self) (reps_zs zs fun u hu => h u (List.mem_cons_of_mem _ hu))
open PySem.W PySem.SeqAt in
theorem cl_sortT {k : Nat} (hr : Room k X.A) : CallR X (.builtin "sorted") (RLf X.K sortTL) := by
  intro pins s σ H xs us Q I rv ⟨z, st, ds, d, st', rh, ps, e, q⟩
  unfold sortTL at e
  split at e
  · rename_i d0
    obtain ⟨es, h1, e⟩ := Option.bind_eq_some_iff.mp e
    obtain ⟨rs, h2, e⟩ := Option.bind_eq_some_iff.mp e
    cases e
    obtain ⟨pl, h3, h2⟩ := Option.bind_eq_some_iff.mp (show (mapO (toP 16 st) es).bind _ = some rs from h2)
    split at h2
    · rename_i hc
      simp only [Bool.and_eq_true] at hc
      obtain ⟨⟨c1, c2⟩, c3⟩ := hc
      cases ps with
      | cons p0 ps =>
      cases ps
      obtain ⟨a, ys, rfl, hs, rp⟩ := asLF_at rh p0 h1
      rw [Vals.ref1 rv]
      have dp := mapO_dp (fun v d p => toP_dp rh 16 v d p) rp h3
      obtain ⟨z1, z2, z3⟩ := zips_mem rp dp
      have tu : ∀ p ∈ pl, (∃ i r, p = .tuple (.int i :: r)) ∧ SeqAt.shaped p = true := fun p hp => by
        have := List.all_eq_true.mp c1 p hp
        rw [Bool.and_eq_true] at this
        exact ⟨tupI_is this.1, this.2⟩
      have al : ∀ p ∈ pl, ∀ r ∈ pl, alike p r = true := fun p hp r hr => List.all_eq_true.mp (List.all_eq_true.mp c2 p hp) r hr
      have inpl : ∀ y ∈ ys, ∃ p, p ∈ pl ∧ Dp X.K H y p := fun y hy => by
        rw [← z1] at hy
        obtain ⟨w, hw, rfl⟩ := List.mem_map.mp hy
        exact ⟨_, (z3 w hw).2.2.2, (z3 w hw).2.2.1⟩
      have refs : ∀ y ∈ ys, ∃ a, y = V.ref a := fun y hy => by
        obtain ⟨p, hp, hd⟩ := inpl y hy
        obtain ⟨⟨i, r, rfl⟩, -⟩ := tu p hp
        cases hd
        exact ⟨_, rfl⟩
      obtain ⟨g, hg⟩ : ∃ g : V → PyData, ∀ y ∈ ys, g y ∈ pl ∧ Dp X.K H y (g y) := ⟨fun y => open Classical in if h : ∃ p, p ∈ pl ∧ Dp X.K H y p then h.choose else .none, fun y hy => by
        have h := inpl y hy
        show (open Classical in if h : ∃ p, p ∈ pl ∧ Dp X.K H y p then h.choose else PyData.none) ∈ pl ∧ Dp X.K H y (open Classical in if h : ∃ p, p ∈ pl ∧ Dp X.K H y p then h.choose else PyData.none)
        rw [dif_pos h]
        exact h.choose_spec⟩
      have gu : ∀ w ∈ ys.zip (es.zip pl), g w.1 = w.2.2 := fun w hw => by
        obtain ⟨m1, -, m3, m4⟩ := z3 w hw
        obtain ⟨b, hb⟩ := refs _ m1
        obtain ⟨q1, q2⟩ := hg _ m1
        rw [hb] at q2 m3
        obtain ⟨as, r1⟩ := Dp.reads I _ _ (Value.ref b) q2 rfl
        obtain ⟨bs, r2⟩ := Dp.reads I _ _ (Value.ref b) m3 rfl
        rw [hb] at q1
        rw [hb]
        exact alike_unique _ _ _ _ _ (al _ q1 _ m4) r1 r2
      obtain ⟨its, rv', hl, hz⟩ := I.list hs
      obtain ⟨e1, e2⟩ := refs_back rv' refs
      have mem : ∀ u ∈ its, backV u ∈ ys := fun u hu => by rw [e1]; exact List.mem_map.mpr ⟨u, hu, rfl⟩
      refine sorted_tups (f := fun u => g (backV u)) hl.isList (by rw [← rv'.length]; exact hz) (fun u hu => ?_) (fun u hu => (tu _ (hg _ (mem u hu)).1).1) (fun u hu v hv => al _ (hg _ (mem u hu)).1 _ (hg _ (mem v hv)).1) (fun u hu => ?_) fun h' dd out o1 o2 kp hd hn => ?_
      · obtain ⟨b, rfl⟩ := e2 u hu
        exact Dp.reads I _ _ (Value.ref b) (hg _ (mem _ hu)).2 rfl
      · have := (tu _ (hg _ (mem u hu)).1).2
        have : (g (backV u)).depth ≤ 64 := by
          have q : ((g (backV u)).canLay0 && decide ((g (backV u)).depth ≤ 64)) = true := this
          rw [Bool.and_eq_true] at q
          exact of_decide_eq_true q.2
        have := hr.un
        show X.A.units + 2 + (g (backV u)).depth < _
        omega
      · have h3' : ∀ u ∈ out, ∃ a, u = Value.ref a := fun u hu => e2 u (o2.mem_iff.mp hu)
        obtain ⟨n, hn⟩ := hn
        have pm : (out.map backV).Perm ys := by
          rw [e1]
          exact o2.map backV
        obtain ⟨zs', p1, p2⟩ := perm_lift (·.1) pm (ys.zip (es.zip pl)) z1
        have srt : (out.map backV).Pairwise fun x y => kLt (keyToks (g y)) (keyToks (g x)) = false := List.pairwise_map.mpr o1
        rw [← p2] at srt
        have srt2 := List.pairwise_map.mp srt
        have m0 : (zs'.map fun w => (w.2.1, keyToks w.2.2)).Perm (es.zip (pl.map keyToks)) := by
          rw [← z2]
          exact p1.map _
        have m1 : (zs'.map fun w => (w.2.1, keyToks w.2.2)).Pairwise kLe := List.pairwise_map.mpr (srt2.imp_of_mem fun {x y} hx hy h => by
          rw [gu y (p1.mem_iff.mp hy), gu x (p1.mem_iff.mp hx)] at h
          exact h)
        have one := sortT_one c3 m0 m1
        have er : rs = zs'.map (·.2.1) := by
          rw [← Option.some.inj h2, ← one, List.map_map]
          rfl
        subst er
        have rp' := reps_zs zs' fun w hw => (z3 w (p1.mem_iff.mp hw)).2.1
        rw [p2] at rp'
        refine ⟨.ref dd, upd H dd (.lst (out.map backV)), I.laid (t' := s.toks) kp hd ⟨?_, out, n, vals_back h3', hn⟩, rfl, okD.newF q rh rp' (I.hok.fresh hd)⟩
        rw [pm.length_eq]
        exact hz
    · cases h2
  · cases e
end
end Ev

namespace Ev
open PySem PySem.Spec PyProof.Rows L2 RZ
/-! ## enumerate over a tuple or a list -/
section
open AutoSeq1 (wpAny_loadPart')
theorem meets_enum_newK (k : SK) (l : Addr) (items : Array Value) :
    Meets (Builtin.«enumerate.__new__» ⟨[.type "enumerate", .ref l], []⟩) (fun _ R s => IsS k s.heap l items ∧
      R (.ok (.ret (.ref (s.heap.push (itO k l)).objs.size)))
        { s with heap := (s.heap.push (itO k l)).push { cls := .type "enumerate", data := .fields #[.none, .bool false, .ref s.heap.objs.size, rawInt 0, .none, .none] } }) :=
  .of_wp fun prog w A R s h => by
    obtain ⟨hp, g, d, tk, os⟩ := s; obtain ⟨hl, h⟩ := h
    have hsub := sub_enumerate
    have hL : IsS k (Shared.heap ⟨hp, g, d, tk, os⟩) l items := hl
    wp_walk using pyIter_S hL
    refine wpAny_stack_any fun st => wpAny_pure ?_
    split
    · rename_i c _ _ _ _ _
      cases (c == Value.type "enumerate")
      · wp_walk using pyIter_S hL
        exact ⟨_, rfl, h⟩
      · wp_walk using pyIter_S hL
        exact ⟨_, rfl, h⟩
    · wp_walk using pyIter_S hL
      exact ⟨_, rfl, h⟩
end
section
variable {prog : Program} {w : World} {A : Around} {E : Value → Shared → Prop} {s : Shared}
theorem call_enumK (k : SK) {l : Addr} {items : Array Value} {Q : Value → Shared → Prop} (hL : IsS k s.heap l items)
    (h : ∀ h', IsEnum h' (s.heap.objs.size + 1) s.heap.objs.size 0 .none → IsSI k h' s.heap.objs.size l 0 → h'.objs.size = s.heap.objs.size + 2 →
      (∀ b o, s.heap.get? b = some o → h'.get? b = some o) → Q (.ref (s.heap.objs.size + 1)) { s with heap := h' }) :
    wpAny (model prog w) A (call (.type "enumerate") [.ref l]) Q E s := by
  refine callType_new F.called_enumerate (by decide) (F.typeCall_enumerate_1 _) (F.newCall_enumerate_1 _) (fun obj => F.args_object_init_2 obj _) F.entry_enumerate_new
    (meets_enum_newK k l items) ⟨hL, ?_⟩
  have hz : (s.heap.push (itO k l)).objs.size = s.heap.objs.size + 1 := Heap.size_push ..
  show _ ∧ _
  rw [hz]
  have he : IsEnum ((s.heap.push (itO k l)).push
      { cls := .type "enumerate", data := .fields #[.none, .bool false, .ref s.heap.objs.size, rawInt 0, .none, .none] }) (s.heap.objs.size + 1) s.heap.objs.size 0 .none := by
    have := Heap.get?_push_size (s.heap.push (itO k l))
      (o := { cls := .type "enumerate", data := .fields #[.none, .bool false, .ref s.heap.objs.size, rawInt 0, .none, .none] }) rfl
    rw [hz] at this; exact this
  refine ⟨⟨_, he, rfl⟩, h _ he (itO_is (Heap.get?_push_of_some _ (Heap.get?_push_size _ itO_nf))) (by rw [Heap.size_push, hz]) fun b o x => Heap.get?_push_of_some _ (Heap.get?_push_of_some _ x)⟩
end
def IteK (k : SK) (K : PySem.W.Frag) (a : Addr) : It :=
  ⟨fun i H => ∃ (xs : List V) (x : V), SqK k K H a xs ∧ xs[i]? = some x, fun i H v H' => ∃ T x, v = .ref T ∧ H T = none ∧ H' = upd H T (.tup [.int (i : Nat), x]) ∧ ∀ xs, SqK k K H a xs → xs[i]? = some x, fun i H => ∃ xs : List V, SqK k K H a xs ∧ xs.length ≤ i⟩
theorem turn_enumK {P : Program} {w : World} {K : PySem.W.Frag} {elts : List Expr} {kk : Nat} {tpos : Pos} (k : SK) (a e it : Addr) (hei : e ≠ it) (hai : a ≠ it) (hae : e ≠ a) :
    Turn P w K (.Tuple elts kk tpos) (IteK k K a) [e, it] e (fun i h => (∃ old, IsEnum h e it ((i : Nat) : Int) old) ∧ IsSI k h it a i) where
  mem := by simp
  obj := fun i h st b hb => by
    obtain ⟨⟨old, he⟩, hi⟩ := st
    obtain ⟨o, ho, hd⟩ := hi.obj
    have e' : b = e ∨ b = it := by simpa using hb
    rcases e' with z | z
    · rw [z]; exact ⟨_, he, fun v q => nomatch q⟩
    · rw [z]; exact ⟨o, ho, hd⟩
  keep := fun i h h' st kp => let ⟨⟨old, he⟩, hi⟩ := st; ⟨⟨old, kp e (by simp) _ he⟩, hi.at fun o q => kp it (by simp) o q⟩
  item := by
    intro X hP hw hK hc i pins s σ H E I hf st hg
    subst hP hw hK
    obtain ⟨⟨old, he⟩, hit⟩ := st
    obtain ⟨xs, x, hq, hx⟩ := hg
    obtain ⟨its, rv, p⟩ := Inv.seqK I hq
    obtain ⟨u, hu, ru⟩ := rv.get hx
    have hel : e < s.heap.objs.size := Heap.lt_size he
    have hil : it < s.heap.objs.size := by obtain ⟨o, q, _⟩ := hit.obj; exact Heap.lt_size q
    have hh := I.ok.hd hc
    have D := drawsS (prog := X.prog) (w := X.w) (A := X.A.in1) hh k it a hai its.toArray
    have n1 : i < its.toArray.size := by
      have := (List.getElem?_eq_some_iff.mp hu).1
      simpa using this
    refine wpAny_pyNext_enum_itemD D he ⟨hit, p⟩ n1 hei (by simp; exact ⟨hei, hae⟩) fun v1 h' tk e1 ho st' hT hsz hk => ?_
    have e1 : v1 = u := by
      have e1 : its.toArray[i]? = some v1 := e1
      have : its[i]? = some v1 := by simpa using e1
      rw [hu] at this
      exact (Option.some.inj this).symm
    subst e1
    refine ⟨_, rfl, wpAny_letOwnedTupleGo_enum (s := { s with heap := h', toks := tk + 1 }) ho fun h'' he' sb => ?_⟩
    have hT2 : h''.get? s.heap.objs.size = some { cls := .type "tuple", data := .seq #[.int i tk, v1] } := (sb.2 _ (Nat.ne_of_gt hel)).trans hT
    have new : ObjOk X.prog X.w (upd H s.heap.objs.size (.tup [.int (i : Nat), x])) h'' s.heap.objs.size (.tup [.int (i : Nat), x]) :=
      ⟨by show 2 ≤ sizeLine; decide, [.int i tk, v1], .cons ⟨_, rfl⟩ (.cons ru .nil), ⟨_, hT2, rfl, _, rfl⟩⟩
    have I1 : Inv X pins σ (upd H s.heap.objs.size (.tup [.int (i : Nat), x])) { s with heap := h'', toks := tk + 1 } :=
      I.turnedNew (ch := [e, it]) (fun b ob hb q => (sb.2 b (fun z => hb (by simp [z]))).trans (hk b ob (fun z => hb (by simp [z])) (fun z => hb (by simp [z])) q)) hf (Nat.le_refl _) new
    refine ⟨.ref s.heap.objs.size, _, I1, rfl, ⟨_, x, rfl, I.hok.fresh (Nat.le_refl _), rfl, fun ys hy => by rw [Inv.seqK_inj I hy hq]; exact hx⟩, ⟨⟨v1, ?_⟩, st'.1.at fun o q => (sb.2 it (Ne.symm hei)).trans q⟩, fun b hb => ?_⟩
    · have e1 : ((i + 1 : Nat) : Int) = (i : Int) + 1 := by omega
      rw [e1]; exact he'
    · have hb' : b < s.heap.objs.size := by
        have e' : b = e ∨ b = it := by simpa using hb
        rcases e' with z | z
        · rw [z]; exact hel
        · rw [z]; exact hil
      rw [upd_ne (Nat.ne_of_lt hb')]
      exact (hf b hb).1
  done := by
    intro X hP hw hK hc i pins s σ H E I hf st hg
    subst hP hw hK
    obtain ⟨⟨old, he⟩, hit⟩ := st
    obtain ⟨xs, hq, hx⟩ := hg
    obtain ⟨its, rv, p⟩ := Inv.seqK I hq
    obtain ⟨f0, f1, f2, f3, f4, f5⟩ := hf it (by simp)
    have hl := rv.length
    have hh := I.ok.hd hc
    have D := drawsEnd (prog := X.prog) (w := X.w) (A := X.A.in1) hh k it a its.toArray i (by simp; omega)
    exact wpAny_pyNext_enum_endD D he ⟨⟨hit, p⟩, rfl⟩ fun h' eb => ⟨rfl, I.turned (t' := s.toks) (fun b o hb q => eb b o hb q) f0 f1 f3 f4 f5⟩
  self := fun A i s Q E st h => let ⟨⟨_, he⟩, _⟩ := st; wpAny_pyIter_enum he h
def iEnumK (K : PySem.W.Frag) (ta : TA) : TI := fun σ H R => ta σ H fun vs H1 => ∃ k a xs, vs = [.ref a] ∧ SqK k K H1 a xs ∧ R (IteK k K a) H1
theorem pi_enumK {X : Cx} {e : Expr} {ta : TA} {p pos tpos : Pos} {elts : List Expr} {kk : Nat} (hg : Gl X "enumerate") (hm : X.mg "enumerate" = none) (ha : PA X [e] ta) (hs : starEach [e] X.env = [(false, eval e X.env)] := by rfl) :
    PI X (.Tuple elts kk tpos) (.Call (.Name "enumerate" p) [e] [] pos) (iEnumK X.K ta) := by
  refine ⟨fun pins s σ H R I h => ?_⟩
  refine Call_ (ld_blt I hg hm boot_enumerate (PyProof.Rows.callWith_type1 (thn (ha.run pos pins s σ H _ I h) fun us s1 ⟨vs, H1, I1, r1, q1⟩ => ?_) hs rfl))
  obtain ⟨k, a, xs, ex, hq, q⟩ := q1
  subst ex
  cases r1 with
  | cons r rr =>
    cases rr
    cases r
    obtain ⟨its, rv, p'⟩ := Inv.seqK I1 hq
    refine call_enumK k p' fun h' he hit hsz hk => wpAny_pyIter_enum he ?_
    have I2 : Inv X pins σ H1 { s1 with heap := h' } := I1.kept (t' := s1.toks) hk
    have al := p'.lt
    refine ⟨s1.heap.objs.size + 1, [s1.heap.objs.size + 1, s1.heap.objs.size], _, _, H1, rfl, I2, turn_enumK k a (s1.heap.objs.size + 1) s1.heap.objs.size (Nat.succ_ne_self _) (Nat.ne_of_lt al) (Ne.symm (Nat.ne_of_lt (Nat.lt_succ_of_lt al))), ⟨⟨.none, he⟩, hit⟩, fun b hb => ?_, q⟩
    have e' : b = s1.heap.objs.size + 1 ∨ b = s1.heap.objs.size := by simpa using hb
    have hle : s1.heap.objs.size ≤ b := by
      rcases e' with z | z
      · rw [z]; exact Nat.le_add_right _ _
      · rw [z]; exact Nat.le_refl _
    exact I1.fpOk hle (I1.hok.fresh hle)
def enumKI (fs : AF) : IF := fun en st => (fs en st).bind fun ds st1 => match ds with
  | [d] => match frzT d with
    | some es => .ok (.items (enumF 0 es)) st1
    | none => .bad
  | _ => .bad
variable [Tabs]
theorem itI_enumK {K : PySem.W.Frag} {z : Z} {H : Hp} {a : Addr} {xs : List V} {ds : List D} {k : SK} (s1 : ∀ z1 H1, Ex0 z H z1 H1 → SqK k K H1 a xs) (rx : Reps K z H xs ds) : ItI K z H (enumF 0 ds) (IteK k K a) := fun z1 H1 st e rh => by
  have r1 := rx.ext0 e
  have s1 := s1 z1 H1 e
  refine ⟨fun i hi => ⟨xs, s1, by rw [enumF_length] at hi; rw [r1.length]; exact hi⟩, fun i d hd => ?_⟩
  obtain ⟨q, hq, e3⟩ := enumF_get 0 i ds d hd
  obtain ⟨v, hv, rv⟩ := r1.getD hq
  refine ⟨⟨xs, v, s1, hv⟩, fun x H2 y => ?_⟩
  obtain ⟨T, x', rfl, nT, rfl, f1⟩ := y
  have e2 := f1 xs s1
  rw [hv] at e2
  cases e2
  have x2 := ext_add (o := .tup [.int (i : Nat), v]) rh nT
  subst e3
  rw [Nat.zero_add]
  exact ⟨z1.add T, x2, rh.add nT, .tup (.of (.inr rfl) upd_same rfl) (.cons (.int _) (.cons (rv.ext x2) .nil))⟩
section
variable {X : Cx} {xm : List Addr} {W : WX} {e : Expr} {elts : List Expr} {fs : AF} {p pos tpos : Pos} {kk : Nat}
theorem si_enumK (hg : Gl X "enumerate") (hm : X.mg "enumerate" = none) (ha : PA X [e] (TAf X.K xm W fs)) (hs : starEach [e] X.env = [(false, eval e X.env)] := by rfl) : PI X (.Tuple elts kk tpos) (.Call (.Name "enumerate" p) [e] [] pos) (TIf X.K xm W (enumKI fs)) :=
  (pi_enumK hg hm ha hs).imp fun σ H Rq ⟨z, en, st, rh, re, h⟩ => by
    refine seqA' rh re (wp_bind.mp h) fun d1 st1 v1 z1 H1 q1 e1 r1 re1 p1 => ?_
    cases p1 with
    | nil => exact q1.elim
    | cons p1 ps =>
    cases ps with
    | cons _ _ => exact q1.elim
    | nil =>
      rename_i v d
      simp only at q1
      cases hf : frzT d with
      | none =>
        rw [hf] at q1
        exact q1.elim
      | some ds =>
        rw [hf] at q1
        obtain ⟨k, a, xs, rfl, t, rs⟩ := frzT_at p1 hf
        exact ⟨k, a, xs, rfl, t z1 H1 Ext.refl.toEx0, q1 _ z1 H1 e1 r1 (itI_enumK t rs)⟩
end
end Ev

namespace Ev
open PySem PySem.Spec PyProof.Rows L2 RZ
/-! ## zip of a cell with a tuple, a frozen list -/
def zipNx (n : Nat) (es : List D) : Nat → Sto → Option (Option D) := fun i st => match st[n]? with
  | some (.lst ds) => some (match ds[i]?, es[i]? with
    | some d, some e => some (.tup [d, e])
    | _, _ => none)
  | _ => none
/-- both of them cells -/
def zip2Nx (n m : Nat) : Nat → Sto → Option (Option D) := fun i st => match st[n]?, st[m]? with
  | some (.lst ds), some (.lst es) => some (match ds[i]?, es[i]? with
    | some d, some e => some (.tup [d, e])
    | _, _ => none)
  | _, _ => none
def cell2 (st : Sto) (n : Nat) : D → R ItD
  | .ref m => match st[m]? with
    | some (.lst _) => .ok (.dyn 99999 (zip2Nx n m)) st
    | _ => .bad
  | _ => .bad
def zipCI (fs : AF) : IF := fun en st => (fs en st).bind fun ds st1 => match ds with
  | [.ref n, b] => match st1[n]?, frzT b with
    | some (.lst _), some y => .ok (.dyn 99999 (zipNx n y)) st1
    | some (.lst _), none => cell2 st1 n b
    | _, _ => .bad
  | _ => .bad
variable [Tabs]
theorem itY_zip {K : PySem.W.Frag} {z : Z} {H : Hp} {a b : Addr} {n : Nat} {k2 : SK} {ys : List V} {es : List D} (hn : z.mu[n]? = some a) (s2 : ∀ z1 H1, Ex0 z H z1 H1 → SqK k2 K H1 b ys) (ry : Reps K z H ys es) : ItY K z H (zipNx n es) (ItzM .l k2 K a b) := fun z1 H1 st i e rh => by
  have r2 := ry.ext0 e
  have s2 := s2 z1 H1 e
  unfold zipNx
  cases hc : st[n]? with
  | none => trivial
  | some c =>
    cases c with
    | set S => trivial
    | dct ks0 ds0 => trivial
    | lst ds =>
      obtain ⟨xs, hx, rs⟩ := rh.cell (e.mu _ _ hn) hc
      have s1 : SqK .l K H1 a xs := SqL.of hx
      cases hd : ds[i]? with
      | none =>
        have := List.getElem?_eq_none_iff.mp hd
        simp only [hd]
        exact ⟨xs, ys, s1, s2, .inl (by rw [rs.length]; exact this)⟩
      | some d =>
        cases he : es[i]? with
        | none =>
          have := List.getElem?_eq_none_iff.mp he
          simp only [hd, he]
          exact ⟨xs, ys, s1, s2, .inr (by rw [r2.length]; exact this)⟩
        | some q =>
          obtain ⟨v, hv, rv⟩ := rs.getD hd
          obtain ⟨u, hu, ru⟩ := r2.getD he
          simp only [hd, he]
          refine ⟨⟨xs, ys, v, u, s1, s2, hv, hu⟩, fun x H2 y => ?_⟩
          obtain ⟨T, x', y', rfl, nT, e2, f1, f2⟩ := y
          have g1 := f1 xs s1
          have g2 := f2 ys s2
          rw [hv] at g1
          rw [hu] at g2
          cases g1
          cases g2
          obtain ⟨its, e2⟩ := e2
          subst e2
          have x2 := ext_add (o := frT its [v, u]) rh nT
          exact ⟨z1.add T, x2, rh.add nT, .tup (PlZ.tup ⟨.inr rfl, its, upd_same⟩) (.cons (rv.ext x2) (.cons (ru.ext x2) .nil))⟩
theorem itY_zip2 {K : PySem.W.Frag} {z : Z} {H : Hp} {a b : Addr} {n m : Nat} (hn : z.mu[n]? = some a) (hm : z.mu[m]? = some b) : ItY K z H (zip2Nx n m) (ItzM .l .l K a b) := fun z1 H1 st i e rh => by
  unfold zip2Nx
  cases hc : st[n]? with
  | none => trivial
  | some c =>
    cases c with
    | set S => trivial
    | dct _ _ => trivial
    | lst ds =>
      cases hc2 : st[m]? with
      | none => trivial
      | some c2 =>
        cases c2 with
        | set S => trivial
        | dct _ _ => trivial
        | lst es =>
          obtain ⟨xs, hx, rs⟩ := rh.cell (e.mu _ _ hn) hc
          obtain ⟨ys, hy, r2⟩ := rh.cell (e.mu _ _ hm) hc2
          have s1 : SqK .l K H1 a xs := SqL.of hx
          have s2 : SqK .l K H1 b ys := SqL.of hy
          cases hd : ds[i]? with
          | none =>
            have := List.getElem?_eq_none_iff.mp hd
            simp only [hd]
            exact ⟨xs, ys, s1, s2, .inl (by rw [rs.length]; exact this)⟩
          | some d =>
            cases he : es[i]? with
            | none =>
              have := List.getElem?_eq_none_iff.mp he
              simp only [hd, he]
              exact ⟨xs, ys, s1, s2, .inr (by rw [r2.length]; exact this)⟩
            | some q =>
              obtain ⟨v, hv, rv⟩ := rs.getD hd
              obtain ⟨u, hu, ru⟩ := r2.getD he
              simp only [hd, he]
              refine ⟨⟨xs, ys, v, u, s1, s2, hv, hu⟩, fun x H2 y => ?_⟩
              obtain ⟨T, x', y', rfl, nT, e2, f1, f2⟩ := y
              have g1 := f1 xs s1
              have g2 := f2 ys s2
              rw [hv] at g1
              rw [hu] at g2
              cases g1
              cases g2
              obtain ⟨its, e2⟩ := e2
              subst e2
              have x2 := ext_add (o := frT its [v, u]) rh nT
              exact ⟨z1.add T, x2, rh.add nT, .tup (PlZ.tup ⟨.inr rfl, its, upd_same⟩) (.cons (rv.ext x2) (.cons (ru.ext x2) .nil))⟩
section
variable {X : Cx} {xm : List Addr} {W : WX} {e e2 : Expr} {elts : List Expr} {fs : AF} {p pos tpos : Pos} {kk : Nat}
theorem si_zipC (hg : Gl X "zip") (hm : X.mg "zip" = none) (ha : PA X [e, e2] (TAf X.K xm W fs)) (hs : starEach [e, e2] X.env = (false, eval e X.env) :: starEach [e2] X.env := by rfl) (hpl : (backTo pos (starEach [e2] X.env)).any (·.1) = false := by rfl) :
    PI X (.Tuple elts kk tpos) (.Call (.Name "zip" p) [e, e2] [] pos) (TIf X.K xm W (zipCI fs)) :=
  (pi_zipM hg hm ha hs hpl).imp fun σ H Rq ⟨z, en, st, rh, re, h⟩ => by
    refine seqA' rh re (wp_bind.mp h) fun d1 st1 v1 z1 H1 q1 e1 r1 re1 p1 => ?_
    cases p1 with
    | nil => exact q1.elim
    | cons p1 ps =>
    cases ps with
    | nil => cases p1 <;> exact q1.elim
    | cons p2 ps =>
    cases ps with
    | cons _ _ => cases p1 <;> exact q1.elim
    | nil =>
      cases p1 with
      | @ref a n hn hk =>
        rename_i v' d'
        simp only at q1
        cases hc : st1[n]? with
        | none =>
          simp only [hc] at q1
          exact q1.elim
        | some c =>
          cases c with
          | set S =>
            simp only [hc] at q1
            exact q1.elim
          | dct ks0 ds0 =>
            simp only [hc] at q1
            exact q1.elim
          | lst ds =>
            cases hy : frzT d' with
            | none =>
              simp only [hc, hy] at q1
              cases p2 with
              | @ref b m hm hk2 =>
                unfold cell2 at q1
                cases hc2 : st1[m]? with
                | none =>
                  simp only [hc2] at q1
                  exact q1.elim
                | some c2 =>
                  cases c2 with
                  | set S =>
                    simp only [hc2] at q1
                    exact q1.elim
                  | dct _ _ =>
                    simp only [hc2] at q1
                    exact q1.elim
                  | lst es =>
                    simp only [hc2] at q1
                    obtain ⟨xs, hx, rs⟩ := r1.cell hn hc
                    obtain ⟨ys, hy2, rs2⟩ := r1.cell hm hc2
                    exact ⟨.l, .l, a, b, xs, ys, rfl, SqL.of hx, SqL.of hy2, q1 _ z1 H1 e1 r1 (itY_zip2 hn hm)⟩
              | _ => exact q1.elim
            | some y =>
              simp only [hc, hy] at q1
              obtain ⟨k2, b, ys, rfl, t2, rs2⟩ := frzT_at p2 hy
              obtain ⟨xs, hx, rs⟩ := r1.cell hn hc
              have s1 : SqK .l X.K H1 a xs := SqL.of hx
              exact ⟨.l, k2, a, b, xs, ys, rfl, s1, t2 z1 H1 Ext.refl.toEx0, q1 _ z1 H1 e1 r1 (itY_zip hn t2 rs2)⟩
      | _ => exact q1.elim
end
end Ev

namespace Ev
open PySem PySem.Spec PyProof.Rows L2 RZ
/-! ## tuple(reversed(a list)) -/
def tupRevF (f : EF) : EF := fun en st => (f en st).bind fun d st1 => match asLF d st1 with
  | some ds => if npl ds.reverse then .ok (.tup ds.reverse) st1 else .bad
  | none => .bad
variable [Tabs]
section
variable {X : Cx} {xm : List Addr} {W : WX} {k : Nat} {e : Expr} {f : EF} {p p2 pos pos2 : Pos}
theorem sn_tupRev (G : GX X xm W k) (hm : X.mg "tuple" = none) (hm2 : X.mg "reversed" = none) (he : PE X e (TEf X.K xm W f)) (hg : Gl X "tuple" := by rfl) (hg2 : Gl X "reversed" := by rfl)
    (hs : starEach [e] X.env = (false, eval e X.env) :: starEach [] X.env := by rfl)
    (hs2 : starEach [.Call (.Name "reversed" p2) [e] [] pos2] X.env = (false, eval (.Call (.Name "reversed" p2) [e] [] pos2) X.env) :: starEach [] X.env := by rfl) :
    PE X (.Call (.Name "tuple" p) [.Call (.Name "reversed" p2) [e] [] pos2] [] pos) (TEf X.K xm W (tupRevF f)) :=
  (RT.pe_tupRev G.cm hg hm hg2 hm2 he hs hs2).imp fun σ H Q ⟨z, en, st, rh, re, h⟩ => by
    refine seqE' rh re (wp_bind.mp h) fun d1 st1 v1 z1 H1 q1 e1 r1 re1 p1 => ?_
    cases hl : asLF d1 st1 with
    | none =>
      rw [hl] at q1
      exact q1.elim
    | some ds =>
      rw [hl] at q1
      have q1 : R.wp (if npl ds.reverse = true then R.ok (D.tup ds.reverse) st1 else .bad) _ _ := q1
      split at q1
      rename_i np
      case isFalse => exact q1.elim
      obtain ⟨a, xs, rfl, hq, rs⟩ := asLF_at r1 p1 hl
      refine ⟨a, xs, rfl, hq, fun q nq => ?_⟩
      have x2 := ext_add (o := .tup xs.reverse) r1 nq
      exact q1 _ (z1.add q) _ (e1.trans x2) (r1.add nq) (.tup (.of (.inr rfl) upd_same np) ((rs.ext x2).reverse))
end
end Ev

namespace Ev
open PySem PySem.Spec PyProof.Rows L2 RZ
/-! ## dict(a list of pairs), d[k], d.get(k, x): dicts that nobody changes, their keys ints -/
def pairsI : List D → Option (List (Int × D))
  | [] => some []
  | .tup [.int i, d] :: r => (pairsI r).map fun kvs => (i, d) :: kvs
  | _ :: _ => none
def dictL : OL := fun ds st => match ds with
  | [d] => (asLF d st).bind fun es => (pairsI es).bind fun kvs => if (kvs.map (·.1)).Nodup then some (.dic (kvs.map fun kv => .inl kv.1) (kvs.map (·.2)), st) else none
  | _ => none
def dicGet : List (Int ⊕ NestedKey) → List D → Int → Option D
  | .inl k :: ks, d :: ds, i => if k = i then some d else dicGet ks ds i
  | _, _, _ => none
def isInl : List (Int ⊕ NestedKey) → Bool
  | .inr _ :: _ => false
  | _ => true
def dgetF (f g : EF) : EF := fun en st => (f en st).bind fun d1 st1 => (g en st1).bind fun d2 st2 => match d1, d2 with
  | .dic ks ds, .int i => (match dicGet ks ds i with
    | some d => .ok d st2
    | none => .bad)
  | _, _ => .bad
def dget2F (f g h : EF) : EF := fun en st => (f en st).bind fun d1 st1 => match d1 with
  | .dic ks ds => if isInl ks = true then (g en st1).bind fun d2 st2 => (h en st2).bind fun d3 st3 => match d2 with
    | .int i => .ok ((dicGet ks ds i).getD d3) st3
    | _ => .bad
    else .bad
  | _ => .bad
variable [Tabs]
section
variable {K : PySem.W.Frag} {z : Z} {H : Hp} {st : Sto}
theorem pairs_at : ∀ {vs : List V} {ds : List D} {kvs : List (Int × D)}, Reps K z H vs ds → pairsI ds = some kvs → ∃ (ps : List Addr) (xs : List V), vs = ps.map V.ref ∧ Paired (fun (p : Addr) (kv : Key × V) => SqT K H p [kV kv.1, kv.2]) ps (((kvs.map (·.1)).map Sum.inl).zip xs) ∧ Reps K z H xs (kvs.map (·.2))
  | _, _, _, .nil, h => by
    cases h
    exact ⟨[], [], rfl, .nil, .nil⟩
  | _, _, kvs, .cons (v := v) (d := d) (ds := ds) p t, h => by
    obtain ⟨i, d', rfl⟩ : ∃ i d', d = .tup [.int i, d'] := by
      unfold pairsI at h
      split at h
      · rename_i e; cases e
      · rename_i e; cases e; exact ⟨_, _, rfl⟩
      · cases h
    obtain ⟨kr, hk, rfl⟩ : ∃ kr, pairsI ds = some kr ∧ kvs = (i, d') :: kr := by
      obtain ⟨kr, h1, h2⟩ := Option.map_eq_some_iff.mp (show (pairsI ds).map (fun kvs => (i, d') :: kvs) = some kvs from h)
      exact ⟨kr, h1, h2.symm⟩
    obtain ⟨ps, xs, e1, e2, e3⟩ := pairs_at t hk
    cases p with
    | tup tz rs =>
      rename_i a ys
      cases rs with
      | cons r1 rs =>
        cases rs with
        | cons r2 rs =>
          cases rs
          cases r1
          rename_i v'
          refine ⟨a :: ps, v' :: xs, by rw [e1]; rfl, .cons ?_ e2, .cons r2 e3⟩
          exact tz.t.elim (fun q => .inl q.2) .inr
theorem merge_app : ∀ (kvs acc : List (Key × V)), kvs.Pairwise (fun a c => a.1 ≠ c.1) → (∀ a ∈ acc, ∀ kv ∈ kvs, a.1 ≠ kv.1) → mergeK acc kvs = acc ++ kvs
  | [], acc, _, _ => (List.append_nil _).symm
  | kv :: kvs, acc, hp, ha => by
    obtain ⟨h1, h2⟩ := List.pairwise_cons.mp hp
    have e : putK acc kv.1 kv.2 = acc ++ [kv] := by
      unfold putK
      have : (acc.any fun q => decide (q.1 = kv.1)) = false := by
        rw [List.any_eq_false]
        intro q hq
        rw [decide_eq_true_eq]
        exact ha q hq kv List.mem_cons_self
      rw [this]
      rfl
    show mergeK (putK acc kv.1 kv.2) kvs = _
    rw [e, merge_app kvs (acc ++ [kv]) h2 fun a hA q hq => ?_]
    · rw [List.append_assoc]
      rfl
    · rcases List.mem_append.mp hA with hA | hA
      · exact ha a hA q (List.mem_cons_of_mem _ hq)
      · rw [List.mem_singleton.mp hA]
        exact h1 q hq
theorem nodup_zip : ∀ (kk : List Int) (xs : List V), kk.Nodup → ((kk.map Sum.inl).zip xs : List (Key × V)).Pairwise (fun a c => a.1 ≠ c.1)
  | [], _, _ => .nil
  | _ :: _, [], _ => .nil
  | k :: kk, x :: xs, h => by
    obtain ⟨h1, h2⟩ := List.pairwise_cons.mp h
    refine List.pairwise_cons.mpr ⟨fun q hq => ?_, nodup_zip kk xs h2⟩
    obtain ⟨j, hj, e⟩ := List.mem_map.mp (List.of_mem_zip hq).1
    intro e2
    have : (Sum.inl k : Key) = Sum.inl j := by rw [e]; exact e2
    injection this with this
    exact h1 j hj this
theorem get_at {i : Int} : ∀ (kk : List Int) {xs : List V} {ds : List D}, Reps K z H xs ds → kk.length = xs.length → (∀ d, dicGet (kk.map .inl) ds i = some d → ∃ v, valV ((kk.map Sum.inl).zip xs : List (Key × V)) (Sum.inl i) = some v ∧ Rep K z H v d) ∧ (dicGet (kk.map .inl) ds i = none → valV ((kk.map Sum.inl).zip xs : List (Key × V)) (Sum.inl i) = none)
  | [], _, _, _, _ => ⟨fun d h => (nomatch h), fun _ => rfl⟩
  | k :: kk, _, _, .nil, h => absurd h (by simp)
  | k :: kk, _, _, .cons (v := v) (vs := vs) (d := d) (ds := ds) p t, h => by
    obtain ⟨i1, i2⟩ := get_at (i := i) kk t (by simpa using h)
    by_cases e : k = i
    · subst e
      have hv : valV (((k :: kk).map Sum.inl).zip (v :: vs) : List (Key × V)) (Sum.inl k) = some v := by
        show ((List.find? _ (((Sum.inl k : Key), v) :: _)).map _) = _
        rw [List.find?_cons_of_pos (by simp)]
        rfl
      refine ⟨fun d' hd => ?_, fun hd => ?_⟩
      · have hd : (if k = k then some d else _) = some d' := hd
        rw [if_pos rfl] at hd
        injection hd with hd
        subst hd
        exact ⟨v, hv, p⟩
      · have hd : (if k = k then some d else dicGet (kk.map .inl) ds k) = none := hd
        rw [if_pos rfl] at hd
        cases hd
    · have hv : valV (((k :: kk).map Sum.inl).zip (v :: vs) : List (Key × V)) (Sum.inl i) = valV ((kk.map Sum.inl).zip vs : List (Key × V)) (Sum.inl i) := by
        show ((List.find? _ (((Sum.inl k : Key), v) :: _)).map _) = _
        rw [List.find?_cons_of_neg (by simpa using e)]
        rfl
      have hd : dicGet ((k :: kk).map .inl) (d :: ds) i = dicGet (kk.map .inl) ds i := if_neg e
      rw [hv, hd]
      exact ⟨i1, i2⟩
end
section
variable {X : Cx} {xm : List Addr} {W : WX} {k : Nat} {e e2 e3 : Expr} {f g h : EF} {p p2 pos pos2 : Pos}
theorem bt_dict : bootBuiltins "dict" = some (.type "dict") := by decide +kernel
theorem cl_dict (hc : X.calm = true) : CallR X (.type "dict") (RLf X.K dictL) := by
  intro pins s σ H xs us Q I rv ⟨z, st, ds, d, st', rh, ps, e, q⟩
  obtain ⟨d0, rfl⟩ : ∃ d0, ds = [d0] := by
    match ds, e with
    | [d0], _ => exact ⟨d0, rfl⟩
  obtain ⟨es, h1, e⟩ := Option.bind_eq_some_iff.mp (show (asLF d0 st).bind _ = some (d, st') from e)
  obtain ⟨kvs, h2, e⟩ := Option.bind_eq_some_iff.mp e
  split at e
  · rename_i nd
    cases e
    match xs, ps with
    | _, .cons (v := v0) p0 .nil =>
      obtain ⟨a, ys, rfl, hs, rs⟩ := asLF_at rh p0 h1
      obtain ⟨ps, xs, rfl, pr, rx⟩ := pairs_at rs h2
      refine call_dictP hc pins s σ H _ us Q I rv ⟨a, ps, _, rfl, hs, pr, fun p n => ?_⟩
      rw [merge_app _ [] (nodup_zip _ _ nd) (fun a ha => by cases ha), List.nil_append]
      have x2 := ext_add (o := .dK (((kvs.map (·.1)).map Sum.inl).zip xs)) rh n
      refine q _ (z.add p) _ x2 (rh.add n) (.dic ⟨.inr rfl, .inl ⟨kvs.map (·.1), by rw [List.map_map]; rfl, ?_, upd_same⟩⟩ (rx.ext x2))
      rw [rx.length, List.length_map, List.length_map]
  · cases e
theorem room1 (G : GX X xm W k) : X.A.units + 1 < cLine := by
  have := G.rm.units
  have := G.rm.un
  omega
theorem sn_dget (G : GX X xm W k) (he : PE X e (TEf X.K xm W f)) (hi : PE X e2 (TEf X.K xm W g)) (hs : NoSl e2 := by exact fun _ _ => rfl) : PE X (.Subscript e e2 pos) (TEf X.K xm W (dgetF f g)) :=
  (pe_dget (room1 G) he hi hs).imp fun σ H Q ⟨z, en, st, rh, re, h⟩ => by
    refine seqE' rh re (wp_bind.mp h) fun d1 st1 v1 z1 H1 q1 e1 r1 re1 p1 => ?_
    refine seqE' r1 re1 (wpD_ext e1 (wp_bind.mp q1) fun _ _ q => q) fun d2 st2 v2 z2 H2 q2 e2 r2 re2 p2 => ?_
    have p1 := p1.ext e2
    match d1, d2, q2, p1, p2 with
    | .dic ks ds, .int i, q2, p1, p2 =>
      cases hg : dicGet ks ds i with
      | none =>
        simp only [hg] at q2
        exact q2.elim
      | some d =>
        simp only [hg] at q2
        cases p2
        cases p1 with
        | @dic a _ xs _ dz rs =>
          rcases dz with ⟨fa, ⟨kk, rfl, hl, ha⟩ | ⟨kk, ne, rfl, hl, ha⟩⟩
          · obtain ⟨v, hv, rp⟩ := (get_at (i := i) kk rs hl).1 d hg
            have dg := DGet.k (k := (Sum.inl i : Key)) ha
            rw [hv] at dg
            exact ⟨a, v, rfl, dg, okD.here (okD.ext (e1.trans e2) q2) r2 rp⟩
          · exfalso
            cases kk with
            | nil => cases hg
            | cons => cases ds <;> cases hg
theorem sn_dget2 {apos : Pos} (G : GX X xm W k) (he : PE X e (TEf X.K xm W f)) (hi : PE X e2 (TEf X.K xm W g)) (hd : PE X e3 (TEf X.K xm W h)) (m : M2 X e "get" apos e2 e3 pos := by exact ⟨rfl, rfl, rfl, rfl⟩) : PE X (.Call (.Attribute e "get" apos) [e2, e3] [] pos) (TEf X.K xm W (dget2F f g h)) :=
  (pe_dget2 (room1 G) he hi hd m).imp fun σ H Q ⟨z, en, st, rh, re, h⟩ => by
    refine seqE' rh re (wp_bind.mp h) fun d1 st1 v1 z1 H1 q1 e1 r1 re1 p1 => ?_
    match d1, q1, p1 with
    | .dic ks ds, q1, p1 =>
      by_cases hk : isInl ks = true
      · simp only [if_pos hk] at q1
        cases p1 with
        | @dic a _ xs _ dz rs =>
          rcases dz with ⟨fa, ⟨kk, rfl, hl, ha⟩ | ⟨kk, ne, rfl, hl, ha⟩⟩
          · refine ⟨a, rfl, .inl ⟨_, .inl ha⟩, ?_⟩
            refine seqE' r1 re1 (wpD_ext e1 (wp_bind.mp q1) fun _ _ q => q) fun d2 st2 v2 z2 H2 q2 e2 r2 re2 p2 => ?_
            refine seqE' r2 re2 (wpD_ext (e1.trans e2) (wp_bind.mp q2) fun _ _ q => q) fun d3 st3 v3 z3 H3 q3 e3 r3 re3 p3 => ?_
            match d2, q3, p2 with
            | .int i, q3, p2 =>
              cases p2
              have x13 := e2.trans e3
              have ha3 : H3 a = some (.dK ((kk.map Sum.inl).zip xs)) := by rw [(x13.fz a fa).2]; exact ha
              obtain ⟨g1, g2⟩ := get_at (i := i) kk (rs.ext x13) hl
              refine ⟨_, DGet.k (k := (Sum.inl i : Key)) ha3, ?_⟩
              have q3 : okD X.K z H Q ((dicGet (kk.map .inl) ds i).getD d3) st3 := q3
              have q4 := okD.ext (e1.trans x13) q3
              cases hg : dicGet (kk.map .inl) ds i with
              | some d =>
                obtain ⟨v, hv, rp⟩ := g1 d hg
                rw [hv]
                rw [hg] at q4
                exact okD.here q4 r3 rp
              | none =>
                rw [g2 hg]
                rw [hg] at q4
                exact okD.here q4 r3 p3
          · exfalso
            cases kk with
            | nil => exact ne rfl
            | cons => cases hk
      · simp only [if_neg hk] at q1
        exact q1.elim
end
end Ev

namespace Ev
open PySem PySem.Spec PyProof.Rows L2 RZ
/-! ## dict(a tuple of pairs): the tuple's object is known -/
section
variable {X : Cx}
theorem pairs_ofT {pins : List (Addr × Obj)} {σ : L2.St} {H : Hp} {s : Shared} (I : Inv X pins σ H s) : ∀ {ps : List Addr} {kvs : List (Key × V)}, Paired (fun p kv => SqT X.K H p [kV kv.1, kv.2]) ps kvs →
    ∃ (prs : List (Key × Value)) (vs : List (Value × Value)), KV kvs prs ∧ prs.length = ps.length ∧ vs.length = ps.length ∧ ∀ (j : Nat) (k v : Value), vs[j]? = some (k, v) → ∃ (b : Addr) (q : Key), ps[j]? = some b ∧ IsTup s.heap b #[k, v] ∧ prs[j]? = some (q, v) ∧ (mixKind X.prog X.w).is q k = true
  | _, _, .nil => ⟨[], [], .nil, rfl, rfl, fun j k v e => by simp at e⟩
  | _, _, .cons (a := p) (b := kv) h t => by
    obtain ⟨prs, vs, r, hl, hv, hp⟩ := pairs_ofT I t
    obtain ⟨its, rv, ht, _⟩ := I.tuple h
    obtain ⟨u, y, ei, ru, ry⟩ := vals2 rv
    subst ei
    refine ⟨(kv.1, y) :: prs, (u, y) :: vs, .cons ⟨rfl, ry⟩ r, by rw [List.length_cons, List.length_cons, hl], by rw [List.length_cons, List.length_cons, hv], fun j k v e => ?_⟩
    cases j with
    | zero =>
      have e' : (u, y) = (k, v) := Option.some.inj e
      cases e'
      exact ⟨p, kv.1, rfl, ht, rfl, kV_is (P := X.prog) (w := X.w) ru⟩
    | succ j =>
      obtain ⟨b, q, e1, e2, e3, e4⟩ := hp j k v (by simpa using e)
      exact ⟨b, q, by simpa using e1, e2, by simpa using e3, e4⟩
theorem call_dictPT (hcalm : X.calm = true) : CallR X (.type "dict") (fun xs H Q => ∃ (a : Addr) (its : List Value) (ps : List Addr) (kvs : List (Key × V)), xs = [.ref a] ∧ H a = some (frT its (ps.map V.ref)) ∧ Paired (fun p kv => SqT X.K H p [kV kv.1, kv.2]) ps kvs ∧
    ∀ p, H p = none → Q (.ref p) (upd H p (.dK (mergeK [] kvs)))) := by
  intro pins s σ H xs us Q I r q
  obtain ⟨a, its, ps, kvs, ex, hq, hp, q⟩ := q
  subst ex
  obtain ⟨u, eu, rx⟩ := vals1 r
  subst eu
  cases rx
  obtain ⟨ho, hz, its', rv, ht⟩ := I.hok a _ hq
  obtain ⟨o', ho', hc', n', hd'⟩ := ht
  rw [ho] at ho'
  cases ho'
  have ei : its' = its := by
    have h1 : Data.seq its.toArray 0 = Data.seq its'.toArray n' := hd'
    injection h1 with h1 _
    have := congrArg Array.toList h1
    simpa using this.symm
  subst ei
  have ei := refs_at rv
  subst ei
  rw [List.length_map] at hz
  obtain ⟨prs, vs, rel, hl, hv, hpr⟩ := pairs_ofT I hp
  have P := PairArg.tuple (prog := X.prog) (w := X.w) a (ps.map Value.ref).toArray (fun j => (ps[j]?).getD 0) vs
  have ok : PlainSeq "tuple" s.heap a (ps.map Value.ref).toArray ∧ PairItems s.heap (ps.map Value.ref).toArray (fun j => (ps[j]?).getD 0) vs := by
    refine ⟨⟨_, _, ho, rfl, rfl, rfl⟩, by simp [hv], fun j k v e => ?_⟩
    obtain ⟨b, q', e1, e2, e3, e4⟩ := hpr j k v e
    refine ⟨by simp [e1], .inl ?_⟩
    have et : (fun j => (ps[j]?).getD 0) j = b := by simp [e1]
    rw [et]
    obtain ⟨o, h1, h2, n, h3⟩ := e2
    exact ⟨o, h1, h2, n, h3⟩
  refine PySem.call_dict_pairs (knd := mixKind X.prog X.w) (kvs := prs) P (I.ok.hd hcalm) ok ⟨by rw [hl, hv], fun i key v e => ?_⟩ (by rw [hv]; exact hz) fun h' tk hd' k => ?_
  · obtain ⟨b, q', e1, e2, e3, e4⟩ := hpr i key v e
    exact ⟨q', e3, e4⟩
  · have hm : (s.heap.objs.size == sysModules) = false := beq_eq_false_iff_ne.mpr (Nat.ne_of_gt I.big)
    have hlen : (mergeK [] kvs).length ≤ sizeLine := by
      refine Nat.le_trans (length_mergeK kvs []) ?_
      rw [List.length_nil, Nat.zero_add, rel.length, hl]
      exact hz
    exact ⟨.ref s.heap.objs.size, upd H s.heap.objs.size (.dK (mergeK [] kvs)), I.laid (t' := tk) (fun b o e => k b o (by simp) e) (Nat.le_refl _) (show ObjOk X.prog X.w _ _ _ (.dK (mergeK [] kvs)) from ⟨hlen, hm, merged [] prs, KV.merge rel .nil, hd'⟩), rfl, q _ (I.hok.fresh (Nat.le_refl _))⟩
end
def dictPL : OL := fun ds st => match ds with
  | [.tup es] => if npl es = true then none else (pairsI es).bind fun kvs => if (kvs.map (·.1)).Nodup then some (.dic (kvs.map fun kv => .inl kv.1) (kvs.map (·.2)), st) else none
  | ds => dictL ds st
variable [Tabs]
section
variable {X : Cx} {xm : List Addr} {W : WX} {k : Nat} {e e2 e3 : Expr} {f g h : EF} {p p2 pos pos2 : Pos}
theorem cl_dictP (hc : X.calm = true) : CallR X (.type "dict") (RLf X.K dictPL) := by
  intro pins s σ H xs us Q I rv ⟨z, st, ds, d, st', rh, ps, e, q⟩
  have rest : dictL ds st = some (d, st') → wpAny (model X.prog X.w) X.A (call (.type "dict") us) (EP X pins σ Q) X.xe s := fun e => cl_dict hc pins s σ H xs us Q I rv ⟨z, st, ds, d, st', rh, ps, e, q⟩
  unfold dictPL at e
  split at e
  · rename_i es
    split at e
    · cases e
    · rename_i np
      obtain ⟨kvs, h2, e⟩ := Option.bind_eq_some_iff.mp e
      split at e
      · rename_i nd
        cases e
        match xs, ps with
        | _, .cons (v := v0) p0 .nil =>
          cases p0 with
          | @tup a ys _ t rs =>
            obtain ⟨fa, its, ha⟩ : PlZ z H a ys := t.p.resolve_left np
            obtain ⟨ps, xs, rfl, pr, rx⟩ := pairs_at rs h2
            refine call_dictPT hc pins s σ H _ us Q I rv ⟨a, its, ps, _, rfl, ha, pr, fun p n => ?_⟩
            rw [merge_app _ [] (nodup_zip _ _ nd) (fun a ha => by cases ha), List.nil_append]
            have x2 := ext_add (o := .dK (((kvs.map (·.1)).map Sum.inl).zip xs)) rh n
            refine q _ (z.add p) _ x2 (rh.add n) (.dic ⟨.inr rfl, .inl ⟨kvs.map (·.1), by rw [List.map_map]; rfl, ?_, upd_same⟩⟩ (rx.ext x2))
            rw [rx.length, List.length_map, List.length_map]
      · cases e
  · exact rest e
end
end Ev

namespace Ev
open PySem PySem.Spec PyProof.Rows L2 RZ
/-! ## a[i], b[j] = .. : a tuple of two stored in two places -/
def stoS (o i : EF) (d : D) (k : Sto → SR) : En → Sto → SR := fun en st => bindS (o en st) en fun l st2 => bindS (i en st2) en fun j st3 => match l, j with
  | .ref n, .int m => match st3[n]? with
    | some (.lst ds) => match ixN ds.length m with
      | some q => k (st3.set n (.lst (ds.set q d)))
      | none => .bad
    | _ => .bad
  | _, _ => .bad
def sub2S (f o1 i1 o2 i2 : EF) : SF := fun en st => bindS (f en st) en fun d st1 => match d with
  | .tup [a, b] => stoS o1 i1 a (fun st2 => stoS o2 i2 b (fun st3 => .nx en st3) en st2) en st1
  | _ => .bad
variable [Tabs]
theorem put_at {K : PySem.W.Frag} {xm : List Addr} {W : WX} {z : Z} {H : Hp} {E : Ends} {o i : EF} {d : D} {k : Sto → SR} {en : En} {st : Sto} {σ : L2.St} {v : V} {Q : L2.St → Hp → Prop} (rh : RelH K z H st) (re : RelE K z H σ en)
    (h : SatS K xm W z H E (stoS o i d k en st)) (rd : Rep K z H v d) (hk : ∀ st' z' H', Ext z H z' H' → RelH K z' H' st' → SatS K xm W z' H' E (k st') → Q σ H') : gSub (TEf K xm W o) (TEf K xm W i) L2.rSetL v σ H Q := by
  refine seqE' rh re (sat_bind re h) fun d2 st2 v2 z2 H2 q2 e2 r2 re2 p2 => ?_
  refine seqE' r2 re2 (wpD_ext e2 (sat_bind re q2) fun _ _ q => q) fun d3 st3 v3 z3 H3 q3 e3 r3 re3 p3 => ?_
  cases d2 with
  | ref n =>
    cases p2 with
    | @ref p _ hn hk' =>
      cases d3 with
      | int m =>
        cases p3
        have hn3 := e3.mu _ _ hn
        have hk3 := (e3.kd _ _ hn).trans hk'
        cases hc : st3[n]? with
        | none =>
          simp only [hc] at q3
          exact False.elim q3
        | some cl =>
          cases cl with
          | set S =>
            simp only [hc] at q3
            exact False.elim q3
          | dct ks0 ds0 =>
            simp only [hc] at q3
            exact False.elim q3
          | lst ds =>
            simp only [hc] at q3
            obtain ⟨xs, hx, rs⟩ := r3.cell hn3 hc
            cases hj : ixN ds.length m with
            | none =>
              simp only [hj] at q3
              exact False.elim q3
            | some j =>
              simp only [hj] at q3
              have rv := (rd.ext e2).ext e3
              refine ⟨p, xs, m, j, rfl, rfl, hx, by rw [rs.length]; exact hj, ?_⟩
              have e4 := ext_write (o := .lst (xs.set j v)) r3 hn3
              exact hk _ z3 _ ((e2.trans e3).trans e4) (r3.write hn3 hk3 (Reps.set rv j rs)) (SatS.ext ((e2.trans e3).trans e4) q3)
      | _ => exact False.elim q3
  | _ => cases d3 <;> exact False.elim q3
section
variable {X : Cx} {xm : List Addr} {W : WX} {k : Nat} {e a b a2 b2 : Expr} {f o1 i1 o2 i2 : EF} {pos p1 p2 tpos spos : Pos} {kk : Nat}
theorem ss_sub2 (G : GX X xm W k) (he : PE X e (TEf X.K xm W f)) (ho : PE X a (TEf X.K xm W o1)) (hi : PE X b (TEf X.K xm W i1)) (ho2 : PE X a2 (TEf X.K xm W o2)) (hi2 : PE X b2 (TEf X.K xm W i2))
    (hs : swapsWithSole [.Tuple [.Subscript a b p1, .Subscript a2 b2 p2] kk tpos] e spos.line X.env = pure false := by rfl) (hw : swappedStores [.Tuple [.Subscript a b p1, .Subscript a2 b2 p2] kk tpos] e X.env = pure none := by rfl)
    (h0 : (assignEach [.Tuple [.Subscript a b p1, .Subscript a2 b2 p2] kk tpos] X.env).map (·.2) = [assign (.Tuple [.Subscript a b p1, .Subscript a2 b2 p2] kk tpos) X.env] := by rfl)
    (hl : (assignEach [.Subscript a b p1, .Subscript a2 b2 p2] X.env).length = 2 := by rfl) (hst : (assignEach [.Subscript a b p1, .Subscript a2 b2 p2] X.env).findIdx? (·.1) = none := by rfl)
    (h1 : (assignEach [.Subscript a b p1, .Subscript a2 b2 p2] X.env).map (·.2) = assign (.Subscript a b p1) X.env :: (assignEach [.Subscript a2 b2 p2] X.env).map (·.2) := by rfl)
    (h2 : (assignEach [.Subscript a2 b2 p2] X.env).map (·.2) = assign (.Subscript a2 b2 p2) X.env :: (assignEach [] X.env).map (·.2) := by rfl)
    (ha : ∀ v, assign (.Subscript a b p1) X.env v = (do
      let ov ← holding [v] (eval a X.env)
      let iv ← holding [v, ov] (eval b X.env)
      standAt p1
      holding [v, ov, iv] (setItem ov iv v)
      release [v, ov, iv] []) := by intro _; rfl)
    (ha2 : ∀ v, assign (.Subscript a2 b2 p2) X.env v = (do
      let ov ← holding [v] (eval a2 X.env)
      let iv ← holding [v, ov] (eval b2 X.env)
      standAt p2
      holding [v, ov, iv] (setItem ov iv v)
      release [v, ov, iv] []) := by intro _; rfl) :
    PS X (.Assign [.Tuple [.Subscript a b p1, .Subscript a2 b2 p2] kk tpos] e spos) (TSf X.K xm W (sub2S f o1 i1 o2 i2)) :=
  (ps_asg he (pg_tup G.cm (pgs_cons (pg_sub ho hi set_list ha) (pgs_cons (pg_sub ho2 hi2 set_list ha2) pgs_nil h2) h1) hl hst) hs hw h0).imp fun E σ H ⟨z, en, st, rh, re, hh⟩ => by
    refine seqE' rh re (sat_bind re hh) fun d1 st1 v1 z1 H1 q1 e1 r1 re1 p1 => ?_
    have bad : SatS X.K xm W z H E .bad → False := fun q => q
    cases d1 with
    | tup ds =>
      match ds, p1, q1 with
      | [], _, q1 => exact q1.elim
      | [_], _, q1 => exact q1.elim
      | _ :: _ :: _ :: _, _, q1 => exact q1.elim
      | [x, y], p1, q1 =>
        cases p1 with
        | @tup a' xs' _ t rs =>
          cases rs with
          | @cons vx _ _ _ rx rs =>
            cases rs with
            | @cons vy _ _ _ ry rs =>
              cases rs
              refine ⟨_, _, rfl, t.seq, rfl, vx, _, rfl, ?_⟩
              refine put_at r1 re1 (SatS.ext e1 q1) rx fun st2 z2 H2 e2 r2 q2 => ?_
              refine ⟨vy, _, rfl, ?_⟩
              refine put_at r2 (re1.ext e2) q2 (ry.ext e2) fun st3 z3 H3 e3 r3 q3 => ?_
              exact ⟨rfl, q3 σ z3 H3 Ext.refl r3 ((re1.ext e2).ext e3)⟩
    | _ => exact q1.elim
end
end Ev

namespace Ev
open PySem PySem.Spec PyProof.Rows L2 RZ
/-! ## a comprehension whose list is changed later: a cell -/
def lcB (own : List Nat) (g : GF) (t : TF) (elt : EF) (itf : IF) : EF := fun en st => (lcG own g t elt itf en st).bind fun ds st1 => .ok (.ref st1.length) (st1 ++ [.lst ds])
variable [Tabs]
section
variable {X : Cx} {xm : List Addr} {W : WX} {k : Nat} {elt tg iter c : Expr} {ifs : List Expr} {scope : Scope} {own : List (Str × Nat)} {pos : Pos} {f : EF} {t : TF} {gf : GF} {itf : IF}
theorem lcB_read {K : PySem.W.Frag} {vs : List Nat} (σ : L2.St) (H : Hp) (Q : VK) (q : TEf K xm W (lcB vs gf t f itf) σ H Q) : tLc (TIf K xm W itf) (TGf K vs gf) (TTf K xm W0 t) (TEf K xm W0 f) vs σ H Q := by
  obtain ⟨z, en, st, rh, re, h⟩ := q
  have h := wp_bind.mp (wp_bind.mp h)
  refine ⟨z, en, st, rh, re, wp_mono h (fun it st1 q J z1 H1 e1 r1 hJ dA nD => ?_) fun _ _ _ q => q⟩
  have re1 := re.ext e1
  -- what holds between two turns
  let Pv : List D → Z → Hp → Sto → Prop := fun acc z2 H2 st2 => Ext z1 H1 z2 H2 ∧ RelH K z2 H2 st2 ∧ dA ∉ z2.mu ∧ ¬ z2.fz dA ∧ ∃ xs, H2 dA = some (.lst xs) ∧ Reps K z2 H2 xs acc
  have nD1 : dA ∉ z1.mu := r1.nin nD
  have fD1 : ¬ z1.fz dA := fun w => r1.fz dA w nD
  have start : Pv [] z1 (upd H1 dA (.lst [])) st1 := ⟨ext_by r1 nD, r1.off fD1 nD1 (fun w => (r1.tb dA w).1.live nD), nD1, fD1, [], upd_same, .nil⟩
  -- within a turn, the data of the block's own is laid; then D is as it was
  have move : ∀ {acc z2 H2 st2 z3 H3 st3}, Pv acc z2 H2 st2 → Ext z2 H2 z3 H3 → RelH K z3 H3 st3 → Pv acc z3 H3 st3 := by
    rintro acc z2 H2 st2 z3 H3 st3 ⟨a, b, c, d, xs, hx, rs⟩ e r
    have l : H2 dA ≠ none := by rw [hx]; simp
    refine ⟨a.trans e, r, fun w => (e.nw dA w).elim c l, fun w => (e.nf dA w).elim d l, xs, (e.fr dA l c (fun w => (b.tb dA w).1.no hx)).trans hx, rs.ext e⟩
  have grow : ∀ {acc z2 H2 st2 v d}, Pv acc z2 H2 st2 → Rep K z2 H2 v d → ∃ xs, H2 dA = some (.lst xs) ∧ xs.length = acc.length ∧ Pv (acc ++ [d]) z2 (upd H2 dA (.lst (xs ++ [v]))) st2 := by
    rintro acc z2 H2 st2 v d ⟨a, b, c, d', xs, hx, rs⟩ rv
    have x0 : Ex0 z2 H2 z2 (upd H2 dA (.lst (xs ++ [v]))) := ex0_off d'
    exact ⟨xs, hx, rs.length, a.off nD d', b.off d' c (fun w => (b.tb dA w).1.no hx), c, d', xs ++ [v], upd_same, (rs.ext0 x0).append (.cons (rv.ext0 x0) .nil)⟩
  have done : ∀ {acc z2 H2 st2}, Pv acc z2 H2 st2 → okD K z H Q (.ref st2.length) (st2 ++ [.lst acc]) → Q (.ref dA) H2 := by
    rintro acc z2 H2 st2 ⟨a, b, d1, d, xs, hx, rs⟩ ok
    have x0 : Ex0 z2 H2 (z2.push dA) H2 := ex0_push (K := K)
    have b1 : Ext z1 H1 (z2.push dA) H2 := ⟨⟨fun i x w => x0.mu i x (a.mu i x w), a.fz, fun i x w => (x0.kd i x (a.mu i x w)).trans (a.kd i x w)⟩, a.fr, fun x w => (List.mem_append.mp w).elim (a.nw x) fun e => .inr ((List.mem_singleton.mp e) ▸ nD), a.nf, a.lv, a.tb⟩
    have b2 : RelH K (z2.push dA) H2 (st2 ++ [.lst acc]) := RelH.adopt (cl := .lst acc) b d1 d (fun w => (b.tb dA w).1.no hx) ⟨xs, hx, rs.ext0 x0⟩
    exact ok _ (z2.push dA) H2 (e1.trans b1) b2 (.ref (by
      show (z2.mu ++ [dA])[st2.length]? = some dA
      rw [← b.len, List.getElem?_append_right (Nat.le_refl _), Nat.sub_self]
      rfl) (if_pos b.len.symm))
  cases it with
  | items ds =>
    have hJ : ItI K z1 H1 ds J := hJ
    by_cases hl : ds.length ≤ sizeLine
    · simp only [if_pos hl] at q
      refine ⟨fun i m H2 => m = ds.length - i ∧ i ≤ ds.length ∧ ∃ acc z2 st2, acc.length ≤ i ∧ Pv acc z2 H2 st2 ∧ (lcI vs gf t f (ds.drop i) en st2).wp (fun ys st3 => okD K z H Q (.ref st3.length) (st3 ++ [Cell.lst (acc ++ ys)])) (fun _ _ _ => True), ⟨ds.length, rfl, Nat.zero_le _, [], z1, st1, Nat.le_refl _, start, wp_mono q (fun ys st3 q => (show okD K z H Q (.ref st3.length) (st3 ++ [Cell.lst ([] ++ ys)]) from q)) fun _ _ _ _ => trivial⟩, ?_⟩
      rintro i m H2 ⟨rfl, hi, acc, z2, st2, la, pv, w⟩
      obtain ⟨js, jg⟩ := hJ z2 H2 st2 pv.1.toEx0 pv.2.1
      by_cases hlt : i < ds.length
      · have hd : ds[i]? = some ds[i] := List.getElem?_eq_getElem hlt
        obtain ⟨go, yl⟩ := jg i _ hd
        rw [List.drop_eq_getElem_cons hlt] at w
        unfold lcI at w
        refine .inr ⟨go, fun H' => ∃ acc z2 st2, acc.length ≤ i + 1 ∧ Pv acc z2 H' st2 ∧ (lcI vs gf t f (ds.drop (i + 1)) en st2).wp (fun ys st3 => okD K z H Q (.ref st3.length) (st3 ++ [Cell.lst (acc ++ ys)])) (fun _ _ _ => True), fun H' q => ⟨ds.length - (i + 1), by omega, rfl, hlt, q⟩, fun x H3 y => ?_⟩
        obtain ⟨z3, e3, r3, p3⟩ := yl x H3 y
        have pv3 := move pv e3 r3
        cases wg : gf ds[i] st2 (wipeE en vs) with
        | none =>
          simp only [wg] at w
          exact w.elim
        | some en1 =>
          simp only [wg] at w
          refine ⟨z3, wipeE en vs, st2, ds[i], en1, r3, ((re1.ext pv.1).ext e3).wipe vs, p3, wg, fun σ2 re2 hw => ⟨hw.trans (wipe_idem _ _), ?_⟩⟩
          cases wt : t en1 st2 with
          | bad =>
            simp only [wt] at w
            exact w.elim
          | ex c p st3 =>
            simp only [wt] at w
            exact w.elim
          | ok b st3 =>
            simp only [wt] at w
            refine seqT' (k := fun b' st' => b' = b ∧ st' = st3) r3 re2 (by rw [wt]; exact ⟨rfl, rfl⟩) fun b' st' z4 H4 hb e4 r4 re4 => ?_
            obtain ⟨rfl, rfl⟩ := hb
            have pv4 := move pv3 e4 r4
            cases b' with
            | false =>
              exact ⟨acc, z4, st', by omega, pv4, w⟩
            | true =>
              cases wf : f en1 st' with
              | bad =>
                simp only [wf] at w
                exact w.elim
              | ex c p st5 =>
                simp only [wf] at w
                exact w.elim
              | ok y st5 =>
                simp only [wf] at w
                refine seqE' (k := fun y' st' => y' = y ∧ st' = st5) r4 re4 (by rw [wf]; exact ⟨rfl, rfl⟩) fun y' st6 v z5 H5 hb e5 r5 re5 p5 => ?_
                obtain ⟨rfl, rfl⟩ := hb
                obtain ⟨xs, hx, hxl, pv6⟩ := grow (move pv4 e5 r5) p5
                refine ⟨xs, hx, by omega, acc ++ [y'], z5, st6, by rw [List.length_append]; simp; omega, pv6, ?_⟩
                refine wp_mono (wp_bind.mp w) (fun ys st7 q => ?_) fun _ _ _ q => q
                rw [List.append_assoc]
                exact q
      · have e : i = ds.length := by omega
        subst e
        rw [List.drop_length] at w
        have w : okD K z H Q (.ref st2.length) (st2 ++ [Cell.lst (acc ++ [])]) := w
        rw [List.append_nil] at w
        exact .inl ⟨js _ (Nat.le_refl _), done pv w⟩
    · simp only [if_neg hl] at q
      exact q.elim
  | cell n =>
    have hJ : ItC K z1 H1 n J := hJ
    by_cases hl : cellLen n st1 < 1000000
    · simp only [if_pos hl] at q
      refine ⟨fun i m H2 => i + m ≤ 1000000 ∧ ∃ acc z2 st2, acc.length ≤ i ∧ Pv acc z2 H2 st2 ∧ (lcC vs gf t f n m i en st2).wp (fun ys st3 => okD K z H Q (.ref st3.length) (st3 ++ [Cell.lst (acc ++ ys)])) (fun _ _ _ => True), ⟨cellLen n st1 + 1, by omega, [], z1, st1, Nat.le_refl _, start, wp_mono q (fun ys st3 q => (show okD K z H Q (.ref st3.length) (st3 ++ [Cell.lst ([] ++ ys)]) from q)) fun _ _ _ _ => trivial⟩, ?_⟩
      rintro i m H2 ⟨hm, acc, z2, st2, la, pv, w⟩
      cases m with
      | zero => exact w.elim
      | succ m =>
        unfold lcC at w
        cases hc : st2[n]? with
        | none =>
          simp only [hc] at w
          exact w.elim
        | some cl =>
          cases cl with
          | set S =>
            simp only [hc] at w
            exact w.elim
          | dct ks0 ds0 =>
            simp only [hc] at w
            exact w.elim
          | lst ds =>
            simp only [hc] at w
            obtain ⟨js, jg⟩ := hJ z2 H2 st2 ds pv.1.toEx0 pv.2.1 hc
            cases hd : ds[i]? with
            | none =>
              simp only [hd] at w
              have w : okD K z H Q (.ref st2.length) (st2 ++ [Cell.lst (acc ++ [])]) := w
              rw [List.append_nil] at w
              exact .inl ⟨js _ (List.getElem?_eq_none_iff.mp hd), done pv w⟩
            | some d =>
              simp only [hd] at w
              obtain ⟨go, yl⟩ := jg i d hd
              refine .inr ⟨go, fun H' => i + 1 + m ≤ 1000000 ∧ ∃ acc z2 st2, acc.length ≤ i + 1 ∧ Pv acc z2 H' st2 ∧ (lcC vs gf t f n m (i + 1) en st2).wp (fun ys st3 => okD K z H Q (.ref st3.length) (st3 ++ [Cell.lst (acc ++ ys)])) (fun _ _ _ => True), fun H' q => ⟨m, Nat.lt_succ_self m, q⟩, fun x H3 y => ?_⟩
              obtain ⟨rfl, p3⟩ := yl x H3 y
              cases wg : gf d st2 (wipeE en vs) with
              | none =>
                simp only [wg] at w
                exact w.elim
              | some en1 =>
                simp only [wg] at w
                refine ⟨z2, wipeE en vs, st2, d, en1, pv.2.1, (re1.ext pv.1).wipe vs, p3, wg, fun σ2 re2 hw => ⟨hw.trans (wipe_idem _ _), ?_⟩⟩
                cases wt : t en1 st2 with
                | bad =>
                  simp only [wt] at w
                  exact w.elim
                | ex c p st3 =>
                  simp only [wt] at w
                  exact w.elim
                | ok b st3 =>
                  simp only [wt] at w
                  refine seqT' (k := fun b' st' => b' = b ∧ st' = st3) pv.2.1 re2 (by rw [wt]; exact ⟨rfl, rfl⟩) fun b' st' z4 H4 hb e4 r4 re4 => ?_
                  obtain ⟨rfl, rfl⟩ := hb
                  have pv4 := move pv e4 r4
                  cases b' with
                  | false => exact ⟨by omega, acc, z4, st', by omega, pv4, w⟩
                  | true =>
                    cases wf : f en1 st' with
                    | bad =>
                      simp only [wf] at w
                      exact w.elim
                    | ex c p st5 =>
                      simp only [wf] at w
                      exact w.elim
                    | ok y st5 =>
                      simp only [wf] at w
                      refine seqE' (k := fun y' st' => y' = y ∧ st' = st5) r4 re4 (by rw [wf]; exact ⟨rfl, rfl⟩) fun y' st6 v z5 H5 hb e5 r5 re5 p5 => ?_
                      obtain ⟨rfl, rfl⟩ := hb
                      obtain ⟨xs, hx, hxl, pv6⟩ := grow (move pv4 e5 r5) p5
                      have hs : sizeLine = 16777216 := sizeLine_eq
                      refine ⟨xs, hx, by omega, by omega, acc ++ [y'], z5, st6, by rw [List.length_append]; simp; omega, pv6, ?_⟩
                      refine wp_mono (wp_bind.mp w) (fun ys st7 q => ?_) fun _ _ _ q => q
                      rw [List.append_assoc]
                      exact q
    · simp only [if_neg hl] at q
      exact q.elim
  | dyn fuel nx =>
    have hJ : ItY K z1 H1 nx J := hJ
    by_cases hl : fuel < 1000000
    · simp only [if_pos hl] at q
      refine ⟨fun i m H2 => i + m ≤ 1000000 ∧ ∃ acc z2 st2, acc.length ≤ i ∧ Pv acc z2 H2 st2 ∧ (lcY vs gf t f nx m i en st2).wp (fun ys st3 => okD K z H Q (.ref st3.length) (st3 ++ [Cell.lst (acc ++ ys)])) (fun _ _ _ => True), ⟨fuel, by omega, [], z1, st1, Nat.le_refl _, start, wp_mono q (fun ys st3 q => (show okD K z H Q (.ref st3.length) (st3 ++ [Cell.lst ([] ++ ys)]) from q)) fun _ _ _ _ => trivial⟩, ?_⟩
      rintro i m H2 ⟨hm, acc, z2, st2, la, pv, w⟩
      cases m with
      | zero => exact w.elim
      | succ m =>
        unfold lcY at w
        have hn := hJ z2 H2 st2 i pv.1.toEx0 pv.2.1
        cases hx : nx i st2 with
        | none =>
          simp only [hx] at w
          exact w.elim
        | some o =>
          cases o with
          | none =>
            simp only [hx] at w hn
            have w : okD K z H Q (.ref st2.length) (st2 ++ [Cell.lst (acc ++ [])]) := w
            rw [List.append_nil] at w
            exact .inl ⟨hn, done pv w⟩
          | some d =>
            simp only [hx] at w hn
            obtain ⟨go, yl⟩ := hn
            refine .inr ⟨go, fun H' => i + 1 + m ≤ 1000000 ∧ ∃ acc z2 st2, acc.length ≤ i + 1 ∧ Pv acc z2 H' st2 ∧ (lcY vs gf t f nx m (i + 1) en st2).wp (fun ys st3 => okD K z H Q (.ref st3.length) (st3 ++ [Cell.lst (acc ++ ys)])) (fun _ _ _ => True), fun H' q => ⟨m, Nat.lt_succ_self m, q⟩, fun x H3 y => ?_⟩
            obtain ⟨z3, e3, r3, p3⟩ := yl x H3 y
            have pv3 := move pv e3 r3
            cases wg : gf d st2 (wipeE en vs) with
            | none =>
              simp only [wg] at w
              exact w.elim
            | some en1 =>
              simp only [wg] at w
              refine ⟨z3, wipeE en vs, st2, d, en1, r3, ((re1.ext pv.1).ext e3).wipe vs, p3, wg, fun σ2 re2 hw => ⟨hw.trans (wipe_idem _ _), ?_⟩⟩
              cases wt : t en1 st2 with
              | bad =>
                simp only [wt] at w
                exact w.elim
              | ex c p st3 =>
                simp only [wt] at w
                exact w.elim
              | ok b st3 =>
                simp only [wt] at w
                refine seqT' (k := fun b' st' => b' = b ∧ st' = st3) r3 re2 (by rw [wt]; exact ⟨rfl, rfl⟩) fun b' st' z4 H4 hb e4 r4 re4 => ?_
                obtain ⟨rfl, rfl⟩ := hb
                have pv4 := move pv3 e4 r4
                cases b' with
                | false => exact ⟨by omega, acc, z4, st', by omega, pv4, w⟩
                | true =>
                  cases wf : f en1 st' with
                  | bad =>
                    simp only [wf] at w
                    exact w.elim
                  | ex c p st5 =>
                    simp only [wf] at w
                    exact w.elim
                  | ok y st5 =>
                    simp only [wf] at w
                    refine seqE' (k := fun y' st' => y' = y ∧ st' = st5) r4 re4 (by rw [wf]; exact ⟨rfl, rfl⟩) fun y' st6 v z5 H5 hb e5 r5 re5 p5 => ?_
                    obtain ⟨rfl, rfl⟩ := hb
                    obtain ⟨xs, hx, hxl, pv6⟩ := grow (move pv4 e5 r5) p5
                    have hs : sizeLine = 16777216 := sizeLine_eq
                    refine ⟨xs, hx, by omega, by omega, acc ++ [y'], z5, st6, by rw [List.length_append]; simp; omega, pv6, ?_⟩
                    refine wp_mono (wp_bind.mp w) (fun ys st7 q => ?_) fun _ _ _ q => q
                    rw [List.append_assoc]
                    exact q
    · simp only [if_neg hl] at q
      exact q.elim
theorem sn_lcB (own : List (Str × Nat)) (G : GX X xm W k) (hi : PI X tg iter (TIf X.K xm W itf)) (ok : BlkOk X.N X.env.scope scope own)
    (hg : ∀ (s : Shared) (H : Hp) (C : Addr) (cl : List (Str × Addr)) (fp : List Addr), GX (X.blk s H scope (compEnvC scope cl C X.env) fp) xm W0 k → PG (X.blk s H scope (compEnvC scope cl C X.env) fp) tg (TGf X.K (own.map (·.2)) gf))
    (ht : ∀ (s : Shared) (H : Hp) (C : Addr) (cl : List (Str × Addr)) (fp : List Addr), GX (X.blk s H scope (compEnvC scope cl C X.env) fp) xm W0 k → PTs (X.blk s H scope (compEnvC scope cl C X.env) fp) ifs (TTf X.K xm W0 t))
    (he : ∀ (s : Shared) (H : Hp) (C : Addr) (cl : List (Str × Addr)) (fp : List Addr), GX (X.blk s H scope (compEnvC scope cl C X.env) fp) xm W0 k → PE (X.blk s H scope (compEnvC scope cl C X.env) fp) elt (TEf X.K xm W0 f))
    (hs : ∀ x, foldedSetIterable iter X.env x = pure x := by intro _; rfl) : PE X (.ListComp elt [⟨tg, iter, ifs, 0⟩] scope pos) (TEf X.K xm W (lcB (own.map (·.2)) gf t f itf)) :=
  (pe_lc G.cm G.nd hi ok (fun s H C cl fp => hg s H C cl fp (G.blk ..)) (fun s H C cl fp => ht s H C cl fp (G.blk ..)) (fun s H C cl fp => he s H C cl fp (G.blk ..)) hs).imp lcB_read
theorem ss_setLcB (own : List (Str × Nat)) (G : GX X xm W k) (i : Nat) {y : Str} {py spos : Pos} (hi : PI X tg iter (TIf X.K xm W itf)) (ok : BlkOk X.N X.env.scope scope own)
    (hg : ∀ (s : Shared) (H : Hp) (C : Addr) (cl : List (Str × Addr)) (fp : List Addr), GX (X.blk s H scope (compEnvC scope cl C X.env) fp) xm W0 k → PG (X.blk s H scope (compEnvC scope cl C X.env) fp) tg (TGf X.K (own.map (·.2)) gf))
    (ht : ∀ (s : Shared) (H : Hp) (C : Addr) (cl : List (Str × Addr)) (fp : List Addr), GX (X.blk s H scope (compEnvC scope cl C X.env) fp) xm W0 k → PTs (X.blk s H scope (compEnvC scope cl C X.env) fp) ifs (TTf X.K xm W0 t))
    (he : ∀ (s : Shared) (H : Hp) (C : Addr) (cl : List (Str × Addr)) (fp : List Addr), GX (X.blk s H scope (compEnvC scope cl C X.env) fp) xm W0 k → PE (X.blk s H scope (compEnvC scope cl C X.env) fp) elt (TEf X.K xm W0 f))
    (hy : X.N[i]? = some y := by rfl) (hyl : X.env.scope.names.lookup y = some .local := by rfl) (hsw : swapsWith (.ListComp elt [⟨tg, iter, ifs, 0⟩] scope pos) (some (.Name y py)) spos.line X.env = pure true := by exact sw_true rfl rfl rfl (by decide +kernel))
    (hs : ∀ x, foldedSetIterable iter X.env x = pure x := by intro _; rfl) : PS X (.Assign [.Name y py] (.ListComp elt [⟨tg, iter, ifs, 0⟩] scope pos) spos) (TSf X.K xm W (setS i (lcB (own.map (·.2)) gf t f itf))) :=
  (ps_setLc G.cm G.nd hy hyl hsw hi ok (fun s H C cl fp => hg s H C cl fp (G.blk ..)) (fun s H C cl fp => ht s H C cl fp (G.blk ..)) (fun s H C cl fp => he s H C cl fp (G.blk ..)) hs).imp fun E σ H ⟨z, en, st, rh, re, h⟩ => by
    have w : TEf X.K xm W (lcB (own.map (·.2)) gf t f itf) σ H fun x H1 => gName i x σ H1 E.nx := seqE' rh re (sat_bind re h) fun d1 st1 v1 z1 H1 q1 e1 r1 re1 p1 => by
      unfold nameG at q1
      by_cases l : i < en.length
      · rw [if_pos l] at q1
        exact q1 _ z1 H1 e1 r1 (re1.set p1 l)
      · rw [if_neg l] at q1
        exact False.elim q1
    exact lcB_read σ H _ w
end
end Ev

namespace Ev
open PySem PySem.Spec PyProof.Rows L2 RZ
/-! ## list(zip(a, b)), each a list or a tuple: the pairs stay, so each turn makes a new one -/
section
variable {prog : Program} {w : World} {A : Around} {E : Value → Shared → Prop} {s : Shared} {z TI TO T i1 i2 : Addr} {fp1 fp2 : List Addr} {n1 n2 i : Nat} {P1 P2 : Nat → Value → Prop} {St1 St2 : Nat → Heap → Prop} {f : Bool} {oT : Obj}
theorem zh_item {Q : Value → Shared → Prop} (S : ZipSep2 z TI TO i1 i2 fp1 fp2) (D1 : Draws prog w A i1 fp1 n1 P1 St1) (D2 : Draws prog w A i2 fp2 n2 P2 St2)
    (hz : IsZipHeld s.heap z TI TO T f) (hT : s.heap.get? T = some oT) (hTI : IsPair s.heap TI (.ref i1) (.ref i2)) (st1 : St1 i s.heap) (st2 : St2 i s.heap) (l1 : i < n1) (l2 : i < n2)
    (hQ : ∀ x1 x2 h' tk, P1 i x1 → P2 i x2 → IsZipHeld h' z TI TO T true → St1 (i + 1) h' → St2 (i + 1) h' → IsPair h' s.heap.objs.size x1 x2 → (∀ c o, c ≠ z → c ≠ i1 → c ≠ i2 → s.heap.get? c = some o → h'.get? c = some o) → Q (.ref s.heap.objs.size) { s with heap := h', toks := tk }) :
    wpAny (model prog w) A (Builtin.«zip.__next__» ⟨[.ref z], []⟩) (fun fin s' => ∃ v, fin = .done (.ret v) ∧ Q v s') E s := by
  obtain ⟨hp, g, d, tk0, os⟩ := s
  refine wpAny_bind (m := field (.ref z) 2) (wpAny_field hz rfl (x := .bool false) rfl (wpAny_bind (m := field (.ref z) 3) (wpAny_field hz rfl (x := .ref TI) rfl (wpAny_bind (wpAny_seqItems hTI rfl (wpAny_bind (m := Builtin.SmallTypes.ownedTupleIsFree (.ref z)) (wpAny_tupleHeld_zip hz hT fun g0 z0 b0 => ?_)))))))
  replace b0 : Heap.SameBut z hp g0 := b0
  rw [if_neg (by decide)]
  refine wpAny_bind ?_
  rw [← Array.forIn_toList]
  simp only [List.forIn_cons, List.forIn_nil]
  refine wpAny_bind (wpAny_bind (wpAny_holding (wpAny_bind (m := Builtin.SmallTypes.nextOf (.ref i1)) (D1.item i ⟨g0, g, d, tk0, os⟩ _ _ l1 (D1.over st1 b0 S.zf1) fun x1 p1 tk1 hx1 sn1 b1 => wpAny_pure (wpAny_pure ?_)))))
  replace b1 : Heap.SameBut i1 g0 p1 := b1
  refine wpAny_bind (wpAny_bind (wpAny_holding (wpAny_bind (m := Builtin.SmallTypes.nextOf (.ref i2)) (D2.item i ⟨p1, g, d, tk1, os⟩ _ _ l2 (D2.over (D2.over st2 b0 S.zf2) b1 S.sep1_2) fun x2 p2 tk2 hx2 sn2 b2 => wpAny_pure (wpAny_pure (wpAny_pure ?_))))))
  replace b2 : Heap.SameBut i2 p1 p2 := b2
  have n2 : p2.objs.size = hp.objs.size := by rw [b2.1, b1.1, b0.1]
  have zz : IsZipHeld p2 z TI TO T true := b2.extBut _ _ S.zi2 (b1.extBut _ _ S.zi1 z0)
  have kk : ∀ c o, c ≠ z → c ≠ i1 → c ≠ i2 → hp.get? c = some o → p2.get? c = some o := fun c o c1 c2 c3 e => b2.extBut _ _ c3 (b1.extBut _ _ c2 (b0.extBut _ _ c1 e))
  have j1 : St1 (i + 1) p2 := D1.over sn1 b2 S.sep2_1
  refine wpAny_bind (m := newTuple [x1, x2]) (wpAny_newTuple (wpAny_pure ⟨_, rfl, ?_⟩))
  have pr : IsPair (p2.push { cls := .type "tuple", data := .seq #[x1, x2] }) p2.objs.size x1 x2 := Heap.get?_push_size _ rfl
  have up : ∀ c o, p2.get? c = some o → (p2.push { cls := .type "tuple", data := .seq #[x1, x2] }).get? c = some o := fun c o e => Heap.get?_push_of_some _ e
  show Q (.ref p2.objs.size) ⟨p2.push { cls := .type "tuple", data := .seq #[x1, x2] }, g, d, tk2, os⟩
  rw [n2] at pr ⊢
  exact hQ x1 x2 _ tk2 hx1 hx2 (up _ _ zz) (D1.frame _ _ _ j1 fun b _ o e => up b o e) (D2.frame _ _ _ sn2 fun b _ o e => up b o e) pr fun c o c1 c2 c3 e => up c o (kk c o c1 c2 c3 e)
theorem zh_end {Q : Fin → Shared → Prop} (S : ZipSep2 z TI TO i1 i2 fp1 fp2) (D1 : Draws prog w A i1 fp1 n1 P1 St1) (D2 : Draws prog w A i2 fp2 n2 P2 St2)
    (hz : IsZipHeld s.heap z TI TO T f) (hT : s.heap.get? T = some oT) (hTI : IsPair s.heap TI (.ref i1) (.ref i2)) (st1 : St1 i s.heap) (st2 : St2 i s.heap) (l1 : i ≤ n1) (l2 : i ≤ n2) (hend : i = n1 ∨ i = n2)
    (hE : ∀ h' tk e, (∀ c o, c ≠ z → c ≠ i1 → c ≠ i2 → s.heap.get? c = some o → h'.get? c = some o) → (∃ o, h'.get? e = some o ∧ o.cls = .type "StopIteration") → E (.ref e) { s with heap := h', toks := tk }) :
    wpAny (model prog w) A (Builtin.«zip.__next__» ⟨[.ref z], []⟩) Q E s := by
  obtain ⟨hp, g, d, tk0, os⟩ := s
  refine wpAny_bind (m := field (.ref z) 2) (wpAny_field hz rfl (x := .bool false) rfl (wpAny_bind (m := field (.ref z) 3) (wpAny_field hz rfl (x := .ref TI) rfl (wpAny_bind (wpAny_seqItems hTI rfl (wpAny_bind (m := Builtin.SmallTypes.ownedTupleIsFree (.ref z)) (wpAny_tupleHeld_zip hz hT fun g0 z0 b0 => ?_)))))))
  replace b0 : Heap.SameBut z hp g0 := b0
  rw [if_neg (by decide)]
  refine wpAny_bind ?_
  rw [← Array.forIn_toList]
  simp only [List.forIn_cons, List.forIn_nil]
  by_cases c1 : i < n1
  · have e2 : i = n2 := hend.resolve_left (Nat.ne_of_lt c1)
    subst e2
    refine wpAny_bind (wpAny_bind (wpAny_holding (wpAny_bind (m := Builtin.SmallTypes.nextOf (.ref i1)) (D1.item i ⟨g0, g, d, tk0, os⟩ _ _ c1 (D1.over st1 b0 S.zf1) fun x1 p1 tk1 hx1 sn1 b1 => wpAny_pure (wpAny_pure ?_)))))
    replace b1 : Heap.SameBut i1 g0 p1 := b1
    refine wpAny_bind (wpAny_bind (wpAny_holding (wpAny_bind (m := Builtin.SmallTypes.nextOf (.ref i2)) (D2.done ⟨p1, g, d, tk1, os⟩ _ _ (D2.over (D2.over st2 b0 S.zf2) b1 S.sep1_2) fun q e hq he => ?_))))
    exact hE q tk1 e (fun c o a1 a2 a3 x => hq _ _ a3 (b1.extBut _ _ a2 (b0.extBut _ _ a1 x))) he
  · have e1 : i = n1 := by omega
    subst e1
    refine wpAny_bind (wpAny_bind (wpAny_holding (wpAny_bind (m := Builtin.SmallTypes.nextOf (.ref i1)) (D1.done ⟨g0, g, d, tk0, os⟩ _ _ (D1.over st1 b0 S.zf1) fun q e hq he => ?_))))
    exact hE q tk0 e (fun c o a1 a2 a3 x => hq _ _ a2 (b0.extBut _ _ a1 x)) he
theorem zh_next_item {Q : Option Value → Shared → Prop} (S : ZipSep2 z TI TO i1 i2 fp1 fp2) (D1 : Draws prog w A.in1 i1 fp1 n1 P1 St1) (D2 : Draws prog w A.in1 i2 fp2 n2 P2 St2)
    (hz : IsZipHeld s.heap z TI TO T f) (hT : s.heap.get? T = some oT) (hTI : IsPair s.heap TI (.ref i1) (.ref i2)) (st1 : St1 i s.heap) (st2 : St2 i s.heap) (l1 : i < n1) (l2 : i < n2)
    (hQ : ∀ x1 x2 h' tk, P1 i x1 → P2 i x2 → IsZipHeld h' z TI TO T true → St1 (i + 1) h' → St2 (i + 1) h' → IsPair h' s.heap.objs.size x1 x2 → (∀ c o, c ≠ z → c ≠ i1 → c ≠ i2 → s.heap.get? c = some o → h'.get? c = some o) → Q (some (.ref s.heap.objs.size)) { s with heap := h', toks := tk }) :
    wpAny (model prog w) A (pyNext (.ref z)) Q E s := by
  have ty : s.TypeIs (.ref z) "zip" := ⟨_, hz, rfl⟩
  unfold pyNext
  refine wpAny_bind (wpAny_attempt (wpAny_callSpecial?_slot (name := Str.ofString "__next__") ty F.slot_zip_next (wpAny_call_entry F.slot_zip_next ty F.entry_zip_next ?_ (F.args_zip_next_1 _))))
  exact zh_item S D1 D2 hz hT hTI st1 st2 l1 l2 fun x1 x2 h' tk y1 y2 a1 a2 a3 a4 a5 => wpAny_pure (hQ x1 x2 h' tk y1 y2 a1 a2 a3 a4 a5)
theorem zh_next_end {Q : Option Value → Shared → Prop} (S : ZipSep2 z TI TO i1 i2 fp1 fp2) (D1 : Draws prog w A.in1 i1 fp1 n1 P1 St1) (D2 : Draws prog w A.in1 i2 fp2 n2 P2 St2)
    (hz : IsZipHeld s.heap z TI TO T f) (hT : s.heap.get? T = some oT) (hTI : IsPair s.heap TI (.ref i1) (.ref i2)) (st1 : St1 i s.heap) (st2 : St2 i s.heap) (l1 : i ≤ n1) (l2 : i ≤ n2) (hend : i = n1 ∨ i = n2)
    (hQ : ∀ h' tk, (∀ c o, c ≠ z → c ≠ i1 → c ≠ i2 → s.heap.get? c = some o → h'.get? c = some o) → Q none { s with heap := h', toks := tk }) : wpAny (model prog w) A (pyNext (.ref z)) Q E s := by
  have ty : s.TypeIs (.ref z) "zip" := ⟨_, hz, rfl⟩
  unfold pyNext
  refine wpAny_bind (wpAny_attempt (wpAny_callSpecial?_slot (name := Str.ofString "__next__") ty F.slot_zip_next (wpAny_call_entry F.slot_zip_next ty F.entry_zip_next ?_ (F.args_zip_next_1 _))))
  refine zh_end S D1 D2 hz hT hTI st1 st2 l1 l2 hend fun h' tk e hk ⟨o, ho, hc⟩ => ?_
  exact wpAny_bind (wpAny_isInstance (T := "StopIteration") (b := true) ⟨o, ho, hc⟩ isSubtype_stop (wpAny_pure (hQ _ _ hk)))
end
variable [Tabs]
structure ZstK (k1 k2 : SK) (h : Heap) (S a b z TI TO i1 i2 : Addr) (i : Nat) : Prop where
  ti : IsPair h TI (.ref i1) (.ref i2)
  l1 : IsSI k1 h i1 a i
  l2 : IsSI k2 h i2 b i
  to : ∃ o, h.get? TO = some o
  zz : (IsZip h z TI TO .none ∧ ∃ x y, IsPair h TO x y) ∨ ∃ T f oT, IsZipHeld h z TI TO T f ∧ h.get? T = some oT ∧ T ≠ z ∧ T ≠ i1 ∧ T ≠ i2 ∧ T ≠ S
theorem drain_zipK (k1 k2 : SK) {X : Cx} {pins : List (Addr × Obj)} {σ : L2.St} {A : Around} {R : Result → Shared → Prop} {S a b z TI TO i1 i2 : Addr} (hh : A.handled = none) (D : ZipApart z TI TO i1 i2 a b) (dS : S ∉ [z, TI, TO, i1, i2, a, b]) {z0 : Z} {H0 : Hp} {st : Sto} {xs ys : List V} {ds es : List Ev.D}
    (hq : ∀ z1 H1, Ex0 z0 H0 z1 H1 → SqK k1 X.K H1 a xs ∧ SqK k2 X.K H1 b ys) (rx : Reps X.K z0 H0 xs ds) (ry : Reps X.K z0 H0 ys es) (hl : (zipF ds es).length ≤ 1000)
    (hend : ∀ s' acc c H' z' ts, Ext z0 H0 z' H' → RelH X.K z' H' st → Reps X.K z' H' ts (zipF ds es) → Inv X pins σ H' s' → FpOk X pins H' S → s'.heap.get? S = some (lstObj acc c) → Vals ts acc.toList → R (.ok (.ret .none)) s') :
    ∀ (k i : Nat) (s : Shared) (H : Hp) (z1 : Z) (ts : List V) (acc : Array Value) (c : Nat), (zipF ds es).length - i = k → i ≤ (zipF ds es).length → Ext z0 H0 z1 H → RelH X.K z1 H st → Reps X.K z1 H ts ((zipF ds es).take i) → Inv X pins σ H s →
      (∀ b ∈ [z, TI, TO, i1, i2, S], FpOk X pins H b) → s.heap.get? S = some (lstObj acc c) → Vals ts acc.toList → acc.size = i → ZstK k1 k2 s.heap S a b z TI TO i1 i2 i → codeAny (model X.prog X.w) A (.builtin "list.extend.loop" ⟨[.ref S, .ref z, .none], []⟩) R s := by
  have hs : sizeLine = 16777216 := sizeLine_eq
  simp only [List.mem_cons, List.not_mem_nil, or_false, not_or] at dS
  obtain ⟨d1, d2, d3, d4, d5, d6, d7⟩ := dS
  intro k
  induction k with
  | zero =>
    intro i s H z1 ts acc c hk hi e r rt I hf hS hv ha st
    have hin : i = (zipF ds es).length := by omega
    obtain ⟨hqx, hqy⟩ := hq z1 H e.toEx0
    obtain ⟨its, rv, p⟩ := Inv.seqK I hqx
    obtain ⟨its2, rv2, p2⟩ := Inv.seqK I hqy
    have l1 := rv.length
    have l2 := rv2.length
    have l3 := rx.length
    have l4 := ry.length
    have zl := zipF_length ds es
    have fin : ∀ h' tk, (∀ c o, c ≠ z → c ≠ TO → c ≠ i1 → c ≠ i2 → s.heap.get? c = some o → h'.get? c = some o) → R (.ok (.ret .none)) { s with heap := h', toks := tk } := fun h' tk hk => by
      have I2 : Inv X pins σ H { s with heap := h', toks := tk } := I.turnedL (t' := tk) (ch := [z, TI, TO, i1, i2, S]) (fun c o hb q =>
        hk c o (fun q' => hb (by simp [q'])) (fun q' => hb (by simp [q'])) (fun q' => hb (by simp [q'])) (fun q' => hb (by simp [q'])) q) hf
      have rt' : Reps X.K z1 H ts (zipF ds es) := by
        rw [hin, List.take_length] at rt
        exact rt
      exact hend _ acc c H z1 ts e r rt' I2 (hf S (by simp)) (hk S _ d1 d3 d4 d5 hS) hv
    refine codeAny_builtin F.entry_extend_loop ?_
    rw [Around.under_plainId F.plain_extend_loop _]
    show wpAny _ A.in1 (pyNext (.ref z) >>= _) _ _ s
    refine wpAny_bind ?_
    have SP := zipSep D D.l1i1 D.l2i2
    rcases Nat.lt_or_ge i ds.length with c1 | c1
    · have D1 := drawsS (prog := X.prog) (w := X.w) (A := A.in1.in1) hh k1 i1 a D.l1i1 its.toArray
      have D2 := drawsEnd (prog := X.prog) (w := X.w) (A := A.in1.in1) hh k2 i2 b its2.toArray i (by simp; omega)
      rcases st.zz with ⟨hz, x, y, hTO⟩ | ⟨T, f, oT, hz, hT, r1, r2, r3, r4⟩
      · exact wpAny_pyNext_zipD2_end SP D1 D2 hz st.ti hTO ⟨st.l1, p⟩ ⟨⟨st.l2, p2⟩, rfl⟩ (by simp; omega) (Nat.le_refl _) (.inr rfl) fun h' tk hk => wpAny_pure (fin h' tk hk)
      · exact zh_next_end SP D1 D2 hz hT st.ti ⟨st.l1, p⟩ ⟨⟨st.l2, p2⟩, rfl⟩ (by simp; omega) (Nat.le_refl _) (.inr rfl) fun h' tk hk => wpAny_pure (fin h' tk fun c o a1 _ a3 a4 => hk c o a1 a3 a4)
    · have D1 := drawsEnd (prog := X.prog) (w := X.w) (A := A.in1.in1) hh k1 i1 a its.toArray i (by simp; omega)
      rcases Nat.lt_or_ge i es.length with c2 | c2
      · have D2 := drawsS (prog := X.prog) (w := X.w) (A := A.in1.in1) hh k2 i2 b D.l2i2 its2.toArray
        rcases st.zz with ⟨hz, x, y, hTO⟩ | ⟨T, f, oT, hz, hT, r1, r2, r3, r4⟩
        · exact wpAny_pyNext_zipD2_end SP D1 D2 hz st.ti hTO ⟨⟨st.l1, p⟩, rfl⟩ ⟨st.l2, p2⟩ (Nat.le_refl _) (by simp; omega) (.inl rfl) fun h' tk hk => wpAny_pure (fin h' tk hk)
        · exact zh_next_end SP D1 D2 hz hT st.ti ⟨⟨st.l1, p⟩, rfl⟩ ⟨st.l2, p2⟩ (Nat.le_refl _) (by simp; omega) (.inl rfl) fun h' tk hk => wpAny_pure (fin h' tk fun c o a1 _ a3 a4 => hk c o a1 a3 a4)
      · have D2 := drawsEnd (prog := X.prog) (w := X.w) (A := A.in1.in1) hh k2 i2 b its2.toArray i (by simp; omega)
        rcases st.zz with ⟨hz, x, y, hTO⟩ | ⟨T, f, oT, hz, hT, r1, r2, r3, r4⟩
        · exact wpAny_pyNext_zipD2_end SP D1 D2 hz st.ti hTO ⟨⟨st.l1, p⟩, rfl⟩ ⟨⟨st.l2, p2⟩, rfl⟩ (Nat.le_refl _) (Nat.le_refl _) (.inl rfl) fun h' tk hk => wpAny_pure (fin h' tk hk)
        · exact zh_next_end SP D1 D2 hz hT st.ti ⟨⟨st.l1, p⟩, rfl⟩ ⟨⟨st.l2, p2⟩, rfl⟩ (Nat.le_refl _) (Nat.le_refl _) (.inl rfl) fun h' tk hk => wpAny_pure (fin h' tk fun c o a1 _ a3 a4 => hk c o a1 a3 a4)
  | succ k ih =>
    intro i s H z1 ts acc c hk hi e r rt I hf hS hv ha st
    have hlt : i < (zipF ds es).length := by omega
    obtain ⟨hqx, hqy⟩ := hq z1 H e.toEx0
    obtain ⟨its, rv, p⟩ := Inv.seqK I hqx
    obtain ⟨its2, rv2, p2⟩ := Inv.seqK I hqy
    obtain ⟨d, e', hd, he', hde⟩ := zipF_get i ds es _ (List.getElem?_eq_getElem hlt)
    obtain ⟨x, hx, rdx⟩ := (rx.ext e).getD hd
    obtain ⟨y, hy, rdy⟩ := (ry.ext e).getD he'
    obtain ⟨u, hu, ru⟩ := rv.get hx
    obtain ⟨u2, hu2, ru2⟩ := rv2.get hy
    have lt : ∀ {c o}, s.heap.get? c = some o → s.heap.objs.size ≠ c := fun e => Nat.ne_of_gt (Heap.lt_size e)
    have n1 : s.heap.objs.size ≠ i1 := let ⟨_, e, _⟩ := st.l1.obj; lt e
    have n2 : s.heap.objs.size ≠ i2 := let ⟨_, e, _⟩ := st.l2.obj; lt e
    have nS : s.heap.objs.size ≠ S := lt hS
    have nz : s.heap.objs.size ≠ z := by
      rcases st.zz with ⟨hz, _⟩ | ⟨_, _, _, hz, _⟩ <;> exact lt hz
    have nTI : s.heap.objs.size ≠ TI := lt st.ti
    -- behind the next item
    have go : ∀ h' tk (zs : ∀ h'', h''.get? z = h'.get? z → (∀ c, c ≠ S → h''.get? c = h'.get? c) → (IsZip h'' z TI TO .none ∧ ∃ x y, IsPair h'' TO x y) ∨ ∃ T f oT, IsZipHeld h'' z TI TO T f ∧ h''.get? T = some oT ∧ T ≠ z ∧ T ≠ i1 ∧ T ≠ i2 ∧ T ≠ S),
        IsSI k1 h' i1 a (i + 1) → IsSI k2 h' i2 b (i + 1) → (∃ o, h'.get? TO = some o) → IsPair h' s.heap.objs.size u u2 → (∀ c o, c ≠ z → c ≠ TO → c ≠ i1 → c ≠ i2 → s.heap.get? c = some o → h'.get? c = some o) →
        wpAny (model X.prog X.w) A.in1 (updateSeq S (·.push (.ref s.heap.objs.size)) >>= fun _ => again (.builtin "list.extend.loop" ⟨[.ref S, .ref z, .none], []⟩))
          (fun fin s' => match fin with | .done f => R (.ok f) s' | .again c' => c'.quiet = true ∧ codeAny (model X.prog X.w) A c' R s') (fun e s' => R (.error e) s') { s with heap := h', toks := tk } := by
      intro h' tk zs h1' h2' hto hT hk
      have hS' : h'.get? S = some (lstObj acc c) := hk S _ d1 d3 d4 d5 hS
      have oth : ∀ b, b ≠ S → (h'.update S (Obj.mapSeq (·.push (.ref s.heap.objs.size)))).get? b = h'.get? b := fun b hb => Heap.get?_update_other _ _ (Ne.symm hb)
      refine wpAny_bind ?_
      refine wpAny_updateSeq hS' rfl (wpAny_pure ⟨plainId_quiet F.plain_extend_loop _, ?_⟩) (by rw [ha]; omega) (by show (acc.push _).size ≤ sizeLine + 1; rw [Array.size_push]; omega)
      have hT2 : (h'.update S (Obj.mapSeq (·.push (.ref s.heap.objs.size)))).get? s.heap.objs.size = some { cls := .type "tuple", data := .seq #[u, u2] } := (oth _ nS).trans hT
      have new : ObjOk X.prog X.w (upd H s.heap.objs.size (frT [u, u2] [x, y])) (h'.update S (Obj.mapSeq (·.push (.ref s.heap.objs.size)))) s.heap.objs.size (frT [u, u2] [x, y]) :=
        frT_ok (by show 2 ≤ sizeLine; omega) (.cons ru (.cons ru2 .nil)) hT2
      have I1 : Inv X pins σ (upd H s.heap.objs.size (frT [u, u2] [x, y])) { s with heap := h'.update S (Obj.mapSeq (·.push (.ref s.heap.objs.size))), toks := tk } :=
        I.turnedNew (t' := tk) (ch := [z, TI, TO, i1, i2, S]) (fun c o hb q => (oth c (fun q' => hb (by simp [q']))).trans (hk c o (fun q' => hb (by simp [q'])) (fun q' => hb (by simp [q'])) (fun q' => hb (by simp [q'])) (fun q' => hb (by simp [q'])) q)) hf (Nat.le_refl _) new
      have nH : H s.heap.objs.size = none := I.hok.fresh (Nat.le_refl _)
      have x1 := ext_add (o := frT [u, u2] [x, y]) r nH
      refine ih (i + 1) _ (upd H s.heap.objs.size (frT [u, u2] [x, y])) (z1.add s.heap.objs.size) (ts ++ [.ref s.heap.objs.size]) (acc.push (.ref s.heap.objs.size)) _ (by omega) hlt (e.trans x1) (r.add nH) ?_ I1 (fun b hb => ?_) (Heap.get?_update_self _ hS' rfl) ?_ (by rw [Array.size_push, ha]) ⟨?_, ?_, ?_, hto.imp fun o q => (oth _ (Ne.symm d3)).trans q, zs _ (oth _ (Ne.symm d1)) oth⟩
      · have : (zipF ds es).take (i + 1) = (zipF ds es).take i ++ [.tup [d, e']] := by
          rw [List.take_add_one, List.getElem?_eq_getElem hlt, hde]
          rfl
        rw [this]
        exact (rt.ext x1).append (.cons (.tup (PlZ.tup ⟨.inr rfl, _, upd_same⟩) (.cons (rdx.ext x1) (.cons (rdy.ext x1) .nil))) .nil)
      · have q := hf b hb
        refine ⟨?_, q.2⟩
        rw [upd_ne]
        · exact q.1
        · intro w
          simp only [List.mem_cons, List.not_mem_nil, or_false] at hb
          rcases hb with rfl | rfl | rfl | rfl | rfl | rfl
          · exact nz w.symm
          · exact nTI w.symm
          · obtain ⟨o, ho⟩ := st.to
            exact lt ho w.symm
          · exact n1 w.symm
          · exact n2 w.symm
          · exact nS w.symm
      · rw [Array.toList_push]
        exact hv.append (.cons rfl .nil)
      · exact (oth _ (Ne.symm d2)).trans (hk _ _ D.TIz D.TITO D.TIi1 D.TIi2 st.ti)
      · exact h1'.at fun o q => (oth _ (Ne.symm d4)).trans q
      · exact h2'.at fun o q => (oth _ (Ne.symm d5)).trans q
    refine codeAny_builtin F.entry_extend_loop ?_
    rw [Around.under_plainId F.plain_extend_loop _]
    show wpAny _ A.in1 (pyNext (.ref z) >>= _) _ _ s
    refine wpAny_bind ?_
    have SP := zipSep D D.l1i1 D.l2i2
    have D1 := drawsS (prog := X.prog) (w := X.w) (A := A.in1.in1) hh k1 i1 a D.l1i1 its.toArray
    have D2 := drawsS (prog := X.prog) (w := X.w) (A := A.in1.in1) hh k2 i2 b D.l2i2 its2.toArray
    have m1 : i < its.toArray.size := by
      have := (List.getElem?_eq_some_iff.mp hu).1
      simpa using this
    have m2 : i < its2.toArray.size := by
      have := (List.getElem?_eq_some_iff.mp hu2).1
      simpa using this
    have same1 : ∀ v, its.toArray[i]? = some v → v = u := fun v q => by
      have : its[i]? = some v := by simpa using q
      rw [hu] at this
      exact (Option.some.inj this).symm
    have same2 : ∀ v, its2.toArray[i]? = some v → v = u2 := fun v q => by
      have : its2[i]? = some v := by simpa using q
      rw [hu2] at this
      exact (Option.some.inj this).symm
    rcases st.zz with ⟨hz, x', y', hTO⟩ | ⟨T, f, oT, hz, hT, r1, r2, r3, r4⟩
    · refine wpAny_pyNext_zipD2_item SP D1 D2 hz st.ti hTO ⟨st.l1, p⟩ ⟨st.l2, p2⟩ m1 m2 fun v1 v2 h' tk q1 q2 a1 a2 a3 a4 a5 _ hk => ?_
      obtain rfl := same1 v1 q1
      obtain rfl := same2 v2 q2
      exact go h' tk (fun h'' q1 q2 => .inr ⟨s.heap.objs.size, false, _, q1.trans a1, (q2 _ nS).trans a5, nz, n1, n2, nS⟩) a3.1 a4.1 ⟨_, a2⟩ a5 hk
    · refine zh_next_item SP D1 D2 hz hT st.ti ⟨st.l1, p⟩ ⟨st.l2, p2⟩ m1 m2 fun v1 v2 h' tk q1 q2 a1 a3 a4 a5 hk => ?_
      obtain rfl := same1 v1 q1
      obtain rfl := same2 v2 q2
      exact go h' tk (fun h'' q1 q2 => .inr ⟨T, true, oT, q1.trans a1, (q2 _ r4).trans (hk _ _ r1 r2 r3 hT), r1, r2, r3, r4⟩) a3.1 a4.1 (st.to.imp fun o q => hk _ _ D.TOz D.TOi1 D.TOi2 q) a5 (fun c o b1 _ b3 b4 => hk c o b1 b3 b4)
/-- a new list out of it -/
theorem call_list_zipK (k1 k2 : SK) {X : Cx} {pins : List (Addr × Obj)} {σ : L2.St} {H : Hp} {s : Shared} {a b z TI TO i1 i2 : Addr} {Q : VK} {z0 : Z} {st : Sto} {xs ys : List V} {ds es : List Ev.D} (hc : X.calm = true) (D : ZipApart z TI TO i1 i2 a b) (I : Inv X pins σ H s)
    (r0 : RelH X.K z0 H st) (hq : ∀ z1 H1, Ex0 z0 H z1 H1 → SqK k1 X.K H1 a xs ∧ SqK k2 X.K H1 b ys) (rx : Reps X.K z0 H xs ds) (ry : Reps X.K z0 H ys es) (hl : (zipF ds es).length ≤ 1000)
    (hf : ∀ b ∈ [z, TI, TO, i1, i2], FpOk X pins H b) (hz : IsZip s.heap z TI TO .none) (hTI : IsPair s.heap TI (.ref i1) (.ref i2)) (hTO : IsPair s.heap TO .none .none) (h1 : IsSI k1 s.heap i1 a 0) (h2 : IsSI k2 s.heap i2 b 0)
    (q : okD X.K z0 H Q (.lst (zipF ds es)) st) : wpAny (model X.prog X.w) X.A (call (.type "list") [.ref z]) (EP X pins σ Q) X.xe s := by
  obtain ⟨hqx, hqy⟩ := hq z0 H Ext.refl.toEx0
  obtain ⟨its, rv, pl⟩ := Inv.seqK I hqx
  obtain ⟨its2, rv2, pl2⟩ := Inv.seqK I hqy
  have ltz : z < s.heap.objs.size := Heap.lt_size hz
  have ltTI : TI < s.heap.objs.size := Heap.lt_size hTI
  have ltTO : TO < s.heap.objs.size := Heap.lt_size hTO
  have lt1 : i1 < s.heap.objs.size := let ⟨_, e, _⟩ := h1.obj; Heap.lt_size e
  have lt2 : i2 < s.heap.objs.size := let ⟨_, e, _⟩ := h2.obj; Heap.lt_size e
  have lta : a < s.heap.objs.size := pl.lt
  have ltb : b < s.heap.objs.size := pl2.lt
  have hSz : s.heap.objs.size ≠ z := Nat.ne_of_gt ltz
  refine callType_codes (Q₁ := fun obj s₁ => obj = .ref s.heap.objs.size ∧ s₁ = { s with heap := s.heap.push { cls := .type "list", data := .seq #[] } }) F.called_list (F.typeCall_list_1 _) F.entry_list_init
    (code_list_new _ ⟨rfl, rfl⟩) fun obj s₁ h₁ => ?_
  obtain ⟨rfl, rfl⟩ := h₁
  have hS : (s.heap.push { cls := .type "list", data := .seq #[] }).get? s.heap.objs.size = some { cls := .type "list", data := .seq #[] } := Heap.get?_push_size _ rfl
  refine ⟨⟨_, hS, rfl⟩, F.args_list_init_2 _ _, ?_⟩
  show wpAny _ X.A.in1.in1 (do let old ← Builtin.List.listItems (.ref s.heap.objs.size); Builtin.List.listUpdate (.ref s.heap.objs.size) (fun _ => #[]); letGo old.toList.reverse; Builtin.List.listExtendWith (.ref s.heap.objs.size) (.ref z) .none) _ _ _
  refine wpAny_bind ?_
  unfold Builtin.List.listItems
  refine wpAny_bind (wpAny_seqItems hS rfl (wpAny_pure ?_))
  show wpAny _ X.A.in1.in1 (updateSeq s.heap.objs.size (fun _ => #[]) >>= fun _ => letGo (#[] : Array Value).toList.reverse >>= fun _ => Builtin.List.listExtendWith (.ref s.heap.objs.size) (.ref z) .none) _ _ _
  refine wpAny_bind (wpAny_updateSeq hS rfl ?_)
  have hS2 := Heap.get?_update_self (Obj.mapSeq (fun _ => (#[] : Array Value))) hS rfl
  refine wpAny_bind (wpAny_letGo ?_)
  unfold Builtin.List.listExtendWith
  have up : ∀ (h : Heap) (f : Obj → Obj), (∀ b o, s.heap.get? b = some o → h.get? b = some o) → ∀ b o, s.heap.get? b = some o → (h.update s.heap.objs.size f).get? b = some o := fun h f q b o e =>
    (Heap.get?_update_other _ _ (Ne.symm (Nat.ne_of_lt (Heap.lt_size e)))).trans (q b o e)
  have kk1 : ∀ b o, s.heap.get? b = some o → (s.heap.push { cls := .type "list", data := .seq #[] }).get? b = some o := fun b o e => Heap.get?_push_of_some _ e
  have kk2 := up _ (Obj.mapSeq (fun _ => (#[] : Array Value))) kk1
  have zty : ∀ {s' : Shared}, (∀ b o, s.heap.get? b = some o → s'.heap.get? b = some o) → s'.TypeIs (.ref z) "zip" := fun {s'} q => ⟨_, q _ _ hz, rfl⟩
  refine wpAny_bind (wpAny_typeOf (zty (s' := { s with heap := _ }) kk2) ?_)
  have g1 : Builtin.List.listSameRef (.ref s.heap.objs.size) (.ref z) = false := by simp [Builtin.List.listSameRef, hSz]
  have g2 : (Value.type "zip" == Value.type "list") = false := by decide
  have g3 : (Value.type "zip" == Value.type "tuple") = false := by decide
  simp only [g1, g2, g3, Bool.or_false, Bool.false_eq_true, if_false]
  refine wpAny_bind (wpAny_pyIter_zip (s := { s with heap := _ }) (kk2 _ _ hz) ?_)
  refine wpAny_bind (wpAny_holding ?_)
  unfold Builtin.List.listLengthHint
  refine wpAny_bind (wpAny_specialOf (zty (s' := { s with heap := _ }) kk2) zip_no_len ?_)
  show wpAny _ X.A.in1.in1 (specialOf (Value.ref z) (Str.ofString "__length_hint__") >>= _) _ _ _
  refine wpAny_bind (wpAny_specialOf (zty (s' := { s with heap := _ }) kk2) zip_no_hint ?_)
  refine wpAny_pure ?_
  have cont : ∀ (h' : Heap) (c : Nat), (∀ b o, s.heap.get? b = some o → h'.get? b = some o) → h'.get? s.heap.objs.size = some (lstObj #[] c) →
      codeAny (model X.prog X.w) X.A.in1 (.builtin "list.extend.loop" ⟨[.ref s.heap.objs.size, .ref z, .none], []⟩) (wants (fun r s₂ => r = .none ∧ EP X pins σ Q (.ref s.heap.objs.size) s₂) X.xe) { s with heap := h' } := by
    intro h' c hk hS'
    have I2 : Inv X pins σ H { s with heap := h' } := I.kept (t' := s.toks) hk
    have fS : FpOk X pins H s.heap.objs.size := I.fpOk (Nat.le_refl _) (I.hok.fresh (Nat.le_refl _))
    refine drain_zipK k1 k2 (X := X) (pins := pins) (σ := σ) (A := X.A.in1) (I.ok.hd hc) D (S := s.heap.objs.size) ?_ hq rx ry hl ?_ _ 0 _ H z0 [] #[] c rfl (Nat.zero_le _) .refl r0 .nil I2 ?_ hS' .nil rfl ⟨hk _ _ hTI, h1.at fun o e => hk _ o e, h2.at fun o e => hk _ o e, ⟨_, hk _ _ hTO⟩, .inl ⟨hk _ _ hz, _, _, hk _ _ hTO⟩⟩
    · simp only [List.mem_cons, List.not_mem_nil, or_false, not_or]
      exact ⟨hSz, Nat.ne_of_gt ltTI, Nat.ne_of_gt ltTO, Nat.ne_of_gt lt1, Nat.ne_of_gt lt2, Nat.ne_of_gt lta, Nat.ne_of_gt ltb⟩
    · intro s' acc c' H' z' ts e r rt I' fS' hS'' hv
      have nS : H' s.heap.objs.size = none := fS'.1
      have len : ts.length = (zipF ds es).length := rt.length
      have hs : sizeLine = 16777216 := sizeLine_eq
      refine ⟨rfl, .ref s.heap.objs.size, upd H' s.heap.objs.size (.lst ts), ?_, rfl, okD.newF (q.ext e) r rt nS⟩
      exact Inv_trackF I' fS' ⟨by omega, acc.toList, c', hv, by rw [hS'']⟩
    · intro b hb
      simp only [List.mem_cons, List.not_mem_nil, or_false] at hb
      rcases hb with rfl | rfl | rfl | rfl | rfl | rfl
      · exact hf _ (by simp)
      · exact hf _ (by simp)
      · exact hf _ (by simp)
      · exact hf _ (by simp)
      · exact hf _ (by simp)
      · exact fS
  show wpAny _ X.A.in1.in1 (rule "list.extend.makes-room" >>= fun _ => Builtin.List.listTouch (.ref s.heap.objs.size) >>= fun _ =>
    again (.builtin "list.extend.loop" ⟨[.ref s.heap.objs.size, .ref z, .none], []⟩)) _ _ _
  refine wpAny_bind (wpAny_rule ?_)
  refine wpAny_bind ?_
  show wpAny _ X.A.in1.in1 (updateSeq s.heap.objs.size (·.push .none) >>= fun _ => updateSeq s.heap.objs.size (·.pop)) _ _ _
  refine wpAny_bind (wpAny_updateSeq hS2 rfl ?_)
  have hS3 := Heap.get?_update_self (Obj.mapSeq (·.push Value.none)) hS2 rfl
  refine wpAny_updateSeq (hz := by seq_fits) hS3 rfl ?_
  have hS4 := Heap.get?_update_self (Obj.mapSeq (·.pop)) hS3 rfl
  have k4 := up _ (Obj.mapSeq (·.pop)) (up _ (Obj.mapSeq (·.push Value.none)) kk2)
  exact wpAny_pure ⟨plainId_quiet F.plain_extend_loop _, cont _ _ k4 hS4⟩
def lzipKF (fs : AF) : EF := fun en st => (fs en st).bind fun ds st1 => match ds with
  | [x, y] => match frzT x, frzT y with
    | some a, some b => if (zipF a b).length ≤ 1000 then .ok (.lst (zipF a b)) st1 else .bad
    | _, _ => .bad
  | _ => .bad
section
variable {X : Cx} {xm : List Addr} {W : WX} {k : Nat} {e e2 : Expr} {fs : AF} {p p2 pos pos2 : Pos}
theorem sn_lzipK (G : GX X xm W k) (hml : X.mg "list" = none) (hmz : X.mg "zip" = none) (ha : PA X [e, e2] (TAf X.K xm W fs)) (hgl : Gl X "list" := by rfl) (hgz : Gl X "zip" := by rfl)
    (hs : starEach [e, e2] X.env = (false, eval e X.env) :: starEach [e2] X.env := by rfl) (hpl : (backTo pos2 (starEach [e2] X.env)).any (·.1) = false := by rfl)
    (he : starEach [.Call (.Name "zip" p2) [e, e2] [] pos2] X.env = (false, eval (.Call (.Name "zip" p2) [e, e2] [] pos2) X.env) :: starEach [] X.env := by rfl) :
    PE X (.Call (.Name "list" p) [.Call (.Name "zip" p2) [e, e2] [] pos2] [] pos) (TEf X.K xm W (lzipKF fs)) := by
  refine ⟨fun pins s σ H Q I ⟨z, en, st, rh, re, h⟩ => ?_⟩
  have ta : TAf X.K xm W fs σ H fun vs H1 => ∃ z1 st1 x y a b, Ext z H z1 H1 ∧ RelH X.K z1 H1 st1 ∧ Reps X.K z1 H1 vs [x, y] ∧ frzT x = some a ∧ frzT y = some b ∧ (zipF a b).length ≤ 1000 ∧ okD X.K z1 H1 Q (.lst (zipF a b)) st1 := by
    refine seqA' rh re (wp_bind.mp h) fun d1 st1 v1 z1 H1 q1 e1 r1 re1 p1 => ?_
    match d1, p1, q1 with
    | [], _, q1 => exact q1.elim
    | [_], _, q1 => exact q1.elim
    | _ :: _ :: _ :: _, _, q1 => exact q1.elim
    | [x, y], p1, q1 =>
      simp only at q1
      cases hx : frzT x with
      | none =>
        rw [hx] at q1
        exact q1.elim
      | some a =>
        cases hy : frzT y with
        | none =>
          rw [hx, hy] at q1
          exact q1.elim
        | some b =>
          rw [hx, hy] at q1
          simp only at q1
          split at q1
          · rename_i hl
            exact ⟨z1, st1, x, y, a, b, e1, r1, p1, hx, hy, hl, okD.ext e1 q1⟩
          · exact q1.elim
  refine wpAny_Call_Name_kw (ld_blt I hgl hml bt_list ?_ (by decide) (by decide))
  refine PyProof.Rows.callWith_type1 ?_ he rfl
  rw [he]
  show wpAny _ _ (spliced ((false, eval (.Call (.Name "zip" p2) [e, e2] [] pos2) X.env) :: backTo pos (starEach [] X.env))) _ _ s
  refine Calls.spliced_cons ?_
  refine Call_ (ld_blt I hgz hmz PyProof.Rows.boot_zip (PyProof.Rows.callWith_type1 (thn (ha.run pos2 pins s σ H _ I ta) fun us s1 ⟨vs, H1, I1, r1, q1⟩ => ?_) hs hpl))
  obtain ⟨z1, st1, x, y, a, b, e1, rh1, rs, hx, hy, hl, ok⟩ := q1
  cases rs with
  | cons px rs =>
  cases rs with
  | cons py rs =>
  cases rs
  obtain ⟨k1, l1, xs, rfl, t1, rx⟩ := frzT_at px hx
  obtain ⟨k2, l2, ys, rfl, t2, ry⟩ := frzT_at py hy
  cases r1 with
  | cons ra r1 =>
  cases r1 with
  | cons rb r1 =>
  cases r1
  cases ra
  cases rb
  obtain ⟨its, rv, p1⟩ := Inv.seqK I1 (t1 z1 H1 Ext.refl.toEx0)
  obtain ⟨its2, rv2, p2⟩ := Inv.seqK I1 (t2 z1 H1 Ext.refl.toEx0)
  refine call_zipM k1 k2 p1 p2 fun h' hz hTI hTO h1 h2 hsz hk => ?_
  refine Calls.spliced_nil ?_
  have I2 : Inv X pins σ H1 { s1 with heap := h' } := I1.kept (t' := s1.toks) hk
  refine call_list_zipK k1 k2 (z0 := z1) (st := st1) G.cm (PySem.W.ktu_apart s1.heap.objs.size l1 l2 p1.lt p2.lt) I2 rh1 (fun z' H' w => ⟨t1 z' H' w, t2 z' H' w⟩) rx ry hl (fun c hcm => ?_) hz hTI hTO h1 h2 ok
  have hle : s1.heap.objs.size ≤ c := by
    simp only [List.mem_cons, List.not_mem_nil, or_false] at hcm
    rcases hcm with z | z | z | z | z
    · rw [z]; exact Nat.le_add_right _ _
    · rw [z]; exact Nat.le_add_right _ _
    · rw [z]; exact Nat.le_add_right _ _
    · rw [z]; exact Nat.le_refl _
    · rw [z]; exact Nat.le_add_right _ _
  exact I1.fpOk hle (I1.hok.fresh hle)
end
end Ev

namespace Ev
open PySem PySem.Spec PyProof.Rows L2 RZ
/-! ## dicts whose keys are tuples: reading -/
mutual
theorem dKey_eq : ∀ {d : D} {k : NestedKey}, dKey d = some k → keyD k = d ∧ plainK k = true
  | .int i, k, h => by
    unfold dKey at h
    cases h
    exact ⟨rfl, rfl⟩
  | .tup ds, k, h => by
    unfold dKey at h
    split at h
    · obtain ⟨ks, h1, rfl⟩ := Option.map_eq_some_iff.mp h
      obtain ⟨e, p⟩ := dKeys_eq h1
      unfold keyD plainK
      exact ⟨by rw [e], p⟩
    · cases h
  | .non, k, h | .bl _, k, h | .str _, k, h | .lst _, k, h | .ref _, k, h | .fro _, k, h | .sref _, k, h | .dic _ _, k, h => by
    unfold dKey at h
    cases h
theorem dKeys_eq : ∀ {ds : List D} {ks : List NestedKey}, dKeys ds = some ks → keyDs ks = ds ∧ plainKs ks = true
  | [], ks, h => by
    unfold dKeys at h
    cases h
    exact ⟨rfl, rfl⟩
  | d :: r, ks, h => by
    unfold dKeys at h
    obtain ⟨k, h1, h⟩ := Option.bind_eq_some_iff.mp h
    obtain ⟨ks', h2, rfl⟩ := Option.map_eq_some_iff.mp h
    obtain ⟨e1, p1⟩ := dKey_eq h1
    obtain ⟨e2, p2⟩ := dKeys_eq h2
    unfold keyDs plainKs
    exact ⟨by rw [e1, e2], by rw [p1, p2]; rfl⟩
end
theorem dKey_npl {ds : List D} {k : NestedKey} (h : dKey (.tup ds) = some k) : ∃ ks, k = .tup ks ∧ dKeys ds = some ks ∧ npl ds = true := by
  unfold dKey at h
  split at h
  · rename_i np
    obtain ⟨ks, h1, rfl⟩ := Option.map_eq_some_iff.mp h
    exact ⟨ks, rfl, h1, np⟩
  · cases h
section
variable {K : PySem.W.Frag} {z : Z} {H : Hp} {st : Sto}
mutual
theorem Rep.key : ∀ {d : D} {v : V} {k : NestedKey}, Rep K z H v d → dKey d = some k → KeyAt K z H v k
  | .int i, v, k, p, h => by
    unfold dKey at h
    cases h
    cases p
    exact .num i
  | .tup ds, v, k, p, h => by
    obtain ⟨ks, rfl, h1, np⟩ := dKey_npl h
    cases p with
    | tup t rs => exact .tup t.t (by rw [(dKeys_eq h1).1]; exact np) (Reps.keys rs h1)
  | .non, _, k, _, h | .bl _, _, k, _, h | .str _, _, k, _, h | .lst _, _, k, _, h | .ref _, _, k, _, h | .fro _, _, k, _, h | .sref _, _, k, _, h | .dic _ _, _, k, _, h => by
    unfold dKey at h
    cases h
theorem Reps.keys : ∀ {ds : List D} {vs : List V} {ks : List NestedKey}, Reps K z H vs ds → dKeys ds = some ks → KeyAts K z H vs ks
  | [], vs, ks, p, h => by
    unfold dKeys at h
    cases h
    cases p
    exact .nil
  | d :: r, vs, ks, p, h => by
    unfold dKeys at h
    obtain ⟨k, h1, h⟩ := Option.bind_eq_some_iff.mp h
    obtain ⟨ks', h2, rfl⟩ := Option.map_eq_some_iff.mp h
    cases p with
    | cons a t => exact .cons (Rep.key a h1) (Reps.keys t h2)
end
end
section
variable {X : Cx} {pins : List (Addr × Obj)} {σ : L2.St} {z : Z} {H : Hp} {s : Shared}
mutual
theorem KeyAt.is (I : Inv X pins σ H s) : ∀ {v : V} {k : NestedKey} {u : Value}, KeyAt X.K z H v k → RelV v u → NestedIs s.heap k u
  | _, _, _, .num i, ⟨t, e⟩ => by
    rw [e]
    exact .int i t
  | _, _, _, .tup t n r, e => by
    have sq : SqT X.K H _ _ := t.seq
    obtain ⟨its, rv, ⟨o, ho, hc, m, hd⟩, _⟩ := I.tuple sq
    cases (show _ = Value.ref _ from e)
    exact .tup ho hc hd (by simpa using KeyAts.is I r rv)
theorem KeyAts.is (I : Inv X pins σ H s) : ∀ {vs : List V} {ks : List NestedKey} {us : List Value}, KeyAts X.K z H vs ks → Vals vs us → NestedAll s.heap ks us
  | _, _, _, .nil, .nil => .nil
  | _, _, _, .cons r t, .cons a b => .cons (KeyAt.is I r a) (KeyAts.is I t b)
end
end
/-- the entries, as the library tells them -/
def zip3 : List NestedKey → List Addr → List Value → List (NestedKey × Addr × Value)
  | k :: ks, b :: bs, u :: us => (k, b, u) :: zip3 ks bs us
  | _, _, _ => []
theorem okKey_plain {k : NestedKey} (h : okKey k = true) : plainK k = true ∧ k.depth ≤ 8 := by
  unfold okKey at h
  simp only [Bool.and_eq_true, decide_eq_true_eq] at h
  exact h.1
theorem zip3_ents {P : Program} {w : World} : ∀ (kk : List NestedKey) (bs : List Addr) (us : List Value), (∀ k ∈ kk, okKey k = true) → ents kk bs us = (zip3 kk bs us).map (entryOfKey (nestedKind P w))
  | k :: kk, b :: bs, u :: us, h => by
    show (⟨kHash k, .ref b, u⟩ : DictEntry) :: ents kk bs us = ⟨k.hash w, .ref b, u⟩ :: _
    rw [zip3_ents kk bs us fun q hq => h q (List.mem_cons_of_mem _ hq), kHash_eq w k (okKey_plain (h k List.mem_cons_self)).1]
  | [], _, _, _ => by simp [ents, zip3]
  | _ :: _, [], _, _ => by simp [ents, zip3]
  | _ :: _, _ :: _, [], _ => by simp [ents, zip3]
theorem zip3_keys : ∀ {kk : List NestedKey} {bs : List Addr} {us : List Value}, bs.length = kk.length → us.length = kk.length → (zip3 kk bs us).map (·.1) = kk
  | [], [], [], _, _ => rfl
  | k :: kk, b :: bs, u :: us, h1, h2 => by
    show k :: _ = _
    rw [zip3_keys (by simpa using h1) (by simpa using h2)]
  | [], _ :: _, _, h1, _ => by simp at h1
  | [], [], _ :: _, _, h2 => by simp at h2
  | _ :: _, [], _, h1, _ => by simp at h1
  | _ :: _, _ :: _, [], _, h2 => by simp at h2
theorem zip3_len {kk : List NestedKey} {bs : List Addr} {us : List Value} (h1 : bs.length = kk.length) (h2 : us.length = kk.length) : (zip3 kk bs us).length = kk.length := by
  have := congrArg List.length (zip3_keys h1 h2)
  simpa using this
theorem zip3_mem : ∀ {kk : List NestedKey} {bs : List Addr} {us : List Value} {x : NestedKey × Addr × Value}, x ∈ zip3 kk bs us → ∃ i : Nat, kk[i]? = some x.1 ∧ bs[i]? = some x.2.1 ∧ us[i]? = some x.2.2
  | k :: kk, b :: bs, u :: us, x, h => by
    rcases List.mem_cons.mp (show x ∈ (k, b, u) :: zip3 kk bs us from h) with rfl | h
    · exact ⟨0, rfl, rfl, rfl⟩
    · obtain ⟨i, a⟩ := zip3_mem h
      exact ⟨i + 1, a⟩
  | [], _, _, _, h => by simp [zip3] at h
  | _ :: _, [], _, _, h => by simp [zip3] at h
  | _ :: _, _ :: _, [], _, h => by simp [zip3] at h
theorem KeyAts.get {K : PySem.W.Frag} {z : Z} {H : Hp} : ∀ {vs : List V} {ks : List NestedKey} {i : Nat} {k : NestedKey}, KeyAts K z H vs ks → ks[i]? = some k → ∃ v, vs[i]? = some v ∧ KeyAt K z H v k
  | _, _, _, _, .nil, h => by simp at h
  | _, _, 0, _, .cons r _, h => by
    have e := Option.some.inj h
    exact ⟨_, rfl, e ▸ r⟩
  | _, _, i + 1, k, .cons _ t, h => t.get (i := i) (k := k) h
section
variable {X : Cx} {pins : List (Addr × Obj)} {σ : L2.St} {z : Z} {H : Hp} {s : Shared} {a : Addr} {kk : List NestedKey} {bs : List Addr} {us : List Value} {o : Obj}
theorem dct_h (I : Inv X pins σ H s) (nd : kk.Nodup) (ok : ∀ k ∈ kk, okKey k = true) (e : H a = some (dO a o)) (hd : IsDct o kk bs us) (ka : KeyAts X.K z H (bs.map V.ref) kk) : s.heap.DictOfH (nestedKind X.prog X.w) a (zip3 kk bs us) := by
  obtain ⟨hx, l1, l2, es, ep, h1, h2⟩ := hd
  refine ⟨o, es, ep, Inv.dO_at I e, hx, h1, by rw [h2, zip3_ents kk bs us ok], fun x hm => ?_, by rw [zip3_keys l1 l2]; exact nd⟩
  obtain ⟨i, a1, a2, a3⟩ := zip3_mem hm
  obtain ⟨v, hv, kv⟩ := KeyAts.get ka a1
  rw [List.getElem?_map, a2] at hv
  cases hv
  exact ⟨KeyAt.is I kv rfl, (okKey_plain (ok _ (List.mem_of_getElem? a1))).2⟩
end
/-- the value of a key -/
def dctGet : List NestedKey → List D → NestedKey → Option D
  | k' :: ks, d :: ds, k => if k' = k then some d else dctGet ks ds k
  | _, _, _ => none
theorem dct_get {K : PySem.W.Frag} {z : Z} {H : Hp} {k : NestedKey} {d : D} : ∀ {kk : List NestedKey} {bs : List Addr} {us : List Value} {xs : List V} {ds : List D}, bs.length = kk.length → us.length = kk.length → Reps K z H xs ds → Vals xs us → dctGet kk ds k = some d →
    ∃ b u v, atKey (zip3 kk bs us) k = some (b, u) ∧ RelV v u ∧ Rep K z H v d
  | k' :: kk, b :: bs, u :: us, v :: xs, d' :: ds, h1, h2, .cons r t, .cons rv vs, h => by
    unfold dctGet at h
    by_cases e : k' = k
    · rw [if_pos e] at h
      cases h
      refine ⟨b, u, v, ?_, rv, r⟩
      show ((List.find? _ ((k', b, u) :: _)).map _) = _
      rw [List.find?_cons_of_pos (by simpa using e)]
      rfl
    · rw [if_neg e] at h
      obtain ⟨b', u', v', a1, a2, a3⟩ := dct_get (by simpa using h1) (by simpa using h2) t vs h
      refine ⟨b', u', v', ?_, a2, a3⟩
      show ((List.find? _ ((k', b, u) :: _)).map _) = _
      rw [List.find?_cons_of_neg (by simpa using e)]
      exact a1
  | [], _, _, _, _, _, _, _, _, h => by simp [dctGet] at h
  | _ :: _, _, _, [], [], _, _, _, _, h => by simp [dctGet] at h
variable [Tabs]
/-- what a dict of tuple keys holds: one that stays, a cell -/
def asDct (d : D) (st : Sto) : Option (List NestedKey × List D) := match d with
  | .dic ks ds => (unR ks).map fun kk => (kk, ds)
  | .sref n => match st[n]? with
    | some (.dct kk ds) => some (kk, ds)
    | _ => none
  | _ => none
theorem asDct_at {K : PySem.W.Frag} {z : Z} {H : Hp} {st : Sto} {v : V} {d : D} {kk : List NestedKey} {ds : List D} (rh : RelH K z H st) (p : Rep K z H v d) (h : asDct d st = some (kk, ds)) : ∃ a xs, v = .ref a ∧ DctAt K z H a kk xs ∧ Reps K z H xs ds := by
  cases p with
  | @dic a ks xs ds' dz rs =>
    obtain ⟨l, hl, e⟩ := Option.map_eq_some_iff.mp (show (unR ks).map (fun kk => (kk, ds')) = some (kk, ds) from h)
    cases e
    obtain ⟨rfl, ne⟩ := unR_some hl
    obtain ⟨fa, ⟨kk', q, _, _⟩ | ⟨kk', _, q, _, da⟩⟩ := dz
    · cases kk with
      | nil => exact absurd rfl ne
      | cons k l =>
        cases kk' with
        | nil => cases q
        | cons => simp at q
    · have : kk = kk' := (List.map_inj_right (fun _ _ h => Sum.inr.inj h)).mp q
      subst this
      exact ⟨a, xs, rfl, da, rs⟩
  | @sref a n hn hk =>
    unfold asDct at h
    cases hc : st[n]? with
    | none =>
      simp only [hc] at h
      cases h
    | some c =>
      cases c with
      | lst _ =>
        simp only [hc] at h
        cases h
      | set _ =>
        simp only [hc] at h
        cases h
      | dct k1 d1 =>
        simp only [hc] at h
        cases h
        obtain ⟨xs, h1, h2⟩ := rh.cell hn hc
        exact ⟨a, xs, rfl, h1, h2⟩
  | _ => cases h
/-- d[k] -/
def keyGet (d1 d2 : D) (st : Sto) : Option D := (asDct d1 st).bind fun kd => (dKey d2).bind fun k => dctGet kd.1 kd.2 k
def dgetKF (f g : EF) : EF := fun en st => (f en st).bind fun d1 st1 => (g en st1).bind fun d2 st2 => match keyGet d1 d2 st2 with
  | some d => .ok d st2
  | none => .bad
section
variable {X : Cx} {xm : List Addr} {W : WX} {k : Nat} {e e2 : Expr} {f g : EF} {p p2 pos pos2 : Pos}
theorem room8 (G : GX X xm W k) : X.A.units + 20 < cLine := by
  have := G.rm.units
  have := G.rm.un
  omega
theorem sn_dgetK (G : GX X xm W k) (he : PE X e (TEf X.K xm W f)) (hi : PE X e2 (TEf X.K xm W g)) (hs : NoSl e2 := by exact fun _ _ => rfl) : PE X (.Subscript e e2 pos) (TEf X.K xm W (dgetKF f g)) := by
  refine ⟨fun pins s σ H Q I ⟨z, en, st, rh, re, h⟩ => ?_⟩
  have t1 : TEf X.K xm W f σ H fun v1 H1 => TEf X.K xm W g σ H1 fun v2 H2 => ∃ z2 a kk xs ds k0 d st2, v1 = .ref a ∧ DctAt X.K z2 H2 a kk xs ∧ Reps X.K z2 H2 xs ds ∧ KeyAt X.K z2 H2 v2 k0 ∧ dctGet kk ds k0 = some d ∧ RelH X.K z2 H2 st2 ∧ okD X.K z2 H2 Q d st2 := by
    refine seqE' rh re (wp_bind.mp h) fun d1 st1 v1 z1 H1 q1 e1 r1 re1 p1 => ?_
    refine seqE' r1 re1 (wpD_ext e1 (wp_bind.mp q1) fun _ _ q => q) fun d2 st2 v2 z2 H2 q2 e2 r2 re2 p2 => ?_
    cases hg : keyGet d1 d2 st2 with
    | none =>
      rw [hg] at q2
      exact q2.elim
    | some d =>
      rw [hg] at q2
      obtain ⟨⟨kk, ds⟩, h1, h⟩ := Option.bind_eq_some_iff.mp hg
      obtain ⟨k0, h2, h3⟩ := Option.bind_eq_some_iff.mp h
      obtain ⟨a, xs, rfl, da, rs⟩ := asDct_at r2 (p1.ext e2) h1
      exact ⟨z2, a, kk, xs, ds, k0, d, st2, rfl, da, rs, p2.key h2, h3, r2, okD.ext (e1.trans e2) q2⟩
  refine subD_of PySem.F.slot_dict_getitem.lookup hs (thn (he.run pins s σ H _ I t1) fun u s1 ⟨v1, H1, I1, r1, q1⟩ => thn (hi.run pins s1 σ H1 _ I1 q1) fun iv s2 ⟨v2, H2, I2, r2, q2⟩ => ?_)
  obtain ⟨z2, a, kk, xs, ds, k0, d, st2, rfl, ⟨_, _, nd, ok, bs, us, o, ho, hd, ka, va⟩, rs, ky, hg, rh2, q⟩ := q2
  obtain rfl : u = Value.ref a := r1
  have hm := dct_h I2 nd ok ho hd ka
  obtain ⟨_, l1, l2, _⟩ := hd
  obtain ⟨b, w, v, ha, rv, rp⟩ := dct_get l1 l2 rs va hg
  have kt : k0 ∈ kk := by
    have := List.mem_map_of_mem (f := (·.1)) (List.mem_of_find?_eq_some (Option.map_eq_some_iff.mp ha).choose_spec.1)
    rw [zip3_keys l1 l2] at this
    have e2 := List.find?_some (Option.map_eq_some_iff.mp ha).choose_spec.1
    rw [decide_eq_true_eq] at e2
    rwa [e2] at this
  have ok0 := ok k0 kt
  cases ky with
  | num i => cases ok0
  | @tup b0 ys ks t np kr =>
    have r2 : iv = Value.ref b0 := r2
    subst r2
    have hi2 : NestedIs s2.heap (.tup ks) (.ref b0) := KeyAt.is (X := X) (z := z2) I2 (.tup t np kr) (show RelV (V.ref b0) (Value.ref b0) from rfl)
    refine ⟨hm.typeIs, wpAny_getItem_heap (knd := nestedKind X.prog X.w) (show X.A.in1.units + 8 < cLine from by have := room8 G; show X.A.units + 1 + 8 < cLine; omega) ⟨hi2, (okKey_plain ok0).2⟩ hm ha ⟨v, H2, I2.tok _, rv, okD.here q rh2 rp⟩⟩
end
end Ev

namespace Ev
open PySem PySem.Spec PyProof.Rows L2 RZ
/-! ## the keys of a dict, one after the other -/
def ItS (k : SK) (K : PySem.W.Frag) (a : Addr) : It :=
  ⟨fun i H => ∃ (xs : List V) (x : V), SqK k K H a xs ∧ xs[i]? = some x, fun i H v H' => H' = H ∧ ∀ xs, SqK k K H a xs → xs[i]? = some v, fun i H => ∃ xs : List V, SqK k K H a xs ∧ xs.length ≤ i⟩
theorem turn_dct {P : Program} {w : World} {K : PySem.W.Frag} {tg : Expr} (n ep : Nat) (a jt : Addr) : Turn P w K tg (ItS (.d n ep) K a) [jt] jt (fun i h => h.IsKeyIter jt a i n ep) where
  mem := by simp
  obj := fun i h st b hb => by
    obtain ⟨oj, gj, _, dj⟩ := st
    rw [show b = jt by simpa using hb]
    exact ⟨oj, gj, fun v q => by rw [dj] at q; cases q⟩
  keep := fun i h h' st kp => let ⟨oj, gj, r⟩ := st; ⟨oj, kp jt (by simp) _ gj, r⟩
  item := by
    intro X hP hw hK hc i pins s σ H E I hf st hg
    subst hP hw hK
    obtain ⟨xs, x, hq, hx⟩ := hg
    obtain ⟨f0, f1, f2, f3, f4, f5⟩ := hf jt (by simp)
    have hq' := hq
    obtain ⟨h0, o, es, e, ex, dd, z, rv⟩ := hq'
    subst z
    have l := rv.length
    have hi : i < es.size := by
      have := (List.getElem?_eq_some_iff.mp hx).1
      rw [List.length_map] at l
      have l2 : es.toList.length = es.size := Array.length_toList
      omega
    refine wpAny_pyNext_keys_item_raw st ⟨o, Inv.dO_at I e, ex, dd⟩ hi fun h' st' sb => ?_
    have I1 : Inv X pins σ H { s with heap := h' } := I.turned (t' := s.toks) (fun b ob hb q => (sb.2 b hb).trans q) f0 f1 f3 f4 f5
    obtain ⟨oj, gj, cj, dj⟩ := id st'
    obtain ⟨u, hu, ru⟩ := rv.get hx
    have hu' : es[i].key = u := by
      rw [List.getElem?_map, Array.getElem?_toList, Array.getElem?_eq_getElem hi] at hu
      exact Option.some.inj hu
    refine ⟨_, rfl, go_of (s := { s with heap := h' }) gj cj dj (by decide) ⟨x, H, I1, by rw [hu']; exact ru, ⟨rfl, fun ys hy => by rw [Inv.seqK_inj I hy hq]; exact hx⟩, st', fun b hb => (hf b hb).1⟩⟩
  done := by
    intro X hP hw hK hc i pins s σ H E I hf st hg
    subst hP hw hK
    obtain ⟨xs, ⟨h0, o, es, e, ex, dd, z, rv⟩, hx⟩ := hg
    obtain ⟨f0, f1, f2, f3, f4, f5⟩ := hf jt (by simp)
    subst z
    have l := rv.length
    rw [List.length_map] at l
    have l2 : es.toList.length = es.size := Array.length_toList
    exact wpAny_pyNext_keys_end_raw (I.ok.hd hc) st ⟨o, Inv.dO_at I e, ex, dd⟩ (by omega) fun h' eb => ⟨rfl, I.turned (t' := s.toks) (fun b ob hb q => eb b ob hb q) f0 f1 f3 f4 f5⟩
  self := fun A i s Q E st h => wpAny_pyIter_keyiter st h
def iDct (K : PySem.W.Frag) (td : TE) : TI := fun σ H R => td σ H fun x H1 => ∃ n ep a xs, x = .ref a ∧ SqK (.d n ep) K H1 a xs ∧ R (ItS (.d n ep) K a) H1
theorem pi_dct {X : Cx} {tg e : Expr} {td : TE} (he : PE X e td) : PI X tg e (iDct X.K td) := by
  refine ⟨fun pins s σ H R I h => thn (he.run pins s σ H _ I h) fun u s1 ⟨x, H1, I1, rx, n, ep, a, xs, ex, hq, q⟩ => ?_⟩
  subst ex
  obtain rfl : u = Value.ref a := rx
  obtain ⟨its, rv, p⟩ := Inv.seqK I1 hq
  exact pyIter_S p (pi_one (tk := s1.toks) I1 (itO (.d n ep) a) (turn_dct n ep a s1.heap.objs.size) ⟨_, Heap.get?_push_size _ rfl, rfl, rfl⟩ q)
variable [Tabs]
def seqDI (f : EF) : IF := fun en st => (f en st).bind fun d st1 => match d with
  | .dic ks _ => match unR ks with
    | some kk => .ok (.items (keyDs kk)) st1
    | none => .bad
  | _ => .bad
theorem itI_dct {K : PySem.W.Frag} {z : Z} {H : Hp} {a : Addr} {xs : List V} {ds : List D} {k : SK} (s1 : ∀ z1 H1, Ex0 z H z1 H1 → SqK k K H1 a xs) (rx : Reps K z H xs ds) : ItI K z H ds (ItS k K a) := fun z1 H1 st e rh => by
  have r := rx.ext0 e
  have q := s1 z1 H1 e
  refine ⟨fun i hi => ⟨xs, q, by rw [r.length]; exact hi⟩, fun i d hd => ?_⟩
  obtain ⟨v, hv, rv⟩ := r.getD hd
  refine ⟨⟨xs, v, q, hv⟩, fun x H2 y => ⟨z1, ?_⟩⟩
  obtain ⟨rfl, y⟩ := y
  have e2 := y xs q
  rw [hv] at e2
  cases e2
  exact ⟨.refl, rh, rv⟩
theorem si_dct {X : Cx} {xm : List Addr} {W : WX} {tg l : Expr} {f : EF} (hl : PE X l (TEf X.K xm W f)) : PI X tg l (TIf X.K xm W (seqDI f)) :=
  (pi_dct hl).imp fun σ H Rq ⟨z, en, st, rh, re, h⟩ => by
    refine seqE' rh re (wp_bind.mp h) fun d1 st1 v1 z1 H1 q1 e1 r1 re1 p1 => ?_
    cases d1 with
    | dic ks ds =>
      simp only at q1
      cases hu : unR ks with
      | none =>
        rw [hu] at q1
        exact q1.elim
      | some kk =>
        rw [hu] at q1
        obtain ⟨a, xs, rfl, da, rs⟩ := asDct_at (kk := kk) (ds := ds) r1 p1 (by show (unR ks).map _ = _; rw [hu]; rfl)
        have fa : z1.fz a := by
          cases p1 with
          | dic dz _ => exact dz.1
        obtain ⟨h1, _, _, _, bs, us, o, h4, ⟨hx, l1, l2, es, ep, hd, he⟩, h6, _⟩ := da
        have sq : ∀ H2, H2 a = H1 a → SqK (.d es.size ep) X.K H2 a (bs.map V.ref) := fun H2 e => ⟨h1, o, es, e.trans h4, hx, hd, rfl, by rw [he, ents_keys l1 l2]; exact vals_refs bs⟩
        exact ⟨es.size, ep, a, bs.map V.ref, rfl, sq H1 rfl, q1 _ z1 H1 e1 r1 (itI_dct (fun z2 H2 x => sq H2 (x.fz a fa).2) h6.reps)⟩
    | _ => exact q1.elim
/-! ## d[k] = v -/
def updAt {α : Type} : List NestedKey → List α → NestedKey → α → List α
  | k' :: kk, y :: l, k, x => (if k' = k then x else y) :: updAt kk l k x
  | _, _, _, _ => []
def putKs (kk : List NestedKey) (k : NestedKey) : List NestedKey := if k ∈ kk then kk else kk ++ [k]
def putVs {α : Type} (kk : List NestedKey) (l : List α) (k : NestedKey) (x : α) : List α := if k ∈ kk then updAt kk l k x else l ++ [x]
def putBs (kk : List NestedKey) (bs : List Addr) (k : NestedKey) (b : Addr) : List Addr := if k ∈ kk then bs else bs ++ [b]
theorem updAt_length {α : Type} {k : NestedKey} {x : α} : ∀ {kk : List NestedKey} {l : List α}, l.length = kk.length → (updAt kk l k x).length = kk.length
  | [], [], _ => rfl
  | _ :: _, _ :: _, h => by
    show (updAt _ _ _ _).length + 1 = _ + 1
    rw [updAt_length (by simpa using h)]
  | [], _ :: _, h => by simp at h
  | _ :: _, [], h => by simp at h
theorem putVs_length {α : Type} {kk : List NestedKey} {l : List α} {k : NestedKey} {x : α} (h : l.length = kk.length) : (putVs kk l k x).length = (putKs kk k).length := by
  unfold putVs putKs
  split
  · exact updAt_length h
  · simp [h]
theorem zip3_put {k : NestedKey} {u : Value} : ∀ {kk : List NestedKey} {bs : List Addr} {us : List Value}, bs.length = kk.length → us.length = kk.length → (zip3 kk bs us).map (putAt k u) = zip3 kk bs (updAt kk us k u)
  | [], [], [], _, _ => rfl
  | k' :: kk, b :: bs, v :: us, h1, h2 => by
    show putAt k u (k', b, v) :: _ = (k', b, if k' = k then u else v) :: _
    rw [zip3_put (by simpa using h1) (by simpa using h2)]
    unfold putAt
    by_cases e : k' = k
    · simp [e]
    · simp [e]
  | [], _ :: _, _, h1, _ => by simp at h1
  | [], [], _ :: _, _, h2 => by simp at h2
  | _ :: _, [], _, h1, _ => by simp at h1
  | _ :: _, _ :: _, [], _, h2 => by simp at h2
theorem zip3_app {k : NestedKey} {b : Addr} {u : Value} : ∀ {kk : List NestedKey} {bs : List Addr} {us : List Value}, bs.length = kk.length → us.length = kk.length → zip3 kk bs us ++ [(k, b, u)] = zip3 (kk ++ [k]) (bs ++ [b]) (us ++ [u])
  | [], [], [], _, _ => rfl
  | k' :: kk, b' :: bs, v :: us, h1, h2 => by
    show (k', b', v) :: (zip3 kk bs us ++ _) = (k', b', v) :: zip3 (kk ++ [k]) (bs ++ [b]) (us ++ [u])
    rw [zip3_app (by simpa using h1) (by simpa using h2)]
  | [], _ :: _, _, h1, _ => by simp at h1
  | [], [], _ :: _, _, h2 => by simp at h2
  | _ :: _, [], _, h1, _ => by simp at h1
  | _ :: _, _ :: _, [], _, h2 => by simp at h2
theorem atKey_mem {kk : List NestedKey} {bs : List Addr} {us : List Value} {k : NestedKey} (h1 : bs.length = kk.length) (h2 : us.length = kk.length) : (atKey (zip3 kk bs us) k).isSome = decide (k ∈ kk) := by
  unfold atKey
  rw [Option.isSome_map, Bool.eq_iff_iff, List.find?_isSome, decide_eq_true_eq]
  simp only [decide_eq_true_eq]
  constructor
  · rintro ⟨x, hx, e⟩
    have := List.mem_map_of_mem (f := (·.1)) hx
    rw [zip3_keys h1 h2, e] at this
    exact this
  · intro h
    rw [← zip3_keys h1 h2] at h
    obtain ⟨x, hx, e⟩ := List.mem_map.mp h
    exact ⟨x, hx, e⟩
theorem zip3_stored {kk : List NestedKey} {bs : List Addr} {us : List Value} {k : NestedKey} {b : Addr} {u : Value} (h1 : bs.length = kk.length) (h2 : us.length = kk.length) : storedH (zip3 kk bs us) k b u = zip3 (putKs kk k) (putBs kk bs k b) (putVs kk us k u) := by
  have m := atKey_mem (k := k) h1 h2
  unfold putKs putBs putVs
  by_cases e : k ∈ kk
  · rw [decide_eq_true e] at m
    obtain ⟨p, hp⟩ := Option.isSome_iff_exists.mp m
    rw [storedH_old hp, if_pos e, if_pos e, if_pos e, zip3_put h1 h2]
  · rw [decide_eq_false e] at m
    have hn : atKey (zip3 kk bs us) k = none := by simpa using m
    rw [storedH_new hn, if_neg e, if_neg e, if_neg e, zip3_app h1 h2]
theorem isDct_of {P : Program} {w : World} {h : Heap} {D : Addr} {kk : List NestedKey} {bs : List Addr} {us : List Value} (l1 : bs.length = kk.length) (l2 : us.length = kk.length) (ok : ∀ k ∈ kk, okKey k = true) (hm : h.DictOfH (nestedKind P w) D (zip3 kk bs us)) : ∃ o, h.get? D = some o ∧ IsDct o kk bs us := by
  obtain ⟨o, es, ep, ho, hx, hd, he, _, _⟩ := hm
  exact ⟨o, ho, hx, l1, l2, es, ep, hd, by rw [he, zip3_ents kk bs us ok]⟩
theorem putKs_ok {kk : List NestedKey} {k : NestedKey} (h : ∀ q ∈ kk, okKey q = true) (hk : okKey k = true) : ∀ q ∈ putKs kk k, okKey q = true := fun q hq => by
  unfold putKs at hq
  split at hq
  · exact h q hq
  · exact (List.mem_append.mp hq).elim (h q) fun e => (List.mem_singleton.mp e) ▸ hk
theorem putKs_nodup {kk : List NestedKey} {k : NestedKey} (h : kk.Nodup) : (putKs kk k).Nodup := by
  unfold putKs
  split
  · exact h
  · rename_i e
    exact List.nodup_append.mpr ⟨h, by simp, fun a ha b hb q => e (by rw [List.mem_singleton] at hb; rw [← hb, ← q]; exact ha)⟩
section
variable {X : Cx} {pins : List (Addr × Obj)} {σ : L2.St} {z : Z} {H : Hp} {s : Shared}
theorem dO_write {D : Addr} {o' : Obj} {h' : Heap} {tk : Nat} (I : Inv X pins σ H s) (mu : Mut (H D)) (sb : Heap.SameBut D s.heap h') (ho : h'.get? D = some o') : Inv X pins σ (upd H D (dO D o')) { s with heap := h', toks := tk } :=
  d_write I mu sb ⟨_, ho⟩ ⟨ho, ⟨_, ho⟩, fun _ h2 q k => k _ q⟩
/-- what a store leaves behind -/
theorem dct_put {A : Around} {E : Value → Shared → Prop} {Q : Unit → Shared → Prop} {D b : Addr} {o : Obj} {kk : List NestedKey} {bs : List Addr} {us : List Value} {k : NestedKey} {u : Value} (hu : A.units + 8 < cLine) (I : Inv X pins σ H s) (nd : kk.Nodup) (ok : ∀ q ∈ kk, okKey q = true) (hl : kk.length ≤ 1000000)
    (e : H D = some (dO D o)) (hd : IsDct o kk bs us) (ka : KeyAts X.K z H (bs.map V.ref) kk) (kb : KeyAt X.K z H (.ref b) k) (okk : okKey k = true)
    (h : ∀ s' o', IsDct o' (putKs kk k) (putBs kk bs k b) (putVs kk us k u) → Inv X pins σ (upd H D (dO D o')) s' → Q () s') : wpAny (model X.prog X.w) A (dictSet D (.ref b) u) Q E s := by
  have hm := dct_h I nd ok e hd ka
  obtain ⟨hx, l1, l2, _⟩ := hd
  have hs : sizeLine = 16777216 := sizeLine_eq
  refine wpAny_dictSet_heap (knd := nestedKind X.prog X.w) (hsz := by rw [zip3_len l1 l2]; omega) hu ⟨KeyAt.is I kb rfl, (okKey_plain okk).2⟩ hm fun h' hm' sb => ?_
  rw [zip3_stored l1 l2] at hm'
  have lb : (putBs kk bs k b).length = (putKs kk k).length := by
    unfold putBs putKs
    split <;> simp [l1]
  obtain ⟨o', ho', hd'⟩ := isDct_of lb (putVs_length l2) (putKs_ok ok okk) hm'
  exact h _ o' hd' (dO_write I (by rw [e]; exact True.intro) sb ho')
theorem putBs_at {D b : Addr} {o' : Obj} {kk : List NestedKey} {bs : List Addr} {k : NestedKey} (ka : KeyAts X.K z H (bs.map V.ref) kk) (kb : KeyAt X.K z H (.ref b) k) : KeyAts X.K z H ((putBs kk bs k b).map V.ref) (putKs kk k) := by
  unfold putBs putKs
  split
  · exact ka
  · rw [List.map_append]
    have : ∀ {vs : List V} {ks : List NestedKey}, KeyAts X.K z H vs ks → KeyAts X.K z H (vs ++ [V.ref b]) (ks ++ [k]) := by
      intro vs ks q
      induction vs generalizing ks with
      | nil =>
        cases q
        exact .cons kb .nil
      | cons v vs ih =>
        cases q with
        | cons r t => exact .cons r (ih t)
    exact this ka
end
end Ev

namespace Ev
open PySem PySem.Spec PyProof.Rows L2 RZ
/-! ## {k: v for .. in ..}, the keys tuples: a dict that nobody changes -/
/-- what one turn stores -/
def StoreAt (K : PySem.W.Frag) (D : Addr) (y v : V) (H : Hp) (Nx : Hp → Prop) : Prop := ∃ (z : Z) (b : Addr) (o : Obj) (kk : List NestedKey) (bs : List Addr) (us : List Value) (k : NestedKey), y = V.ref b ∧ kk.Nodup ∧ (∀ q ∈ kk, okKey q = true) ∧ kk.length ≤ 1000000 ∧
  H D = some (dO D o) ∧ IsDct o kk bs us ∧ KeyAts K z H (bs.map V.ref) kk ∧ KeyAt K z H (.ref b) k ∧ okKey k = true ∧ ∀ u o', RelV v u → IsDct o' (putKs kk k) (putBs kk bs k b) (putVs kk us k u) → Nx (upd H D (dO D o'))
def tDcX (K : PySem.W.Frag) (wi : TI) (g : TG) (tk tv : TE) (vs : List Nat) : TE := fun σ H Q => wi σ H fun J H1 => ∀ D o0, (D == sysModules) = false → H1 D = none → IsDct o0 [] [] [] → ∃ W : Nat → Nat → Hp → Prop, (∃ m, W 0 m (upd H1 D (dO D o0))) ∧ ∀ i m H, W i m H →
  (J.stop i H ∧ Q (.ref D) H) ∨ (J.go i H ∧ ∃ Nx : Hp → Prop, (∀ H', Nx H' → ∃ m', m' < m ∧ W (i + 1) m' H') ∧ ∀ x H', J.yld i H x H' → g x (wipe σ vs) H' fun σ2 H2 => wipe σ2 vs = wipe σ vs ∧ tk σ2 H2 fun y H4 => tv σ2 H4 fun v H5 => StoreAt K D y v H5 Nx)
variable [Tabs]
abbrev nilDct : Obj := { cls := .type "dict", data := .dict #[] }
theorem nilDct_is : IsDct nilDct [] [] [] := ⟨⟨rfl, rfl, rfl⟩, rfl, rfl, #[], 0, rfl, rfl⟩
section
variable {X : Cx} {pins : List (Addr × Obj)} {s0 : Shared} {τ : L2.St} {Hb : Hp} {Q : VK} {kx vx tg src : Expr} {scope : Scope} {own : List (Str × Nat)} {pos pos' : Pos} {wi : TI} {g : TG} {tk tv : TE} {Qf : Value → Shared → Prop}
theorem dcx_core (hu : X.A.units + 8 < cLine) (hc : X.calm = true) (hN : X.N.Nodup) (I0 : Inv X pins τ Hb s0) (hi : PI X tg src wi) (ok : BlkOk X.N X.env.scope scope own)
    (hg : ∀ (s : Shared) (H : Hp) (C : Addr) (cl : List (Str × Addr)) (fp : List Addr), PG (X.blk s H scope (compEnvC scope cl C X.env) fp) tg g)
    (hk : ∀ (s : Shared) (H : Hp) (C : Addr) (cl : List (Str × Addr)) (fp : List Addr), PE (X.blk s H scope (compEnvC scope cl C X.env) fp) kx tk)
    (hv : ∀ (s : Shared) (H : Hp) (C : Addr) (cl : List (Str × Addr)) (fp : List Addr), PE (X.blk s H scope (compEnvC scope cl C X.env) fp) vx tv) (hs : ∀ x, foldedSetIterable src X.env x = pure x)
    (hh : tDcX X.K wi g tk tv (own.map (·.2)) τ Hb Q)
    (fin : ∀ D C s' m H', Inv X pins τ H' s' → Q (.ref D) H' → s'.heap.Ns C m → FpOk X pins H' C → compPost (model X.prog X.w) X.A X.xe none Qf (.ref D) C (.ok .next) s') :
    wpAny (model X.prog X.w) X.A (comprehension (.DictComp kx vx [⟨tg, src, [], 0⟩] scope pos) scope X.env pos' newDict false (eval src X.env) none) Qf X.xe s0 := by
  have free : ∀ y ∈ scope.names, y.2 = .free → ∃ c, X.env.cells.lookup y.1 = some c := fun y hy q => (ok.free y hy q).elim (fun w => I0.ok.has _ (.inl w)) fun w => I0.ok.has _ (.inr w)
  refine wpAny_comprehension_free (use := none) rfl hs (closure_ok free) ok.kind (fun y hy q => by rw [ok.uniq y hy, q]) (thn (hi.run pins s0 τ Hb _ I0 hh) fun xv sa ha => thn ha fun jv sb hb => ?_)
  obtain ⟨jt, fp, tn, J, Hc, rfl, Ib, T, stb, fb, qq⟩ := hb
  refine wpAny_newObj_type (newEnv_comp ?_)
  obtain ⟨D, hD⟩ : ∃ D, sb.heap.objs.size = D := ⟨_, rfl⟩
  have nD : Hc D = none := Ib.hok.fresh (Nat.le_of_eq hD)
  have sysD : (D == sysModules) = false := by
    have := Ib.big
    rw [beq_eq_false_iff_ne]
    intro q
    rw [← hD] at q
    exact absurd this (by rw [q]; exact Nat.lt_irrefl _)
  obtain ⟨W, ⟨m0, w0⟩, turn⟩ := qq D nilDct sysD nD nilDct_is
  rw [hD]
  -- the new dict is tracked
  obtain ⟨sc, hsc⟩ : ∃ sc : Shared, sc = { sb with heap := sb.heap.push nilDct } := ⟨_, rfl⟩
  have getD : sc.heap.get? D = some nilDct := by rw [hsc, ← hD]; exact Heap.get?_push_size _ rfl
  have Ic : Inv X pins τ (upd Hc D (dO D nilDct)) sc := by
    have := Ib.laid (t' := sb.toks) (o := dO D nilDct) (h' := sb.heap.push nilDct) (a := D) (fun b o q => Heap.get?_push_of_some _ q) (Nat.le_of_eq hD) (by
      have e : (sb.heap.push nilDct).get? D = some nilDct := by rw [← hD]; exact Heap.get?_push_size _ rfl
      exact ⟨e, ⟨_, e⟩, fun _ h2 q kp => kp _ q⟩)
    rw [hsc]
    exact this
  have small : ∀ b ∈ fp, b < sb.heap.objs.size := fun b hb => let ⟨o, q, _⟩ := T.obj _ _ stb b hb; Heap.lt_size q
  have fc : ∀ b ∈ fp, FpOk X pins (upd Hc D (dO D nilDct)) b ∧ b < sc.heap.objs.size := fun b hb => by
    have l := small b hb
    refine ⟨⟨by rw [upd_ne (by rw [← hD]; exact Nat.ne_of_lt l)]; exact (fb b hb).1, (fb b hb).2⟩, ?_⟩
    rw [hsc]
    show b < (sb.heap.push nilDct).objs.size
    rw [Heap.size_push]
    exact Nat.lt_succ_of_lt l
  have stc : tn 0 sc.heap := T.keep _ _ _ stb fun b _ o q => by rw [hsc]; exact Heap.get?_push_of_some _ q
  have Id := block_start Ic ok hN fc
  have nfp : ∀ b ∈ fp, (upd Hc D (dO D nilDct)) b = none := fun b hb => (fc b hb).1.1
  have hsc2 : ({ sb with heap := sb.heap.push nilDct } : Shared).heap = sc.heap := by rw [hsc]
  show codeAny _ _ (.compStart (.DictComp kx vx [⟨tg, src, [], 0⟩] scope pos) 0 (.ref jt) (.ref D) (compEnvC scope (cellsFrom ((sb.heap.push nilDct).objs.size + 1) scope.names (cloFrom X.env.cells scope.names [])) (sb.heap.push nilDct).objs.size X.env)) (compPost (model X.prog X.w) X.A X.xe none Qf (.ref D) (sb.heap.push nilDct).objs.size) { sb with heap := pushCells ((sb.heap.push nilDct).push { cls := .type "dict", data := .dict #[] }) scope.names }
  have shp : sb.heap.push nilDct = sc.heap := by rw [hsc]
  have sfl : ({ sb with heap := pushCells ((sb.heap.push nilDct).push { cls := .type "dict", data := .dict #[] }) scope.names } : Shared) = { sc with heap := pushCells (sc.heap.push { cls := .type "dict", data := .dict #[] }) scope.names } := by subst hsc; rfl
  rw [sfl, shp]
  obtain ⟨C, hC⟩ : ∃ C, sc.heap.objs.size = C := ⟨_, rfl⟩
  obtain ⟨ce, hce⟩ : ∃ ce, ce = compEnvC scope (cellsFrom (sc.heap.objs.size + 1) scope.names (cloFrom X.env.cells scope.names [])) sc.heap.objs.size X.env := ⟨_, rfl⟩
  have pg := hg sc (upd Hc D (dO D nilDct)) sc.heap.objs.size (cellsFrom (sc.heap.objs.size + 1) scope.names (cloFrom X.env.cells scope.names [])) fp
  have pk := hk sc (upd Hc D (dO D nilDct)) sc.heap.objs.size (cellsFrom (sc.heap.objs.size + 1) scope.names (cloFrom X.env.cells scope.names [])) fp
  have pv := hv sc (upd Hc D (dO D nilDct)) sc.heap.objs.size (cellsFrom (sc.heap.objs.size + 1) scope.names (cloFrom X.env.cells scope.names [])) fp
  have loc : ce.locals = sc.heap.objs.size := by subst hce; rfl
  rw [← hce] at Id pg pk pv ⊢
  obtain ⟨Hd, hHd⟩ : ∃ Hd, upd Hc D (dO D nilDct) = Hd := ⟨_, rfl⟩
  rw [hHd] at Ic Id pg pk pv w0 nfp fc
  obtain ⟨sd, hsd⟩ : ∃ sd : Shared, sd = { sc with heap := pushCells (sc.heap.push { cls := .type "dict", data := .dict #[] }) scope.names } := ⟨_, rfl⟩
  rw [← hsd] at Id ⊢
  have std : tn 0 sd.heap := T.keep _ _ _ stc fun b _ o q => by rw [hsd]; exact pushCells_keeps _ _ _ _ (Heap.get?_push_of_some _ q)
  have stat : ∀ {τ' : L2.St} {H' : Hp} {s' : Shared}, Inv (X.blk sc Hd scope ce fp) [] τ' H' s' → (∀ b ∈ fp, H' b = none) → ∀ b ∈ fp, FpOk (X.blk sc Hd scope ce fp) [] H' b := fun {τ' H' s'} Iq hn b hb =>
    ⟨hn b hb, (Iq.ok.exf b hb).1, Iq.ok.exfs b hb, .inl hb, fun x c q => (Iq.ok.exf b hb).2 x c q, fun p hp => absurd (show p ∈ ([] : List (Addr × Obj)) ++ [] from hp) (by simp)⟩
  have loop : codeAny (model X.prog X.w) X.A (.compLoop (.DictComp kx vx [⟨tg, src, [], 0⟩] scope pos) 0 (.ref jt) (.ref D) ce) (compPost (model X.prog X.w) X.A X.xe none Qf (.ref D) sc.heap.objs.size) sd := by
    refine compLoop_anyD (fun n s' => ∃ i H', Inv (X.blk sc Hd scope ce fp) [] (wipe τ (own.map (·.2))) H' s' ∧ tn i s'.heap ∧ (∀ b ∈ fp, H' b = none) ∧ W i n H') ?_ m0 ⟨0, Hd, Id, std, nfp, w0⟩
    rintro n se ⟨i, He, Ie, ste, ne, we⟩
    rcases turn i n He we with ⟨stop, qe⟩ | ⟨go, Nx, hNx, step⟩
    · refine thnF (T.done (X.blk sc Hd scope ce fp) rfl rfl rfl hc i [] se _ He (fun _ _ => False) Ie (stat Ie ne) ste stop) fun r sg ⟨hr, Ig⟩ => ?_
      subst hr
      have back : Inv X pins τ He sg := Ic.call' (ch := fp) Ig.os Ig.base Ig.hok Ig.bare fun b hb => ⟨(fc b hb).1.2.2.2.1, (fc b hb).1.2.1, (fc b hb).1.2.2.2.2.1, (fc b hb).1.2.2.2.2.2⟩
      have nC : He sc.heap.objs.size = none := by
        have q : He ce.locals = none := Ig.free
        rwa [loc] at q
      obtain ⟨m, hn, _⟩ := Ig.loc
      have hn : sg.heap.Ns ce.locals m := hn
      rw [loc] at hn
      exact fin D sc.heap.objs.size sg m He back qe hn (Ic.fpOk (Nat.le_refl _) nC)
    · refine thnF (T.item (X.blk sc Hd scope ce fp) rfl rfl rfl hc i [] se _ He (fun _ _ => False) Ie (stat Ie ne) ste go) fun r sf ⟨u, hr, hf⟩ => ?_
      subst hr
      refine thnF hf fun _ sg ⟨x, Hg, Ig, rg, yg, stg, ng⟩ => ?_
      refine thnF (pg.run _ sg _ Hg x u _ (Ig.pinned (stat Ig ng) (T.obj _ _ stg)) rg (step x Hg yg)) fun _ sh ⟨τh, Hh, Ih, wh, qh⟩ => ?_
      refine wpAny_pure ?_
      rw [if_pos rfl]
      refine thnF (pk.run _ sh τh Hh _ Ih qh) fun kv si ⟨yk, Hi, Ii, ri, qi⟩ => ?_
      refine thnF (pv.run _ si τh Hi _ Ii qi) fun vv sj ⟨yv, Hj, Ij, rj, z, b, o, kk, bs, us, k, ek, nd, okk, hl, hD5, hd, ka, kb, ok1, nx⟩ => ?_
      subst ek
      obtain rfl : kv = Value.ref b := ri
      refine dct_put (X := X.blk sc Hd scope ce fp) (z := z) hu Ij nd okk hl hD5 hd ka kb ok1 fun sk o' hd' Ik => ?_
      obtain ⟨m', hm, w'⟩ := hNx _ (nx vv o' rj hd')
      have pin : ∀ b ∈ fp, ∀ o, sg.heap.get? b = some o → sk.heap.get? b = some o ∧ (upd Hj D (dO D o')) b = none := fun b hb o q =>
        let w := Ik.pin (b, o) (List.mem_append_right _ (List.mem_append_right _ (mem_pinsAt hb q)))
        ⟨w.1, w.2.1⟩
      refine ⟨m', hm, i + 1, _, (Ik.unpinned (pins := [])).weak (by rw [← wh, wipe_length]) (fun j v q => ?_), T.keep _ _ _ stg fun b hb o q => (pin b hb o q).1, fun b hb => ?_, w'⟩
      · rw [← wh] at q
        exact (wipe_some q).1
      · obtain ⟨o, q, _⟩ := T.obj _ _ stg b hb
        exact (pin b hb o q).2
  exact codeAny_compStart_dict loop (T.self X.A 0 _ _ _ std loop)
theorem pe_dcx (hu : X.A.units + 8 < cLine) (hc : X.calm = true) (hN : X.N.Nodup) (hi : PI X tg src wi) (ok : BlkOk X.N X.env.scope scope own)
    (hg : ∀ (s : Shared) (H : Hp) (C : Addr) (cl : List (Str × Addr)) (fp : List Addr), PG (X.blk s H scope (compEnvC scope cl C X.env) fp) tg g)
    (hk : ∀ (s : Shared) (H : Hp) (C : Addr) (cl : List (Str × Addr)) (fp : List Addr), PE (X.blk s H scope (compEnvC scope cl C X.env) fp) kx tk)
    (hv : ∀ (s : Shared) (H : Hp) (C : Addr) (cl : List (Str × Addr)) (fp : List Addr), PE (X.blk s H scope (compEnvC scope cl C X.env) fp) vx tv) (hs : ∀ x, foldedSetIterable src X.env x = pure x := by intro _; rfl) :
    PE X (.DictComp kx vx [⟨tg, src, [], 0⟩] scope pos) (tDcX X.K wi g tk tv (own.map (·.2))) := by
  refine ⟨fun pins s σ H Q I h => ?_⟩
  rw [arm_eval_DictComp]
  refine dcx_core hu hc hN I hi ok hg hk hv hs h fun D C s' m H' I' q hn f => ⟨m, hn, fun h'' sb => ?_⟩
  obtain ⟨f0, f1, f2, f3, f4, f5⟩ := f
  exact ⟨.ref D, H', I'.turned (t' := s'.toks) (fun b o hb w => (sb.2 b hb).trans w) f0 f1 f3 f4 f5, rfl, q⟩
end
end Ev

namespace Ev
open PySem PySem.Spec PyProof.Rows L2 RZ
variable [Tabs]
/-! ## the same on data -/
def dcI (own : List Nat) (g : GF) (key val : EF) : List D → En → Sto → R (List (NestedKey × D))
  | [], _, st => .ok [] st
  | d :: r, en, st => match g d st (wipeE en own) with
    | none => .bad
    | some en1 => match key en1 st with
      | .ok kd st1 => match val en1 st1 with
        | .ok vd st2 => match dKey kd with
          | some k => (dcI own g key val r en st2).bind fun l st3 => .ok ((k, vd) :: l) st3
          | none => .bad
        | _ => .bad
      | _ => .bad
/-- keys that a new dict may have -/
def okKs (kk : List NestedKey) : Bool := !kk.isEmpty && (decide kk.Nodup && kk.all okKey)
def dicD (l : List (NestedKey × D)) : D := .dic (l.map fun kd => .inr kd.1) (l.map (·.2))
def dcF (own : List Nat) (g : GF) (key val : EF) (itf : IF) : EF := fun en st => (itf en st).bind fun it st1 => match it with
  | .items ds => if ds.length ≤ 100000 then (dcI own g key val ds en st1).bind fun l st2 => if okKs (l.map (·.1)) = true then .ok (dicD l) st2 else .bad else .bad
  | _ => .bad
theorem dcI_cons {own : List Nat} {g : GF} {key val : EF} {d : D} {r : List D} {en : En} {st : Sto} {l : List (NestedKey × D)} {st3 : Sto} (h : dcI own g key val (d :: r) en st = .ok l st3) :
    ∃ en1 kd st1 vd st2 k l', g d st (wipeE en own) = some en1 ∧ key en1 st = .ok kd st1 ∧ val en1 st1 = .ok vd st2 ∧ dKey kd = some k ∧ dcI own g key val r en st2 = .ok l' st3 ∧ l = (k, vd) :: l' := by
  unfold dcI at h
  cases h1 : g d st (wipeE en own) with
  | none => rw [h1] at h; cases h
  | some en1 =>
    rw [h1] at h
    simp only at h
    cases h2 : key en1 st with
    | bad => rw [h2] at h; cases h
    | ex c p s => rw [h2] at h; cases h
    | ok kd st1 =>
      rw [h2] at h
      simp only at h
      cases h3 : val en1 st1 with
      | bad => rw [h3] at h; cases h
      | ex c p s => rw [h3] at h; cases h
      | ok vd st2 =>
        rw [h3] at h
        simp only at h
        cases h4 : dKey kd with
        | none => rw [h4] at h; cases h
        | some k =>
          rw [h4] at h
          simp only at h
          cases h5 : dcI own g key val r en st2 with
          | bad => rw [h5] at h; cases h
          | ex c p s => rw [h5] at h; cases h
          | ok l' st4 =>
            rw [h5] at h
            cases h
            exact ⟨en1, kd, st1, vd, st2, k, l', rfl, h2, h3, h4, h5, rfl⟩
theorem dcI_len {own : List Nat} {g : GF} {key val : EF} {en : En} : ∀ {ds : List D} {st : Sto} {l : List (NestedKey × D)} {st3 : Sto}, dcI own g key val ds en st = .ok l st3 → l.length = ds.length
  | [], _, _, _, h => by cases h; rfl
  | d :: r, _, _, _, h => by
    obtain ⟨_, _, _, _, _, _, l', _, _, _, _, h5, rfl⟩ := dcI_cons h
    rw [List.length_cons, List.length_cons, dcI_len h5]
theorem dcI_nx {own : List Nat} {g : GF} {key val : EF} {en : En} : ∀ {ds : List D} {st : Sto} {c : Nat} {p : Pay} {s : Sto}, dcI own g key val ds en st = .ex c p s → False
  | [], _, _, _, _, h => by cases h
  | d :: r, st, c, p, s, h => by
    unfold dcI at h
    cases h1 : g d st (wipeE en own) with
    | none => rw [h1] at h; cases h
    | some en1 =>
      rw [h1] at h
      simp only at h
      cases h2 : key en1 st with
      | bad => rw [h2] at h; cases h
      | ex c p s => rw [h2] at h; cases h
      | ok kd st1 =>
        rw [h2] at h
        simp only at h
        cases h3 : val en1 st1 with
        | bad => rw [h3] at h; cases h
        | ex c p s => rw [h3] at h; cases h
        | ok vd st2 =>
          rw [h3] at h
          simp only at h
          cases h4 : dKey kd with
          | none => rw [h4] at h; cases h
          | some k =>
            rw [h4] at h
            simp only at h
            cases h5 : dcI own g key val r en st2 with
            | bad => rw [h5] at h; cases h
            | ex c p s => exact dcI_nx h5
            | ok l' st4 => rw [h5] at h; cases h
theorem TabH.noD {H : Hp} {P : Addr} {o : Obj} (h : TabH H P) (e : H P = some (dO P o)) : False := by
  obtain ⟨ps, q, _⟩ := h
  rw [e] at q
  cases q
/-- a dict that was being made stays from now on -/
theorem freeze_dct {K : PySem.W.Frag} {z z1 z2 : Z} {H H1 H2 : Hp} {st2 : Sto} {Q : VK} {D : Addr} {kk : List NestedKey} {xs : List V} {ds : List Ev.D} (e1 : Ext z H z1 H1) (nD : H1 D = none) (a : Ext z1 H1 z2 H2) (b : RelH K z2 H2 st2) (c : D ∉ z2.mu) (d : ¬ z2.fz D) (da : DctAt K z2 H2 D kk xs) (rs : Reps K z2 H2 xs ds) (hl : kk.length = xs.length) (ne : kk ≠ [])
    (ok : okD K z H Q (.dic (kk.map .inr) ds) st2) : Q (.ref D) H2 := by
  obtain ⟨o, ho⟩ := da.live
  have l : H2 D ≠ none := by rw [ho]; simp
  have x0 : Ex0 z2 H2 (z2.add D) H2 := ⟨fun _ _ q => q, fun _ q => ⟨.inl q, rfl⟩, fun _ _ _ => rfl⟩
  have b1 : Ext z1 H1 (z2.add D) H2 := ⟨⟨a.mu, fun x w => ⟨.inl (a.fz x w).1, (a.fz x w).2⟩, a.kd⟩, a.fr, a.nw, fun x w => w.elim (a.nf x) fun e => .inr (e ▸ nD), a.lv, a.tb⟩
  have b2 : RelH K (z2.add D) H2 st2 := ⟨b.len, b.nd, fun x hx w => w.elim (b.nfz x hx) fun e => c (e ▸ hx), fun x w => w.elim (b.fz x) fun e => e ▸ l, fun i x cl hi hc => (b.cells i x cl hi hc).ext0 x0 rfl, fun P hP => ⟨(b.tb P hP).1, (b.tb P hP).2.1, fun w => w.elim (b.tb P hP).2.2 fun e => TabH.noD (e ▸ (b.tb P hP).1) ho⟩, b.tbk, b.knd⟩
  exact ok _ (z2.add D) H2 (e1.trans b1) b2 (.dic ⟨.inr rfl, .inr ⟨kk, ne, rfl, hl, da.ext0 x0 rfl⟩⟩ (rs.ext0 x0))
theorem okKs_at {kk : List NestedKey} (h : okKs kk = true) : kk ≠ [] ∧ kk.Nodup ∧ ∀ k ∈ kk, okKey k = true := by
  unfold okKs at h
  simp only [Bool.and_eq_true, Bool.not_eq_true', List.isEmpty_eq_false_iff, decide_eq_true_eq, List.all_eq_true] at h
  exact ⟨h.1, h.2.1, h.2.2⟩
theorem vals_app {xs ys : List V} {us vs : List Value} (a : Vals xs us) (b : Vals ys vs) : Vals (xs ++ ys) (us ++ vs) := a.append b
section
variable {X : Cx} {xm : List Addr} {W : WX} {k : Nat} {kx vx tg src : Expr} {scope : Scope} {own : List (Str × Nat)} {pos : Pos} {key val : EF} {gf : GF} {itf : IF}
theorem dc_read {K : PySem.W.Frag} {vs : List Nat} (σ : L2.St) (H : Hp) (Q : VK) (q : TEf K xm W (dcF vs gf key val itf) σ H Q) : tDcX K (TIf K xm W itf) (TGf K vs gf) (TEf K xm W0 key) (TEf K xm W0 val) vs σ H Q := by
  obtain ⟨z, en, st, rh, re, h⟩ := q
  have h := wp_bind.mp h
  refine ⟨z, en, st, rh, re, wp_mono h (fun it st1 q J z1 H1 e1 r1 hJ D o0 sysD nD nil0 => ?_) fun _ _ _ q => q⟩
  have re1 := re.ext e1
  cases it with
  | cell n => exact q.elim
  | dyn f nx => exact q.elim
  | items ds =>
    have hJ : ItI K z1 H1 ds J := hJ
    by_cases hl0 : ¬ ds.length ≤ 100000
    · simp only [if_neg hl0] at q
      exact q.elim
    have hl := Decidable.not_not.mp hl0
    simp only [if_pos hl] at q
    obtain ⟨l, st3, hl3, hk, ok⟩ : ∃ l st3, dcI vs gf key val ds en st1 = .ok l st3 ∧ okKs (l.map (·.1)) = true ∧ okD K z H Q (dicD l) st3 := by
      cases hr : dcI vs gf key val ds en st1 with
      | bad => rw [hr] at q; exact q.elim
      | ex c p s => exact (dcI_nx hr).elim
      | ok l st3 =>
        rw [hr] at q
        simp only [bind_ok] at q
        split at q
        · exact ⟨l, st3, rfl, by assumption, q⟩
        · exact q.elim
    obtain ⟨ne, nd, okk⟩ := okKs_at hk
    have len := dcI_len hl3
    let Pv : List (NestedKey × Ev.D) → Z → Hp → Sto → Prop := fun acc z2 H2 st2 => Ext z1 H1 z2 H2 ∧ RelH K z2 H2 st2 ∧ D ∉ z2.mu ∧ ¬ z2.fz D ∧
      ∃ bs us o xs, H2 D = some (dO D o) ∧ IsDct o (acc.map (·.1)) bs us ∧ KeyAts K z2 H2 (bs.map V.ref) (acc.map (·.1)) ∧ Vals xs us ∧ Reps K z2 H2 xs (acc.map (·.2))
    have nD1 : D ∉ z1.mu := r1.nin nD
    have fD1 : ¬ z1.fz D := fun w => r1.fz D w nD
    have start : Pv [] z1 (upd H1 D (dO D o0)) st1 := ⟨ext_by r1 nD, r1.off fD1 nD1 (fun w => (r1.tb D w).1.live nD), nD1, fD1, [], [], o0, [], upd_same, nil0, .nil, .nil, .nil⟩
    have move : ∀ {acc z2 H2 st2 z3 H3 st3}, Pv acc z2 H2 st2 → Ext z2 H2 z3 H3 → RelH K z3 H3 st3 → Pv acc z3 H3 st3 := by
      rintro acc z2 H2 st2 z3 H3 st3 ⟨a, b, c, d, bs, us, o, xs, h1, h2, h3, h4, h5⟩ e r
      have lv : H2 D ≠ none := by rw [h1]; simp
      exact ⟨a.trans e, r, fun w => (e.nw D w).elim c lv, fun w => (e.nf D w).elim d lv, bs, us, o, xs, (e.fr D lv c (fun w => TabH.noD (b.tb D w).1 h1)).trans h1, h2, h3.ext0 e.toEx0, h4, h5.ext e⟩
    refine ⟨fun i m H2 => m = ds.length - i ∧ i ≤ ds.length ∧ ∃ z2 st2, Pv (l.take i) z2 H2 st2 ∧ dcI vs gf key val (ds.drop i) en st2 = .ok (l.drop i) st3, ⟨ds.length, rfl, Nat.zero_le _, z1, st1, start, hl3⟩, ?_⟩
    rintro i m H2 ⟨rfl, hi, z2, st2, pv, w⟩
    obtain ⟨js, jg⟩ := hJ z2 H2 st2 pv.1.toEx0 pv.2.1
    by_cases hlt : i < ds.length
    · have hd : ds[i]? = some ds[i] := List.getElem?_eq_getElem hlt
      obtain ⟨go, yl⟩ := jg i _ hd
      rw [List.drop_eq_getElem_cons hlt] at w
      obtain ⟨en1, kd, st4, vd, st5, k0, l', w1, w2, w3, w4, w5, w6⟩ := dcI_cons w
      have hlt' : i < l.length := by omega
      have li : l[i] = (k0, vd) ∧ l' = l.drop (i + 1) := by
        rw [List.drop_eq_getElem_cons hlt'] at w6
        injection w6 with a b
        exact ⟨a, b.symm⟩
      have tk : l.take (i + 1) = l.take i ++ [(k0, vd)] := by
        rw [List.take_add_one, List.getElem?_eq_getElem hlt', li.1]
        rfl
      have spl : l.map (·.1) = (l.take i).map (·.1) ++ k0 :: (l.drop (i + 1)).map (·.1) := by
        have : l = l.take i ++ (k0, vd) :: l.drop (i + 1) := by
          rw [← li.1, ← List.drop_eq_getElem_cons hlt', List.take_append_drop]
        have e2 := congrArg (List.map (·.1)) this
        rw [List.map_append, List.map_cons] at e2
        exact e2
      have nk : k0 ∉ (l.take i).map (·.1) := fun hm => by
        rw [spl] at nd
        exact (List.nodup_append.mp nd).2.2 k0 hm k0 List.mem_cons_self rfl
      have nd1 : ((l.take i).map (·.1)).Nodup := by
        rw [spl] at nd
        exact (List.nodup_append.mp nd).1
      have ok1 : ∀ q ∈ (l.take i).map (·.1), okKey q = true := fun q hq => okk q (by rw [spl]; exact List.mem_append_left _ hq)
      have ok0 : okKey k0 = true := okk k0 (by rw [spl]; exact List.mem_append_right _ List.mem_cons_self)
      refine .inr ⟨go, fun H' => ∃ z2 st2, Pv (l.take (i + 1)) z2 H' st2 ∧ dcI vs gf key val (ds.drop (i + 1)) en st2 = .ok (l.drop (i + 1)) st3, fun H' q => ⟨ds.length - (i + 1), by omega, rfl, hlt, q⟩, fun x H3 y => ?_⟩
      obtain ⟨z3, e3, r3, p3⟩ := yl x H3 y
      have pv3 := move pv e3 r3
      refine ⟨z3, wipeE en vs, st2, ds[i], en1, r3, ((re1.ext pv.1).ext e3).wipe vs, p3, w1, fun σ2 re2 hw => ⟨hw.trans (wipe_idem _ _), ?_⟩⟩
      refine seqE' (k := fun y' st' => y' = kd ∧ st' = st4) r3 re2 (by rw [w2]; exact ⟨rfl, rfl⟩) fun y' st6 v4 z4 H4 hb e4 r4 re4 p4 => ?_
      obtain ⟨rfl, rfl⟩ := hb
      refine seqE' (k := fun y' st' => y' = vd ∧ st' = st5) r4 re4 (by rw [w3]; exact ⟨rfl, rfl⟩) fun y' st7 v5 z5 H5 hb e5 r5 re5 p5 => ?_
      obtain ⟨rfl, rfl⟩ := hb
      obtain ⟨a, b, c, d, bs, us, o, xs, h1, h2, h3, h4, h5⟩ := move (move pv3 e4 r4) e5 r5
      have ky : KeyAt K z5 H5 v4 k0 := (p4.ext e5).key w4
      have kb : ∃ b0, v4 = V.ref b0 := by
        cases ky with
        | num i => cases ok0
        | tup t n r => exact ⟨_, rfl⟩
      obtain ⟨b0, rfl⟩ := kb
      refine ⟨z5, b0, o, (l.take i).map (·.1), bs, us, k0, rfl, nd1, ok1, by rw [List.length_map, List.length_take]; omega, h1, h2, h3, ky, ok0, fun u o' ru hd' => ?_⟩
      have x0 : Ex0 z5 H5 z5 (upd H5 D (dO D o')) := ex0_off d
      unfold putKs putBs putVs at hd'
      rw [if_neg nk, if_neg nk, if_neg nk] at hd'
      refine ⟨z5, st7, ⟨a.off nD d, b.off d c (fun w => TabH.noD (b.tb D w).1 h1), c, d, bs ++ [b0], us ++ [u], o', xs ++ [v5], upd_same, ?_, ?_, vals_app h4 (.cons ru .nil), ?_⟩, by rw [← li.2]; exact w5⟩
      · rw [tk, List.map_append]
        exact hd'
      · rw [tk, List.map_append, List.map_append]
        have : ∀ {vs : List V} {ks : List NestedKey}, KeyAts K z5 H5 vs ks → KeyAts K z5 H5 (vs ++ [V.ref b0]) (ks ++ [k0]) := by
          intro vs ks q
          induction vs generalizing ks with
          | nil =>
            cases q
            exact .cons ky .nil
          | cons v vs ih =>
            cases q with
            | cons r t => exact .cons r (ih t)
        exact (this h3).ext0 x0
      · rw [tk, List.map_append]
        exact (h5.append (.cons p5 .nil)).ext0 x0
    · have e : i = ds.length := by omega
      subst e
      rw [List.drop_length] at w
      have w : R.ok (α := List (NestedKey × Ev.D)) [] st2 = .ok (l.drop ds.length) st3 := w
      have e3 : st2 = st3 := by injection w
      rw [← len, List.take_length] at pv
      obtain ⟨a, b, c, d, bs, us, o, xs, h1, h2, h3, h4, h5⟩ := pv
      subst e3
      have lx : (l.map (·.1)).length = xs.length := by rw [h5.length, List.length_map, List.length_map]
      have ok : okD K z H Q (.dic ((l.map (·.1)).map .inr) (l.map (·.2))) st2 := by
        rw [List.map_map]
        exact ok
      exact .inl ⟨js _ (Nat.le_refl _), freeze_dct e1 nD a b c d ⟨sysD, by rw [List.length_map]; omega, nd, okk, bs, us, o, h1, h2, h3, h4⟩ h5 lx ne ok⟩
theorem sn_dc (own : List (Str × Nat)) (G : GX X xm W k) (hi : PI X tg src (TIf X.K xm W itf)) (ok : BlkOk X.N X.env.scope scope own)
    (hg : ∀ (s : Shared) (H : Hp) (C : Addr) (cl : List (Str × Addr)) (fp : List Addr), GX (X.blk s H scope (compEnvC scope cl C X.env) fp) xm W0 k → PG (X.blk s H scope (compEnvC scope cl C X.env) fp) tg (TGf X.K (own.map (·.2)) gf))
    (hk : ∀ (s : Shared) (H : Hp) (C : Addr) (cl : List (Str × Addr)) (fp : List Addr), GX (X.blk s H scope (compEnvC scope cl C X.env) fp) xm W0 k → PE (X.blk s H scope (compEnvC scope cl C X.env) fp) kx (TEf X.K xm W0 key))
    (hv : ∀ (s : Shared) (H : Hp) (C : Addr) (cl : List (Str × Addr)) (fp : List Addr), GX (X.blk s H scope (compEnvC scope cl C X.env) fp) xm W0 k → PE (X.blk s H scope (compEnvC scope cl C X.env) fp) vx (TEf X.K xm W0 val))
    (hs : ∀ x, foldedSetIterable src X.env x = pure x := by intro _; rfl) : PE X (.DictComp kx vx [⟨tg, src, [], 0⟩] scope pos) (TEf X.K xm W (dcF (own.map (·.2)) gf key val itf)) :=
  (pe_dcx (by have := room8 G; omega) G.cm G.nd hi ok (fun s H C cl fp => hg s H C cl fp (G.blk ..)) (fun s H C cl fp => hk s H C cl fp (G.blk ..)) (fun s H C cl fp => hv s H C cl fp (G.blk ..)) hs).imp dc_read
end
end Ev

namespace Ev
open PySem PySem.Spec PyProof.Rows L2 RZ
/-! ## dict(zip(..)), dict(a list of pairs) -/
section
variable {prog : Program} {w : World}
theorem pairArg_zipK (k1 k2 : SK) (z TI TO i1 i2 a b : Addr) (D : ZipApart z TI TO i1 i2 a b) (xs ys : Array Value) :
    PairArg prog w "zip" z [z, TI, TO, i1, i2, a, b] [z, TO, i1, i2] (min xs.size ys.size) (fun i k v => xs[i]? = some k ∧ ys[i]? = some v)
      (fun h => IsZip h z TI TO .none ∧ IsPair h TI (.ref i1) (.ref i2) ∧ (∃ x y, IsPair h TO x y) ∧ IsSI k1 h i1 a 0 ∧ IsSI k2 h i2 b 0 ∧ IsS k1 h a xs ∧ IsS k2 h b ys) where
  type := fun s ok => ⟨_, ok.1, rfl⟩
  notDict := by decide
  keep := fun h h' ok hk => by
    obtain ⟨hz, hTI, ⟨x, y, hTO⟩, h1, h2, hl1, hl2⟩ := ok
    exact ⟨hk _ _ hz, hk _ _ hTI, ⟨x, y, hk _ _ hTO⟩, h1.at fun o q => hk _ o q, h2.at fun o q => hk _ o q, hl1.at fun o q => hk _ o q, hl2.at fun o q => hk _ o q⟩
  there := fun h ok c hc => by
    obtain ⟨hz, hTI, ⟨x, y, hTO⟩, h1, h2, hl1, hl2⟩ := ok
    obtain ⟨o1, g1, _⟩ := h1.obj
    obtain ⟨o2, g2, _⟩ := h2.obj
    have live : ∀ {k : SK} {l : Addr} {it : Array Value}, IsS k h l it → ∃ o, h.get? l = some o := fun {k l it} q => by
      cases k with
      | t => obtain ⟨o, e, _⟩ := q; exact ⟨o, e⟩
      | l => obtain ⟨o, e, _⟩ := q; exact ⟨o, e⟩
      | d n ep => obtain ⟨_, es, ⟨o, e, _⟩, _⟩ := q; exact ⟨o, e⟩
    simp only [List.mem_cons, List.not_mem_nil, or_false] at hc
    rcases hc with q | q | q | q | q | q | q <;> subst q
    all_goals first | exact ⟨_, hz⟩ | exact ⟨_, hTI⟩ | exact ⟨_, hTO⟩ | exact ⟨_, g1⟩ | exact ⟨_, g2⟩ | exact live hl1 | exact live hl2
  sub := fun c hc => by simp only [List.mem_cons, List.not_mem_nil, or_false] at hc ⊢; rcases hc with q | q | q | q <;> simp [q]
  noKeys := fun A s Q E hA ok h => getAttrOr_miss_zip ok.1 rfl rfl rfl zip_no_keys (by decide +kernel) hA h
  iter := fun A s d Q E hA ok hd hdf h => by
    obtain ⟨hz, hTI, ⟨x, y, hTO⟩, h1, h2, hl1, hl2⟩ := ok
    simp only [List.mem_cons, List.not_mem_nil, or_false, not_or] at hdf
    obtain ⟨dz, dTI, dTO, di1, di2, dl1, dl2⟩ := hdf
    have SP := zipSep D D.l1i1 D.l2i2
    refine wpAny_pyIter_zip hz (h z [z, TO, i1, i2] (fun i h => ZstK k1 k2 h d a b z TI TO i1 i2 i ∧ IsS k1 h a xs ∧ IsS k2 h b ys) s.heap s.toks ?_ ⟨⟨hTI, h1, h2, ⟨_, hTO⟩, .inl ⟨hz, x, y, hTO⟩⟩, hl1, hl2⟩ (fun _ _ q => q) fun c hc => .inl hc)
    refine ⟨fun hm => ?_, fun i ha hb st hk => ?_, fun i sa Qa Ea hi st hds hQ => ?_, fun sa Qa Ea st hQ => ?_⟩
    · simp only [List.mem_cons, List.not_mem_nil, or_false] at hm
      rcases hm with q | q | q | q
      · exact dz q
      · exact dTO q
      · exact di1 q
      · exact di2 q
    · obtain ⟨⟨t1, t2, t3, ⟨o, t4⟩, t5⟩, p1, p2⟩ := st
      refine ⟨⟨hk _ _ (Ne.symm dTI) t1, t2.at fun o q => hk _ o (Ne.symm di1) q, t3.at fun o q => hk _ o (Ne.symm di2) q, ⟨o, hk _ _ (Ne.symm dTO) t4⟩, ?_⟩, p1.at fun o q => hk _ o (Ne.symm dl1) q, p2.at fun o q => hk _ o (Ne.symm dl2) q⟩
      rcases t5 with ⟨q, u, v, r⟩ | ⟨T, f, oT, q, r, r1, r2, r3, r4⟩
      · exact .inl ⟨hk _ _ (Ne.symm dz) q, u, v, hk _ _ (Ne.symm dTO) r⟩
      · exact .inr ⟨T, f, oT, hk _ _ (Ne.symm dz) q, hk _ _ r4 r, r1, r2, r3, r4⟩
    · obtain ⟨st, p1, p2⟩ := st
      have m1 : i < xs.size := Nat.lt_of_lt_of_le hi (Nat.min_le_left ..)
      have m2 : i < ys.size := Nat.lt_of_lt_of_le hi (Nat.min_le_right ..)
      have D1 := drawsS (prog := prog) (w := w) (A := A.in1) hA k1 i1 a D.l1i1 xs
      have D2 := drawsS (prog := prog) (w := w) (A := A.in1) hA k2 i2 b D.l2i2 ys
      have fresh : ∀ {c o}, sa.heap.get? c = some o → sa.heap.objs.size ≠ c := fun q => Nat.ne_of_gt (Heap.lt_size q)
      have n1 : sa.heap.objs.size ≠ i1 := let ⟨_, q, _⟩ := st.l1.obj; fresh q
      have n2 : sa.heap.objs.size ≠ i2 := let ⟨_, q, _⟩ := st.l2.obj; fresh q
      rcases st.zz with ⟨q, u, v, r⟩ | ⟨T, f, oT, q, r, r1, r2, r3, r4⟩
      · refine wpAny_pyNext_zipD2_item SP D1 D2 q st.ti r ⟨st.l1, p1⟩ ⟨st.l2, p2⟩ m1 m2 fun v1 v2 h' tk q1 q2 a1 a2 a3 a4 a5 _ hk => ?_
        exact hQ sa.heap.objs.size v1 v2 h' tk ⟨q1, q2⟩ (.inl ⟨_, a5, rfl, _, rfl⟩)
          ⟨⟨hk _ _ D.TIz D.TITO D.TIi1 D.TIi2 st.ti, a3.1, a4.1, ⟨_, a2⟩, .inr ⟨sa.heap.objs.size, false, _, a1, a5, fresh q, n1, n2, Nat.ne_of_gt hds⟩⟩, a3.2, a4.2⟩
          fun c o hc e => hk c o (fun w => hc (by simp [w])) (fun w => hc (by simp [w])) (fun w => hc (by simp [w])) (fun w => hc (by simp [w])) e
      · refine zh_next_item SP D1 D2 q r st.ti ⟨st.l1, p1⟩ ⟨st.l2, p2⟩ m1 m2 fun v1 v2 h' tk q1 q2 a1 a3 a4 a5 hk => ?_
        obtain ⟨oo, to⟩ := st.to
        exact hQ sa.heap.objs.size v1 v2 h' tk ⟨q1, q2⟩ (.inl ⟨_, a5, rfl, _, rfl⟩)
          ⟨⟨hk _ _ D.TIz D.TIi1 D.TIi2 st.ti, a3.1, a4.1, ⟨oo, hk _ _ D.TOz D.TOi1 D.TOi2 to⟩, .inr ⟨T, true, oT, a1, hk _ _ r1 r2 r3 r, r1, r2, r3, r4⟩⟩, a3.2, a4.2⟩
          fun c o hc e => hk c o (fun w => hc (by simp [w])) (fun w => hc (by simp [w])) (fun w => hc (by simp [w])) e
    · obtain ⟨st, p1, p2⟩ := st
      have fin : ∀ h' tk, (∀ c o, c ≠ z → c ≠ TO → c ≠ i1 → c ≠ i2 → sa.heap.get? c = some o → h'.get? c = some o) → Qa none { sa with heap := h', toks := tk } := fun h' tk hk =>
        hQ h' tk fun c o hc e => hk c o (fun w => hc (by simp [w])) (fun w => hc (by simp [w])) (fun w => hc (by simp [w])) (fun w => hc (by simp [w])) e
      have E2 : ∀ {n1 n2 : Nat} {P1 P2 : Nat → Value → Prop} {S1 S2 : Nat → Heap → Prop} (D1 : Draws prog w A.in1 i1 [i1, a] n1 P1 S1) (D2 : Draws prog w A.in1 i2 [i2, b] n2 P2 S2), S1 (min xs.size ys.size) sa.heap → S2 (min xs.size ys.size) sa.heap → min xs.size ys.size ≤ n1 → min xs.size ys.size ≤ n2 → (min xs.size ys.size = n1 ∨ min xs.size ys.size = n2) → wpAny (model prog w) A (pyNext (.ref z)) Qa Ea sa := by
        intro n1 n2 P1 P2 S1 S2 D1 D2 s1 s2 b1 b2 he
        rcases st.zz with ⟨q, u, v, r⟩ | ⟨T, f, oT, q, r, r1, r2, r3, r4⟩
        · exact wpAny_pyNext_zipD2_end SP D1 D2 q st.ti r s1 s2 b1 b2 he fun h' tk hk => fin h' tk hk
        · exact zh_next_end SP D1 D2 q r st.ti s1 s2 b1 b2 he fun h' tk hk => fin h' tk fun c o a1 _ a3 a4 => hk c o a1 a3 a4
      have hA1 : A.in1.handled = none := hA
      rcases Nat.le_total xs.size ys.size with le | le
      · have e : min xs.size ys.size = xs.size := Nat.min_eq_left le
        have D1 := drawsEnd (prog := prog) (w := w) (A := A.in1) hA1 k1 i1 a xs (min xs.size ys.size) (by omega)
        rcases Nat.lt_or_ge xs.size ys.size with lt | ge
        · exact E2 D1 (drawsS (prog := prog) (w := w) (A := A.in1) hA1 k2 i2 b D.l2i2 ys) ⟨⟨st.l1, p1⟩, rfl⟩ ⟨st.l2, p2⟩ (Nat.le_refl _) (by omega) (.inl rfl)
        · exact E2 D1 (drawsEnd (prog := prog) (w := w) (A := A.in1) hA1 k2 i2 b ys (min xs.size ys.size) (by omega)) ⟨⟨st.l1, p1⟩, rfl⟩ ⟨⟨st.l2, p2⟩, rfl⟩ (Nat.le_refl _) (Nat.le_refl _) (.inl rfl)
      · have e : min xs.size ys.size = ys.size := Nat.min_eq_right le
        have D2 := drawsEnd (prog := prog) (w := w) (A := A.in1) hA1 k2 i2 b ys (min xs.size ys.size) (by omega)
        exact E2 (drawsS (prog := prog) (w := w) (A := A.in1) hA1 k1 i1 a D.l1i1 xs) D2 ⟨st.l1, p1⟩ ⟨⟨st.l2, p2⟩, rfl⟩ (by omega) (Nat.le_refl _) (.inr rfl)
end
theorem storedAll_new {α : Type} [DecidableEq α] : ∀ (ps acc : List (α × Addr × Value)), ((acc ++ ps).map (·.1)).Nodup → storedAllH acc ps = acc ++ ps
  | [], acc, _ => (List.append_nil acc).symm
  | (k, b, u) :: ps, acc, h => by
    have hk : atKey acc k = none := by
      unfold atKey
      rw [Option.map_eq_none_iff, List.find?_eq_none]
      intro x hx
      rw [List.map_append] at h
      have := (List.nodup_append.mp h).2.2 x.1 (List.mem_map_of_mem hx) k (by simp)
      simpa using this
    show storedAllH (storedH acc k b u) ps = _
    rw [storedH_new hk, storedAll_new ps (acc ++ [(k, b, u)]) (by rw [List.append_assoc]; exact h), List.append_assoc]
    rfl
variable [Tabs]
/-- dict(pairs): a new dict -/
theorem call_dct {X : Cx} {pins : List (Addr × Obj)} {σ : L2.St} {z : Z} {H : Hp} {s : Shared} {Q : VK} {T : String} {a : Addr} {fp wr : List Addr} {n : Nat} {Rel : Nat → Value → Value → Prop} {OK : Heap → Prop} {kk : List NestedKey} {bs : List Addr} {us : List Value}
    (hu : X.A.units + 20 < cLine) (hc : X.calm = true) (I : Inv X pins σ H s) (P : PairArg X.prog X.w T a fp wr n Rel OK) (ok : OK s.heap) (hn : n = kk.length) (l1 : bs.length = kk.length) (l2 : us.length = kk.length) (hl : kk.length ≤ 1000000) (nd : kk.Nodup) (okk : ∀ k ∈ kk, okKey k = true)
    (ka : KeyAts X.K z H (bs.map V.ref) kk) (rel : ∀ i k v, Rel i k v → ∃ b, bs[i]? = some b ∧ k = .ref b ∧ us[i]? = some v ∧ i < kk.length) (fw : ∀ b ∈ wr, FpOk X pins H b)
    (q : ∀ D o, H D = none → (D == sysModules) = false → IsDct o kk bs us → Q (.ref D) (upd H D (dO D o))) : wpAny (model X.prog X.w) X.A (call (.type "dict") [.ref a]) (EP X pins σ Q) X.xe s := by
  have hs : sizeLine = 16777216 := sizeLine_eq
  have zl := zip3_len l1 l2
  have zget : ∀ (i : Nat) (k : NestedKey) (b : Addr) (u : Value), kk[i]? = some k → bs[i]? = some b → us[i]? = some u → (zip3 kk bs us)[i]? = some (k, b, u) := by
    have : ∀ (kk : List NestedKey) (bs : List Addr) (us : List Value) (i : Nat) (k : NestedKey) (b : Addr) (u : Value), kk[i]? = some k → bs[i]? = some b → us[i]? = some u → (zip3 kk bs us)[i]? = some (k, b, u) := by
      intro kk
      induction kk with
      | nil => intro bs us i k b u h1; simp at h1
      | cons k0 kk ih =>
        intro bs us i k b u h1 h2 h3
        cases bs with
        | nil => simp at h2
        | cons b0 bs =>
          cases us with
          | nil => simp at h3
          | cons u0 us =>
            cases i with
            | zero =>
              cases h1
              cases h2
              cases h3
              rfl
            | succ i => exact ih bs us i k b u h1 h2 h3
    exact this kk bs us
  have fD : FpOk X pins H s.heap.objs.size := I.fpOk (Nat.le_refl _) (I.hok.fresh (Nat.le_refl _))
  refine call_dict_pairsH (knd := nestedKind X.prog X.w) (ps := zip3 kk bs us) P (I.ok.hd hc) (show X.A.in1.in1.units + 8 < cLine from by show X.A.units + 1 + 1 + 8 < cLine; omega) ok ⟨zl.trans hn.symm, fun i k v r => ?_⟩ (fun h2 fr x hx => ?_) (by rw [hn]; omega) fun h' tk hm hk => ?_
  · obtain ⟨b, e1, e2, e3, e4⟩ := rel i k v r
    exact ⟨kk[i], b, zget i _ b v (List.getElem?_eq_getElem e4) e1 e3, e2⟩
  · have I2 : Inv X pins σ H { s with heap := h2 } := I.turnedL (t' := s.toks) (ch := s.heap.objs.size :: wr) (fun b o hb e => fr b o (fun w => hb (by simp [w])) (fun w => hb (by simp [w])) e) fun b hb => (List.mem_cons.mp hb).elim (fun e => e ▸ fD) (fw b)
    obtain ⟨i, a1, a2, a3⟩ := zip3_mem hx
    obtain ⟨v, hv, kv⟩ := KeyAts.get ka a1
    rw [List.getElem?_map, a2] at hv
    cases hv
    exact ⟨KeyAt.is I2 kv rfl, (okKey_plain (okk _ (List.mem_of_getElem? a1))).2⟩
  · rw [storedAll_new _ [] (by rw [List.nil_append, zip3_keys l1 l2]; exact nd), List.nil_append] at hm
    obtain ⟨o, ho, hd⟩ := isDct_of l1 l2 okk hm
    have I2 : Inv X pins σ H { s with heap := h', toks := tk } := I.turnedL (t' := tk) (ch := wr) (fun b o hb e => hk b o hb e) fw
    have sysD : (s.heap.objs.size == sysModules) = false := beq_eq_false_iff_ne.mpr (Nat.ne_of_gt I.big)
    refine ⟨.ref s.heap.objs.size, upd H s.heap.objs.size (dO s.heap.objs.size o), Inv_trackF I2 fD ⟨ho, ⟨_, ho⟩, fun _ h2 q kp => kp _ q⟩, rfl, q _ o fD.1 sysD hd⟩
end Ev

namespace Ev
open PySem PySem.Spec PyProof.Rows L2 RZ
/-! ## the same on data -/
def zipKD : List D → List D → Option (List (NestedKey × D))
  | d :: r, e :: s => (dKey d).bind fun k => (zipKD r s).map fun l => (k, e) :: l
  | _, _ => some []
def pairsK : List D → Option (List (NestedKey × D))
  | [] => some []
  | .tup [kd, vd] :: r => (dKey kd).bind fun k => (pairsK r).map fun l => (k, vd) :: l
  | _ :: _ => none
def okKV (l : List (NestedKey × D)) : Bool := okKs (l.map (·.1)) && decide (l.length ≤ 100000)
variable [Tabs]
def dictZF (fs : AF) : EF := fun en st => (fs en st).bind fun ds st1 => match ds with
  | [x, y] => match frzT x, frzT y with
    | some a, some b => match zipKD a b with
      | some l => if okKV l = true then .ok (dicD l) st1 else .bad
      | none => .bad
    | _, _ => .bad
  | _ => .bad
def dctFL : OL := fun ds st => match ds with
  | [d] => (asLF d st).bind fun es => (pairsK es).bind fun l => if okKV l = true then some (dicD l, st) else none
  | _ => none
def dctCL : OL := fun ds st => match ds with
  | [d] => (asLF d st).bind fun es => (pairsK es).bind fun l => if okKV l = true then some (.sref st.length, st ++ [.dct (l.map (·.1)) (l.map (·.2))]) else none
  | _ => none
section
variable {K : PySem.W.Frag} {z z1 : Z} {H H1 : Hp} {st : Sto} {Q : VK}
theorem key_ref {v : V} {k : NestedKey} (h : KeyAt K z H v k) (ok : okKey k = true) : ∃ b, v = V.ref b := by
  cases h with
  | num i => cases ok
  | tup _ _ _ => exact ⟨_, rfl⟩
theorem zipKD_at : ∀ {xs : List V} {a : List D} {ys : List V} {b : List D} {its its2 : List Value} {l : List (NestedKey × D)}, Reps K z H xs a → Vals xs its → Reps K z H ys b → Vals ys its2 → zipKD a b = some l → (∀ k ∈ l.map (·.1), okKey k = true) →
    ∃ (bs : List Addr) (us : List Value) (vs : List V), KeyAts K z H (bs.map V.ref) (l.map (·.1)) ∧ bs.length = l.length ∧ us.length = l.length ∧ Vals vs us ∧ Reps K z H vs (l.map (·.2)) ∧ l.length = min its.length its2.length ∧ (∀ (i : Nat) (c : Addr), bs[i]? = some c → its[i]? = some (Value.ref c)) ∧ ∀ (i : Nat) (u : Value), us[i]? = some u → its2[i]? = some u
  | _, _, _, _, _, _, l, .nil, .nil, _, _, h, _ => by
    have h : some [] = some l := by simpa [zipKD] using h
    cases h
    exact ⟨[], [], [], .nil, rfl, rfl, .nil, .nil, by simp, fun i c h => by simp at h, fun i c h => by simp at h⟩
  | _, _, _, _, _, _, l, .cons _ _, .cons _ _, .nil, .nil, h, _ => by
    have h : some [] = some l := by simpa [zipKD] using h
    cases h
    exact ⟨[], [], [], .nil, rfl, rfl, .nil, .nil, by simp, fun i c h => by simp at h, fun i c h => by simp at h⟩
  | _, _, _, _, _, _, l, .cons p t, .cons r1 v1, .cons p2 t2, .cons r2 v2, h, ok => by
    obtain ⟨k, h1, h⟩ := Option.bind_eq_some_iff.mp h
    obtain ⟨l', h2, rfl⟩ := Option.map_eq_some_iff.mp h
    obtain ⟨bs, us, vs, a1, a2, a3, a4, a5, a6, a7, a8⟩ := zipKD_at t v1 t2 v2 h2 fun q hq => ok q (List.mem_cons_of_mem _ hq)
    have ky := p.key h1
    obtain ⟨c, rfl⟩ := key_ref ky (ok k List.mem_cons_self)
    refine ⟨c :: bs, _ :: us, _ :: vs, .cons ky a1, by simp [a2], by simp [a3], .cons r2 a4, .cons p2 a5, by simp [a6], fun i d h => ?_, fun i u h => ?_⟩
    · cases i with
      | zero =>
        cases h
        exact congrArg some (show _ = Value.ref c from r1)
      | succ i => exact a7 i d h
    · cases i with
      | zero => exact h
      | succ i => exact a8 i u h
theorem okKV_at {l : List (NestedKey × D)} (h : okKV l = true) : (l.map (·.1)) ≠ [] ∧ (l.map (·.1)).Nodup ∧ (∀ k ∈ l.map (·.1), okKey k = true) ∧ l.length ≤ 100000 := by
  unfold okKV at h
  rw [Bool.and_eq_true, decide_eq_true_eq] at h
  obtain ⟨a, b, c⟩ := okKs_at h.1
  exact ⟨a, b, c, h.2⟩
/-- a new dict that stays; a new cell -/
theorem new_dicD {D : Addr} {o : Obj} {l : List (NestedKey × Ev.D)} {bs : List Addr} {us : List Value} {vs : List V} (rh : RelH K z H st) (nD : H D = none) (sysD : (D == sysModules) = false) (ok : okKV l = true) (hd : IsDct o (l.map (·.1)) bs us) (ka : KeyAts K z H (bs.map V.ref) (l.map (·.1))) (va : Vals vs us) (rs : Reps K z H vs (l.map (·.2)))
    (q : okD K z H Q (dicD l) st) : Q (.ref D) (upd H D (dO D o)) := by
  obtain ⟨ne, nd, okk, hl⟩ := okKV_at ok
  have x2 := ext_add (o := dO D o) rh nD
  refine q _ (z.add D) _ x2 (rh.add nD) ?_
  have : dicD l = .dic ((l.map (·.1)).map .inr) (l.map (·.2)) := by
    unfold dicD
    rw [List.map_map]
    rfl
  rw [this]
  exact .dic ⟨.inr rfl, .inr ⟨_, ne, rfl, by rw [rs.length, List.length_map, List.length_map], ⟨sysD, by rw [List.length_map]; omega, nd, okk, bs, us, o, upd_same, hd, ka.ext0 x2.toEx0, va⟩⟩⟩ (rs.ext x2)
theorem new_cell {D : Addr} {o : Obj} {kk : List NestedKey} {ds : List Ev.D} {bs : List Addr} {us : List Value} {vs : List V} (rh : RelH K z H st) (nD : H D = none) (sysD : (D == sysModules) = false) (hl : kk.length ≤ 1000000) (nd : kk.Nodup) (okk : ∀ k ∈ kk, okKey k = true) (hd : IsDct o kk bs us) (ka : KeyAts K z H (bs.map V.ref) kk) (va : Vals vs us) (rs : Reps K z H vs ds)
    (q : okD K z H Q (.sref st.length) (st ++ [.dct kk ds])) : Q (.ref D) (upd H D (dO D o)) := by
  have x2 := ext_push (b := true) (o := dO D o) rh nD
  refine q _ (z.pushK D true) _ x2 (rh.pushC (cl := .dct kk ds) nD ⟨vs, ⟨sysD, hl, nd, okk, bs, us, o, upd_same, hd, ka.ext0 x2.toEx0, va⟩, rs.ext x2⟩) (.sref ?_ ?_)
  · show (z.mu ++ [D])[st.length]? = some D
    rw [← rh.len, List.getElem?_append_right (Nat.le_refl _), Nat.sub_self]
    rfl
  · exact if_pos rh.len.symm
end
section
variable {X : Cx} {xm : List Addr} {W : WX} {k : Nat} {e e2 : Expr} {fs : AF} {p p2 pos pos2 : Pos}
theorem sn_dictZ (G : GX X xm W k) (hml : X.mg "dict" = none) (hmz : X.mg "zip" = none) (ha : PA X [e, e2] (TAf X.K xm W fs)) (hgl : Gl X "dict" := by rfl) (hgz : Gl X "zip" := by rfl)
    (hs : starEach [e, e2] X.env = (false, eval e X.env) :: starEach [e2] X.env := by rfl) (hpl : (backTo pos2 (starEach [e2] X.env)).any (·.1) = false := by rfl)
    (he : starEach [.Call (.Name "zip" p2) [e, e2] [] pos2] X.env = (false, eval (.Call (.Name "zip" p2) [e, e2] [] pos2) X.env) :: starEach [] X.env := by rfl) :
    PE X (.Call (.Name "dict" p) [.Call (.Name "zip" p2) [e, e2] [] pos2] [] pos) (TEf X.K xm W (dictZF fs)) := by
  refine ⟨fun pins s σ H Q I ⟨z, en, st, rh, re, h⟩ => ?_⟩
  have ta : TAf X.K xm W fs σ H fun vs H1 => ∃ z1 st1 x y a b l, Ext z H z1 H1 ∧ RelH X.K z1 H1 st1 ∧ Reps X.K z1 H1 vs [x, y] ∧ frzT x = some a ∧ frzT y = some b ∧ zipKD a b = some l ∧ okKV l = true ∧ okD X.K z1 H1 Q (dicD l) st1 := by
    refine seqA' rh re (wp_bind.mp h) fun d1 st1 v1 z1 H1 q1 e1 r1 re1 p1 => ?_
    match d1, p1, q1 with
    | [], _, q1 => exact q1.elim
    | [_], _, q1 => exact q1.elim
    | _ :: _ :: _ :: _, _, q1 => exact q1.elim
    | [x, y], p1, q1 =>
      simp only at q1
      cases hx : frzT x with
      | none =>
        rw [hx] at q1
        exact q1.elim
      | some a =>
        cases hy : frzT y with
        | none =>
          rw [hx, hy] at q1
          exact q1.elim
        | some b =>
          rw [hx, hy] at q1
          simp only at q1
          cases hz : zipKD a b with
          | none =>
            rw [hz] at q1
            exact q1.elim
          | some l =>
            rw [hz] at q1
            simp only at q1
            split at q1
            · rename_i hl
              exact ⟨z1, st1, x, y, a, b, l, e1, r1, p1, hx, hy, hz, hl, okD.ext e1 q1⟩
            · exact q1.elim
  refine wpAny_Call_Name_kw (ld_blt I hgl hml bt_dict ?_ (by decide) (by decide))
  refine PyProof.Rows.callWith_type1 ?_ he rfl
  rw [he]
  show wpAny _ _ (spliced ((false, eval (.Call (.Name "zip" p2) [e, e2] [] pos2) X.env) :: backTo pos (starEach [] X.env))) _ _ s
  refine Calls.spliced_cons ?_
  refine Call_ (ld_blt I hgz hmz PyProof.Rows.boot_zip (PyProof.Rows.callWith_type1 (thn (ha.run pos2 pins s σ H _ I ta) fun us s1 ⟨vs, H1, I1, r1, q1⟩ => ?_) hs hpl))
  obtain ⟨z1, st1, x, y, a, b, l, e1, rh1, rs, hx, hy, hzl, hl, ok⟩ := q1
  cases rs with
  | cons px rs =>
  cases rs with
  | cons py rs =>
  cases rs
  obtain ⟨k1, l1, xs, rfl, t1, rx⟩ := frzT_at px hx
  obtain ⟨k2, l2, ys, rfl, t2, ry⟩ := frzT_at py hy
  cases r1 with
  | cons ra r1 =>
  cases r1 with
  | cons rb r1 =>
  cases r1
  cases ra
  cases rb
  obtain ⟨its, rv, p1⟩ := Inv.seqK I1 (t1 z1 H1 Ext.refl.toEx0)
  obtain ⟨its2, rv2, p2⟩ := Inv.seqK I1 (t2 z1 H1 Ext.refl.toEx0)
  obtain ⟨ne, nd, okk, hl2⟩ := okKV_at hl
  obtain ⟨bs, us', ws, c1, c2, c3, c4, c5, c6, c7, c8⟩ := zipKD_at rx rv ry rv2 hzl okk
  have fr : ∀ c ∈ [s1.heap.objs.size + 4, s1.heap.objs.size + 2, s1.heap.objs.size + 3, s1.heap.objs.size, s1.heap.objs.size + 1], FpOk X pins H1 c := fun c hcm => by
    have hle : s1.heap.objs.size ≤ c := by
      simp only [List.mem_cons, List.not_mem_nil, or_false] at hcm
      omega
    exact I1.fpOk hle (I1.hok.fresh hle)
  refine call_zipM k1 k2 p1 p2 fun h' hz hTI hTO h1 h2 hsz hk => ?_
  refine Calls.spliced_nil ?_
  have I2 : Inv X pins σ H1 { s1 with heap := h' } := I1.kept (t' := s1.toks) hk
  have D := PySem.W.ktu_apart s1.heap.objs.size l1 l2 p1.lt p2.lt
  refine call_dct (z := z1) (room8 G) G.cm I2 (pairArg_zipK k1 k2 _ _ _ _ _ l1 l2 D its.toArray its2.toArray) ⟨hz, hTI, ⟨_, _, hTO⟩, h1, h2, p1.at (hk _), p2.at (hk _)⟩ (by simp [c6]) (by simp [c2]) (by simp [c3]) (by simp; omega) nd okk c1 (fun i kv v ⟨q1, q2⟩ => ?_) (fun c hc => fr c ?_) fun D o nD sysD hd => new_dicD rh1 nD sysD hl hd c1 c4 c5 ok
  · have i1 := (List.getElem?_eq_some_iff.mp (by simpa using q1 : its[i]? = some kv)).1
    have i2 := (List.getElem?_eq_some_iff.mp (by simpa using q2 : its2[i]? = some v)).1
    have il : i < l.length := by omega
    have gb : bs[i]? = some bs[i] := List.getElem?_eq_getElem (by omega)
    have gu : us'[i]? = some us'[i] := List.getElem?_eq_getElem (by omega)
    have w1 := c7 i _ gb
    have w2 := c8 i _ gu
    have q1 : its[i]? = some kv := by simpa using q1
    have q2 : its2[i]? = some v := by simpa using q2
    rw [q1] at w1
    rw [q2] at w2
    exact ⟨bs[i], gb, Option.some.inj w1, by rw [gu]; exact w2.symm, by simpa using il⟩
  · simp only [List.mem_cons, List.not_mem_nil, or_false] at hc ⊢
    rcases hc with q | q | q | q <;> simp [q]
end
section
variable {X : Cx} {pins : List (Addr × Obj)} {σ : L2.St} {z : Z} {H : Hp} {s : Shared}
theorem pairsK_at (I : Inv X pins σ H s) : ∀ {xs : List V} {es : List D} {its : List Value} {l : List (NestedKey × D)}, Reps X.K z H xs es → Vals xs its → pairsK es = some l → (∀ k ∈ l.map (·.1), okKey k = true) →
    ∃ (ts bs : List Addr) (us : List Value) (vs : List V), its = ts.map Value.ref ∧ ts.length = l.length ∧ KeyAts X.K z H (bs.map V.ref) (l.map (·.1)) ∧ bs.length = l.length ∧ us.length = l.length ∧ Vals vs us ∧ Reps X.K z H vs (l.map (·.2)) ∧
      ∀ (j : Nat) t b u, ts[j]? = some t → bs[j]? = some b → us[j]? = some u → PairAt s.heap t (.ref b) u
  | _, _, _, l, .nil, .nil, h, _ => by
    cases h
    exact ⟨[], [], [], [], rfl, rfl, .nil, rfl, rfl, .nil, .nil, fun j t b u h => by simp at h⟩
  | _, _, _, l, .cons (d := d) (ds := ds) p t, .cons r1 v1, h, ok => by
    obtain ⟨kd, vd, rfl⟩ : ∃ kd vd, d = .tup [kd, vd] := by
      unfold pairsK at h
      split at h
      · rename_i e; cases e
      · rename_i e; cases e; exact ⟨_, _, rfl⟩
      · cases h
    obtain ⟨k, h1, h⟩ := Option.bind_eq_some_iff.mp (show (dKey kd).bind (fun k => (pairsK ds).map fun l => (k, vd) :: l) = some l from h)
    obtain ⟨l', h2, rfl⟩ := Option.map_eq_some_iff.mp h
    obtain ⟨ts, bs, us, vs, a0, a1, a2, a3, a4, a5, a6, a7⟩ := pairsK_at I t v1 h2 fun q hq => ok q (List.mem_cons_of_mem _ hq)
    cases p with
    | @tup a ys _ tz rs =>
      obtain ⟨it2, rv, pt, _⟩ := I.tuple (show SqT X.K H a ys from tz.seq)
      cases rs with
      | cons q1 rs =>
        cases rs with
        | cons q2 rs =>
          cases rs
          cases rv with
          | @cons _ u1 _ _ w1 rv =>
            cases rv with
            | @cons _ u2 _ _ w2 rv =>
              cases rv
              have ky := q1.key h1
              obtain ⟨c, rfl⟩ := key_ref ky (ok k List.mem_cons_self)
              obtain rfl : u1 = Value.ref c := w1
              refine ⟨a :: ts, c :: bs, u2 :: us, _ :: vs, by rw [a0]; exact congrArg (· :: _) (show _ = Value.ref a from r1), by simp [a1], .cons ky a2, by simp [a3], by simp [a4], .cons w2 a5, .cons q2 a6, fun j t b u g1 g2 g3 => ?_⟩
              cases j with
              | zero =>
                cases g1
                cases g2
                cases g3
                exact .inl pt
              | succ j => exact a7 j t b u g1 g2 g3
end
section
variable {X : Cx}
/-- what a dict made of a list of pairs holds -/
theorem dctL_core (hu : X.A.units + 20 < cLine) (hc : X.calm = true) {pins : List (Addr × Obj)} {s : Shared} {σ : L2.St} {z : Z} {H : Hp} {xs : List V} {us : List Value} {Q : VK} {st : Sto} {d : D} {es : List D} {l : List (NestedKey × D)} (I : Inv X pins σ H s) (rv : Vals xs us) (rh : RelH X.K z H st) (ps : Reps X.K z H xs [d]) (h1 : asLF d st = some es) (h2 : pairsK es = some l) (ok : okKV l = true)
    (q : ∀ D o bs us vs, H D = none → (D == sysModules) = false → IsDct o (l.map (·.1)) bs us → KeyAts X.K z H (bs.map V.ref) (l.map (·.1)) → Vals vs us → Reps X.K z H vs (l.map (·.2)) → Q (.ref D) (upd H D (dO D o))) :
    wpAny (model X.prog X.w) X.A (call (.type "dict") us) (EP X pins σ Q) X.xe s := by
  obtain ⟨ne, nd, okk, hl2⟩ := okKV_at ok
  cases ps with
  | cons p0 ps =>
  cases ps
  cases rv with
  | cons r0 rv =>
  cases rv
  obtain ⟨a, ys, rfl, hs, rs⟩ := asLF_at rh p0 h1
  cases (show _ = Value.ref a from r0)
  obtain ⟨its, rv, pl, hz⟩ := I.list hs
  obtain ⟨ts, bs, us, vs, rfl, a1, a2, a3, a4, a5, a6, a7⟩ := pairsK_at I rs rv h2 okk
  let prs : List (Value × Value) := (bs.map Value.ref).zip us
  have lp : prs.length = l.length := by simp [prs, a3, a4]
  have get : ∀ (i : Nat) k v, prs[i]? = some (k, v) → ∃ b, bs[i]? = some b ∧ k = .ref b ∧ us[i]? = some v := fun i k v h => by
    obtain ⟨g1, g2⟩ := List.getElem?_zip_eq_some.mp h
    rw [List.getElem?_map, Option.map_eq_some_iff] at g1
    obtain ⟨b, g1, rfl⟩ := g1
    exact ⟨b, g1, rfl, g2⟩
  have pi : PairItems s.heap (ts.map Value.ref).toArray (fun j => (ts[j]?).getD 0) prs := by
    refine ⟨by simp [a1, lp], fun j k v h => ?_⟩
    obtain ⟨b, g1, rfl, g2⟩ := get j k v h
    have hj : j < ts.length := by
      have := (List.getElem?_eq_some_iff.mp g1).1
      omega
    have gt : ts[j]? = some ts[j] := List.getElem?_eq_getElem hj
    refine ⟨by simp [gt], ?_⟩
    show PairAt s.heap ((ts[j]?).getD 0) (.ref b) v
    rw [gt]
    exact a7 j _ b v gt g1 g2
  refine call_dct (z := z) hu hc I (PairArg.list a (ts.map Value.ref).toArray (fun j => (ts[j]?).getD 0) prs) ⟨pl, pi⟩ (by simp [lp]) (by simp [a3]) (by simp [a4]) (by simp; omega) nd okk a2 (fun i k v h => ?_) (fun c hc => nomatch hc) fun D o nD sysD hd => q D o bs us vs nD sysD hd a2 a5 a6
  obtain ⟨b, g1, g2, g3⟩ := get i k v h
  exact ⟨b, g1, g2, g3, by have := (List.getElem?_eq_some_iff.mp g1).1; simp; omega⟩
theorem cl_dctF (hu : X.A.units + 20 < cLine) (hc : X.calm = true) : CallR X (.type "dict") (RLf X.K dctFL) := by
  intro pins s σ H xs us Q I rv ⟨z, st, ds, d, st', rh, ps, e, q⟩
  obtain ⟨d0, rfl⟩ : ∃ d0, ds = [d0] := by
    match ds, e with
    | [d0], _ => exact ⟨d0, rfl⟩
  obtain ⟨es, h1, e⟩ := Option.bind_eq_some_iff.mp (show (asLF d0 st).bind _ = some (d, st') from e)
  obtain ⟨l, h2, e⟩ := Option.bind_eq_some_iff.mp e
  split at e
  · rename_i ok
    cases e
    exact dctL_core hu hc I rv rh ps h1 h2 ok fun D o bs us vs nD sysD hd ka va rs => new_dicD rh nD sysD ok hd ka va rs q
  · cases e
theorem cl_dctC (hu : X.A.units + 20 < cLine) (hc : X.calm = true) : CallR X (.type "dict") (RLf X.K dctCL) := by
  intro pins s σ H xs us Q I rv ⟨z, st, ds, d, st', rh, ps, e, q⟩
  obtain ⟨d0, rfl⟩ : ∃ d0, ds = [d0] := by
    match ds, e with
    | [d0], _ => exact ⟨d0, rfl⟩
  obtain ⟨es, h1, e⟩ := Option.bind_eq_some_iff.mp (show (asLF d0 st).bind _ = some (d, st') from e)
  obtain ⟨l, h2, e⟩ := Option.bind_eq_some_iff.mp e
  split at e
  · rename_i ok
    cases e
    obtain ⟨ne, nd, okk, hl2⟩ := okKV_at ok
    exact dctL_core hu hc I rv rh ps h1 h2 ok fun D o bs us vs nD sysD hd ka va rs => new_cell rh nD sysD (by rw [List.length_map]; omega) nd okk hd ka va rs q
  · cases e
end
end Ev

namespace Ev
open PySem PySem.Spec PyProof.Rows L2 RZ
/-! ## tuple(d.values()), d[k] = v -/
section
variable {prog : Program} {w : World} {A : Around} {E : Value → Shared → Prop} {s : Shared} {T : String} {r d : Addr} {n : Nat} {P : Nat → Value → Prop} {OK : Heap → Prop}
theorem code_tuple_src {Q₁ : Value → Shared → Prop} (S : PySem.W.KdlSrc prog w T r d n P OK) (hh : A.handled = none) (hok : OK s.heap) (hn : n ≤ sizeLine) (nt : (Value.type T == Value.type "tuple") = false)
    (h : ∀ (h' : Heap) (tk : Nat) (acc : Array Value), (∀ b o, s.heap.get? b = some o → h'.get? b = some o) → ItemsOf P acc n → Q₁ (.ref h'.objs.size) { s with heap := h'.push { cls := .type "tuple", data := .seq acc }, toks := tk }) :
    codeAny (model prog w) A (.call (.builtin "tuple.__new__") ⟨[.type "tuple", .ref r], []⟩) (wants Q₁ E) s := by
  refine codeAny_of_tree ?_
  show wpAny _ A.in1 (do checkBuiltinCall "tuple.__new__" ⟨[.type "tuple", .ref r], []⟩; again (.builtin "tuple.__new__" ⟨[.type "tuple", .ref r], []⟩)) _ _ s
  refine wpAny_bind (wpAny_of_eq (F.newCall_tuple_1 _) (wpAny_pure ⟨plainId_quiet F.plain_tuple_new _, codeAny_builtin F.entry_tuple_new ?_⟩))
  rw [Around.under_plainId F.plain_tuple_new _]
  have h_sub := sub_tuple_self
  have h_init := init_tuple_lookup
  have h_made := madeHere_tuple
  have h_ty : s.TypeIs (.ref r) T := S.type s hok
  have h_hd : A.in1.handled = none := hh
  wp_walk using wpAny_typeOf h_ty, PySem.W.kdu_collect (A := A.in1) S h_hd hok hn
  all_goals first | (intro h' tk acc hk hacc; skip) | skip
  show wpAny _ _ (Builtin.Tuple.tupleExact acc.toList.toArray >>= fun v => ret v) _ _ _
  unfold Builtin.Tuple.tupleExact
  refine wpAny_bind (wpAny_newObj_type (hd := by show acc.toList.toArray.size ≤ sizeLine; simp only [Array.toArray_toList]; rw [hacc.1]; exact hn) (wpAny_pure ?_))
  rw [show acc.toList.toArray = acc by simp]
  exact h h' tk acc hk hacc
theorem call_tuple_src {Q : Value → Shared → Prop} (S : PySem.W.KdlSrc prog w T r d n P OK) (hh : A.handled = none) (hok : OK s.heap) (hn : n ≤ sizeLine) (nt : (Value.type T == Value.type "tuple") = false)
    (hQ : ∀ (h' : Heap) (tk : Nat) (acc : Array Value), (∀ b o, s.heap.get? b = some o → h'.get? b = some o) → ItemsOf P acc n → Q (.ref h'.objs.size) { s with heap := h'.push { cls := .type "tuple", data := .seq acc }, toks := tk }) :
    wpAny (model prog w) A (call (.type "tuple") [.ref r]) Q E s := by
  refine callType_codes (Q₁ := fun obj s₁ => s₁.TypeIs obj "tuple" ∧ Q obj s₁) F.called_tuple (F.typeCall_tuple_1 _) F.entry_object_init
    (code_tuple_src (A := A.in1) S hh hok hn nt fun h' tk acc hk hacc => ⟨⟨_, Heap.get?_push_size _ rfl, rfl⟩, hQ h' tk acc hk hacc⟩) fun ob s₁ g => ?_
  exact ⟨g.1, F.args_object_init_2 ob _, object_init_meets F.called_tuple.init.lookup F.called_tuple.made (by decide) prog w A.in1 _ s₁ ⟨g.1, rfl, g.2⟩⟩
end
theorem ents_vals : ∀ {kk : List NestedKey} {bs : List Addr} {us : List Value}, bs.length = kk.length → us.length = kk.length → (ents kk bs us).map (fun e => e.val) = us
  | [], [], [], _, _ => rfl
  | k :: kk, b :: bs, u :: us, h1, h2 => by
    show u :: (ents kk bs us).map _ = _
    rw [ents_vals (by simpa using h1) (by simpa using h2)]
  | [], _ :: _, _, h1, _ => by simp at h1
  | [], [], _ :: _, _, h2 => by simp at h2
  | _ :: _, [], _, h1, _ => by simp at h1
  | _ :: _, _ :: _, [], _, h2 => by simp at h2
theorem itemsOf_list {es : Array DictEntry} {us : List Value} {acc : Array Value} (he : es.toList.map (fun e => e.val) = us) (h : ItemsOf (fun i v => ∃ hi : i < es.size, v = es[i].val) acc es.size) : acc.toList = us := by
  apply List.ext_getElem?
  intro j
  rw [← he, List.getElem?_map, Array.getElem?_toList, Array.getElem?_toList]
  by_cases hj : j < es.size
  · have hja : j < acc.size := by rw [h.1]; exact hj
    obtain ⟨_, e⟩ := h.2 j acc[j] (Array.getElem?_eq_getElem hja)
    rw [Array.getElem?_eq_getElem hja, Array.getElem?_eq_getElem hj, e]
    rfl
  · rw [Array.getElem?_eq_none (by rw [h.1]; omega), Array.getElem?_eq_none (by omega)]
    rfl
variable [Tabs]
def tupValsF (f : EF) : EF := fun en st => (f en st).bind fun d st1 => match asDct d st1 with
  | some kd => .ok (.tup kd.2) st1
  | none => .bad
section
variable {X : Cx} {xm : List Addr} {W : WX} {k : Nat} {e : Expr} {f : EF} {p pos apos cpos : Pos}
theorem sn_tupVals (G : GX X xm W k) (hm : X.mg "tuple" = none) (he : PE X e (TEf X.K xm W f)) (hg : Gl X "tuple" := by rfl) (hbase : attributeBase e "values" X.env (eval e X.env) = eval e X.env := by rfl) (hline : (apos.endLine == cpos.line) = true := by rfl)
    (hs : starEach [.Call (.Attribute e "values" apos) [] [] cpos] X.env = (false, eval (.Call (.Attribute e "values" apos) [] [] cpos) X.env) :: starEach [] X.env := by rfl) :
    PE X (.Call (.Name "tuple" p) [.Call (.Attribute e "values" apos) [] [] cpos] [] pos) (TEf X.K xm W (tupValsF f)) := by
  refine ⟨fun pins s σ H Q I ⟨z, en, st, rh, re, h⟩ => ?_⟩
  have t1 : TEf X.K xm W f σ H fun v1 H1 => ∃ z1 st1 a kk ds xs, v1 = .ref a ∧ DctAt X.K z1 H1 a kk xs ∧ Reps X.K z1 H1 xs ds ∧ RelH X.K z1 H1 st1 ∧ okD X.K z1 H1 Q (.tup ds) st1 := by
    refine seqE' rh re (wp_bind.mp h) fun d1 st1 v1 z1 H1 q1 e1 r1 re1 p1 => ?_
    cases hd : asDct d1 st1 with
    | none =>
      rw [hd] at q1
      exact q1.elim
    | some kd =>
      rw [hd] at q1
      obtain ⟨kk, ds⟩ := kd
      obtain ⟨a, xs, rfl, da, rs⟩ := asDct_at r1 p1 hd
      exact ⟨z1, st1, a, kk, ds, xs, rfl, da, rs, r1, okD.ext e1 q1⟩
  refine Call_ (ld_blt I hg hm boot_tuple (PyProof.Rows.callWith_type1 (args_cons (wpAny_Call_method (T := "dict") (id := "dict.values") hbase rfl hline F.plainAttrs_dict F.slot_dict_values F.type_dict_values (thn (he.run pins s σ H _ I t1) fun u s1 ⟨v1, H1, I1, r1, q1⟩ => ?_)) hs) hs rfl))
  obtain ⟨z1, st1, a, kk, ds, xs, rfl, ⟨sysA, hl, nd, okk, bs, us, o, ho, ⟨hx, l1, l2, es, ep, hdd, hes⟩, ka, va⟩, rs, rh1, q⟩ := q1
  obtain rfl : u = Value.ref a := r1
  have ga := Inv.dO_at I1 ho
  have raw : s1.heap.DictRaw a es ep := ⟨o, ga, hx, hdd⟩
  refine ⟨raw.typeIs, fun b e => ⟨o, by cases e; exact ga, hx.2.1⟩, ?_⟩
  have sz : es.size = kk.length := by
    have := congrArg List.length (hes)
    have l3 := congrArg List.length (ents_vals (kk := kk) l1 l2)
    rw [List.length_map] at l3
    rw [Array.length_toList] at this
    omega
  have hs0 : sizeLine = 16777216 := sizeLine_eq
  refine method_meetsIn F.slot_dict_values F.entry_dict_values rfl (PySem.evalArgs_none ⟨rfl, raw.typeIs, F.args_dict_values_1 _, _, meets_dict_values_raw a sysA, ⟨es, ep, raw⟩, ?_⟩)
  refine args_nil ?_
  have I2 : Inv X pins σ H1 { s1 with heap := s1.heap.push { cls := .type "dict_values", data := .fields #[.ref a] } } := I1.kept (t' := s1.toks) fun b o e => Heap.get?_push_of_some _ e
  refine call_tuple_src (s := { s1 with heap := s1.heap.push { cls := .type "dict_values", data := .fields #[.ref a] } }) (PySem.KdlSrc.rawValues (prog := X.prog) (w := X.w) (r := s1.heap.objs.size) (d := a) (es := es) (ep := ep)) (I1.ok.hd G.cm) ⟨⟨_, Heap.get?_push_size _ rfl, rfl, rfl⟩, raw.push _⟩ (by omega) (by decide) fun h' tk acc hk hi => ?_
  have I3 : Inv X pins σ H1 { s1 with heap := h', toks := tk } := I2.kept (t' := tk) hk
  have ea : acc.toList = us := itemsOf_list (by rw [hes, ents_vals l1 l2]) hi
  have nH : H1 h'.objs.size = none := I3.hok.fresh (Nat.le_refl _)
  have gT : (h'.push { cls := .type "tuple", data := .seq acc }).get? h'.objs.size = some (tuO us) := by
    rw [← ea, show tuO acc.toList = { cls := .type "tuple", data := .seq acc } by simp [tuO]]
    exact Heap.get?_push_size _ rfl
  have new : ObjOk X.prog X.w (upd H1 h'.objs.size (frT us xs)) (h'.push { cls := .type "tuple", data := .seq acc }) h'.objs.size (frT us xs) := frT_ok (by have := va.length; omega) va gT
  exact ⟨.ref h'.objs.size, upd H1 h'.objs.size (frT us xs), I3.laid (t' := tk) (fun c o e => Heap.get?_push_of_some _ e) (Nat.le_refl _) new, rfl, okD.newP q rh1 rs _ us nH⟩
end
/-! d[k] = v: a cell -/
def putD (kk : List NestedKey) (ds : List D) (k : NestedKey) (d : D) : Cell := .dct (putKs kk k) (putVs kk ds k d)
def dsubS (f o i : EF) : SF := fun en st => bindS (f en st) en fun d st1 => bindS (o en st1) en fun l st2 => bindS (i en st2) en fun j st3 => match l with
  | .sref n => match st3[n]? with
    | some (.dct kk ds) => match dKey j with
      | some k => if okKey k = true ∧ kk.length ≤ 100000 then .nx en (st3.set n (putD kk ds k d)) else .bad
      | none => .bad
    | _ => .bad
  | _ => .bad
def rSetD (K : PySem.W.Frag) : TSet := fun o i v H Q => ∃ (z : Z) (a b : Addr) (ob : Obj) (kk : List NestedKey) (bs : List Addr) (us : List Value) (k : NestedKey), o = .ref a ∧ i = .ref b ∧ kk.Nodup ∧ (∀ q ∈ kk, okKey q = true) ∧ kk.length ≤ 1000000 ∧ H a = some (dO a ob) ∧ IsDct ob kk bs us ∧
  KeyAts K z H (bs.map V.ref) kk ∧ KeyAt K z H (.ref b) k ∧ okKey k = true ∧ ∀ u o', RelV v u → IsDct o' (putKs kk k) (putBs kk bs k b) (putVs kk us k u) → Q (upd H a (dO a o'))
theorem set_dct {X : Cx} (hu : X.A.units + 20 < cLine) : PSet X (rSetD X.K) := by
  intro pins s σ H o i v ov iv u Q I ro ri rv ⟨z, a, b, ob, kk, bs, us, k, e1, e2, nd, okk, hl, ho, hd, ka, kb, ok1, q⟩
  subst e1
  subst e2
  obtain rfl : ov = Value.ref a := ro
  obtain rfl : iv = Value.ref b := ri
  have hm := dct_h I nd okk ho hd ka
  obtain ⟨hx, l1, l2, _⟩ := hd
  have hs : sizeLine = 16777216 := sizeLine_eq
  refine wpAny_setItem_heap (knd := nestedKind X.prog X.w) (hsz := by rw [zip3_len l1 l2]; omega) (show X.A.in1.units + 8 < cLine from by show X.A.units + 1 + 8 < cLine; omega) ⟨KeyAt.is I kb rfl, (okKey_plain ok1).2⟩ hm fun h' hm' sb => ?_
  rw [zip3_stored l1 l2] at hm'
  have lb : (putBs kk bs k b).length = (putKs kk k).length := by
    unfold putBs putKs
    split <;> simp [l1]
  obtain ⟨o', ho', hd'⟩ := isDct_of lb (putVs_length l2) (putKs_ok okk ok1) hm'
  exact ⟨_, dO_write I (by rw [ho]; exact True.intro) sb ho', q u o' rv hd'⟩
theorem putVs_rel {K : PySem.W.Frag} {z : Z} {H : Hp} {v : V} {d : D} (p : Rep K z H v d) {k : NestedKey} : ∀ {kk : List NestedKey} {xs : List V} {ds : List D}, Reps K z H xs ds → xs.length = kk.length → Reps K z H (updAt kk xs k v) (updAt kk ds k d)
  | [], _, _, .nil, _ => .nil
  | k' :: kk, _, _, .cons r t, h => by
    show Reps K z H ((if k' = k then v else _) :: updAt kk _ k v) ((if k' = k then d else _) :: updAt kk _ k d)
    refine .cons ?_ (putVs_rel p t (by simpa using h))
    split
    · exact p
    · exact r
  | _ :: _, _, _, .nil, h => by simp at h
  | [], _, _, .cons _ _, h => by simp at h
theorem putVs_vals {v : V} {u : Value} (p : RelV v u) {k : NestedKey} : ∀ {kk : List NestedKey} {xs : List V} {us : List Value}, Vals xs us → xs.length = kk.length → Vals (updAt kk xs k v) (updAt kk us k u)
  | [], _, _, .nil, _ => .nil
  | k' :: kk, _, _, .cons r t, h => by
    show Vals ((if k' = k then v else _) :: updAt kk _ k v) ((if k' = k then u else _) :: updAt kk _ k u)
    refine .cons ?_ (putVs_vals p t (by simpa using h))
    split
    · exact p
    · exact r
  | _ :: _, _, _, .nil, h => by simp at h
  | [], _, _, .cons _ _, h => by simp at h
section
variable {X : Cx} {xm : List Addr} {W : WX} {k : Nat} {a b e : Expr} {f g : EF} {pos : Pos}
theorem ss_dsub {spos : Pos} (G : GX X xm W k) (he : PE X e (TEf X.K xm W f)) (ho : PE X a (TEf X.K xm W g)) {h : EF} (hi : PE X b (TEf X.K xm W h)) (hs : swapsWithSole [.Subscript a b pos] e spos.line X.env = pure false := by rfl) (hw : swappedStores [.Subscript a b pos] e X.env = pure none := by rfl)
    (h1 : (assignEach [.Subscript a b pos] X.env).map (·.2) = [assign (.Subscript a b pos) X.env] := by rfl)
    (ha : ∀ v, assign (.Subscript a b pos) X.env v = (do
      let ov ← holding [v] (eval a X.env)
      let iv ← holding [v, ov] (eval b X.env)
      standAt pos
      holding [v, ov, iv] (setItem ov iv v)
      release [v, ov, iv] []) := by intro _; rfl) : PS X (.Assign [.Subscript a b pos] e spos) (TSf X.K xm W (dsubS f g h)) :=
  (ps_asg he (pg_sub ho hi (set_dct (room8 G)) ha) hs hw h1).imp fun E σ H ⟨z, en, st, rh, re, hh⟩ => by
    refine seqE' rh re (sat_bind re hh) fun d1 st1 v1 z1 H1 q1 e1 r1 re1 p1 => ?_
    refine seqE' r1 re1 (wpD_ext e1 (sat_bind re q1) fun _ _ q => q) fun d2 st2 v2 z2 H2 q2 e2 r2 re2 p2 => ?_
    refine seqE' r2 re2 (wpD_ext (e1.trans e2) (sat_bind re q2) fun _ _ q => q) fun d3 st3 v3 z3 H3 q3 e3 r3 re3 p3 => ?_
    cases d2 with
    | sref n =>
      cases p2 with
      | @sref p _ hn hk =>
        have hn3 := e3.mu _ _ hn
        have hk3 := (e3.kd _ _ hn).trans hk
        simp only at q3
        cases hc : st3[n]? with
        | none =>
          simp only [hc] at q3
          exact False.elim q3
        | some cl =>
          cases cl with
          | lst _ =>
            simp only [hc] at q3
            exact False.elim q3
          | set _ =>
            simp only [hc] at q3
            exact False.elim q3
          | dct kk ds =>
            simp only [hc] at q3
            obtain ⟨xs, hx, rs⟩ := r3.cell hn3 hc
            cases hj : dKey d3 with
            | none =>
              simp only [hj] at q3
              exact False.elim q3
            | some k =>
              simp only [hj] at q3
              by_cases cond : okKey k = true ∧ kk.length ≤ 100000
              · simp only [if_pos cond] at q3
                have rv := (p1.ext e2).ext e3
                have ky := p3.key hj
                obtain ⟨b0, rfl⟩ := key_ref ky cond.1
                obtain ⟨sysA, hl, nd, okk, bs, us, o, hO, hd, ka, va⟩ := hx
                refine ⟨z3, p, b0, o, kk, bs, us, k, rfl, rfl, nd, okk, hl, hO, hd, ka, ky, cond.1, fun u o' ru hd' => ?_⟩
                have e4 := ext_write (o := dO p o') r3 hn3
                have lx : xs.length = kk.length := by rw [va.length]; exact hd.2.2.1
                refine q3 σ z3 _ (((e1.trans e2).trans e3).trans e4) (r3.writeC (cl := putD kk ds k d1) hn3 hk3 ⟨putVs kk xs k v1, ⟨sysA, ?_, putKs_nodup nd, putKs_ok okk cond.1, putBs kk bs k b0, putVs kk us k u, o', upd_same, hd', (putBs_at (D := p) (o' := o') ka ky).ext0 e4.toEx0, ?_⟩, ?_⟩) (re3.ext e4)
                · unfold putKs
                  split
                  · exact hl
                  · rw [List.length_append]
                    have := cond.2
                    simp
                    omega
                · unfold putVs
                  split
                  · exact putVs_vals ru va lx
                  · exact vals_app va (.cons ru .nil)
                · refine Reps.ext e4 ?_
                  unfold putVs
                  split
                  · exact putVs_rel rv rs lx
                  · exact rs.append (.cons rv .nil)
              · simp only [if_neg cond] at q3
                exact False.elim q3
    | _ => exact False.elim q3
end
end Ev

namespace Ev
open PySem PySem.Spec PyProof.Rows L2 RZ
variable [Tabs]
section
variable {X : Cx}
/-! xs.remove(y), any data; min of a list of ints -/
def remM : OM := fun a ds st => match a, ds with
  | .ref n, [d] => match st[n]? with
    | some (.lst es) => match mapO (toP 15 st) es, toP 16 st d with
      | some ps, some q => if SeqAt.shaped (.list ps) && SeqAt.shaped q then (idxO st q ps 0).map fun j => (.non, st.set n (.lst (es.eraseIdx j))) else none
      | _, _ => none
    | _ => none
  | _, _ => none
theorem Reps.eraseIdx {K : PySem.W.Frag} {z : Z} {H : Hp} {vs : List V} {ds : List Ev.D} (r : Reps K z H vs ds) (j : Nat) : Reps K z H (vs.eraseIdx j) (ds.eraseIdx j) := by
  rw [List.eraseIdx_eq_take_drop_succ, List.eraseIdx_eq_take_drop_succ]
  exact (r.take _).append (r.drop _)
theorem mr_remove {k : Nat} (hr : Room k X.A) : MtR X "list.remove" (RMf X.K remM) := by
  intro pins s σ H x xs v us Q I rx rv ⟨z, st, da, ds, d, st', rh, px, ps, e, q⟩
  unfold remM at e
  split at e
  · rename_i n y
    cases px with
    | @ref a _ hn hk =>
    cases ps with
    | cons p1 ps =>
    cases ps
    split at e
    · rename_i es hc
      split at e
      · rename_i l r h1 h2
        split at e
        · rename_i hs
          rw [Bool.and_eq_true] at hs
          obtain ⟨j, hj, e⟩ := Option.map_eq_some_iff.mp e
          cases e
          obtain ⟨i, zz, e1, e2, e3, e4⟩ := idxO_at hj
          have e1 : j = i := by omega
          subst e1
          obtain ⟨xs, hx, rs⟩ := rh.cell hn hc
          have da := mapO_dp (fun v d p => toP_dp rh 15 v d p) rs h1
          have dy := toP_dp rh 16 _ _ _ p1 h2
          cases rx
          obtain ⟨u, rfl, ru⟩ := rv.one
          obtain ⟨bs, r1⟩ := Dp.reads I _ _ u dy ru
          obtain ⟨sz, its, n', rvs, hl, ho⟩ := I.lstM hx
          have hxs : PyData.canLayAll0 l = true := SeqAt.canLay_of_shaped hs.1
          have hroom : X.A.units + 1 + min (PyData.depthAll l) r.depth < cLine := room_in_shaped hs.2 (by have := hr.un; omega)
          obtain ⟨as, h4⟩ := Dp.readsAll I _ _ its da rvs
          have hn' : its.length = l.length := SeqAt.ReadsAll.length l its as h4
          have hmap : its.map (SeqAt.readOf s.heap) = l := SeqAt.readsAll_map l its as hxs h4
          have hsl := sizeLine_eq
          obtain ⟨hjd, _⟩ := List.getElem?_eq_some_iff.mp e2
          have hj' : j < its.toArray.size := by rw [List.size_toArray]; omega
          have at_ : ∀ (m : Nat) (hm : m < its.toArray.size) (z' : PyData), l[m]? = some z' → SeqAt.readOf s.heap its.toArray[m] = z' := by
            intro m hm z' hz'
            have hml : m < its.length := by simpa using hm
            rw [← hmap, List.getElem?_map, List.getElem?_eq_getElem hml] at hz'
            have e1 : SeqAt.readOf s.heap its[m] = z' := Option.some.inj (show some (SeqAt.readOf s.heap its[m]) = some z' from hz')
            simpa using e1
          refine call_meets PySem.F.slot_list_remove ⟨_, ho, rfl⟩ PySem.F.entry_list_remove (PySem.F.args_list_remove_2 _ _)
            (SeqAt.list_removeAt _ its.toArray n' _ _ u (fun u => PyData.eqv (SeqAt.readOf s.heap u) r) j hj' ?_ ?_ (by rw [List.size_toArray]; omega)) ⟨ho, SeqAt.items_eqAt (vs := its.toArray) (show ReadsAll s.heap its.toArray.toList l as from h4) r1 hxs (SeqAt.canLay_of_shaped hs.2) hroom, ?_⟩
          · show PyData.eqv (SeqAt.readOf s.heap its.toArray[j]) r = true
            rw [at_ j hj' zz e2]
            exact e3
          · intro m hm hmj
            have hz' : l[m]? = some l[m] := List.getElem?_eq_getElem (by omega)
            show PyData.eqv (SeqAt.readOf s.heap its.toArray[m]) r = false
            rw [at_ m hm _ hz']
            exact e4 m _ hmj hz'
          · refine ⟨.non, _, I.lset (its' := its.eraseIdx j) hx ho ?_ (rvs.eraseIdx j) ?_, rfl, okD.write q rh hn hk (Reps.eraseIdx rs j) .non⟩
            · show its.toArray.eraseIdxIfInBounds j = (its.eraseIdx j).toArray
              rw [List.eraseIdxIfInBounds_toArray]
            · have := len_erase xs j
              omega
        · cases e
      · cases e
    · cases e
  · cases e
def minLL : OL := fun ds st => match ds with
  | [d] => (asLF d st).bind fun es => (intsO es).bind fun is => match is with
    | i :: r => some (.int (r.foldl min i), st)
    | [] => none
  | _ => none
theorem foldl_min : ∀ (r : List Int) (i : Int), r.foldl min i ∈ i :: r ∧ ∀ y ∈ i :: r, r.foldl min i ≤ y
  | [], i => ⟨List.mem_singleton.mpr rfl, fun y hy => by rw [List.mem_singleton.mp hy]; exact Int.le_refl _⟩
  | j :: r, i => by
    obtain ⟨h1, h2⟩ := foldl_min r (min i j)
    have e : (j :: r).foldl min i = r.foldl min (min i j) := rfl
    rw [e]
    have h3 := h2 _ List.mem_cons_self
    refine ⟨?_, fun y hy => ?_⟩
    · rcases List.mem_cons.mp h1 with q | q
      · rw [q]
        rcases Int.le_total i j with w | w
        · rw [Int.min_eq_left w]
          exact List.mem_cons_self
        · rw [Int.min_eq_right w]
          exact List.mem_cons_of_mem _ List.mem_cons_self
      · exact List.mem_cons_of_mem _ (List.mem_cons_of_mem _ q)
    · rcases List.mem_cons.mp hy with rfl | hy
      · omega
      · rcases List.mem_cons.mp hy with rfl | hy
        · omega
        · exact h2 y (List.mem_cons_of_mem _ hy)
theorem cl_minL (hc : X.calm = true) : CallR X (.builtin "min") (RLf X.K minLL) := by
  intro pins s σ H xs us Q I rv ⟨z, st, ds, d, st', rh, ps, e, q⟩
  unfold minLL at e
  split at e
  · rename_i d0
    obtain ⟨es, h1, e⟩ := Option.bind_eq_some_iff.mp e
    obtain ⟨is, h2, e⟩ := Option.bind_eq_some_iff.mp e
    split at e
    · rename_i i r
      cases e
      cases ps with
      | cons p0 ps =>
      cases ps
      obtain ⟨a, ys, rfl, hs, rs⟩ := asLF_at rh p0 h1
      rw [ints_at rs h2] at hs
      refine cr_min hc pins s σ H _ us Q I rv ⟨a, i :: r, rfl, hs, Nat.succ_pos _, fun m hm hl => ?_⟩
      obtain ⟨q1, q2⟩ := foldl_min r i
      have := hl _ q1
      have := q2 _ hm
      have : m = r.foldl min i := by omega
      rw [this]
      exact okD.here q rh (.int _)
    · cases e
  · cases e
end
end Ev

namespace Ev
open PySem PySem.Spec PyProof.Rows L2 RZ
/-! sorted(a tuple of tuples) -/
variable [Tabs]
section
variable {prog : Program} {w : World} {A : Around} {E : Value → Shared → Prop} {s : Shared}
theorem collect_tup {a : Addr} {vs : List Value} {o : Obj} {n : Nat} {Q : List Value → Shared → Prop} (ho : s.heap.get? a = some o) (hc : o.cls = .type "tuple") (hd : o.data = .seq vs.toArray n)
    (h : Q vs { s with heap := (s.heap.push (seqObj "list" #[] 0)).update s.heap.objs.size (Obj.mapSeq (· ++ vs.toArray)) }) (hsz : vs.length ≤ sizeLine) :
    wpAny (model prog w) A (collect (.ref a)) Q E s := by
  unfold collect
  refine wpAny_bind (wpAny_runValue (codeAny_builtin entry_proto_collect' ?_))
  show wpAny _ _ (newList [] >>= fun l => again (.builtin "list.__iadd__" ⟨[l, .ref a], []⟩)) _ _ s
  refine wpAny_bind (wpAny_newList (wpAny_pure ⟨Code.quiet_builtin _ (by decide +kernel), codeAny_builtin entry_list_iadd' ?_⟩))
  show wpAny _ _ (Builtin.List.listExtendWith (.ref s.heap.objs.size) (.ref a) (.ref s.heap.objs.size)) _ _ { s with heap := s.heap.push (seqObj "list" #[] 0) }
  unfold Builtin.List.listExtendWith
  have up : (s.heap.push (seqObj "list" #[] 0)).get? a = some o := Heap.get?_push_of_some _ ho
  have nw : (s.heap.push (seqObj "list" #[] 0)).get? s.heap.objs.size = some (seqObj "list" #[] 0) := Heap.get?_push_size _ rfl
  refine wpAny_bind (wpAny_typeOf (T := "tuple") ⟨o, up, hc⟩ ?_)
  have ht : (Value.type "tuple" == Value.type "tuple") = true := rfl
  rw [if_pos (by rw [ht]; simp)]
  refine wpAny_bind (listItems_at up hd ?_)
  refine wpAny_bind (listItems_at (xs := #[]) (n := 0) nw rfl ?_)
  rw [if_neg (by simp)]
  refine wpAny_bind (listUpdate_at (xs := #[]) (n := 0) nw rfl ?_ (Nat.zero_le _) (by show (#[] ++ vs.toArray).size ≤ sizeLine + 1; simp only [Array.size_append, List.size_toArray, List.length_nil]; omega))
  refine wpAny_pure (wpAny_bind (wpAny_load (get?_update_seq nw _) ?_))
  show wpAny _ _ (pure ((#[] : Array Value) ++ vs.toArray).toList) Q E _
  have e : ((#[] : Array Value) ++ vs.toArray).toList = vs := by simp
  rw [e]
  exact wpAny_pure h
open PySem.W PySem.SeqAt

theorem sorted_ordT {a : Addr} {o : Obj} {n : Nat} {vs : List Value} {ltv : Value → Value → Bool} {Q : Value → Shared → Prop} (O : SrtO.Swo ltv) (ho : s.heap.get? a = some o) (hc : o.cls = .type "tuple") (hd : o.data = .seq vs.toArray n) (hz : vs.length ≤ sizeLine)
    (hS : 2 ≤ vs.length → ∀ (h₁ : Heap) (a : Addr), h₁.get? a = some (seqObj "list" vs.toArray 0) → (∀ b o, s.heap.get? b = some o → b ≠ a ∧ h₁.get? b = some o) → SrtO.SortableO prog w A.in1.in1 { s with heap := h₁ } a vs ltv)
    (h : ∀ out : List Value, SrtO.Srtd ltv out → SrtO.Stb ltv out vs → Q (.ref (s.heap.objs.size + 1)) { s with heap := sortedAll s.heap vs out.toArray }) :
    wpAny (model prog w) A (call (.builtin "sorted") [.ref a]) Q E s := by
  refine Calls.call_function_entry kind_sorted plain_sorted entry_sorted (args_sorted1 _) ?_
  unfold Builtin.«sorted»
  refine wpAny_bind (m := checkCount "sorted" 1 1 _) (wpAny_pure (wpAny_bind (collect_tup ho hc hd (wpAny_bind (wpAny_newList ?_ hz)) hz)))
  have up : ∀ {b o}, s.heap.get? b = some o → ((s.heap.push (seqObj "list" #[] 0)).update s.heap.objs.size (Obj.mapSeq (· ++ vs.toArray))).get? b = some o := fun {b o} q => by
    rw [Heap.get?_update_ne _ _ _ _ (Nat.ne_of_lt (Heap.lt_size q))]
    exact Heap.get?_push_of_some _ q
  have sz : ((s.heap.push (seqObj "list" #[] 0)).update s.heap.objs.size (Obj.mapSeq (· ++ vs.toArray))).objs.size = s.heap.objs.size + 1 := by rw [Heap.size_update, size_push']
  have at1 : (((s.heap.push (seqObj "list" #[] 0)).update s.heap.objs.size (Obj.mapSeq (· ++ vs.toArray))).push (seqObj "list" vs.toArray 0)).get? (s.heap.objs.size + 1) = some (seqObj "list" vs.toArray 0) := by
    rw [← sz]
    exact Heap.get?_push_size _ rfl
  show wpAny _ _ _ _ _ { s with heap := ((s.heap.push (seqObj "list" #[] 0)).update s.heap.objs.size (Obj.mapSeq (· ++ vs.toArray))).push (seqObj "list" vs.toArray 0) }
  rw [sz]
  refine wpAny_bind (wpAny_holding (wpAny_call_entry slot_list_sort ⟨_, at1, rfl⟩ entry_list_sort (SrtO.list_sort_ord O at1 hz (fun h2 => hS h2 _ _ at1 fun b o q => ⟨Nat.ne_of_lt (Nat.lt_succ_of_lt (Heap.lt_size q)), Heap.get?_push_of_some _ (up q)⟩) fun out hs hb => ⟨_, rfl, ?_⟩) (args_list_sort _)))
  exact wpAny_pure ⟨_, rfl, h out hs hb⟩
theorem sorted_tupsT {l : Addr} {o : Obj} {n : Nat} {vs : List Value} {f : Value → PyData} {Q : Value → Shared → Prop} (ho : s.heap.get? l = some o) (hc : o.cls = .type "tuple") (hdt : o.data = .seq vs.toArray n) (hz : vs.length ≤ sizeLine) (hr : ∀ v ∈ vs, ∃ as, Reads s.heap v (f v) as) (ht : ∀ v ∈ vs, ∃ i r, f v = .tuple (.int i :: r)) (ha : ∀ v ∈ vs, ∀ u ∈ vs, alike (f v) (f u) = true) (hd : ∀ v ∈ vs, A.units + 2 + (f v).depth < cLine)
    (h : ∀ (h' : Heap) (d : Addr) (out : List Value), SrtO.Srtd (fun v u => kLt (keyToks (f v)) (keyToks (f u))) out → out.Perm vs → (∀ b o, s.heap.get? b = some o → h'.get? b = some o) → s.heap.objs.size ≤ d → (∃ n, h'.get? d = some (seqObj "list" out.toArray n)) → Q (.ref d) { s with heap := h' }) :
    wpAny (model prog w) A (call (.builtin "sorted") [.ref l]) Q E s := by
  refine sorted_ordT (ltv := fun v u => kLt (keyToks (f v)) (keyToks (f u))) ⟨fun x y h => kLt_asym h, fun x y z h1 h2 => kLe_tr h1 h2⟩ ho hc hdt hz (fun h2 h₁ a hat kk => ?_) fun out hs hb => ?_
  · intro h' keep
    have kp : ∀ b o, s.heap.get? b = some o → h'.get? b = some o := fun b o e => keep b o (kk b o e).1 (kk b o e).2
    have hr' : ∀ v ∈ vs, ∃ as, Reads h' v (f v) as := fun v hv => let ⟨as, r⟩ := hr v hv; ⟨as, reads_keep kp r⟩
    refine ⟨tuples' true, fun Q E hq => ?_, tups_cmp (s := { s with heap := h' }) hr' ht ha fun v hv => ?_⟩
    · obtain ⟨fs, t1, t2, t3⟩ := firsts_ints hr' ht
      refine kat_kind (s := { s with heap := h' }) (T := .type "int") t1 (by omega) (fun g hg => ?_) (by rfl) ?_
      · obtain ⟨x, t, rfl⟩ := t3 g hg
        exact PySem.W.Looks.now
      · have e : (Value.type "int" != Value.type "tuple") = true := by first | decide +kernel | rfl | decide
        rw [e]
        exact hq
    · have := hd v hv
      show A.units + 1 + 1 + _ < _
      omega
  · exact h _ _ out hs hb.perm (fun b o e => PyProof.Rows.sortedAll_old e) (Nat.le_succ _) (PyProof.Rows.sortedAll_at s.heap vs out.toArray)
end
section
variable {X : Cx}
def sortUL : OL := fun ds st => match ds with
  | [.tup es] => (sortDs es st).bind fun rs => some (.lst rs, st)
  | _ => none
open PySem.W PySem.SeqAt in
theorem cl_sortU {k : Nat} (hr : Room k X.A) : CallR X (.builtin "sorted") (RLf X.K sortUL) := by
  intro pins s σ H xs us Q I rv ⟨z, st, ds, d, st', rh, ps, e, q⟩
  unfold sortUL at e
  split at e
  · rename_i es
    obtain ⟨rs, h2, e⟩ := Option.bind_eq_some_iff.mp e
    cases e
    obtain ⟨pl, h3, h2⟩ := Option.bind_eq_some_iff.mp (show (mapO (toP 16 st) es).bind _ = some rs from h2)
    split at h2
    · rename_i hc
      simp only [Bool.and_eq_true] at hc
      obtain ⟨⟨c1, c2⟩, c3⟩ := hc
      cases ps with
      | cons p0 ps =>
      cases ps
      obtain ⟨a, ys, rfl, -, rp, hs⟩ := seq_at rh p0 (.inl rfl)
      have hs := hs rfl
      rw [Vals.ref1 rv]
      have dp := mapO_dp (fun v d p => toP_dp rh 16 v d p) rp h3
      obtain ⟨z1, z2, z3⟩ := zips_mem rp dp
      have tu : ∀ p ∈ pl, (∃ i r, p = .tuple (.int i :: r)) ∧ SeqAt.shaped p = true := fun p hp => by
        have := List.all_eq_true.mp c1 p hp
        rw [Bool.and_eq_true] at this
        exact ⟨tupI_is this.1, this.2⟩
      have al : ∀ p ∈ pl, ∀ r ∈ pl, alike p r = true := fun p hp r hr => List.all_eq_true.mp (List.all_eq_true.mp c2 p hp) r hr
      have inpl : ∀ y ∈ ys, ∃ p, p ∈ pl ∧ Dp X.K H y p := fun y hy => by
        rw [← z1] at hy
        obtain ⟨w, hw, rfl⟩ := List.mem_map.mp hy
        exact ⟨_, (z3 w hw).2.2.2, (z3 w hw).2.2.1⟩
      have refs : ∀ y ∈ ys, ∃ a, y = V.ref a := fun y hy => by
        obtain ⟨p, hp, hd⟩ := inpl y hy
        obtain ⟨⟨i, r, rfl⟩, -⟩ := tu p hp
        cases hd
        exact ⟨_, rfl⟩
      obtain ⟨g, hg⟩ : ∃ g : V → PyData, ∀ y ∈ ys, g y ∈ pl ∧ Dp X.K H y (g y) := ⟨fun y => open Classical in if h : ∃ p, p ∈ pl ∧ Dp X.K H y p then h.choose else .none, fun y hy => by
        have h := inpl y hy
        show (open Classical in if h : ∃ p, p ∈ pl ∧ Dp X.K H y p then h.choose else PyData.none) ∈ pl ∧ Dp X.K H y (open Classical in if h : ∃ p, p ∈ pl ∧ Dp X.K H y p then h.choose else PyData.none)
        rw [dif_pos h]
        exact h.choose_spec⟩
      have gu : ∀ w ∈ ys.zip (es.zip pl), g w.1 = w.2.2 := fun w hw => by
        obtain ⟨m1, -, m3, m4⟩ := z3 w hw
        obtain ⟨b, hb⟩ := refs _ m1
        obtain ⟨q1, q2⟩ := hg _ m1
        rw [hb] at q2 m3
        obtain ⟨as, r1⟩ := Dp.reads I _ _ (Value.ref b) q2 rfl
        obtain ⟨bs, r2⟩ := Dp.reads I _ _ (Value.ref b) m3 rfl
        rw [hb] at q1
        rw [hb]
        exact alike_unique _ _ _ _ _ (al _ q1 _ m4) r1 r2
      obtain ⟨its, rv', ⟨o, ho, hco, n0, hdo⟩, hz⟩ := I.tuple hs
      obtain ⟨e1, e2⟩ := refs_back rv' refs
      have mem : ∀ u ∈ its, backV u ∈ ys := fun u hu => by rw [e1]; exact List.mem_map.mpr ⟨u, hu, rfl⟩
      refine sorted_tupsT (f := fun u => g (backV u)) ho hco hdo (by rw [← rv'.length]; exact hz) (fun u hu => ?_) (fun u hu => (tu _ (hg _ (mem u hu)).1).1) (fun u hu v hv => al _ (hg _ (mem u hu)).1 _ (hg _ (mem v hv)).1) (fun u hu => ?_) fun h' dd out o1 o2 kp hd hn => ?_
      · obtain ⟨b, rfl⟩ := e2 u hu
        exact Dp.reads I _ _ (Value.ref b) (hg _ (mem _ hu)).2 rfl
      · have := (tu _ (hg _ (mem u hu)).1).2
        have : (g (backV u)).depth ≤ 64 := by
          have q : ((g (backV u)).canLay0 && decide ((g (backV u)).depth ≤ 64)) = true := this
          rw [Bool.and_eq_true] at q
          exact of_decide_eq_true q.2
        have := hr.un
        show X.A.units + 2 + (g (backV u)).depth < _
        omega
      · have h3' : ∀ u ∈ out, ∃ a, u = Value.ref a := fun u hu => e2 u (o2.mem_iff.mp hu)
        obtain ⟨n, hn⟩ := hn
        have pm : (out.map backV).Perm ys := by
          rw [e1]
          exact o2.map backV
        obtain ⟨zs', p1, p2⟩ := perm_lift (·.1) pm (ys.zip (es.zip pl)) z1
        have srt : (out.map backV).Pairwise fun x y => kLt (keyToks (g y)) (keyToks (g x)) = false := List.pairwise_map.mpr o1
        rw [← p2] at srt
        have srt2 := List.pairwise_map.mp srt
        have m0 : (zs'.map fun w => (w.2.1, keyToks w.2.2)).Perm (es.zip (pl.map keyToks)) := by
          rw [← z2]
          exact p1.map _
        have m1 : (zs'.map fun w => (w.2.1, keyToks w.2.2)).Pairwise kLe := List.pairwise_map.mpr (srt2.imp_of_mem fun {x y} hx hy h => by
          rw [gu y (p1.mem_iff.mp hy), gu x (p1.mem_iff.mp hx)] at h
          exact h)
        have one := sortT_one c3 m0 m1
        have er : rs = zs'.map (·.2.1) := by
          rw [← Option.some.inj h2, ← one, List.map_map]
          rfl
        subst er
        have rp' := reps_zs zs' fun w hw => (z3 w (p1.mem_iff.mp hw)).2.1
        rw [p2] at rp'
        refine ⟨.ref dd, upd H dd (.lst (out.map backV)), I.laid (t' := s.toks) kp hd ⟨?_, out, n, vals_back h3', hn⟩, rfl, okD.newF q rh rp' (I.hok.fresh hd)⟩
        rw [pm.length_eq]
        exact hz
    · cases h2
  · cases e
end
end Ev

namespace Ev
open PySem PySem.Spec PyProof.Rows L2 RZ
/-! ## enumerate whose pairs are kept (a name as the target, list(enumerate(..))): whether the last pair is still there or not -/
def EnS (h : Heap) (e it : Addr) (i : Int) : Prop := ∃ f0 f1 item, h.get? e = some { cls := .type "enumerate", dict := none, data := .fields #[f0, f1, .ref it, rawInt i, .none, item], slots := #[] } ∧ (f0 = .none ∨ ∃ T : Addr, f0 = rawInt T)
section
variable {prog : Program} {w : World} {A : Around} {E : Value → Shared → Prop} {s : Shared}
theorem alive_any {a : Addr} {Q : Option Obj → Shared → Prop} (h : Q (s.heap.get? a) s) : wpAny (model prog w) A (loadIfAlive a) Q E s := fun _ _ _ => h
theorem free_any {e it : Addr} {i : Int} {Q : Bool → Shared → Prop} (he : EnS s.heap e it i)
    (h : ∀ b h', EnS h' e it i → Heap.SameBut e s.heap h' → Q b { s with heap := h' }) : wpAny (model prog w) A (Builtin.SmallTypes.ownedTupleIsFree (.ref e)) Q E s := by
  obtain ⟨f0, f1, item, ho, hf⟩ := id he
  unfold Builtin.SmallTypes.ownedTupleIsFree
  refine wpAny_bind (wpAny_field ho rfl (x := f0) rfl ?_)
  rcases hf with rfl | ⟨T, rfl⟩
  · exact wpAny_pure (h _ _ he (Heap.SameBut.refl _ _))
  · show wpAny _ _ (loadIfAlive ((T : Int).toNat) >>= _) _ _ _
    refine wpAny_bind (alive_any ?_)
    cases s.heap.get? ((T : Int).toNat) with
    | none => exact wpAny_pure (h _ _ he (Heap.SameBut.refl _ _))
    | some o =>
      simp only [Option.isNone_some, Bool.false_eq_true, if_false]
      refine wpAny_bind (wpAny_field ho rfl (x := f1) rfl ?_)
      by_cases q : (f1 != Value.bool true) = true
      · rw [if_pos q]
        exact wpAny_bind (wpAny_setField_rec ho (by simp) fun h₁ h1 hs₁ => wpAny_pure (h _ h₁ ⟨_, _, _, h1, .inr ⟨T, rfl⟩⟩ hs₁))
      · rw [if_neg q]
        exact wpAny_pure (h _ _ he (Heap.SameBut.refl _ _))
theorem enS_item {e it : Addr} {fp : List Addr} {n i : Nat} {P : Nat → Value → Prop} {St : Nat → Heap → Prop} {Q : Value → Shared → Prop}
    (D : Draws prog w A it fp n P St) (he : EnS s.heap e it i) (hst : St i s.heap) (hlt : i < n) (hne : e ≠ it) (hef : e ∉ fp)
    (hQ : ∀ x h' tk, P i x → EnS h' e it ((i : Int) + 1) → St (i + 1) h' →
      h'.get? s.heap.objs.size = some { cls := .type "tuple", data := .seq #[.int i tk, x] } → h'.objs.size = s.heap.objs.size + 1 →
      (∀ b o, b ≠ e → b ≠ it → s.heap.get? b = some o → h'.get? b = some o) → Q (.ref s.heap.objs.size) { s with heap := h', toks := tk + 1 }) :
    wpAny (model prog w) A (Builtin.«enumerate.__next__» ⟨[.ref e], []⟩) (fun fin s' => ∃ v, fin = .done (.ret v) ∧ Q v s') E s := by
  obtain ⟨hp, g, d, tk₀, os⟩ := s
  obtain ⟨f0, f1, old, he, hf⟩ := he
  show wpAny _ _ (field (.ref e) 2 >>= _) _ _ _
  refine wpAny_bind (wpAny_field he rfl (x := .ref it) rfl ?_)
  refine wpAny_bind (D.item i _ _ _ hlt hst fun x h₁ tk hPx hit₁ hs₁ => ?_)
  replace hs₁ : Heap.SameBut it hp h₁ := hs₁
  have he₁ := (hs₁.2 e hne).trans he
  show wpAny _ _ (field (.ref e) 3 >>= _) _ _ ⟨h₁, g, d, tk, os⟩
  refine wpAny_bind (wpAny_field he₁ rfl (x := rawInt i) rfl ?_)
  show wpAny _ _ (field (.ref e) 4 >>= _) _ _ ⟨h₁, g, d, tk, os⟩
  refine wpAny_bind (wpAny_field he₁ rfl (x := .none) rfl ?_)
  show wpAny _ _ (mkInt i >>= _) _ _ ⟨h₁, g, d, tk, os⟩
  refine wpAny_bind (wpAny_mkInt ?_)
  show wpAny _ _ (setField (.ref e) 3 (rawInt ((i : Int) + 1)) >>= _) _ _ ⟨h₁, g, d, tk + 1, os⟩
  refine wpAny_bind (wpAny_setField_rec he₁ (by simp) fun h₂ he₂ hs₂ => ?_)
  replace hs₂ : Heap.SameBut e h₁ h₂ := hs₂
  show wpAny _ _ (setField (.ref e) 4 .none >>= _) _ _ ⟨h₂, g, d, tk + 1, os⟩
  refine wpAny_bind (wpAny_setField_rec he₂ (by simp) fun h₃ he₃ hs₃ => ?_)
  replace hs₃ : Heap.SameBut e h₂ h₃ := hs₃
  show wpAny _ _ (newTuple [.int i tk, x] >>= _) _ _ ⟨h₃, g, d, tk + 1, os⟩
  refine wpAny_bind (wpAny_newTuple ?_)
  have en₄ : EnS (h₃.push { cls := .type "tuple", data := .seq #[.int i tk, x] }) e it ((i : Int) + 1) := ⟨_, _, _, Heap.get?_push_of_some _ he₃, hf⟩
  generalize hh₄ : h₃.push { cls := .type "tuple", data := .seq #[.int i tk, x] } = h₄ at en₄
  have hsz : h₃.objs.size = hp.objs.size := by rw [hs₃.1, hs₂.1, hs₁.1]
  have hel : e < hp.objs.size := Heap.lt_size he
  have ht₄ : h₄.get? hp.objs.size = some { cls := .type "tuple", data := .seq #[.int i tk, x] } := by rw [← hh₄, ← hsz]; exact Heap.get?_push_size _ rfl
  have hz₄ : h₄.objs.size = hp.objs.size + 1 := by rw [← hh₄, Heap.size_push, hsz]
  have hk₄ : ∀ b o, b ≠ e → b ≠ it → hp.get? b = some o → h₄.get? b = some o := fun b o hbe hbi hb => by
    rw [← hh₄]; exact Heap.get?_push_of_some _ (hs₃.extBut b o hbe (hs₂.extBut b o hbe (hs₁.extBut b o hbi hb)))
  have hit₄ : St (i + 1) h₄ := D.frame _ _ _ hit₁ fun b hb o y => by
    have hbe : b ≠ e := fun q => hef (q ▸ hb)
    rw [← hh₄]; exact Heap.get?_push_of_some _ (hs₃.extBut b o hbe (hs₂.extBut b o hbe y))
  show wpAny _ _ (Builtin.SmallTypes.ownedTupleIsFree (.ref e) >>= _) _ _ ⟨h₄, g, d, tk + 1, os⟩
  rw [hsz]
  clear hh₄ he₃ hs₃ he₂ hs₂ he₁ hs₁ hit₁ hsz h₃ h₂ h₁ hf
  refine wpAny_bind (free_any (s := ⟨h₄, g, d, tk + 1, os⟩) en₄ fun fr h₅ en₅ hs₅ => ?_)
  replace hs₅ : Heap.SameBut e h₄ h₅ := hs₅
  obtain ⟨g0, g1, old', he₅, hf₅⟩ := en₅
  cases fr with
  | false =>
    simp only [Bool.false_eq_true, if_false]
    refine wpAny_pure ⟨_, rfl, hQ x h₅ tk hPx ⟨_, _, _, he₅, hf₅⟩ (D.frame _ _ _ hit₄ fun b hb o y => (hs₅.2 b fun q => hef (q ▸ hb)).trans y) (hs₅.extBut _ _ (Nat.ne_of_gt hel) ht₄) ?_ fun b o hbe hbi hb => hs₅.extBut b o hbe (hk₄ b o hbe hbi hb)⟩
    show h₅.objs.size = hp.objs.size + 1
    rw [hs₅.1, hz₄]
  | true =>
    simp only [if_true]
    refine wpAny_bind (wpAny_rule ?_)
    refine wpAny_bind (wpAny_field he₅ rfl (x := old') rfl ?_)
    refine wpAny_bind (wpAny_setField_rec he₅ (by simp) fun h₆ he₆ hs₆ => ?_)
    replace hs₆ : Heap.SameBut e h₅ h₆ := hs₆
    show wpAny _ _ (Builtin.SmallTypes.ownedTupleHandOut (.ref e) (.ref hp.objs.size) >>= _) _ _ ⟨h₆, g, d, tk + 1, os⟩
    refine wpAny_bind ?_
    unfold Builtin.SmallTypes.ownedTupleHandOut
    refine wpAny_bind (wpAny_setField_rec he₆ (by simp) fun h₇ he₇ hs₇ => ?_)
    replace hs₇ : Heap.SameBut e h₆ h₇ := hs₇
    refine wpAny_setField_rec he₇ (by simp) fun h₈ he₈ hs₈ => ?_
    replace hs₈ : Heap.SameBut e h₇ h₈ := hs₈
    have kk : ∀ b o, b ≠ e → h₄.get? b = some o → h₈.get? b = some o := fun b o hb y => hs₈.extBut _ _ hb (hs₇.extBut _ _ hb (hs₆.extBut _ _ hb (hs₅.extBut _ _ hb y)))
    refine wpAny_bind (wpAny_letGo (wpAny_pure ⟨_, rfl, hQ x h₈ tk hPx ⟨_, _, _, he₈, .inr ⟨_, rfl⟩⟩ (D.frame _ _ _ hit₄ fun b hb o y => kk b o (fun q => hef (q ▸ hb)) y) (kk _ _ (Nat.ne_of_gt hel) ht₄) ?_ fun b o hbe hbi hb => kk b o hbe (hk₄ b o hbe hbi hb)⟩))
    show h₈.objs.size = hp.objs.size + 1
    rw [hs₈.1, hs₇.1, hs₆.1, hs₅.1, hz₄]
theorem EnS.type {h : Heap} {e it : Addr} {i : Int} (he : EnS h e it i) : ∃ o, h.get? e = some o ∧ o.cls = .type "enumerate" := by
  obtain ⟨_, _, _, he, _⟩ := he
  exact ⟨_, he, rfl⟩
theorem enS_next {e it : Addr} {fp : List Addr} {n i : Nat} {P : Nat → Value → Prop} {St : Nat → Heap → Prop} {Q : Option Value → Shared → Prop}
    (D : Draws prog w A.in1 it fp n P St) (he : EnS s.heap e it i) (hst : St i s.heap) (hlt : i < n) (hne : e ≠ it) (hef : e ∉ fp)
    (hQ : ∀ x h' tk, P i x → EnS h' e it ((i : Int) + 1) → St (i + 1) h' →
      h'.get? s.heap.objs.size = some { cls := .type "tuple", data := .seq #[.int i tk, x] } → h'.objs.size = s.heap.objs.size + 1 →
      (∀ b o, b ≠ e → b ≠ it → s.heap.get? b = some o → h'.get? b = some o) → Q (some (.ref s.heap.objs.size)) { s with heap := h', toks := tk + 1 }) :
    wpAny (model prog w) A (pyNext (.ref e)) Q E s := by
  have hT : s.TypeIs (.ref e) "enumerate" := he.type
  unfold pyNext
  exact wpAny_bind (wpAny_attempt (wpAny_callSpecial?_slot (name := Str.ofString "__next__") hT F.slot_enumerate_next
    (wpAny_call_entry F.slot_enumerate_next hT F.entry_enumerate_next
      (enS_item D he hst hlt hne hef fun x h' tk a b c d k q => wpAny_pure (hQ x h' tk a b c d k q)) (F.args_enumerate_next_1 _))))
theorem enS_end {e it : Addr} {fp : List Addr} {n : Nat} {P : Nat → Value → Prop} {St : Nat → Heap → Prop} {i : Int} {Q : Option Value → Shared → Prop}
    (D : Draws prog w A.in1 it fp n P St) (he : EnS s.heap e it i) (hst : St n s.heap)
    (hQ : ∀ h', Heap.ExtBut it s.heap h' → Q none { s with heap := h' }) : wpAny (model prog w) A (pyNext (.ref e)) Q E s := by
  have hT : s.TypeIs (.ref e) "enumerate" := he.type
  obtain ⟨_, _, _, ho, _⟩ := he
  unfold pyNext
  refine wpAny_bind (wpAny_attempt (wpAny_callSpecial?_slot (name := Str.ofString "__next__") hT F.slot_enumerate_next
    (wpAny_call_entry F.slot_enumerate_next hT F.entry_enumerate_next ?_ (F.args_enumerate_next_1 _))))
  show wpAny _ _ (field (.ref e) 2 >>= _) _ _ _
  refine wpAny_bind (wpAny_field ho rfl (x := .ref it) rfl ?_)
  refine wpAny_bind (D.done _ _ _ hst fun h' x he' ⟨o, ho', hc⟩ => ?_)
  exact wpAny_bind (wpAny_isInstance (T := "StopIteration") (b := true) ⟨o, ho', hc⟩ isSubtype_stop (wpAny_pure (hQ _ he')))
theorem enS_iter {e it : Addr} {i : Int} {Q : Value → Shared → Prop} (he : EnS s.heap e it i) (h : Q (.ref e) s) : wpAny (model prog w) A (pyIter (.ref e)) Q E s := by
  have hT : s.TypeIs (.ref e) "enumerate" := he.type
  refine wpAny_pyIter_slot hT F.slot_enumerate_iter (wpAny_call_entry F.slot_enumerate_iter hT F.entry_enumerate_iter ?_ (F.args_enumerate_iter_1 _))
  show wpAny _ _ (ret (.ref e)) _ _ s
  exact wpAny_pure ⟨_, rfl, "enumerate", _, hT, F.slot_enumerate_next.lookup, h⟩
end
variable [Tabs]
theorem turn_enumN {P : Program} {w : World} {K : PySem.W.Frag} {x : Str} {tpos : Pos} (k : SK) (a e it : Addr) (hei : e ≠ it) (hai : a ≠ it) (hae : e ≠ a) :
    Turn P w K (.Name x tpos) (IteK k K a) [e, it] e (fun i h => EnS h e it ((i : Nat) : Int) ∧ IsSI k h it a i) where
  mem := by simp
  obj := fun i h st b hb => by
    obtain ⟨⟨_, _, _, he, _⟩, hi⟩ := st
    obtain ⟨o, ho, hd⟩ := hi.obj
    have e' : b = e ∨ b = it := by simpa using hb
    rcases e' with z | z
    · rw [z]; exact ⟨_, he, fun v q => nomatch q⟩
    · rw [z]; exact ⟨o, ho, hd⟩
  keep := fun i h h' st kp => let ⟨⟨f0, f1, old, he, hf⟩, hi⟩ := st; ⟨⟨f0, f1, old, kp e (by simp) _ he, hf⟩, hi.at fun o q => kp it (by simp) o q⟩
  item := by
    intro X hP hw hK hc i pins s σ H E I hf st hg
    subst hP hw hK
    obtain ⟨he, hit⟩ := st
    obtain ⟨xs, x, hq, hx⟩ := hg
    obtain ⟨its, rv, p⟩ := Inv.seqK I hq
    obtain ⟨u, hu, ru⟩ := rv.get hx
    have hel : e < s.heap.objs.size := by obtain ⟨_, _, _, he, _⟩ := he; exact Heap.lt_size he
    have hil : it < s.heap.objs.size := by obtain ⟨o, q, _⟩ := hit.obj; exact Heap.lt_size q
    have hh := I.ok.hd hc
    have D := drawsS (prog := X.prog) (w := X.w) (A := X.A.in1) hh k it a hai its.toArray
    have n1 : i < its.toArray.size := by
      have := (List.getElem?_eq_some_iff.mp hu).1
      simpa using this
    refine enS_next D he ⟨hit, p⟩ n1 hei (by simp; exact ⟨hei, hae⟩) fun v1 h' tk e1 ho st' hT hsz hk => ?_
    have e1 : v1 = u := by
      have e1 : its.toArray[i]? = some v1 := e1
      have : its[i]? = some v1 := by simpa using e1
      rw [hu] at this
      exact (Option.some.inj this).symm
    subst e1
    refine ⟨_, rfl, wpAny_pure ?_⟩
    have new : ObjOk X.prog X.w (upd H s.heap.objs.size (.tup [.int (i : Nat), x])) h' s.heap.objs.size (.tup [.int (i : Nat), x]) :=
      ⟨by show 2 ≤ sizeLine; decide, [.int i tk, v1], .cons ⟨_, rfl⟩ (.cons ru .nil), ⟨_, hT, rfl, _, rfl⟩⟩
    have I1 : Inv X pins σ (upd H s.heap.objs.size (.tup [.int (i : Nat), x])) { s with heap := h', toks := tk + 1 } :=
      I.turnedNew (ch := [e, it]) (fun b ob hb q => hk b ob (fun z => hb (by simp [z])) (fun z => hb (by simp [z])) q) hf (Nat.le_refl _) new
    refine ⟨.ref s.heap.objs.size, _, I1, rfl, ⟨_, x, rfl, I.hok.fresh (Nat.le_refl _), rfl, fun ys hy => by rw [Inv.seqK_inj I hy hq]; exact hx⟩, ⟨?_, st'.1⟩, fun b hb => ?_⟩
    · have e1 : ((i + 1 : Nat) : Int) = (i : Int) + 1 := by omega
      rw [e1]; exact ho
    · have hb' : b < s.heap.objs.size := by
        have e' : b = e ∨ b = it := by simpa using hb
        rcases e' with z | z
        · rw [z]; exact hel
        · rw [z]; exact hil
      rw [upd_ne (Nat.ne_of_lt hb')]
      exact (hf b hb).1
  done := by
    intro X hP hw hK hc i pins s σ H E I hf st hg
    subst hP hw hK
    obtain ⟨he, hit⟩ := st
    obtain ⟨xs, hq, hx⟩ := hg
    obtain ⟨its, rv, p⟩ := Inv.seqK I hq
    obtain ⟨f0, f1, f2, f3, f4, f5⟩ := hf it (by simp)
    have hl := rv.length
    have hh := I.ok.hd hc
    have D := drawsEnd (prog := X.prog) (w := X.w) (A := X.A.in1) hh k it a its.toArray i (by simp; omega)
    exact enS_end D he ⟨⟨hit, p⟩, rfl⟩ fun h' eb => ⟨rfl, I.turned (t' := s.toks) (fun b o hb q => eb b o hb q) f0 f1 f3 f4 f5⟩
  self := fun A i s Q E st h => enS_iter st.1 h
theorem pi_enumN {X : Cx} {e : Expr} {ta : TA} {p pos tpos : Pos} {x : Str} (hg : Gl X "enumerate") (hm : X.mg "enumerate" = none) (ha : PA X [e] ta) (hs : starEach [e] X.env = [(false, eval e X.env)] := by rfl) :
    PI X (.Name x tpos) (.Call (.Name "enumerate" p) [e] [] pos) (iEnumK X.K ta) := by
  refine ⟨fun pins s σ H R I h => ?_⟩
  refine Call_ (ld_blt I hg hm boot_enumerate (PyProof.Rows.callWith_type1 (thn (ha.run pos pins s σ H _ I h) fun us s1 ⟨vs, H1, I1, r1, q1⟩ => ?_) hs rfl))
  obtain ⟨k, a, xs, ex, hq, q⟩ := q1
  subst ex
  cases r1 with
  | cons r rr =>
    cases rr
    cases r
    obtain ⟨its, rv, p'⟩ := Inv.seqK I1 hq
    refine call_enumK k p' fun h' he hit hsz hk => wpAny_pyIter_enum he ?_
    have I2 : Inv X pins σ H1 { s1 with heap := h' } := I1.kept (t' := s1.toks) hk
    have al := p'.lt
    refine ⟨s1.heap.objs.size + 1, [s1.heap.objs.size + 1, s1.heap.objs.size], _, _, H1, rfl, I2, turn_enumN k a (s1.heap.objs.size + 1) s1.heap.objs.size (Nat.succ_ne_self _) (Nat.ne_of_lt al) (Ne.symm (Nat.ne_of_lt (Nat.lt_succ_of_lt al))), ⟨⟨_, _, _, he, .inl rfl⟩, hit⟩, fun b hb => ?_, q⟩
    have e' : b = s1.heap.objs.size + 1 ∨ b = s1.heap.objs.size := by simpa using hb
    have hle : s1.heap.objs.size ≤ b := by
      rcases e' with z | z
      · rw [z]; exact Nat.le_add_right _ _
      · rw [z]; exact Nat.le_refl _
    exact I1.fpOk hle (I1.hok.fresh hle)
theorem si_enumN {X : Cx} {xm : List Addr} {W : WX} {e : Expr} {fs : AF} {p pos tpos : Pos} {x : Str} (hg : Gl X "enumerate") (hm : X.mg "enumerate" = none) (ha : PA X [e] (TAf X.K xm W fs)) (hs : starEach [e] X.env = [(false, eval e X.env)] := by rfl) : PI X (.Name x tpos) (.Call (.Name "enumerate" p) [e] [] pos) (TIf X.K xm W (enumKI fs)) :=
  (pi_enumN hg hm ha hs).imp fun σ H Rq ⟨z, en, st, rh, re, h⟩ => by
    refine seqA' rh re (wp_bind.mp h) fun d1 st1 v1 z1 H1 q1 e1 r1 re1 p1 => ?_
    cases p1 with
    | nil => exact q1.elim
    | cons p1 ps =>
    cases ps with
    | cons _ _ => exact q1.elim
    | nil =>
      rename_i v d
      simp only at q1
      cases hf : frzT d with
      | none =>
        rw [hf] at q1
        exact q1.elim
      | some ds =>
        rw [hf] at q1
        obtain ⟨k, a, xs, rfl, t, rs⟩ := frzT_at p1 hf
        exact ⟨k, a, xs, rfl, t z1 H1 Ext.refl.toEx0, q1 _ z1 H1 e1 r1 (itI_enumK t rs)⟩
end Ev

namespace Lw
open PySem PySem.Spec PyProof.Rows L2 Ev
def b_is_whole : SF :=
 (retS (andV (isiF isInt (varF 0)) (notV (isiF isBool (varF 0)))))
def f_is_whole : List D → Sto → R D := fnF 1 b_is_whole
def b_is_fraction : SF :=
 (seqS (ifS (orT (notT (truF (isiF isTup (varF 0)))) (boolF (op2F neD (opLF lenL (consA (varF 0) nilA)) (litF (.int 2)))))
 (retS (litF (.bl false)))
 passS)
 (seqS (asgS (varF 0) (tupG 2 (consG (nameG 1) (consG (nameG 2) nilG))))
 (seqS (ifS (orT (notT (truF (callF 1 f_is_whole (consA (varF 1) nilA)))) (notT (truF (callF 1 f_is_whole (consA (varF 2) nilA)))))
 (retS (litF (.bl false)))
 passS)
 (retS (andV (op2F (cmpI fun i j => decide (j ≤ i)) (varF 2) (litF (.int 1))) (op2F eqD (opLF gcdL (consA (varF 1) (consA (varF 2) nilA))) (litF (.int 1))))))))
def f_is_fraction : List D → Sto → R D := fnF 3 b_is_fraction
def b_need_fraction : SF :=
 (ifS (notT (truF (callF 1 f_is_fraction (consA (varF 0) nilA))))
 (raiseS 2)
 passS)
def f_need_fraction : List D → Sto → R D := fnF 1 b_need_fraction
def b_fraction : SF :=
 (seqS (ifS (orT (notT (truF (callF 1 f_is_whole (consA (varF 0) nilA)))) (notT (truF (callF 1 f_is_whole (consA (varF 1) nilA)))))
 (raiseS 2)
 passS)
 (seqS (ifS (boolF (op2F eqD (varF 1) (litF (.int 0))))
 (raiseS 2)
 passS)
 (seqS (setS 2 (opLF gcdL (consA (varF 0) (consA (varF 1) nilA))))
 (seqS (ifS (boolF (op2F (cmpI fun i j => decide (i < j)) (varF 1) (litF (.int 0))))
 (setS 2 (op1F negD (varF 2)))
 passS)
 (retS (opLF tupL (consA (op2F fdivD (varF 0) (varF 2)) (consA (op2F fdivD (varF 1) (varF 2)) nilA))))))))
def f_fraction : List D → Sto → R D := fnF 3 b_fraction
def b_plus : SF :=
 (seqS (exprS (callF 1 f_need_fraction (consA (varF 0) nilA)))
 (seqS (exprS (callF 1 f_need_fraction (consA (varF 1) nilA)))
 (retS (callF 2 f_fraction (consA (op2F addD (op2F mulD (op2F ixD (varF 0) (litF (.int 0))) (op2F ixD (varF 1) (litF (.int 1)))) (op2F mulD (op2F ixD (varF 1) (litF (.int 0))) (op2F ixD (varF 0) (litF (.int 1))))) (consA (op2F mulD (op2F ixD (varF 0) (litF (.int 1))) (op2F ixD (varF 1) (litF (.int 1)))) nilA))))))
def f_plus : List D → Sto → R D := fnF 2 b_plus
def b_common_bottom : SF :=
 (seqS (setS 1 (litF (.int 1)))
 (seqS (forS (seqI (varF 0)) (tupG 2 (consG (nameG 2) (consG (nameG 3) nilG)))
 (setS 1 (opLF lcmL (consA (varF 1) (consA (varF 3) nilA)))))
 (retS (varF 1))))
def f_common_bottom : List D → Sto → R D := fnF 4 b_common_bottom
def b_is_move : SF :=
 (seqS (ifS (orT (notT (truF (isiF isTup (varF 0)))) (boolF (op2F neD (opLF lenL (consA (varF 0) nilA)) (litF (.int 2)))))
 (retS (litF (.bl false)))
 passS)
 (seqS (asgS (varF 0) (tupG 2 (consG (nameG 3) (consG (nameG 4) nilG))))
 (seqS (ifS (orT (notT (truF (callF 1 f_is_whole (consA (varF 3) nilA)))) (notT (boolF (chainF (cmpI fun i j => decide (i < j)) (cmpI fun i j => decide (i < j)) (varF 1) (varF 3) (varF 2)))))
 (retS (litF (.bl false)))
 passS)
 (retS (andV (callF 1 f_is_fraction (consA (varF 4) nilA)) (op2F (cmpI fun i j => decide (j < i)) (op2F ixD (varF 4) (litF (.int 0))) (litF (.int 0))))))))
def f_is_move : List D → Sto → R D := fnF 5 b_is_move
def b_are_moves : SF :=
 (seqS (ifS (notT (truF (isiF isTup (varF 0))))
 (retS (litF (.bl false)))
 passS)
 (seqS (setS 2 (op1F negD (litF (.int 1))))
 (seqS (setS 3 (opLF tupL (consA (litF (.int 0)) (consA (litF (.int 1)) nilA))))
 (seqS (forS (seqI (varF 0)) (nameG 4)
 (seqS (ifS (notT (truF (callF 3 f_is_move (consA (varF 4) (consA (varF 2) (consA (varF 1) nilA))))))
 (retS (litF (.bl false)))
 passS)
 (seqS (asgS (varF 4) (tupG 2 (consG (nameG 2) (consG (nameG 5) nilG))))
 (setS 3 (callF 2 f_plus (consA (varF 3) (consA (varF 5) nilA)))))))
 (retS (op2F eqD (varF 3) (opLF tupL (consA (litF (.int 1)) (consA (litF (.int 1)) nilA)))))))))
def f_are_moves : List D → Sto → R D := fnF 6 b_are_moves
def b_is_row : SF :=
 (seqS (ifS (orT (notT (truF (isiF isTup (varF 0)))) (boolF (op2F neD (opLF lenL (consA (varF 0) nilA)) (litF (.int 2)))))
 (retS (litF (.bl false)))
 passS)
 (seqS (asgS (varF 0) (tupG 2 (consG (nameG 2) (consG (nameG 3) nilG))))
 (retS (andV (callF 1 f_is_fraction (consA (varF 2) nilA)) (callF 2 f_are_moves (consA (varF 3) (consA (varF 1) nilA)))))))
def f_is_row : List D → Sto → R D := fnF 4 b_is_row
def b_is_work : SF :=
 (seqS (ifS (orT (notT (truF (isiF isTup (varF 0)))) (notT (boolF (chainF (cmpI fun i j => decide (i ≤ j)) (cmpI fun i j => decide (i ≤ j)) (litF (.int 1)) (opLF lenL (consA (varF 0) nilA)) (litF (.int 6))))))
 (retS (litF (.bl false)))
 passS)
 (seqS (setS 1 (opLF lenL (consA (varF 0) nilA)))
 (retS (allF [2] (nameG 2) (callF 2 f_is_row (consA (varF 2) (consA (varF 1) nilA))) (seqI (varF 0))))))
def f_is_work : List D → Sto → R D := fnF 3 b_is_work
def b_is_state : SF :=
 (retS (andV (callF 1 f_is_whole (consA (varF 1) nilA)) (chainF (cmpI fun i j => decide (i ≤ j)) (cmpI fun i j => decide (i < j)) (litF (.int 0)) (varF 1) (opLF lenL (consA (varF 0) nilA)))))
def f_is_state : List D → Sto → R D := fnF 2 b_is_state
def b_is_company : SF :=
 (seqS (ifS (orT (notT (truF (isiF isTup (varF 0)))) (notT (boolF (chainF (cmpI fun i j => decide (i ≤ j)) (cmpI fun i j => decide (i ≤ j)) (litF (.int 1)) (opLF lenL (consA (varF 0) nilA)) (litF (.int 3))))))
 (retS (litF (.bl false)))
 passS)
 (seqS (setS 1 (litF (.int 1)))
 (seqS (forS (seqI (varF 0)) (nameG 2)
 (seqS (ifS (notT (truF (callF 1 f_is_work (consA (varF 2) nilA))))
 (retS (litF (.bl false)))
 passS)
 (setS 1 (op2F mulD (varF 1) (opLF lenL (consA (varF 2) nilA))))))
 (retS (op2F (cmpI fun i j => decide (i ≤ j)) (varF 1) (litF (.int 12)))))))
def f_is_company : List D → Sto → R D := fnF 3 b_is_company
def b_is_number_of_work : SF :=
 (retS (andV (callF 1 f_is_whole (consA (varF 1) nilA)) (chainF (cmpI fun i j => decide (i ≤ j)) (cmpI fun i j => decide (i < j)) (litF (.int 0)) (varF 1) (opLF lenL (consA (varF 0) nilA)))))
def f_is_number_of_work : List D → Sto → R D := fnF 2 b_is_number_of_work
def b_is_standing : SF :=
 (seqS (ifS (orT (notT (truF (isiF isTup (varF 1)))) (boolF (op2F neD (opLF lenL (consA (varF 1) nilA)) (opLF lenL (consA (varF 0) nilA)))))
 (retS (litF (.bl false)))
 passS)
 (retS (opLF allL (consA (lcF [2, 3] (tupG 2 (consG (nameG 2) (consG (nameG 3) nilG))) yesT (callF 2 f_is_state (consA (varF 2) (consA (varF 3) nilA))) (zipMI (consA (varF 0) (consA (varF 1) nilA)))) nilA))))
def f_is_standing : List D → Sto → R D := fnF 4 b_is_standing
def b_need_company : SF :=
 (ifS (notT (truF (callF 1 f_is_company (consA (varF 0) nilA))))
 (raiseS 1)
 passS)
def f_need_company : List D → Sto → R D := fnF 1 b_need_company
def b_all_standings : SF :=
 (seqS (setS 1 (opLF lstL (consA (opLF tupL nilA) nilA)))
 (seqS (forS (seqI (varF 0)) (nameG 2)
 (setS 1 (lc2R false [3, 4] (nameG 3) (seqI (varF 1)) [4] (nameG 4) (rng1I (consA (opLF lenL (consA (varF 2) nilA)) nilA)) (op2F addD (varF 3) (opLF tupL (consA (varF 4) nilA))))))
 (retS (varF 1))))
def f_all_standings : List D → Sto → R D := fnZ 5 b_all_standings
def b_all_pairs : SF :=
 (retS (lc2R false [1, 2, 3] (tupG 2 (consG (nameG 1) (consG (nameG 2) nilG))) (enumKI (consA (varF 0) nilA)) [3] (nameG 3) (rng1I (consA (opLF lenL (consA (varF 2) nilA)) nilA)) (opLF tupL (consA (varF 1) (consA (varF 3) nilA)))))
def f_all_pairs : List D → Sto → R D := fnZ 4 b_all_pairs
def b_all_pairs__c : SF :=
 (retS (lc2R true [1, 2, 3] (tupG 2 (consG (nameG 1) (consG (nameG 2) nilG))) (enumKI (consA (varF 0) nilA)) [3] (nameG 3) (rng1I (consA (opLF lenL (consA (varF 2) nilA)) nilA)) (opLF tupL (consA (varF 1) (consA (varF 3) nilA)))))
def f_all_pairs__c : List D → Sto → R D := fnF 4 b_all_pairs__c
def b_greatest_first : SF :=
 (seqS (setS 2 (callF 1 f_all_pairs (consA (varF 0) nilA)))
 (seqS (setS 3 (lcF [6, 7] (tupG 2 (consG (nameG 6) (consG (nameG 7) nilG))) yesT (op2F ixD (op2F ixD (varF 1) (varF 6)) (varF 7)) (seqI (varF 2))))
 (seqS (setS 4 (callF 1 f_common_bottom (consA (varF 3) nilA)))
 (seqS (setS 5 (opLF sortTL (consA (lcF [8, 9, 10] (tupG 2 (consG (tupG 2 (consG (nameG 8) (consG (nameG 9) nilG))) (consG (nameG 10) nilG))) yesT (opLF tupL (consA (op2F mulD (op1F negD (varF 8)) (op2F fdivD (varF 4) (varF 9))) (consA (varF 10) nilA))) (zipMI (consA (varF 3) (consA (varF 2) nilA)))) nilA)))
 (retS (opLF tupleL (consA (lcF [11, 10] (tupG 2 (consG (nameG 11) (consG (nameG 10) nilG))) yesT (varF 10) (seqI (varF 5))) nilA)))))))
def f_greatest_first : List D → Sto → R D := fnF 12 b_greatest_first
def b_rule_by_pays : SF :=
 (seqS (exprS (callF 1 f_need_company (consA (varF 0) nilA)))
 (retS (callF 2 f_greatest_first (consA (varF 0) (consA (lcF [1] (nameG 1) yesT (lcF [2, 3] (tupG 2 (consG (nameG 2) (consG (nameG 3) nilG))) yesT (varF 2) (seqI (varF 1))) (seqI (varF 0))) nilA)))))
def f_rule_by_pays : List D → Sto → R D := fnF 4 b_rule_by_pays
def b_is_whole_pair : SF :=
 (retS (andV (isiF isTup (varF 0)) (andV (op2F eqD (opLF lenL (consA (varF 0) nilA)) (litF (.int 2))) (andV (callF 1 f_is_whole (consA (op2F ixD (varF 0) (litF (.int 0))) nilA)) (callF 1 f_is_whole (consA (op2F ixD (varF 0) (litF (.int 1))) nilA))))))
def f_is_whole_pair : List D → Sto → R D := fnF 1 b_is_whole_pair
def b_has_all_pairs : SF :=
 (seqS (setS 2 (callF 1 f_all_pairs (consA (varF 0) nilA)))
 (seqS (ifS (orT (notT (truF (isiF isTup (varF 1)))) (boolF (op2F neD (opLF lenL (consA (varF 1) nilA)) (opLF lenL (consA (varF 2) nilA)))))
 (retS (litF (.bl false)))
 passS)
 (seqS (ifS (notT (truF (allF [3] (nameG 3) (callF 1 f_is_whole_pair (consA (varF 3) nilA)) (seqI (varF 1)))))
 (retS (litF (.bl false)))
 passS)
 (retS (op2F eqD (opLF sortUL (consA (varF 1) nilA)) (varF 2))))))
def f_has_all_pairs : List D → Sto → R D := fnF 4 b_has_all_pairs
def b_is_rule : SF :=
 (seqS (exprS (callF 1 f_need_company (consA (varF 0) nilA)))
 (retS (callF 2 f_has_all_pairs (consA (varF 0) (consA (varF 1) nilA)))))
def f_is_rule : List D → Sto → R D := fnF 2 b_is_rule
def b_need_rule : SF :=
 (ifS (notT (truF (callF 2 f_has_all_pairs (consA (varF 0) (consA (varF 1) nilA)))))
 (raiseS 3)
 passS)
def f_need_rule : List D → Sto → R D := fnF 2 b_need_rule
def b_plan_of : SF :=
 (seqS (setS 2 (dcF [8, 9] (tupG 2 (consG (nameG 8) (consG (nameG 9) nilG))) (varF 9) (varF 8) (enumKI (consA (varF 1) nilA))))
 (seqS (setS 3 (opLF celL nilA))
 (seqS (forS (seqI (callF 1 f_all_standings (consA (varF 0) nilA))) (nameG 4)
 (seqS (setS 5 (opLF minLL (consA (lcF [9] (nameG 9) yesT (dgetKF (varF 2) (varF 9)) (enumKI (consA (varF 4) nilA))) nilA)))
 (seqS (asgS (op2F ixD (varF 1) (varF 5)) (tupG 2 (consG (nameG 6) (consG (nameG 7) nilG))))
 (exprS (methF appM (varF 3) (consA (varF 6) nilA))))))
 (retS (opLF tupleL (consA (varF 3) nilA))))))
def f_plan_of : List D → Sto → R D := fnF 10 b_plan_of
def b_rule_plan : SF :=
 (seqS (exprS (callF 1 f_need_company (consA (varF 0) nilA)))
 (seqS (exprS (callF 2 f_need_rule (consA (varF 0) (consA (varF 1) nilA))))
 (retS (callF 2 f_plan_of (consA (varF 0) (consA (varF 1) nilA))))))
def f_rule_plan : List D → Sto → R D := fnF 2 b_rule_plan
def b_is_choice : SF :=
 (seqS (ifS (orT (notT (truF (isiF isTup (varF 1)))) (boolF (op2F neD (opLF lenL (consA (varF 1) nilA)) (litF (.int 2)))))
 (retS (litF (.bl false)))
 passS)
 (seqS (asgS (varF 1) (tupG 2 (consG (nameG 2) (consG (nameG 3) nilG))))
 (retS (andV (callF 2 f_is_standing (consA (varF 0) (consA (varF 2) nilA))) (callF 2 f_is_number_of_work (consA (varF 0) (consA (varF 3) nilA)))))))
def f_is_choice : List D → Sto → R D := fnF 4 b_is_choice
def b_are_choices : SF :=
 (seqS (ifS (orT (notT (truF (isiF isTup (varF 1)))) (boolF (op2F (cmpI fun i j => decide (j < i)) (opLF lenL (consA (varF 1) nilA)) (litF (.int 20)))))
 (retS (litF (.bl false)))
 passS)
 (retS (allF [2] (nameG 2) (callF 2 f_is_choice (consA (varF 0) (consA (varF 2) nilA))) (seqI (varF 1)))))
def f_are_choices : List D → Sto → R D := fnF 3 b_are_choices
def b_need_choices : SF :=
 (ifS (notT (truF (callF 2 f_are_choices (consA (varF 0) (consA (varF 1) nilA)))))
 (raiseS 0)
 passS)
def f_need_choices : List D → Sto → R D := fnF 2 b_need_choices
def b_set_first : SF :=
 (seqS (asgS (varF 0) (tupG 2 (consG (nameG 1) (consG (nameG 2) nilG))))
 (retS (opLF tupL (consA (varF 2) (consA (op2F ixD (varF 1) (varF 2)) nilA)))))
def f_set_first : List D → Sto → R D := fnF 3 b_set_first
def b_left_out : SF :=
 (seqS (asgS (varF 0) (tupG 2 (consG (nameG 1) (consG (nameG 2) nilG))))
 (retS (lcF [3, 4] (tupG 2 (consG (nameG 3) (consG (nameG 4) nilG))) (boolF (op2F neD (varF 3) (varF 2))) (opLF tupL (consA (varF 3) (consA (varF 4) nilA))) (enumKI (consA (varF 1) nilA)))))
def f_left_out : List D → Sto → R D := fnZ 5 b_left_out
def b_why_not : SF :=
 (retS (lcF [3, 4] (tupG 2 (consG (nameG 3) (consG (nameG 4) nilG))) (andT (boolF (op2F (inPD false) (varF 2) (callF 1 f_left_out (consA (varF 4) nilA)))) (boolF (op2F (inPD false) (callF 1 f_set_first (consA (varF 4) nilA)) (varF 1)))) (varF 3) (enumKI (consA (varF 0) nilA))))
def f_why_not : List D → Sto → R D := fnZ 5 b_why_not
def b_ring_among : SF :=
 (seqS (setS 2 (opLF celL nilA))
 (seqS (setS 3 (opLF celL nilA))
 (seqS (setS 4 (op2F ixD (varF 1) (litF (.int 0))))
 (seqS (whileS bigFuel (boolF (op2F (inPD true) (varF 4) (varF 2)))
 (seqS (exprS (methF appM (varF 2) (consA (varF 4) nilA)))
 (seqS (setS 5 (op2F ixD (callF 3 f_why_not (consA (varF 0) (consA (varF 1) (consA (varF 4) nilA)))) (litF (.int 0))))
 (seqS (exprS (methF appM (varF 3) (consA (varF 5) nilA)))
 (setS 4 (callF 1 f_set_first (consA (op2F ixD (varF 0) (varF 5)) nilA)))))))
 (retS (tupRevF (slF (varF 3) (someP (methF idxM (varF 2) (consA (varF 4) nilA))) noP)))))))
def f_ring_among : List D → Sto → R D := fnF 6 b_ring_among
def b_rule_of : SF :=
 (seqS (exprS (callF 1 f_need_company (consA (varF 0) nilA)))
 (seqS (exprS (callF 2 f_need_choices (consA (varF 0) (consA (varF 1) nilA))))
 (seqS (setS 2 (callF 1 f_all_pairs__c (consA (varF 0) nilA)))
 (seqS (setS 3 (opLF celL nilA))
 (seqS (whileS bigFuel (truF (varF 2))
 (seqS (setS 4 (lcF [5] (nameG 5) (notT (truF (callF 3 f_why_not (consA (varF 1) (consA (varF 2) (consA (varF 5) nilA)))))) (varF 5) (seqI (varF 2))))
 (seqS (ifS (notT (truF (varF 4)))
 (retS (opLF tupL (consA (litF (.str "ring")) (consA (callF 2 f_ring_among (consA (varF 1) (consA (varF 2) nilA))) nilA))))
 passS)
 (seqS (exprS (methF appM (varF 3) (consA (op2F ixD (varF 4) (litF (.int 0))) nilA)))
 (exprS (methF remM (varF 2) (consA (op2F ixD (varF 4) (litF (.int 0))) nilA)))))))
 (retS (opLF tupL (consA (litF (.str "rule")) (consA (opLF tupleL (consA (varF 3) nilA)) nilA)))))))))
def f_rule_of : List D → Sto → R D := fnF 6 b_rule_of
def b_makes_all : SF :=
 (seqS (setS 3 (dictZF (consA (callF 1 f_all_standings (consA (varF 0) nilA)) (consA (callF 2 f_plan_of (consA (varF 0) (consA (varF 2) nilA))) nilA))))
 (retS (allF [4, 5] (tupG 2 (consG (nameG 4) (consG (nameG 5) nilG))) (op2F eqD (dgetKF (varF 3) (varF 4)) (varF 5)) (seqI (varF 1)))))
def f_makes_all : List D → Sto → R D := fnF 6 b_makes_all
def b_makes : SF :=
 (seqS (exprS (callF 1 f_need_company (consA (varF 0) nilA)))
 (seqS (exprS (callF 2 f_need_choices (consA (varF 0) (consA (varF 1) nilA))))
 (seqS (exprS (callF 2 f_need_rule (consA (varF 0) (consA (varF 2) nilA))))
 (retS (callF 3 f_makes_all (consA (varF 0) (consA (varF 1) (consA (varF 2) nilA))))))))
def f_makes : List D → Sto → R D := fnF 3 b_makes
def b_are_numbers_of_choices : SF :=
 (seqS (ifS (orT (notT (truF (isiF isTup (varF 1)))) (notT (truF (varF 1))))
 (retS (litF (.bl false)))
 passS)
 (seqS (setS 2 (opLF lenL (consA (varF 0) nilA)))
 (retS (allF [3] (nameG 3) (andV (callF 1 f_is_whole (consA (varF 3) nilA)) (chainF (cmpI fun i j => decide (i ≤ j)) (cmpI fun i j => decide (i < j)) (litF (.int 0)) (varF 3) (varF 2))) (seqI (varF 1))))))
def f_are_numbers_of_choices : List D → Sto → R D := fnF 4 b_are_numbers_of_choices
def b_closes : SF :=
 (seqS (setS 2 (op2F addD (slF (varF 1) (someP (litF (.int 1))) noP) (slF (varF 1) noP (someP (litF (.int 1))))))
 (retS (opLF allL (consA (lcF [3, 4] (tupG 2 (consG (nameG 3) (consG (nameG 4) nilG))) yesT (op2F (inPD false) (callF 1 f_set_first (consA (op2F ixD (varF 0) (varF 4)) nilA)) (callF 1 f_left_out (consA (op2F ixD (varF 0) (varF 3)) nilA))) (zipMI (consA (varF 1) (consA (varF 2) nilA)))) nilA))))
def f_closes : List D → Sto → R D := fnF 5 b_closes
def b_is_ring : SF :=
 (seqS (exprS (callF 1 f_need_company (consA (varF 0) nilA)))
 (seqS (exprS (callF 2 f_need_choices (consA (varF 0) (consA (varF 1) nilA))))
 (retS (andV (callF 2 f_are_numbers_of_choices (consA (varF 1) (consA (varF 2) nilA))) (callF 2 f_closes (consA (varF 1) (consA (varF 2) nilA)))))))
def f_is_ring : List D → Sto → R D := fnF 3 b_is_ring
def b_law : SF :=
 (seqS (setS 1 (opLF tupL (consA (opLF tupL (consA (litF (.int 1)) (consA (litF (.int 1)) nilA))) (consA (opLF tupL (consA (opLF tupL (consA (litF (.int 0)) (consA (opLF tupL (consA (litF (.int 1)) (consA (litF (.int 1)) nilA))) nilA))) nilA)) nilA))))
 (seqS (parS 2 3 (consA (opLF tupL (consA (varF 1) nilA)) (consA (opLF tupL (consA (varF 1) (consA (opLF tupL (consA (opLF tupL (consA (litF (.int 2)) (consA (litF (.int 1)) nilA))) (consA (opLF tupL (consA (opLF tupL (consA (litF (.int 0)) (consA (opLF tupL (consA (litF (.int 1)) (consA (litF (.int 1)) nilA))) nilA))) nilA)) nilA))) nilA))) nilA)))
 (seqS (setS 4 (opLF tupL (consA (varF 3) (consA (varF 3) nilA))))
 (seqS (setS 5 (callF 1 f_rule_by_pays (consA (varF 4) nilA)))
 (seqS (ifS (orT (boolF (op2F neD (varF 5) (opLF tupL (consA (opLF tupL (consA (litF (.int 0)) (consA (litF (.int 1)) nilA))) (consA (opLF tupL (consA (litF (.int 1)) (consA (litF (.int 1)) nilA))) (consA (opLF tupL (consA (litF (.int 0)) (consA (litF (.int 0)) nilA))) (consA (opLF tupL (consA (litF (.int 1)) (consA (litF (.int 0)) nilA))) nilA))))))) (boolF (op2F neD (callF 2 f_rule_plan (consA (varF 4) (consA (varF 5) nilA))) (opLF tupL (consA (litF (.int 0)) (consA (litF (.int 1)) (consA (litF (.int 0)) (consA (litF (.int 0)) nilA))))))))
 (retS (litF (.bl false)))
 passS)
 (seqS (ifS (boolF (op2F neD (callF 2 f_rule_of (consA (varF 4) (consA (opLF tupL nilA) nilA))) (opLF tupL (consA (litF (.str "rule")) (consA (opLF tupL (consA (opLF tupL (consA (litF (.int 0)) (consA (litF (.int 0)) nilA))) (consA (opLF tupL (consA (litF (.int 0)) (consA (litF (.int 1)) nilA))) (consA (opLF tupL (consA (litF (.int 1)) (consA (litF (.int 0)) nilA))) (consA (opLF tupL (consA (litF (.int 1)) (consA (litF (.int 1)) nilA))) nilA))))) nilA)))))
 (retS (litF (.bl false)))
 passS)
 (seqS (setS 6 (opLF tupL (consA (opLF tupL (consA (opLF tupL (consA (litF (.int 0)) (consA (litF (.int 0)) nilA))) (consA (litF (.int 1)) nilA))) (consA (opLF tupL (consA (opLF tupL (consA (litF (.int 0)) (consA (litF (.int 1)) nilA))) (consA (litF (.int 0)) nilA))) (consA (opLF tupL (consA (opLF tupL (consA (litF (.int 1)) (consA (litF (.int 0)) nilA))) (consA (litF (.int 1)) nilA))) nilA)))))
 (seqS (ifS (boolF (op2F neD (callF 2 f_rule_of (consA (varF 4) (consA (varF 6) nilA))) (opLF tupL (consA (litF (.str "rule")) (consA (opLF tupL (consA (opLF tupL (consA (litF (.int 1)) (consA (litF (.int 0)) nilA))) (consA (opLF tupL (consA (litF (.int 0)) (consA (litF (.int 0)) nilA))) (consA (opLF tupL (consA (litF (.int 0)) (consA (litF (.int 1)) nilA))) (consA (opLF tupL (consA (litF (.int 1)) (consA (litF (.int 1)) nilA))) nilA))))) nilA)))))
 (retS (litF (.bl false)))
 passS)
 (seqS (setS 7 (opLF tupL (consA (opLF tupL (consA (opLF tupL (consA (litF (.int 0)) (consA (litF (.int 0)) nilA))) (consA (litF (.int 1)) nilA))) (consA (opLF tupL (consA (opLF tupL (consA (litF (.int 1)) (consA (litF (.int 1)) nilA))) (consA (litF (.int 0)) nilA))) (consA (opLF tupL (consA (opLF tupL (consA (litF (.int 0)) (consA (litF (.int 1)) nilA))) (consA (litF (.int 0)) nilA))) (consA (opLF tupL (consA (opLF tupL (consA (litF (.int 1)) (consA (litF (.int 0)) nilA))) (consA (litF (.int 0)) nilA))) nilA))))))
 (seqS (setS 8 (callF 2 f_rule_of (consA (varF 4) (consA (varF 7) nilA))))
 (seqS (ifS (orT (boolF (op2F neD (op2F ixD (varF 8) (litF (.int 0))) (litF (.str "rule")))) (boolF (op2F (isD true) (callF 3 f_makes (consA (varF 4) (consA (varF 7) (consA (op2F ixD (varF 8) (litF (.int 1))) nilA)))) (litF (.bl true)))))
 (retS (litF (.bl false)))
 passS)
 (seqS (setS 7 (op2F addD (slF (varF 7) noP (someP (litF (.int 2)))) (opLF tupL (consA (opLF tupL (consA (opLF tupL (consA (litF (.int 0)) (consA (litF (.int 1)) nilA))) (consA (litF (.int 1)) nilA))) (consA (opLF tupL (consA (opLF tupL (consA (litF (.int 1)) (consA (litF (.int 0)) nilA))) (consA (litF (.int 0)) nilA))) (consA (opLF tupL (consA (opLF tupL (consA (litF (.int 0)) (consA (litF (.int 1)) nilA))) (consA (litF (.int 0)) nilA))) nilA))))))
 (seqS (setS 8 (lcB [11] (nameG 11) yesT (callF 3 f_is_ring (consA (varF 4) (consA (varF 7) (consA (varF 11) nilA)))) (seqI (opLF tupL (consA (opLF tupL (consA (litF (.int 2)) (consA (litF (.int 4)) nilA))) (consA (opLF tupL (consA (litF (.int 4)) (consA (litF (.int 2)) nilA))) (consA (opLF tupL (consA (litF (.int 0)) (consA (litF (.int 1)) nilA))) (consA (opLF tupL (consA (litF (.int 2)) (consA (litF (.int 2)) nilA))) nilA))))))))
 (seqS (ifS (orT (boolF (op2F neD (op2F ixD (callF 2 f_rule_of (consA (varF 4) (consA (varF 7) nilA))) (litF (.int 0))) (litF (.str "ring")))) (boolF (op2F neD (varF 8) (opLF lstL (consA (litF (.bl true)) (consA (litF (.bl true)) (consA (litF (.bl false)) (consA (litF (.bl false)) nilA))))))))
 (retS (litF (.bl false)))
 passS)
 (seqS (setS 9 (opLF tupL (consA (varF 2) (consA (varF 2) (consA (varF 2) nilA)))))
 (seqS (setS 10 (opLF tupleL (consA (lcF [12] (nameG 12) yesT (opLF tupL (consA (opLF tupL (consA (litF (.int 0)) (consA (litF (.int 0)) (consA (litF (.int 0)) nilA)))) (consA (varF 12) nilA))) (seqI (opLF tupL (consA (litF (.int 1)) (consA (litF (.int 1)) nilA))))) nilA)))
 (seqS (ifS (boolF (op2F neD (callF 2 f_rule_of (consA (varF 9) (consA (varF 10) nilA))) (opLF tupL (consA (litF (.str "rule")) (consA (opLF tupL (consA (opLF tupL (consA (litF (.int 1)) (consA (litF (.int 0)) nilA))) (consA (opLF tupL (consA (litF (.int 0)) (consA (litF (.int 0)) nilA))) (consA (opLF tupL (consA (litF (.int 2)) (consA (litF (.int 0)) nilA))) nilA)))) nilA)))))
 (retS (litF (.bl false)))
 passS)
 (seqS (setS 8 (opLF celL (consA (callF 2 f_is_rule (consA (varF 9) (consA (opLF tupL (consA (opLF tupL (consA (litF (.int 2)) (consA (litF (.int 0)) nilA))) (consA (opLF tupL (consA (litF (.int 0)) (consA (litF (.int 0)) nilA))) (consA (opLF tupL (consA (litF (.int 1)) (consA (litF (.int 0)) nilA))) nilA)))) nilA))) (consA (callF 2 f_is_rule (consA (varF 9) (consA (opLF tupL (consA (opLF tupL (consA (litF (.int 0)) (consA (litF (.int 0)) nilA))) (consA (opLF tupL (consA (litF (.int 1)) (consA (litF (.int 0)) nilA))) nilA))) nilA))) nilA))))
 (seqS (exprS (methF appM (varF 8) (consA (callF 3 f_makes (consA (varF 9) (consA (varF 10) (consA (opLF tupL (consA (opLF tupL (consA (litF (.int 0)) (consA (litF (.int 0)) nilA))) (consA (opLF tupL (consA (litF (.int 1)) (consA (litF (.int 0)) nilA))) (consA (opLF tupL (consA (litF (.int 2)) (consA (litF (.int 0)) nilA))) nilA)))) nilA)))) nilA)))
 (seqS (setS 8 (op2F addD (varF 8) (opLF lstL (consA (callF 3 f_is_ring (consA (varF 9) (consA (varF 10) (consA (opLF tupL (consA (litF (.int 0)) (consA (litF (.int 1)) nilA))) nilA)))) (consA (callF 3 f_is_ring (consA (varF 9) (consA (varF 10) (consA (opLF tupL (consA (litF (.int 0)) nilA)) nilA)))) nilA)))))
 (retS (op2F eqD (varF 8) (opLF lstL (consA (litF (.bl true)) (consA (litF (.bl false)) (consA (litF (.bl false)) (consA (litF (.bl false)) (consA (litF (.bl false)) nilA))))))))))))))))))))))))))))
def f_law : List D → Sto → R D := fnF 13 b_law
end Lw

namespace Lw
open PySem PySem.Spec PyProof.Rows L2 Ev
def top (i : Nat) : Stmt := PySem.Challenge.pw_nextwork_k49_choices_by_hand.main.body.getD i (.Pass ⟨0, 0, 0, 0⟩)
structure Txt [Tabs] (w : World) (K : PySem.W.Frag) (mg : Str → Option Value) (xm : List Addr) : Prop where
  wd : Tabs.wd = some w
  n_all : mg "all" = none
  n_bool : mg "bool" = none
  n_dict : mg "dict" = none
  n_enumerate : mg "enumerate" = none
  n_int : mg "int" = none
  n_isinstance : mg "isinstance" = none
  n_len : mg "len" = none
  n_min : mg "min" = none
  n_range : mg "range" = none
  n_reversed : mg "reversed" = none
  n_sorted : mg "sorted" = none
  n_tuple : mg "tuple" = none
  n_zip : mg "zip" = none
  m_gcd : mg "gcd" = some (.builtin "math.gcd")
  m_lcm : mg "lcm" = some (.builtin "math.lcm")
  x_NoChoices : ExAt K mg xm "NoChoices" 0
  x_NoCompany : ExAt K mg xm "NoCompany" 1
  x_NoFraction : ExAt K mg xm "NoFraction" 2
  x_NoRule : ExAt K mg xm "NoRule" 3
  k_MOST_CHOICES : ∃ u, mg "MOST_CHOICES" = some u ∧ RelV (.int 20) u
  k_MOST_STANDINGS : ∃ u, mg "MOST_STANDINGS" = some u ∧ RelV (.int 12) u
  k_MOST_STATES : ∃ u, mg "MOST_STATES" = some u ∧ RelV (.int 6) u
  k_MOST_WORKS : ∃ u, mg "MOST_WORKS" = some u ∧ RelV (.int 3) u
section
variable [Tabs] {P : Program} {w : World} {K : PySem.W.Frag} {mg : Str → Option Value} {base : Heap} {xm : List Addr}
abbrev s_is_whole : Stmt := top 8
theorem sc_is_whole : FnScope ["value"] ["value"] (defScope s_is_whole) := ⟨rfl, rfl, rfl, by decide +kernel, rfl, by decide +kernel, by decide +kernel⟩
theorem ok_is_whole {f : Addr} {fd : FuncData} (F : Fun K "is_whole" "is_whole" s_is_whole f fd) (T : Txt w K mg xm) : FnG P w K mg base 1 f fd ["value"] (spF K xm f_is_whole 1) :=
  FnG.by T.wd (g := b_is_whole) F sc_is_whole rfl rfl fun cdv A outer s H E G =>
 (sl_one (ss_ret (sn_and (sn_isi G kit_int (sn_var 0) (by rfl) T.n_isinstance (by rfl) T.n_int bt_int) (sn_one (sn_not (sn_isi G kit_bool (sn_var 0) (by rfl) T.n_isinstance (by rfl) T.n_bool bt_bool))))))
abbrev s_is_fraction : Stmt := top 9
theorem sc_is_fraction : FnScope ["value", "top", "bottom"] ["value"] (defScope s_is_fraction) := ⟨rfl, rfl, rfl, by decide +kernel, rfl, by decide +kernel, by decide +kernel⟩
theorem ok_is_fraction {f : Addr} {fd : FuncData} (F : Fun K "is_fraction" "is_fraction" s_is_fraction f fd) (T : Txt w K mg xm) (d_is_whole : DefAt P w K mg base xm 1 "is_whole" ["value"] f_is_whole) : FnG P w K mg base 2 f fd ["value"] (spF K xm f_is_fraction 1) :=
  FnG.by T.wd (g := b_is_fraction) F sc_is_fraction rfl rfl fun cdv A outer s H E G =>
 (sl_cons (ss_if (PW.pt (sw_or (st_not (st_truth (sn_isi G kit_tup (sn_var 0) (by rfl) T.n_isinstance (by rfl) T.n_tuple bt_tuple))) (sw_or1 (st_cmp (or_ne G.rm) (sn_bi cl_len (by rfl) T.n_len bt_len (sa_cons (sn_var 0) sa_nil)) sn_int))))
 (sl_one (ss_ret sn_bl))
 sl_nil)
 (sl_cons (ss_asg (S := [0, 1, 2]) (sn_var 0) (sg_tup G (sg_cons (sg_name G.nd 1) (sg_cons (sg_name G.nd 2) sg_nil))))
 (sl_cons (ss_if (PW.pt (sw_or (st_not (st_truth (sn_call d_is_whole G (sa_cons (sn_var 1) sa_nil)))) (sw_or1 (st_not (st_truth (sn_call d_is_whole G (sa_cons (sn_var 2) sa_nil)))))))
 (sl_one (ss_ret sn_bl))
 sl_nil)
 (sl_one (ss_ret (sn_and (sn_cmp or_ge (sn_var 2) sn_int) (sn_one (sn_cmp (or_eq G.rm) (sn_bf cl_gcd (by rfl) T.m_gcd (sa_cons (sn_var 1) (sa_cons (sn_var 2) sa_nil))) sn_int))))))))
abbrev s_need_fraction : Stmt := top 10
theorem sc_need_fraction : FnScope ["value"] ["value"] (defScope s_need_fraction) := ⟨rfl, rfl, rfl, by decide +kernel, rfl, by decide +kernel, by decide +kernel⟩
theorem ok_need_fraction {f : Addr} {fd : FuncData} (F : Fun K "need_fraction" "need_fraction" s_need_fraction f fd) (T : Txt w K mg xm) (d_is_fraction : DefAt P w K mg base xm 2 "is_fraction" ["value"] f_is_fraction) : FnG P w K mg base 3 f fd ["value"] (spF K xm f_need_fraction 1) :=
  FnG.by T.wd (g := b_need_fraction) F sc_need_fraction rfl rfl fun cdv A outer s H E G =>
 (sl_one (ss_if (st_not (st_truth (sn_call d_is_fraction G (sa_cons (sn_var 0) sa_nil))))
 (sl_one (ss_raise T.x_NoFraction G))
 sl_nil))
abbrev s_fraction : Stmt := top 11
theorem sc_fraction : FnScope ["top", "bottom", "common"] ["top", "bottom"] (defScope s_fraction) := ⟨rfl, rfl, rfl, by decide +kernel, rfl, by decide +kernel, by decide +kernel⟩
theorem ok_fraction {f : Addr} {fd : FuncData} (F : Fun K "fraction" "fraction" s_fraction f fd) (T : Txt w K mg xm) (d_is_whole : DefAt P w K mg base xm 1 "is_whole" ["value"] f_is_whole) : FnG P w K mg base 2 f fd ["top", "bottom"] (spF K xm f_fraction 2) :=
  FnG.by T.wd (g := b_fraction) F sc_fraction rfl rfl fun cdv A outer s H E G =>
 (sl_cons (ss_if (PW.pt (sw_or (st_not (st_truth (sn_call d_is_whole G (sa_cons (sn_var 0) sa_nil)))) (sw_or1 (st_not (st_truth (sn_call d_is_whole G (sa_cons (sn_var 1) sa_nil)))))))
 (sl_one (ss_raise T.x_NoFraction G))
 sl_nil)
 (sl_cons (ss_if (st_cmp (or_eq G.rm) (sn_var 1) sn_int)
 (sl_one (ss_raise T.x_NoFraction G))
 sl_nil)
 (sl_cons (ss_set G.nd 2 (sn_bf cl_gcd (by rfl) T.m_gcd (sa_cons (sn_var 0) (sa_cons (sn_var 1) sa_nil))))
 (sl_cons (ss_if (st_cmp or_lt (sn_var 1) sn_int)
 (sl_one (ss_set G.nd 2 (sn_op1 un_negD (sn_var 2))))
 sl_nil)
 (sl_one (ss_ret (sn_tup (sa_cons (sn_op2 or_fdiv (sn_var 0) (sn_var 2)) (sa_cons (sn_op2 or_fdiv (sn_var 1) (sn_var 2)) sa_nil)))))))))
abbrev s_plus : Stmt := top 12
theorem sc_plus : FnScope ["one", "other"] ["one", "other"] (defScope s_plus) := ⟨rfl, rfl, rfl, by decide +kernel, rfl, by decide +kernel, by decide +kernel⟩
theorem ok_plus {f : Addr} {fd : FuncData} (F : Fun K "plus" "plus" s_plus f fd) (T : Txt w K mg xm) (d_need_fraction : DefAt P w K mg base xm 3 "need_fraction" ["value"] f_need_fraction) (d_fraction : DefAt P w K mg base xm 2 "fraction" ["top", "bottom"] f_fraction) : FnG P w K mg base 4 f fd ["one", "other"] (spF K xm f_plus 2) :=
  FnG.by T.wd (g := b_plus) F sc_plus rfl rfl fun cdv A outer s H E G =>
 (sl_cons (ss_expr (sn_call d_need_fraction G (sa_cons (sn_var 0) sa_nil)))
 (sl_cons (ss_expr (sn_call d_need_fraction G (sa_cons (sn_var 1) sa_nil)))
 (sl_one (ss_ret (sn_call d_fraction G (sa_cons (sn_op2 or_add (sn_op2 or_mul (sn_ix (sn_var 0) sn_int) (sn_ix (sn_var 1) sn_int)) (sn_op2 or_mul (sn_ix (sn_var 1) sn_int) (sn_ix (sn_var 0) sn_int))) (sa_cons (sn_op2 or_mul (sn_ix (sn_var 0) sn_int) (sn_ix (sn_var 1) sn_int)) sa_nil)))))))
abbrev s_common_bottom : Stmt := top 13
theorem sc_common_bottom : FnScope ["values", "common", "_", "bottom"] ["values"] (defScope s_common_bottom) := ⟨rfl, rfl, rfl, by decide +kernel, rfl, by decide +kernel, by decide +kernel⟩
theorem ok_common_bottom {f : Addr} {fd : FuncData} (F : Fun K "common_bottom" "common_bottom" s_common_bottom f fd) (T : Txt w K mg xm) : FnG P w K mg base 1 f fd ["values"] (spF K xm f_common_bottom 1) :=
  FnG.by T.wd (g := b_common_bottom) F sc_common_bottom rfl rfl fun cdv A outer s H E G =>
 (sl_cons (ss_set G.nd 1 sn_int)
 (sl_cons (ss_for (S := [0, 1, 2, 3]) G (si_seq (sn_var 0)) (sg_tup G (sg_cons (sg_name G.nd 2) (sg_cons (sg_name G.nd 3) sg_nil)))
 (sl_one (ss_set G.nd 1 (sn_bf cl_lcm (by rfl) T.m_lcm (sa_cons (sn_var 1) (sa_cons (sn_var 3) sa_nil))))))
 (sl_one (ss_ret (sn_var 1)))))
abbrev s_is_move : Stmt := top 19
theorem sc_is_move : FnScope ["move", "before", "many", "state", "chance"] ["move", "before", "many"] (defScope s_is_move) := ⟨rfl, rfl, rfl, by decide +kernel, rfl, by decide +kernel, by decide +kernel⟩
theorem ok_is_move {f : Addr} {fd : FuncData} (F : Fun K "_is_move" "_is_move" s_is_move f fd) (T : Txt w K mg xm) (d_is_whole : DefAt P w K mg base xm 1 "is_whole" ["value"] f_is_whole) (d_is_fraction : DefAt P w K mg base xm 2 "is_fraction" ["value"] f_is_fraction) : FnG P w K mg base 3 f fd ["move", "before", "many"] (spF K xm f_is_move 3) :=
  FnG.by T.wd (g := b_is_move) F sc_is_move rfl rfl fun cdv A outer s H E G =>
 (sl_cons (ss_if (PW.pt (sw_or (st_not (st_truth (sn_isi G kit_tup (sn_var 0) (by rfl) T.n_isinstance (by rfl) T.n_tuple bt_tuple))) (sw_or1 (st_cmp (or_ne G.rm) (sn_bi cl_len (by rfl) T.n_len bt_len (sa_cons (sn_var 0) sa_nil)) sn_int))))
 (sl_one (ss_ret sn_bl))
 sl_nil)
 (sl_cons (ss_asg (S := [0, 1, 2, 3, 4]) (sn_var 0) (sg_tup G (sg_cons (sg_name G.nd 3) (sg_cons (sg_name G.nd 4) sg_nil))))
 (sl_cons (ss_if (PW.pt (sw_or (st_not (st_truth (sn_call d_is_whole G (sa_cons (sn_var 3) sa_nil)))) (sw_or1 (st_not (st_chain or_lt or_lt (sn_var 1) (sn_var 3) (sn_var 2))))))
 (sl_one (ss_ret sn_bl))
 sl_nil)
 (sl_one (ss_ret (sn_and (sn_call d_is_fraction G (sa_cons (sn_var 4) sa_nil)) (sn_one (sn_cmp or_gt (sn_ix (sn_var 4) sn_int) sn_int))))))))
abbrev s_are_moves : Stmt := top 18
theorem sc_are_moves : FnScope ["moves", "many", "before", "total", "move", "chance"] ["moves", "many"] (defScope s_are_moves) := ⟨rfl, rfl, rfl, by decide +kernel, rfl, by decide +kernel, by decide +kernel⟩
theorem ok_are_moves {f : Addr} {fd : FuncData} (F : Fun K "_are_moves" "_are_moves" s_are_moves f fd) (T : Txt w K mg xm) (d_plus : DefAt P w K mg base xm 4 "plus" ["one", "other"] f_plus) (d_is_move : DefAt P w K mg base xm 3 "_is_move" ["move", "before", "many"] f_is_move) : FnG P w K mg base 5 f fd ["moves", "many"] (spF K xm f_are_moves 2) :=
  FnG.by T.wd (g := b_are_moves) F sc_are_moves rfl rfl fun cdv A outer s H E G =>
 (sl_cons (ss_if (st_not (st_truth (sn_isi G kit_tup (sn_var 0) (by rfl) T.n_isinstance (by rfl) T.n_tuple bt_tuple)))
 (sl_one (ss_ret sn_bl))
 sl_nil)
 (sl_cons (ss_set G.nd 2 (sn_op1 un_negD sn_int))
 (sl_cons (ss_set G.nd 3 (sn_tup (sa_cons sn_int (sa_cons sn_int sa_nil))))
 (sl_cons (ss_for (S := [0, 1, 2, 3, 4, 5]) G (si_seq (sn_var 0)) (sg_name G.nd 4)
 (sl_cons (ss_if (st_not (st_truth (sn_call d_is_move G (sa_cons (sn_var 4) (sa_cons (sn_var 2) (sa_cons (sn_var 1) sa_nil))))))
 (sl_one (ss_ret sn_bl))
 sl_nil)
 (sl_cons (ss_asg (S := [0, 1, 2, 3, 4, 5]) (sn_var 4) (sg_tup G (sg_cons (sg_name G.nd 2) (sg_cons (sg_name G.nd 5) sg_nil))))
 (sl_one (ss_set G.nd 3 (sn_call d_plus G (sa_cons (sn_var 3) (sa_cons (sn_var 5) sa_nil))))))))
 (sl_one (ss_ret (sn_cmp (or_eq G.rm) (sn_var 3) (sn_tup (sa_cons sn_int (sa_cons sn_int sa_nil))))))))))
abbrev s_is_row : Stmt := top 17
theorem sc_is_row : FnScope ["row", "many", "pay", "moves"] ["row", "many"] (defScope s_is_row) := ⟨rfl, rfl, rfl, by decide +kernel, rfl, by decide +kernel, by decide +kernel⟩
theorem ok_is_row {f : Addr} {fd : FuncData} (F : Fun K "_is_row" "_is_row" s_is_row f fd) (T : Txt w K mg xm) (d_is_fraction : DefAt P w K mg base xm 2 "is_fraction" ["value"] f_is_fraction) (d_are_moves : DefAt P w K mg base xm 5 "_are_moves" ["moves", "many"] f_are_moves) : FnG P w K mg base 6 f fd ["row", "many"] (spF K xm f_is_row 2) :=
  FnG.by T.wd (g := b_is_row) F sc_is_row rfl rfl fun cdv A outer s H E G =>
 (sl_cons (ss_if (PW.pt (sw_or (st_not (st_truth (sn_isi G kit_tup (sn_var 0) (by rfl) T.n_isinstance (by rfl) T.n_tuple bt_tuple))) (sw_or1 (st_cmp (or_ne G.rm) (sn_bi cl_len (by rfl) T.n_len bt_len (sa_cons (sn_var 0) sa_nil)) sn_int))))
 (sl_one (ss_ret sn_bl))
 sl_nil)
 (sl_cons (ss_asg (S := [0, 1, 2, 3]) (sn_var 0) (sg_tup G (sg_cons (sg_name G.nd 2) (sg_cons (sg_name G.nd 3) sg_nil))))
 (sl_one (ss_ret (sn_and (sn_call d_is_fraction G (sa_cons (sn_var 2) sa_nil)) (sn_one (sn_call d_are_moves G (sa_cons (sn_var 3) (sa_cons (sn_var 1) sa_nil)))))))))
abbrev s_is_work : Stmt := top 16
theorem sc_is_work : FnScope ["value", "many", "row"] ["value"] (defScope s_is_work) := ⟨rfl, rfl, rfl, by decide +kernel, rfl, by decide +kernel, by decide +kernel⟩
theorem ok_is_work {f c T0 : Addr} {fd : FuncData} (F : FunT K "is_work" "is_work" s_is_work f fd c) (TB : GxR.TabB base mg c T0) (M : T0 ∈ Tabs.tb) (T : Txt w K mg xm) (d_is_row : DefAt P w K mg base xm 6 "_is_row" ["row", "many"] f_is_row) : FnG P w K mg base 8 f fd ["value"] (spF K xm f_is_work 1) :=
  FnG.byT T.wd (g := b_is_work) F TB M sc_is_work rfl rfl fun A outer s H E G B =>
 (sl_cons (ss_if (PW.pt (sw_or (st_not (st_truth (sn_isi G kit_tup (sn_var 0) (by rfl) T.n_isinstance (by rfl) T.n_tuple bt_tuple))) (sw_or1 (st_not (st_chain or_le or_le sn_int (sn_bi cl_len (by rfl) T.n_len bt_len (sa_cons (sn_var 0) sa_nil)) (sn_glob T.k_MOST_STATES fun _ _ => (.int _)))))))
 (sl_one (ss_ret sn_bl))
 sl_nil)
 (sl_cons (ss_set G.nd 1 (sn_bi cl_len (by rfl) T.n_len bt_len (sa_cons (sn_var 0) sa_nil)))
 (sl_one (ss_ret (sn_all [("row", 2)] B G T.n_all (si_seq (sn_var 0)) (genOk_by (by first | decide +kernel | rfl) (by first | decide +kernel | rfl)) (fun _ _ _ _ _ G => (sg_name G.nd 2)) (fun _ _ _ _ _ G => (sn_call d_is_row G (sa_cons (sn_var 2) (sa_cons (sn_var 1) sa_nil)))))))))
abbrev s_is_state : Stmt := top 20
theorem sc_is_state : FnScope ["work", "value"] ["work", "value"] (defScope s_is_state) := ⟨rfl, rfl, rfl, by decide +kernel, rfl, by decide +kernel, by decide +kernel⟩
theorem ok_is_state {f : Addr} {fd : FuncData} (F : Fun K "is_state" "is_state" s_is_state f fd) (T : Txt w K mg xm) (d_is_whole : DefAt P w K mg base xm 1 "is_whole" ["value"] f_is_whole) : FnG P w K mg base 2 f fd ["work", "value"] (spF K xm f_is_state 2) :=
  FnG.by T.wd (g := b_is_state) F sc_is_state rfl rfl fun cdv A outer s H E G =>
 (sl_one (ss_ret (sn_and (sn_call d_is_whole G (sa_cons (sn_var 1) sa_nil)) (sn_one (sn_chain or_le or_lt sn_int (sn_var 1) (sn_bi cl_len (by rfl) T.n_len bt_len (sa_cons (sn_var 0) sa_nil)))))))
abbrev s_is_company : Stmt := top 24
theorem sc_is_company : FnScope ["value", "many", "work"] ["value"] (defScope s_is_company) := ⟨rfl, rfl, rfl, by decide +kernel, rfl, by decide +kernel, by decide +kernel⟩
theorem ok_is_company {f : Addr} {fd : FuncData} (F : Fun K "is_company" "is_company" s_is_company f fd) (T : Txt w K mg xm) (d_is_work : DefAt P w K mg base xm 8 "is_work" ["value"] f_is_work) : FnG P w K mg base 9 f fd ["value"] (spF K xm f_is_company 1) :=
  FnG.by T.wd (g := b_is_company) F sc_is_company rfl rfl fun cdv A outer s H E G =>
 (sl_cons (ss_if (PW.pt (sw_or (st_not (st_truth (sn_isi G kit_tup (sn_var 0) (by rfl) T.n_isinstance (by rfl) T.n_tuple bt_tuple))) (sw_or1 (st_not (st_chain or_le or_le sn_int (sn_bi cl_len (by rfl) T.n_len bt_len (sa_cons (sn_var 0) sa_nil)) (sn_glob T.k_MOST_WORKS fun _ _ => (.int _)))))))
 (sl_one (ss_ret sn_bl))
 sl_nil)
 (sl_cons (ss_set G.nd 1 sn_int)
 (sl_cons (ss_for (S := [0, 1, 2]) G (si_seq (sn_var 0)) (sg_name G.nd 2)
 (sl_cons (ss_if (st_not (st_truth (sn_call d_is_work G (sa_cons (sn_var 2) sa_nil))))
 (sl_one (ss_ret sn_bl))
 sl_nil)
 (sl_one (ss_set G.nd 1 (sn_op2 or_mul (sn_var 1) (sn_bi cl_len (by rfl) T.n_len bt_len (sa_cons (sn_var 2) sa_nil)))))))
 (sl_one (ss_ret (sn_cmp or_le (sn_var 1) (sn_glob T.k_MOST_STANDINGS fun _ _ => (.int _))))))))
abbrev s_is_number_of_work : Stmt := top 25
theorem sc_is_number_of_work : FnScope ["company", "value"] ["company", "value"] (defScope s_is_number_of_work) := ⟨rfl, rfl, rfl, by decide +kernel, rfl, by decide +kernel, by decide +kernel⟩
theorem ok_is_number_of_work {f : Addr} {fd : FuncData} (F : Fun K "is_number_of_work" "is_number_of_work" s_is_number_of_work f fd) (T : Txt w K mg xm) (d_is_whole : DefAt P w K mg base xm 1 "is_whole" ["value"] f_is_whole) : FnG P w K mg base 2 f fd ["company", "value"] (spF K xm f_is_number_of_work 2) :=
  FnG.by T.wd (g := b_is_number_of_work) F sc_is_number_of_work rfl rfl fun cdv A outer s H E G =>
 (sl_one (ss_ret (sn_and (sn_call d_is_whole G (sa_cons (sn_var 1) sa_nil)) (sn_one (sn_chain or_le or_lt sn_int (sn_var 1) (sn_bi cl_len (by rfl) T.n_len bt_len (sa_cons (sn_var 0) sa_nil)))))))
abbrev s_is_standing : Stmt := top 26
theorem sc_is_standing : FnScope ["company", "value", "work", "state"] ["company", "value"] (defScope s_is_standing) := ⟨rfl, rfl, rfl, by decide +kernel, rfl, by decide +kernel, by decide +kernel⟩
theorem ok_is_standing {f : Addr} {fd : FuncData} (F : Fun K "is_standing" "is_standing" s_is_standing f fd) (T : Txt w K mg xm) (d_is_state : DefAt P w K mg base xm 2 "is_state" ["work", "value"] f_is_state) : FnG P w K mg base 3 f fd ["company", "value"] (spF K xm f_is_standing 2) :=
  FnG.by T.wd (g := b_is_standing) F sc_is_standing rfl rfl fun cdv A outer s H E G =>
 (sl_cons (ss_if (PW.pt (sw_or (st_not (st_truth (sn_isi G kit_tup (sn_var 1) (by rfl) T.n_isinstance (by rfl) T.n_tuple bt_tuple))) (sw_or1 (st_cmp (or_ne G.rm) (sn_bi cl_len (by rfl) T.n_len bt_len (sa_cons (sn_var 1) sa_nil)) (sn_bi cl_len (by rfl) T.n_len bt_len (sa_cons (sn_var 0) sa_nil))))))
 (sl_one (ss_ret sn_bl))
 sl_nil)
 (sl_one (ss_ret (sn_bi (cl_all G.cm) (by rfl) T.n_all bt_all (sa_cons (sn_lc [("work", 2), ("state", 3)] G (si_zipM (by rfl) T.n_zip (sa_cons (sn_var 0) (sa_cons (sn_var 1) sa_nil))) (blkOk_by (by first | decide +kernel | rfl)) (fun _ _ _ _ _ G => (sg_tup G (sg_cons (sg_name G.nd 2) (sg_cons (sg_name G.nd 3) sg_nil)))) (fun _ _ _ _ _ G => st_yes) (fun _ _ _ _ _ G => (sn_call d_is_state G (sa_cons (sn_var 2) (sa_cons (sn_var 3) sa_nil))))) sa_nil)))))
abbrev s_need_company : Stmt := top 27
theorem sc_need_company : FnScope ["value"] ["value"] (defScope s_need_company) := ⟨rfl, rfl, rfl, by decide +kernel, rfl, by decide +kernel, by decide +kernel⟩
theorem ok_need_company {f : Addr} {fd : FuncData} (F : Fun K "need_company" "need_company" s_need_company f fd) (T : Txt w K mg xm) (d_is_company : DefAt P w K mg base xm 9 "is_company" ["value"] f_is_company) : FnG P w K mg base 10 f fd ["value"] (spF K xm f_need_company 1) :=
  FnG.by T.wd (g := b_need_company) F sc_need_company rfl rfl fun cdv A outer s H E G =>
 (sl_one (ss_if (st_not (st_truth (sn_call d_is_company G (sa_cons (sn_var 0) sa_nil))))
 (sl_one (ss_raise T.x_NoCompany G))
 sl_nil))
abbrev s_all_standings : Stmt := top 28
theorem sc_all_standings : FnScope ["company", "found", "work", "front", "state"] ["company"] (defScope s_all_standings) := ⟨rfl, rfl, rfl, by decide +kernel, rfl, by decide +kernel, by decide +kernel⟩
theorem ok_all_standings {f : Addr} {fd : FuncData} (F : Fun K "all_standings" "all_standings" s_all_standings f fd) (T : Txt w K mg xm) : FnG P w K mg base 1 f fd ["company"] (spF K xm f_all_standings 1) :=
  FnG.byZ T.wd (g := b_all_standings) F sc_all_standings rfl rfl fun cdv A outer s H E G =>
 (sl_cons (ss_set G.nd 1 (sn_lst (sa_cons (sn_tup sa_nil) sa_nil)))
 (sl_cons (ss_for (S := [0, 1, 2, 3, 4]) G (si_seq (sn_var 0)) (sg_name G.nd 2)
 (sl_one (ss_setLc2r false [("front", 3), ("state", 4)] [4] G 1 (si_seq (sn_var 1)) (blkOk_by (by first | decide +kernel | rfl)) (by decide) (fun _ _ _ _ _ G => (sg_name G.nd 3)) (fun _ _ _ _ _ G => (si_rng1 (by rfl) T.n_range (sa_cons (sn_bi cl_len (by rfl) T.n_len bt_len (sa_cons (sn_var 2) sa_nil)) sa_nil))) (fun _ _ _ _ _ G => (sg_name G.nd 4)) (fun _ _ _ _ _ G => (sn_op2 or_add (sn_var 3) (sn_tup (sa_cons (sn_var 4) sa_nil)))))))
 (sl_one (ss_ret (sn_var 1)))))
abbrev s_all_pairs : Stmt := top 30
theorem sc_all_pairs : FnScope ["company", "number", "work", "state"] ["company"] (defScope s_all_pairs) := ⟨rfl, rfl, rfl, by decide +kernel, rfl, by decide +kernel, by decide +kernel⟩
theorem ok_all_pairs {f : Addr} {fd : FuncData} (F : Fun K "all_pairs" "all_pairs" s_all_pairs f fd) (T : Txt w K mg xm) : FnG P w K mg base 1 f fd ["company"] (spF K xm f_all_pairs 1) :=
  FnG.byZ T.wd (g := b_all_pairs) F sc_all_pairs rfl rfl fun cdv A outer s H E G =>
 (sl_one (ss_ret (sn_lc2r false [("number", 1), ("work", 2), ("state", 3)] [3] G (si_enumK (by rfl) T.n_enumerate (sa_cons (sn_var 0) sa_nil)) (blkOk_by (by first | decide +kernel | rfl)) (by decide) (fun _ _ _ _ _ G => (sg_tup G (sg_cons (sg_name G.nd 1) (sg_cons (sg_name G.nd 2) sg_nil)))) (fun _ _ _ _ _ G => (si_rng1 (by rfl) T.n_range (sa_cons (sn_bi cl_len (by rfl) T.n_len bt_len (sa_cons (sn_var 2) sa_nil)) sa_nil))) (fun _ _ _ _ _ G => (sg_name G.nd 3)) (fun _ _ _ _ _ G => (sn_tup (sa_cons (sn_var 1) (sa_cons (sn_var 3) sa_nil)))))))
abbrev s_all_pairs__c : Stmt := top 30
theorem sc_all_pairs__c : FnScope ["company", "number", "work", "state"] ["company"] (defScope s_all_pairs__c) := ⟨rfl, rfl, rfl, by decide +kernel, rfl, by decide +kernel, by decide +kernel⟩
theorem ok_all_pairs__c {f : Addr} {fd : FuncData} (F : Fun K "all_pairs" "all_pairs" s_all_pairs__c f fd) (T : Txt w K mg xm) : FnG P w K mg base 1 f fd ["company"] (spF K xm f_all_pairs__c 1) :=
  FnG.by T.wd (g := b_all_pairs__c) F sc_all_pairs__c rfl rfl fun cdv A outer s H E G =>
 (sl_one (ss_ret (sn_lc2r true [("number", 1), ("work", 2), ("state", 3)] [3] G (si_enumK (by rfl) T.n_enumerate (sa_cons (sn_var 0) sa_nil)) (blkOk_by (by first | decide +kernel | rfl)) (by decide) (fun _ _ _ _ _ G => (sg_tup G (sg_cons (sg_name G.nd 1) (sg_cons (sg_name G.nd 2) sg_nil)))) (fun _ _ _ _ _ G => (si_rng1 (by rfl) T.n_range (sa_cons (sn_bi cl_len (by rfl) T.n_len bt_len (sa_cons (sn_var 2) sa_nil)) sa_nil))) (fun _ _ _ _ _ G => (sg_name G.nd 3)) (fun _ _ _ _ _ G => (sn_tup (sa_cons (sn_var 1) (sa_cons (sn_var 3) sa_nil)))))))
abbrev s_greatest_first : Stmt := top 32
theorem sc_greatest_first : FnScope ["company", "told", "pairs", "values", "common", "rows", "work", "state", "top", "bottom", "pair", "_"] ["company", "told"] (defScope s_greatest_first) := ⟨rfl, rfl, rfl, by decide +kernel, rfl, by decide +kernel, by decide +kernel⟩
theorem ok_greatest_first {f : Addr} {fd : FuncData} (F : Fun K "_greatest_first" "_greatest_first" s_greatest_first f fd) (T : Txt w K mg xm) (d_common_bottom : DefAt P w K mg base xm 1 "common_bottom" ["values"] f_common_bottom) (d_all_pairs : DefAt P w K mg base xm 1 "all_pairs" ["company"] f_all_pairs) : FnG P w K mg base 2 f fd ["company", "told"] (spF K xm f_greatest_first 2) :=
  FnG.by T.wd (g := b_greatest_first) F sc_greatest_first rfl rfl fun cdv A outer s H E G =>
 (sl_cons (ss_set G.nd 2 (sn_call d_all_pairs G (sa_cons (sn_var 0) sa_nil)))
 (sl_cons (ss_setLc [("work", 6), ("state", 7)] G 3 (si_seq (sn_var 2)) (blkOk_by (by first | decide +kernel | rfl)) (fun _ _ _ _ _ G => (sg_tup G (sg_cons (sg_name G.nd 6) (sg_cons (sg_name G.nd 7) sg_nil)))) (fun _ _ _ _ _ G => st_yes) (fun _ _ _ _ _ G => (sn_ix (sn_ix (sn_var 1) (sn_var 6)) (sn_var 7))))
 (sl_cons (ss_set G.nd 4 (sn_call d_common_bottom G (sa_cons (sn_var 3) sa_nil)))
 (sl_cons (ss_set G.nd 5 (sn_bi (cl_sortT G.rm) (by rfl) T.n_sorted bt_sorted (sa_cons (sn_lc [("top", 8), ("bottom", 9), ("pair", 10)] G (si_zipM (by rfl) T.n_zip (sa_cons (sn_var 3) (sa_cons (sn_var 2) sa_nil))) (blkOk_by (by first | decide +kernel | rfl)) (fun _ _ _ _ _ G => (sg_tup G (sg_cons (sg_tup G (sg_cons (sg_name G.nd 8) (sg_cons (sg_name G.nd 9) sg_nil))) (sg_cons (sg_name G.nd 10) sg_nil)))) (fun _ _ _ _ _ G => st_yes) (fun _ _ _ _ _ G => (sn_tup (sa_cons (sn_op2 or_mul (sn_op1 un_negD (sn_var 8)) (sn_op2 or_fdiv (sn_var 4) (sn_var 9))) (sa_cons (sn_var 10) sa_nil))))) sa_nil)))
 (sl_one (ss_ret (sn_ty cl_tuple (by rfl) T.n_tuple bt_tuple (sa_cons (sn_lc [("_", 11), ("pair", 10)] G (si_seq (sn_var 5)) (blkOk_by (by first | decide +kernel | rfl)) (fun _ _ _ _ _ G => (sg_tup G (sg_cons (sg_name G.nd 11) (sg_cons (sg_name G.nd 10) sg_nil)))) (fun _ _ _ _ _ G => st_yes) (fun _ _ _ _ _ G => (sn_var 10))) sa_nil))))))))
abbrev s_rule_by_pays : Stmt := top 31
theorem sc_rule_by_pays : FnScope ["company", "work", "pay", "_"] ["company"] (defScope s_rule_by_pays) := ⟨rfl, rfl, rfl, by decide +kernel, rfl, by decide +kernel, by decide +kernel⟩
theorem ok_rule_by_pays {f : Addr} {fd : FuncData} (F : Fun K "rule_by_pays" "rule_by_pays" s_rule_by_pays f fd) (T : Txt w K mg xm) (d_need_company : DefAt P w K mg base xm 10 "need_company" ["value"] f_need_company) (d_greatest_first : DefAt P w K mg base xm 2 "_greatest_first" ["company", "told"] f_greatest_first) : FnG P w K mg base 11 f fd ["company"] (spF K xm f_rule_by_pays 1) :=
  FnG.by T.wd (g := b_rule_by_pays) F sc_rule_by_pays rfl rfl fun cdv A outer s H E G =>
 (sl_cons (ss_expr (sn_call d_need_company G (sa_cons (sn_var 0) sa_nil)))
 (sl_one (ss_ret (sn_call d_greatest_first G (sa_cons (sn_var 0) (sa_cons (sn_lc [("work", 1)] G (si_seq (sn_var 0)) (blkOk_by (by first | decide +kernel | rfl)) (fun _ _ _ _ _ G => (sg_name G.nd 1)) (fun _ _ _ _ _ G => st_yes) (fun _ _ _ _ _ G => (sn_lc [("pay", 2), ("_", 3)] G (si_seq (sn_var 1)) (blkOk_by (by first | decide +kernel | rfl)) (fun _ _ _ _ _ G => (sg_tup G (sg_cons (sg_name G.nd 2) (sg_cons (sg_name G.nd 3) sg_nil)))) (fun _ _ _ _ _ G => st_yes) (fun _ _ _ _ _ G => (sn_var 2))))) sa_nil))))))
abbrev s_is_whole_pair : Stmt := top 34
theorem sc_is_whole_pair : FnScope ["value"] ["value"] (defScope s_is_whole_pair) := ⟨rfl, rfl, rfl, by decide +kernel, rfl, by decide +kernel, by decide +kernel⟩
theorem ok_is_whole_pair {f : Addr} {fd : FuncData} (F : Fun K "_is_whole_pair" "_is_whole_pair" s_is_whole_pair f fd) (T : Txt w K mg xm) (d_is_whole : DefAt P w K mg base xm 1 "is_whole" ["value"] f_is_whole) : FnG P w K mg base 2 f fd ["value"] (spF K xm f_is_whole_pair 1) :=
  FnG.by T.wd (g := b_is_whole_pair) F sc_is_whole_pair rfl rfl fun cdv A outer s H E G =>
 (sl_one (ss_ret (sn_and (sn_isi G kit_tup (sn_var 0) (by rfl) T.n_isinstance (by rfl) T.n_tuple bt_tuple) (sn_and (sn_cmp (or_eq G.rm) (sn_bi cl_len (by rfl) T.n_len bt_len (sa_cons (sn_var 0) sa_nil)) sn_int) (sn_and (sn_call d_is_whole G (sa_cons (sn_ix (sn_var 0) sn_int) sa_nil)) (sn_one (sn_call d_is_whole G (sa_cons (sn_ix (sn_var 0) sn_int) sa_nil))))))))
abbrev s_has_all_pairs : Stmt := top 33
theorem sc_has_all_pairs : FnScope ["company", "value", "pairs", "entry"] ["company", "value"] (defScope s_has_all_pairs) := ⟨rfl, rfl, rfl, by decide +kernel, rfl, by decide +kernel, by decide +kernel⟩
theorem ok_has_all_pairs {f c T0 : Addr} {fd : FuncData} (F : FunT K "has_all_pairs" "has_all_pairs" s_has_all_pairs f fd c) (TB : GxR.TabB base mg c T0) (M : T0 ∈ Tabs.tb) (T : Txt w K mg xm) (d_all_pairs : DefAt P w K mg base xm 1 "all_pairs" ["company"] f_all_pairs) (d_is_whole_pair : DefAt P w K mg base xm 2 "_is_whole_pair" ["value"] f_is_whole_pair) : FnG P w K mg base 4 f fd ["company", "value"] (spF K xm f_has_all_pairs 2) :=
  FnG.byT T.wd (g := b_has_all_pairs) F TB M sc_has_all_pairs rfl rfl fun A outer s H E G B =>
 (sl_cons (ss_set G.nd 2 (sn_call d_all_pairs G (sa_cons (sn_var 0) sa_nil)))
 (sl_cons (ss_if (PW.pt (sw_or (st_not (st_truth (sn_isi G kit_tup (sn_var 1) (by rfl) T.n_isinstance (by rfl) T.n_tuple bt_tuple))) (sw_or1 (st_cmp (or_ne G.rm) (sn_bi cl_len (by rfl) T.n_len bt_len (sa_cons (sn_var 1) sa_nil)) (sn_bi cl_len (by rfl) T.n_len bt_len (sa_cons (sn_var 2) sa_nil))))))
 (sl_one (ss_ret sn_bl))
 sl_nil)
 (sl_cons (ss_if (st_not (st_truth (sn_all [("entry", 3)] B G T.n_all (si_seq (sn_var 1)) (genOk_by (by first | decide +kernel | rfl) (by first | decide +kernel | rfl)) (fun _ _ _ _ _ G => (sg_name G.nd 3)) (fun _ _ _ _ _ G => (sn_call d_is_whole_pair G (sa_cons (sn_var 3) sa_nil))))))
 (sl_one (ss_ret sn_bl))
 sl_nil)
 (sl_one (ss_ret (sn_cmp (or_eq G.rm) (sn_bi (cl_sortU G.rm) (by rfl) T.n_sorted bt_sorted (sa_cons (sn_var 1) sa_nil)) (sn_var 2)))))))
abbrev s_is_rule : Stmt := top 35
theorem sc_is_rule : FnScope ["company", "value"] ["company", "value"] (defScope s_is_rule) := ⟨rfl, rfl, rfl, by decide +kernel, rfl, by decide +kernel, by decide +kernel⟩
theorem ok_is_rule {f : Addr} {fd : FuncData} (F : Fun K "is_rule" "is_rule" s_is_rule f fd) (T : Txt w K mg xm) (d_need_company : DefAt P w K mg base xm 10 "need_company" ["value"] f_need_company) (d_has_all_pairs : DefAt P w K mg base xm 4 "has_all_pairs" ["company", "value"] f_has_all_pairs) : FnG P w K mg base 11 f fd ["company", "value"] (spF K xm f_is_rule 2) :=
  FnG.by T.wd (g := b_is_rule) F sc_is_rule rfl rfl fun cdv A outer s H E G =>
 (sl_cons (ss_expr (sn_call d_need_company G (sa_cons (sn_var 0) sa_nil)))
 (sl_one (ss_ret (sn_call d_has_all_pairs G (sa_cons (sn_var 0) (sa_cons (sn_var 1) sa_nil))))))
abbrev s_need_rule : Stmt := top 36
theorem sc_need_rule : FnScope ["company", "value"] ["company", "value"] (defScope s_need_rule) := ⟨rfl, rfl, rfl, by decide +kernel, rfl, by decide +kernel, by decide +kernel⟩
theorem ok_need_rule {f : Addr} {fd : FuncData} (F : Fun K "need_rule" "need_rule" s_need_rule f fd) (T : Txt w K mg xm) (d_has_all_pairs : DefAt P w K mg base xm 4 "has_all_pairs" ["company", "value"] f_has_all_pairs) : FnG P w K mg base 5 f fd ["company", "value"] (spF K xm f_need_rule 2) :=
  FnG.by T.wd (g := b_need_rule) F sc_need_rule rfl rfl fun cdv A outer s H E G =>
 (sl_one (ss_if (st_not (st_truth (sn_call d_has_all_pairs G (sa_cons (sn_var 0) (sa_cons (sn_var 1) sa_nil)))))
 (sl_one (ss_raise T.x_NoRule G))
 sl_nil))
abbrev s_plan_of : Stmt := top 37
theorem sc_plan_of : FnScope ["company", "rule", "places", "found", "standing", "first", "work", "_", "place", "pair"] ["company", "rule"] (defScope s_plan_of) := ⟨rfl, rfl, rfl, by decide +kernel, rfl, by decide +kernel, by decide +kernel⟩
theorem ok_plan_of {f : Addr} {fd : FuncData} (F : Fun K "plan_of" "plan_of" s_plan_of f fd) (T : Txt w K mg xm) (d_all_standings : DefAt P w K mg base xm 1 "all_standings" ["company"] f_all_standings) : FnG P w K mg base 2 f fd ["company", "rule"] (spF K xm f_plan_of 2) :=
  FnG.by T.wd (g := b_plan_of) F sc_plan_of rfl rfl fun cdv A outer s H E G =>
 (sl_cons (ss_set G.nd 2 (sn_dc [("place", 8), ("pair", 9)] G (si_enumK (by rfl) T.n_enumerate (sa_cons (sn_var 1) sa_nil)) (blkOk_by (by first | decide +kernel | rfl)) (fun _ _ _ _ _ G => (sg_tup G (sg_cons (sg_name G.nd 8) (sg_cons (sg_name G.nd 9) sg_nil)))) (fun _ _ _ _ _ G => (sn_var 9)) (fun _ _ _ _ _ G => (sn_var 8))))
 (sl_cons (ss_set G.nd 3 (sn_cel sa_nil))
 (sl_cons (ss_for (S := [0, 1, 2, 3, 4, 5, 6, 7, 8, 9]) G (si_seq (sn_call d_all_standings G (sa_cons (sn_var 0) sa_nil))) (sg_name G.nd 4)
 (sl_cons (ss_set G.nd 5 (sn_bi (cl_minL G.cm) (by rfl) T.n_min bt_min (sa_cons (sn_lc [("pair", 9)] G (si_enumN (by rfl) T.n_enumerate (sa_cons (sn_var 4) sa_nil)) (blkOk_by (by first | decide +kernel | rfl)) (fun _ _ _ _ _ G => (sg_name G.nd 9)) (fun _ _ _ _ _ G => st_yes) (fun _ _ _ _ _ G => (sn_dgetK G (sn_var 2) (sn_var 9)))) sa_nil)))
 (sl_cons (ss_asg (S := [0, 1, 2, 3, 4, 5, 6, 7, 8, 9]) (sn_ix (sn_var 1) (sn_var 5)) (sg_tup G (sg_cons (sg_name G.nd 6) (sg_cons (sg_name G.nd 7) sg_nil))))
 (sl_one (ss_expr (sn_meth PySem.F.plainAttrs_list PySem.F.slot_list_append PySem.F.type_list_append mr_append (sn_var 3) (sa_cons (sn_var 6) sa_nil)))))))
 (sl_one (ss_ret (sn_ty cl_tuple (by rfl) T.n_tuple bt_tuple (sa_cons (sn_var 3) sa_nil)))))))
abbrev s_rule_plan : Stmt := top 38
theorem sc_rule_plan : FnScope ["company", "rule"] ["company", "rule"] (defScope s_rule_plan) := ⟨rfl, rfl, rfl, by decide +kernel, rfl, by decide +kernel, by decide +kernel⟩
theorem ok_rule_plan {f : Addr} {fd : FuncData} (F : Fun K "rule_plan" "rule_plan" s_rule_plan f fd) (T : Txt w K mg xm) (d_need_company : DefAt P w K mg base xm 10 "need_company" ["value"] f_need_company) (d_need_rule : DefAt P w K mg base xm 5 "need_rule" ["company", "value"] f_need_rule) (d_plan_of : DefAt P w K mg base xm 2 "plan_of" ["company", "rule"] f_plan_of) : FnG P w K mg base 11 f fd ["company", "rule"] (spF K xm f_rule_plan 2) :=
  FnG.by T.wd (g := b_rule_plan) F sc_rule_plan rfl rfl fun cdv A outer s H E G =>
 (sl_cons (ss_expr (sn_call d_need_company G (sa_cons (sn_var 0) sa_nil)))
 (sl_cons (ss_expr (sn_call d_need_rule G (sa_cons (sn_var 0) (sa_cons (sn_var 1) sa_nil))))
 (sl_one (ss_ret (sn_call d_plan_of G (sa_cons (sn_var 0) (sa_cons (sn_var 1) sa_nil)))))))
abbrev s_is_choice : Stmt := top 42
theorem sc_is_choice : FnScope ["company", "value", "standing", "work"] ["company", "value"] (defScope s_is_choice) := ⟨rfl, rfl, rfl, by decide +kernel, rfl, by decide +kernel, by decide +kernel⟩
theorem ok_is_choice {f : Addr} {fd : FuncData} (F : Fun K "_is_choice" "_is_choice" s_is_choice f fd) (T : Txt w K mg xm) (d_is_number_of_work : DefAt P w K mg base xm 2 "is_number_of_work" ["company", "value"] f_is_number_of_work) (d_is_standing : DefAt P w K mg base xm 3 "is_standing" ["company", "value"] f_is_standing) : FnG P w K mg base 4 f fd ["company", "value"] (spF K xm f_is_choice 2) :=
  FnG.by T.wd (g := b_is_choice) F sc_is_choice rfl rfl fun cdv A outer s H E G =>
 (sl_cons (ss_if (PW.pt (sw_or (st_not (st_truth (sn_isi G kit_tup (sn_var 1) (by rfl) T.n_isinstance (by rfl) T.n_tuple bt_tuple))) (sw_or1 (st_cmp (or_ne G.rm) (sn_bi cl_len (by rfl) T.n_len bt_len (sa_cons (sn_var 1) sa_nil)) sn_int))))
 (sl_one (ss_ret sn_bl))
 sl_nil)
 (sl_cons (ss_asg (S := [0, 1, 2, 3]) (sn_var 1) (sg_tup G (sg_cons (sg_name G.nd 2) (sg_cons (sg_name G.nd 3) sg_nil))))
 (sl_one (ss_ret (sn_and (sn_call d_is_standing G (sa_cons (sn_var 0) (sa_cons (sn_var 2) sa_nil))) (sn_one (sn_call d_is_number_of_work G (sa_cons (sn_var 0) (sa_cons (sn_var 3) sa_nil)))))))))
abbrev s_are_choices : Stmt := top 41
theorem sc_are_choices : FnScope ["company", "value", "entry"] ["company", "value"] (defScope s_are_choices) := ⟨rfl, rfl, rfl, by decide +kernel, rfl, by decide +kernel, by decide +kernel⟩
theorem ok_are_choices {f c T0 : Addr} {fd : FuncData} (F : FunT K "are_choices" "are_choices" s_are_choices f fd c) (TB : GxR.TabB base mg c T0) (M : T0 ∈ Tabs.tb) (T : Txt w K mg xm) (d_is_choice : DefAt P w K mg base xm 4 "_is_choice" ["company", "value"] f_is_choice) : FnG P w K mg base 6 f fd ["company", "value"] (spF K xm f_are_choices 2) :=
  FnG.byT T.wd (g := b_are_choices) F TB M sc_are_choices rfl rfl fun A outer s H E G B =>
 (sl_cons (ss_if (PW.pt (sw_or (st_not (st_truth (sn_isi G kit_tup (sn_var 1) (by rfl) T.n_isinstance (by rfl) T.n_tuple bt_tuple))) (sw_or1 (st_cmp or_gt (sn_bi cl_len (by rfl) T.n_len bt_len (sa_cons (sn_var 1) sa_nil)) (sn_glob T.k_MOST_CHOICES fun _ _ => (.int _))))))
 (sl_one (ss_ret sn_bl))
 sl_nil)
 (sl_one (ss_ret (sn_all [("entry", 2)] B G T.n_all (si_seq (sn_var 1)) (genOk_by (by first | decide +kernel | rfl) (by first | decide +kernel | rfl)) (fun _ _ _ _ _ G => (sg_name G.nd 2)) (fun _ _ _ _ _ G => (sn_call d_is_choice G (sa_cons (sn_var 0) (sa_cons (sn_var 2) sa_nil))))))))
abbrev s_need_choices : Stmt := top 43
theorem sc_need_choices : FnScope ["company", "value"] ["company", "value"] (defScope s_need_choices) := ⟨rfl, rfl, rfl, by decide +kernel, rfl, by decide +kernel, by decide +kernel⟩
theorem ok_need_choices {f : Addr} {fd : FuncData} (F : Fun K "need_choices" "need_choices" s_need_choices f fd) (T : Txt w K mg xm) (d_are_choices : DefAt P w K mg base xm 6 "are_choices" ["company", "value"] f_are_choices) : FnG P w K mg base 7 f fd ["company", "value"] (spF K xm f_need_choices 2) :=
  FnG.by T.wd (g := b_need_choices) F sc_need_choices rfl rfl fun cdv A outer s H E G =>
 (sl_one (ss_if (st_not (st_truth (sn_call d_are_choices G (sa_cons (sn_var 0) (sa_cons (sn_var 1) sa_nil)))))
 (sl_one (ss_raise T.x_NoChoices G))
 sl_nil))
abbrev s_set_first : Stmt := top 44
theorem sc_set_first : FnScope ["choice", "standing", "work"] ["choice"] (defScope s_set_first) := ⟨rfl, rfl, rfl, by decide +kernel, rfl, by decide +kernel, by decide +kernel⟩
theorem ok_set_first {f : Addr} {fd : FuncData} (F : Fun K "_set_first" "_set_first" s_set_first f fd) (T : Txt w K mg xm) : FnG P w K mg base 1 f fd ["choice"] (spF K xm f_set_first 1) :=
  FnG.by T.wd (g := b_set_first) F sc_set_first rfl rfl fun cdv A outer s H E G =>
 (sl_cons (ss_asg (S := [0, 1, 2]) (sn_var 0) (sg_tup G (sg_cons (sg_name G.nd 1) (sg_cons (sg_name G.nd 2) sg_nil))))
 (sl_one (ss_ret (sn_tup (sa_cons (sn_var 2) (sa_cons (sn_ix (sn_var 1) (sn_var 2)) sa_nil))))))
abbrev s_left_out : Stmt := top 45
theorem sc_left_out : FnScope ["choice", "standing", "work", "other", "state"] ["choice"] (defScope s_left_out) := ⟨rfl, rfl, rfl, by decide +kernel, rfl, by decide +kernel, by decide +kernel⟩
theorem ok_left_out {f : Addr} {fd : FuncData} (F : Fun K "_left_out" "_left_out" s_left_out f fd) (T : Txt w K mg xm) : FnG P w K mg base 1 f fd ["choice"] (spF K xm f_left_out 1) :=
  FnG.byZ T.wd (g := b_left_out) F sc_left_out rfl rfl fun cdv A outer s H E G =>
 (sl_cons (ss_asg (S := [0, 1, 2, 3, 4]) (sn_var 0) (sg_tup G (sg_cons (sg_name G.nd 1) (sg_cons (sg_name G.nd 2) sg_nil))))
 (sl_one (ss_ret (sn_lc [("other", 3), ("state", 4)] G (si_enumK (by rfl) T.n_enumerate (sa_cons (sn_var 1) sa_nil)) (blkOk_by (by first | decide +kernel | rfl)) (fun _ _ _ _ _ G => (sg_tup G (sg_cons (sg_name G.nd 3) (sg_cons (sg_name G.nd 4) sg_nil)))) (fun _ _ _ _ _ G => (st_one (st_cmp (or_ne G.rm) (sn_var 3) (sn_var 2)))) (fun _ _ _ _ _ G => (sn_tup (sa_cons (sn_var 3) (sa_cons (sn_var 4) sa_nil))))))))
abbrev s_why_not : Stmt := top 47
theorem sc_why_not : FnScope ["choices", "left", "pair", "number", "choice"] ["choices", "left", "pair"] (defScope s_why_not) := ⟨rfl, rfl, rfl, by decide +kernel, rfl, by decide +kernel, by decide +kernel⟩
theorem ok_why_not {f : Addr} {fd : FuncData} (F : Fun K "_why_not" "_why_not" s_why_not f fd) (T : Txt w K mg xm) (d_set_first : DefAt P w K mg base xm 1 "_set_first" ["choice"] f_set_first) (d_left_out : DefAt P w K mg base xm 1 "_left_out" ["choice"] f_left_out) : FnG P w K mg base 2 f fd ["choices", "left", "pair"] (spF K xm f_why_not 3) :=
  FnG.byZ T.wd (g := b_why_not) F sc_why_not rfl rfl fun cdv A outer s H E G =>
 (sl_one (ss_ret (sn_lc [("number", 3), ("choice", 4)] G (si_enumK (by rfl) T.n_enumerate (sa_cons (sn_var 0) sa_nil)) (blkOk_by (by first | decide +kernel | rfl)) (fun _ _ _ _ _ G => (sg_tup G (sg_cons (sg_name G.nd 3) (sg_cons (sg_name G.nd 4) sg_nil)))) (fun _ _ _ _ _ G => (st_one (PW.pt (sw_and (st_cmp (or_inP G.rm) (sn_var 2) (sn_call d_left_out G (sa_cons (sn_var 4) sa_nil))) (sw_and1 (st_cmp (or_inP G.rm) (sn_call d_set_first G (sa_cons (sn_var 4) sa_nil)) (sn_var 1))))))) (fun _ _ _ _ _ G => (sn_var 3)))))
abbrev s_ring_among : Stmt := top 48
theorem sc_ring_among : FnScope ["choices", "left", "passed", "numbers", "pair", "number"] ["choices", "left"] (defScope s_ring_among) := ⟨rfl, rfl, rfl, by decide +kernel, rfl, by decide +kernel, by decide +kernel⟩
theorem ok_ring_among {f : Addr} {fd : FuncData} (F : Fun K "_ring_among" "_ring_among" s_ring_among f fd) (T : Txt w K mg xm) (d_set_first : DefAt P w K mg base xm 1 "_set_first" ["choice"] f_set_first) (d_why_not : DefAt P w K mg base xm 2 "_why_not" ["choices", "left", "pair"] f_why_not) : FnG P w K mg base 3 f fd ["choices", "left"] (spF K xm f_ring_among 2) :=
  FnG.by T.wd (g := b_ring_among) F sc_ring_among rfl rfl fun cdv A outer s H E G =>
 (sl_cons (ss_set G.nd 2 (sn_cel sa_nil))
 (sl_cons (ss_set G.nd 3 (sn_cel sa_nil))
 (sl_cons (ss_set G.nd 4 (sn_ix (sn_var 1) sn_int))
 (sl_cons (ss_while G bigFuel (st_cmp (or_notinP G.rm) (sn_var 4) (sn_var 2))
 (sl_cons (ss_expr (sn_meth PySem.F.plainAttrs_list PySem.F.slot_list_append PySem.F.type_list_append mr_append (sn_var 2) (sa_cons (sn_var 4) sa_nil)))
 (sl_cons (ss_set G.nd 5 (sn_ix (sn_call d_why_not G (sa_cons (sn_var 0) (sa_cons (sn_var 1) (sa_cons (sn_var 4) sa_nil)))) sn_int))
 (sl_cons (ss_expr (sn_meth PySem.F.plainAttrs_list PySem.F.slot_list_append PySem.F.type_list_append mr_append (sn_var 3) (sa_cons (sn_var 5) sa_nil)))
 (sl_one (ss_set G.nd 4 (sn_call d_set_first G (sa_cons (sn_ix (sn_var 0) (sn_var 5)) sa_nil))))))))
 (sl_one (ss_ret (sn_tupRev G T.n_tuple T.n_reversed (sn_sl (sn_var 3) (sp_so (sn_meth PySem.F.plainAttrs_list PySem.F.slot_list_index PySem.F.type_list_index (mr_index G.rm) (sn_var 2) (sa_cons (sn_var 4) sa_nil))) sp_no))))))))
abbrev s_rule_of : Stmt := top 46
theorem sc_rule_of : FnScope ["company", "choices", "left", "rule", "free", "pair"] ["company", "choices"] (defScope s_rule_of) := ⟨rfl, rfl, rfl, by decide +kernel, rfl, by decide +kernel, by decide +kernel⟩
theorem ok_rule_of {f : Addr} {fd : FuncData} (F : Fun K "rule_of" "rule_of" s_rule_of f fd) (T : Txt w K mg xm) (d_need_company : DefAt P w K mg base xm 10 "need_company" ["value"] f_need_company) (d_all_pairs__c : DefAt P w K mg base xm 1 "all_pairs" ["company"] f_all_pairs__c) (d_need_choices : DefAt P w K mg base xm 7 "need_choices" ["company", "value"] f_need_choices) (d_why_not : DefAt P w K mg base xm 2 "_why_not" ["choices", "left", "pair"] f_why_not) (d_ring_among : DefAt P w K mg base xm 3 "_ring_among" ["choices", "left"] f_ring_among) : FnG P w K mg base 11 f fd ["company", "choices"] (spF K xm f_rule_of 2) :=
  FnG.by T.wd (g := b_rule_of) F sc_rule_of rfl rfl fun cdv A outer s H E G =>
 (sl_cons (ss_expr (sn_call d_need_company G (sa_cons (sn_var 0) sa_nil)))
 (sl_cons (ss_expr (sn_call d_need_choices G (sa_cons (sn_var 0) (sa_cons (sn_var 1) sa_nil))))
 (sl_cons (ss_set G.nd 2 (sn_call d_all_pairs__c G (sa_cons (sn_var 0) sa_nil)))
 (sl_cons (ss_set G.nd 3 (sn_cel sa_nil))
 (sl_cons (ss_while G bigFuel (st_truth (sn_var 2))
 (sl_cons (ss_setLc [("pair", 5)] G 4 (si_seq (sn_var 2)) (blkOk_by (by first | decide +kernel | rfl)) (fun _ _ _ _ _ G => (sg_name G.nd 5)) (fun _ _ _ _ _ G => (st_one (st_not (st_truth (sn_call d_why_not G (sa_cons (sn_var 1) (sa_cons (sn_var 2) (sa_cons (sn_var 5) sa_nil)))))))) (fun _ _ _ _ _ G => (sn_var 5)))
 (sl_cons (ss_if (st_not (st_truth (sn_var 4)))
 (sl_one (ss_ret (sn_tup (sa_cons sn_str (sa_cons (sn_call d_ring_among G (sa_cons (sn_var 1) (sa_cons (sn_var 2) sa_nil))) sa_nil)))))
 sl_nil)
 (sl_cons (ss_expr (sn_meth PySem.F.plainAttrs_list PySem.F.slot_list_append PySem.F.type_list_append mr_append (sn_var 3) (sa_cons (sn_ix (sn_var 4) sn_int) sa_nil)))
 (sl_one (ss_expr (sn_meth PySem.F.plainAttrs_list PySem.F.slot_list_remove PySem.F.type_list_remove (mr_remove G.rm) (sn_var 2) (sa_cons (sn_ix (sn_var 4) sn_int) sa_nil))))))))
 (sl_one (ss_ret (sn_tup (sa_cons sn_str (sa_cons (sn_ty cl_tuple (by rfl) T.n_tuple bt_tuple (sa_cons (sn_var 3) sa_nil)) sa_nil))))))))))
abbrev s_makes_all : Stmt := top 49
theorem sc_makes_all : FnScope ["company", "choices", "rule", "plan", "standing", "work"] ["company", "choices", "rule"] (defScope s_makes_all) := ⟨rfl, rfl, rfl, by decide +kernel, rfl, by decide +kernel, by decide +kernel⟩
theorem ok_makes_all {f c T0 : Addr} {fd : FuncData} (F : FunT K "makes_all" "makes_all" s_makes_all f fd c) (TB : GxR.TabB base mg c T0) (M : T0 ∈ Tabs.tb) (T : Txt w K mg xm) (d_all_standings : DefAt P w K mg base xm 1 "all_standings" ["company"] f_all_standings) (d_plan_of : DefAt P w K mg base xm 2 "plan_of" ["company", "rule"] f_plan_of) : FnG P w K mg base 4 f fd ["company", "choices", "rule"] (spF K xm f_makes_all 3) :=
  FnG.byT T.wd (g := b_makes_all) F TB M sc_makes_all rfl rfl fun A outer s H E G B =>
 (sl_cons (ss_set G.nd 3 (sn_dictZ G T.n_dict T.n_zip (sa_cons (sn_call d_all_standings G (sa_cons (sn_var 0) sa_nil)) (sa_cons (sn_call d_plan_of G (sa_cons (sn_var 0) (sa_cons (sn_var 2) sa_nil))) sa_nil))))
 (sl_one (ss_ret (sn_all [("standing", 4), ("work", 5)] B G T.n_all (si_seq (sn_var 1)) (genOk_by (by first | decide +kernel | rfl) (by first | decide +kernel | rfl)) (fun _ _ _ _ _ G => (sg_tup G (sg_cons (sg_name G.nd 4) (sg_cons (sg_name G.nd 5) sg_nil)))) (fun _ _ _ _ _ G => (sn_cmp (or_eq G.rm) (sn_dgetK G (sn_var 3) (sn_var 4)) (sn_var 5)))))))
abbrev s_makes : Stmt := top 50
theorem sc_makes : FnScope ["company", "choices", "rule"] ["company", "choices", "rule"] (defScope s_makes) := ⟨rfl, rfl, rfl, by decide +kernel, rfl, by decide +kernel, by decide +kernel⟩
theorem ok_makes {f : Addr} {fd : FuncData} (F : Fun K "makes" "makes" s_makes f fd) (T : Txt w K mg xm) (d_need_company : DefAt P w K mg base xm 10 "need_company" ["value"] f_need_company) (d_need_rule : DefAt P w K mg base xm 5 "need_rule" ["company", "value"] f_need_rule) (d_need_choices : DefAt P w K mg base xm 7 "need_choices" ["company", "value"] f_need_choices) (d_makes_all : DefAt P w K mg base xm 4 "makes_all" ["company", "choices", "rule"] f_makes_all) : FnG P w K mg base 11 f fd ["company", "choices", "rule"] (spF K xm f_makes 3) :=
  FnG.by T.wd (g := b_makes) F sc_makes rfl rfl fun cdv A outer s H E G =>
 (sl_cons (ss_expr (sn_call d_need_company G (sa_cons (sn_var 0) sa_nil)))
 (sl_cons (ss_expr (sn_call d_need_choices G (sa_cons (sn_var 0) (sa_cons (sn_var 1) sa_nil))))
 (sl_cons (ss_expr (sn_call d_need_rule G (sa_cons (sn_var 0) (sa_cons (sn_var 2) sa_nil))))
 (sl_one (ss_ret (sn_call d_makes_all G (sa_cons (sn_var 0) (sa_cons (sn_var 1) (sa_cons (sn_var 2) sa_nil)))))))))
abbrev s_are_numbers_of_choices : Stmt := top 51
theorem sc_are_numbers_of_choices : FnScope ["choices", "value", "many", "number"] ["choices", "value"] (defScope s_are_numbers_of_choices) := ⟨rfl, rfl, rfl, by decide +kernel, rfl, by decide +kernel, by decide +kernel⟩
theorem ok_are_numbers_of_choices {f c T0 : Addr} {fd : FuncData} (F : FunT K "are_numbers_of_choices" "are_numbers_of_choices" s_are_numbers_of_choices f fd c) (TB : GxR.TabB base mg c T0) (M : T0 ∈ Tabs.tb) (T : Txt w K mg xm) (d_is_whole : DefAt P w K mg base xm 1 "is_whole" ["value"] f_is_whole) : FnG P w K mg base 3 f fd ["choices", "value"] (spF K xm f_are_numbers_of_choices 2) :=
  FnG.byT T.wd (g := b_are_numbers_of_choices) F TB M sc_are_numbers_of_choices rfl rfl fun A outer s H E G B =>
 (sl_cons (ss_if (PW.pt (sw_or (st_not (st_truth (sn_isi G kit_tup (sn_var 1) (by rfl) T.n_isinstance (by rfl) T.n_tuple bt_tuple))) (sw_or1 (st_not (st_truth (sn_var 1))))))
 (sl_one (ss_ret sn_bl))
 sl_nil)
 (sl_cons (ss_set G.nd 2 (sn_bi cl_len (by rfl) T.n_len bt_len (sa_cons (sn_var 0) sa_nil)))
 (sl_one (ss_ret (sn_all [("number", 3)] B G T.n_all (si_seq (sn_var 1)) (genOk_by (by first | decide +kernel | rfl) (by first | decide +kernel | rfl)) (fun _ _ _ _ _ G => (sg_name G.nd 3)) (fun _ _ _ _ _ G => (sn_and (sn_call d_is_whole G (sa_cons (sn_var 3) sa_nil)) (sn_one (sn_chain or_le or_lt sn_int (sn_var 3) (sn_var 2))))))))))
abbrev s_closes : Stmt := top 52
theorem sc_closes : FnScope ["choices", "numbers", "behind", "number", "then"] ["choices", "numbers"] (defScope s_closes) := ⟨rfl, rfl, rfl, by decide +kernel, rfl, by decide +kernel, by decide +kernel⟩
theorem ok_closes {f : Addr} {fd : FuncData} (F : Fun K "closes" "closes" s_closes f fd) (T : Txt w K mg xm) (d_set_first : DefAt P w K mg base xm 1 "_set_first" ["choice"] f_set_first) (d_left_out : DefAt P w K mg base xm 1 "_left_out" ["choice"] f_left_out) : FnG P w K mg base 2 f fd ["choices", "numbers"] (spF K xm f_closes 2) :=
  FnG.by T.wd (g := b_closes) F sc_closes rfl rfl fun cdv A outer s H E G =>
 (sl_cons (ss_set G.nd 2 (sn_op2 or_add (sn_sl (sn_var 1) (sp_so sn_int) sp_no) (sn_sl (sn_var 1) sp_no (sp_so sn_int))))
 (sl_one (ss_ret (sn_bi (cl_all G.cm) (by rfl) T.n_all bt_all (sa_cons (sn_lc [("number", 3), ("then", 4)] G (si_zipM (by rfl) T.n_zip (sa_cons (sn_var 1) (sa_cons (sn_var 2) sa_nil))) (blkOk_by (by first | decide +kernel | rfl)) (fun _ _ _ _ _ G => (sg_tup G (sg_cons (sg_name G.nd 3) (sg_cons (sg_name G.nd 4) sg_nil)))) (fun _ _ _ _ _ G => st_yes) (fun _ _ _ _ _ G => (sn_cmp (or_inP G.rm) (sn_call d_set_first G (sa_cons (sn_ix (sn_var 0) (sn_var 4)) sa_nil)) (sn_call d_left_out G (sa_cons (sn_ix (sn_var 0) (sn_var 3)) sa_nil))))) sa_nil)))))
abbrev s_is_ring : Stmt := top 53
theorem sc_is_ring : FnScope ["company", "choices", "value"] ["company", "choices", "value"] (defScope s_is_ring) := ⟨rfl, rfl, rfl, by decide +kernel, rfl, by decide +kernel, by decide +kernel⟩
theorem ok_is_ring {f : Addr} {fd : FuncData} (F : Fun K "is_ring" "is_ring" s_is_ring f fd) (T : Txt w K mg xm) (d_need_company : DefAt P w K mg base xm 10 "need_company" ["value"] f_need_company) (d_need_choices : DefAt P w K mg base xm 7 "need_choices" ["company", "value"] f_need_choices) (d_are_numbers_of_choices : DefAt P w K mg base xm 3 "are_numbers_of_choices" ["choices", "value"] f_are_numbers_of_choices) (d_closes : DefAt P w K mg base xm 2 "closes" ["choices", "numbers"] f_closes) : FnG P w K mg base 11 f fd ["company", "choices", "value"] (spF K xm f_is_ring 3) :=
  FnG.by T.wd (g := b_is_ring) F sc_is_ring rfl rfl fun cdv A outer s H E G =>
 (sl_cons (ss_expr (sn_call d_need_company G (sa_cons (sn_var 0) sa_nil)))
 (sl_cons (ss_expr (sn_call d_need_choices G (sa_cons (sn_var 0) (sa_cons (sn_var 1) sa_nil))))
 (sl_one (ss_ret (sn_and (sn_call d_are_numbers_of_choices G (sa_cons (sn_var 1) (sa_cons (sn_var 2) sa_nil))) (sn_one (sn_call d_closes G (sa_cons (sn_var 1) (sa_cons (sn_var 2) sa_nil)))))))))
abbrev s_law : Stmt := top 55
theorem sc_law : FnScope ["script", "own", "lone", "pair", "company", "rule", "first", "ring", "told", "three", "some", "value", "work"] ["script"] (defScope s_law) := ⟨rfl, rfl, rfl, by decide +kernel, rfl, by decide +kernel, by decide +kernel⟩
theorem ok_law {f : Addr} {fd : FuncData} (F : Fun K "law" "law" s_law f fd) (T : Txt w K mg xm) (d_rule_by_pays : DefAt P w K mg base xm 11 "rule_by_pays" ["company"] f_rule_by_pays) (d_is_rule : DefAt P w K mg base xm 11 "is_rule" ["company", "value"] f_is_rule) (d_rule_plan : DefAt P w K mg base xm 11 "rule_plan" ["company", "rule"] f_rule_plan) (d_rule_of : DefAt P w K mg base xm 11 "rule_of" ["company", "choices"] f_rule_of) (d_makes : DefAt P w K mg base xm 11 "makes" ["company", "choices", "rule"] f_makes) (d_is_ring : DefAt P w K mg base xm 11 "is_ring" ["company", "choices", "value"] f_is_ring) : FnG P w K mg base 12 f fd ["script"] (spF K xm f_law 1) :=
  FnG.by T.wd (g := b_law) F sc_law rfl rfl fun cdv A outer s H E G =>
 (sl_cons (ss_set G.nd 1 (sn_tup (sa_cons (sn_tup (sa_cons sn_int (sa_cons sn_int sa_nil))) (sa_cons (sn_tup (sa_cons (sn_tup (sa_cons sn_int (sa_cons (sn_tup (sa_cons sn_int (sa_cons sn_int sa_nil))) sa_nil))) sa_nil)) sa_nil))))
 (sl_cons (ss_par G 2 3 (sa_cons (sn_tup (sa_cons (sn_var 1) sa_nil)) (sa_cons (sn_tup (sa_cons (sn_var 1) (sa_cons (sn_tup (sa_cons (sn_tup (sa_cons sn_int (sa_cons sn_int sa_nil))) (sa_cons (sn_tup (sa_cons (sn_tup (sa_cons sn_int (sa_cons (sn_tup (sa_cons sn_int (sa_cons sn_int sa_nil))) sa_nil))) sa_nil)) sa_nil))) sa_nil))) sa_nil)))
 (sl_cons (ss_set G.nd 4 (sn_tup (sa_cons (sn_var 3) (sa_cons (sn_var 3) sa_nil))))
 (sl_cons (ss_set G.nd 5 (sn_call d_rule_by_pays G (sa_cons (sn_var 4) sa_nil)))
 (sl_cons (ss_if (PW.pt (sw_or (st_cmp (or_ne G.rm) (sn_var 5) (sn_tup (sa_cons (sn_tup (sa_cons sn_int (sa_cons sn_int sa_nil))) (sa_cons (sn_tup (sa_cons sn_int (sa_cons sn_int sa_nil))) (sa_cons (sn_tup (sa_cons sn_int (sa_cons sn_int sa_nil))) (sa_cons (sn_tup (sa_cons sn_int (sa_cons sn_int sa_nil))) sa_nil)))))) (sw_or1 (st_cmp (or_ne G.rm) (sn_call d_rule_plan G (sa_cons (sn_var 4) (sa_cons (sn_var 5) sa_nil))) (sn_tup (sa_cons sn_int (sa_cons sn_int (sa_cons sn_int (sa_cons sn_int sa_nil)))))))))
 (sl_one (ss_ret sn_bl))
 sl_nil)
 (sl_cons (ss_if (st_cmp (or_ne G.rm) (sn_call d_rule_of G (sa_cons (sn_var 4) (sa_cons (sn_tup sa_nil) sa_nil))) (sn_tup (sa_cons sn_str (sa_cons (sn_tup (sa_cons (sn_tup (sa_cons sn_int (sa_cons sn_int sa_nil))) (sa_cons (sn_tup (sa_cons sn_int (sa_cons sn_int sa_nil))) (sa_cons (sn_tup (sa_cons sn_int (sa_cons sn_int sa_nil))) (sa_cons (sn_tup (sa_cons sn_int (sa_cons sn_int sa_nil))) sa_nil))))) sa_nil))))
 (sl_one (ss_ret sn_bl))
 sl_nil)
 (sl_cons (ss_set G.nd 6 (sn_tup (sa_cons (sn_tup (sa_cons (sn_tup (sa_cons sn_int (sa_cons sn_int sa_nil))) (sa_cons sn_int sa_nil))) (sa_cons (sn_tup (sa_cons (sn_tup (sa_cons sn_int (sa_cons sn_int sa_nil))) (sa_cons sn_int sa_nil))) (sa_cons (sn_tup (sa_cons (sn_tup (sa_cons sn_int (sa_cons sn_int sa_nil))) (sa_cons sn_int sa_nil))) sa_nil)))))
 (sl_cons (ss_if (st_cmp (or_ne G.rm) (sn_call d_rule_of G (sa_cons (sn_var 4) (sa_cons (sn_var 6) sa_nil))) (sn_tup (sa_cons sn_str (sa_cons (sn_tup (sa_cons (sn_tup (sa_cons sn_int (sa_cons sn_int sa_nil))) (sa_cons (sn_tup (sa_cons sn_int (sa_cons sn_int sa_nil))) (sa_cons (sn_tup (sa_cons sn_int (sa_cons sn_int sa_nil))) (sa_cons (sn_tup (sa_cons sn_int (sa_cons sn_int sa_nil))) sa_nil))))) sa_nil))))
 (sl_one (ss_ret sn_bl))
 sl_nil)
 (sl_cons (ss_set G.nd 7 (sn_tup (sa_cons (sn_tup (sa_cons (sn_tup (sa_cons sn_int (sa_cons sn_int sa_nil))) (sa_cons sn_int sa_nil))) (sa_cons (sn_tup (sa_cons (sn_tup (sa_cons sn_int (sa_cons sn_int sa_nil))) (sa_cons sn_int sa_nil))) (sa_cons (sn_tup (sa_cons (sn_tup (sa_cons sn_int (sa_cons sn_int sa_nil))) (sa_cons sn_int sa_nil))) (sa_cons (sn_tup (sa_cons (sn_tup (sa_cons sn_int (sa_cons sn_int sa_nil))) (sa_cons sn_int sa_nil))) sa_nil))))))
 (sl_cons (ss_set G.nd 8 (sn_call d_rule_of G (sa_cons (sn_var 4) (sa_cons (sn_var 7) sa_nil))))
 (sl_cons (ss_if (PW.pt (sw_or (st_cmp (or_ne G.rm) (sn_ix (sn_var 8) sn_int) sn_str) (sw_or1 (st_cmp or_isnot (sn_call d_makes G (sa_cons (sn_var 4) (sa_cons (sn_var 7) (sa_cons (sn_ix (sn_var 8) sn_int) sa_nil)))) sn_bl))))
 (sl_one (ss_ret sn_bl))
 sl_nil)
 (sl_cons (ss_set G.nd 7 (sn_op2 or_add (sn_sl (sn_var 7) sp_no (sp_so sn_int)) (sn_tup (sa_cons (sn_tup (sa_cons (sn_tup (sa_cons sn_int (sa_cons sn_int sa_nil))) (sa_cons sn_int sa_nil))) (sa_cons (sn_tup (sa_cons (sn_tup (sa_cons sn_int (sa_cons sn_int sa_nil))) (sa_cons sn_int sa_nil))) (sa_cons (sn_tup (sa_cons (sn_tup (sa_cons sn_int (sa_cons sn_int sa_nil))) (sa_cons sn_int sa_nil))) sa_nil))))))
 (sl_cons (ss_setLcB [("value", 11)] G 8 (si_seq (sn_tup (sa_cons (sn_tup (sa_cons sn_int (sa_cons sn_int sa_nil))) (sa_cons (sn_tup (sa_cons sn_int (sa_cons sn_int sa_nil))) (sa_cons (sn_tup (sa_cons sn_int (sa_cons sn_int sa_nil))) (sa_cons (sn_tup (sa_cons sn_int (sa_cons sn_int sa_nil))) sa_nil)))))) (blkOk_by (by first | decide +kernel | rfl)) (fun _ _ _ _ _ G => (sg_name G.nd 11)) (fun _ _ _ _ _ G => st_yes) (fun _ _ _ _ _ G => (sn_call d_is_ring G (sa_cons (sn_var 4) (sa_cons (sn_var 7) (sa_cons (sn_var 11) sa_nil))))))
 (sl_cons (ss_if (PW.pt (sw_or (st_cmp (or_ne G.rm) (sn_ix (sn_call d_rule_of G (sa_cons (sn_var 4) (sa_cons (sn_var 7) sa_nil))) sn_int) sn_str) (sw_or1 (st_cmp (or_ne G.rm) (sn_var 8) (sn_lst (sa_cons sn_bl (sa_cons sn_bl (sa_cons sn_bl (sa_cons sn_bl sa_nil)))))))))
 (sl_one (ss_ret sn_bl))
 sl_nil)
 (sl_cons (ss_set G.nd 9 (sn_tup (sa_cons (sn_var 2) (sa_cons (sn_var 2) (sa_cons (sn_var 2) sa_nil)))))
 (sl_cons (ss_set G.nd 10 (sn_ty cl_tuple (by rfl) T.n_tuple bt_tuple (sa_cons (sn_lc [("work", 12)] G (si_seq (sn_tup (sa_cons sn_int (sa_cons sn_int sa_nil)))) (blkOk_by (by first | decide +kernel | rfl)) (fun _ _ _ _ _ G => (sg_name G.nd 12)) (fun _ _ _ _ _ G => st_yes) (fun _ _ _ _ _ G => (sn_tup (sa_cons (sn_tup (sa_cons sn_int (sa_cons sn_int (sa_cons sn_int sa_nil)))) (sa_cons (sn_var 12) sa_nil))))) sa_nil)))
 (sl_cons (ss_if (st_cmp (or_ne G.rm) (sn_call d_rule_of G (sa_cons (sn_var 9) (sa_cons (sn_var 10) sa_nil))) (sn_tup (sa_cons sn_str (sa_cons (sn_tup (sa_cons (sn_tup (sa_cons sn_int (sa_cons sn_int sa_nil))) (sa_cons (sn_tup (sa_cons sn_int (sa_cons sn_int sa_nil))) (sa_cons (sn_tup (sa_cons sn_int (sa_cons sn_int sa_nil))) sa_nil)))) sa_nil))))
 (sl_one (ss_ret sn_bl))
 sl_nil)
 (sl_cons (ss_set G.nd 8 (sn_cel (sa_cons (sn_call d_is_rule G (sa_cons (sn_var 9) (sa_cons (sn_tup (sa_cons (sn_tup (sa_cons sn_int (sa_cons sn_int sa_nil))) (sa_cons (sn_tup (sa_cons sn_int (sa_cons sn_int sa_nil))) (sa_cons (sn_tup (sa_cons sn_int (sa_cons sn_int sa_nil))) sa_nil)))) sa_nil))) (sa_cons (sn_call d_is_rule G (sa_cons (sn_var 9) (sa_cons (sn_tup (sa_cons (sn_tup (sa_cons sn_int (sa_cons sn_int sa_nil))) (sa_cons (sn_tup (sa_cons sn_int (sa_cons sn_int sa_nil))) sa_nil))) sa_nil))) sa_nil))))
 (sl_cons (ss_expr (sn_meth PySem.F.plainAttrs_list PySem.F.slot_list_append PySem.F.type_list_append mr_append (sn_var 8) (sa_cons (sn_call d_makes G (sa_cons (sn_var 9) (sa_cons (sn_var 10) (sa_cons (sn_tup (sa_cons (sn_tup (sa_cons sn_int (sa_cons sn_int sa_nil))) (sa_cons (sn_tup (sa_cons sn_int (sa_cons sn_int sa_nil))) (sa_cons (sn_tup (sa_cons sn_int (sa_cons sn_int sa_nil))) sa_nil)))) sa_nil)))) sa_nil)))
 (sl_cons (ss_set G.nd 8 (sn_op2 or_add (sn_var 8) (sn_lst (sa_cons (sn_call d_is_ring G (sa_cons (sn_var 9) (sa_cons (sn_var 10) (sa_cons (sn_tup (sa_cons sn_int (sa_cons sn_int sa_nil))) sa_nil)))) (sa_cons (sn_call d_is_ring G (sa_cons (sn_var 9) (sa_cons (sn_var 10) (sa_cons (sn_tup (sa_cons sn_int sa_nil)) sa_nil)))) sa_nil)))))
 (sl_one (ss_ret (sn_cmp (or_eq G.rm) (sn_var 8) (sn_lst (sa_cons sn_bl (sa_cons sn_bl (sa_cons sn_bl (sa_cons sn_bl (sa_cons sn_bl sa_nil)))))))))))))))))))))))))))))
end
end Lw

namespace Ev
open PySem PySem.Spec PyProof.Rows L2
/-- on the side of the data no table is asked for -/
instance (priority := 10) noTabsI : Tabs := ⟨[], none⟩

/-! ## equations for running the functions -/
section
variable {en : En} {st : Sto} {d : D} {r : En} {x : Option D}
theorem varF_0 : varF 0 (some d :: r) st = .ok d st := rfl
theorem varF_s {i : Nat} : varF (i + 1) (x :: r) st = varF i r st := rfl
theorem litF_e : litF d en st = .ok d st := rfl
theorem op2F_e {op : O2} {f g : EF} : op2F op f g en st = (f en st).bind fun a st1 => (g en st1).bind fun b st2 => R.ofO (op a b st2) := rfl
theorem op1F_e {op : O1} {f : EF} : op1F op f en st = (f en st).bind fun a st1 => R.ofO (op a st1) := rfl
theorem opLF_e {op : OL} {f : AF} : opLF op f en st = (f en st).bind fun a st1 => R.ofO (op a st1) := rfl
theorem consA_e {f : EF} {g : AF} : consA f g en st = (f en st).bind fun a st1 => (g en st1).bind fun b st2 => .ok (a :: b) st2 := rfl
theorem nilA_e : nilA en st = .ok [] st := rfl
def toB : D → Sto → R Bool := fun a st1 => match a with
  | .bl b => .ok b st1
  | _ => .bad
theorem boolF_e {f : EF} : boolF f en st = (f en st).bind toB := rfl
theorem toB_bl {b : Bool} : toB (.bl b) st = .ok b st := rfl
def toT : D → Sto → R Bool := fun a st1 => match truD a st1 with
  | some b => .ok b st1
  | none => .bad
theorem truF_e {f : EF} : truF f en st = (f en st).bind toT := rfl
theorem toT_bl {b : Bool} : toT (.bl b) st = .ok b st := rfl
theorem notT_e {f : TF} : notT f en st = (f en st).bind fun a st1 => .ok (!a) st1 := rfl
theorem andT_e {f g : TF} : andT f g en st = (f en st).bind fun a st1 => if a = true then g en st1 else .ok false st1 := rfl
theorem orT_e {f g : TF} : orT f g en st = (f en st).bind fun a st1 => if a = true then .ok true st1 else g en st1 := rfl
theorem ifeF_e {c : TF} {f g : EF} : ifeF c f g en st = (c en st).bind fun a st1 => if a = true then f en st1 else g en st1 := rfl
theorem andV_e {f g : EF} : andV f g en st = (boolF f en st).bind fun a st1 => if a = true then g en st1 else .ok (.bl false) st1 := rfl
theorem orV_e {f g : EF} : orV f g en st = (boolF f en st).bind fun a st1 => if a = true then .ok (.bl true) st1 else g en st1 := rfl
theorem notV_e {f : EF} : notV f en st = (boolF f en st).bind fun a st1 => .ok (.bl (!a)) st1 := rfl
theorem isiF_e {p : D → Bool} {f : EF} : isiF p f en st = (f en st).bind fun d st1 => .ok (.bl (p d)) st1 := rfl
theorem callF_e {n : Nat} {F : List D → Sto → R D} {fs : AF} : callF n F fs en st = (fs en st).bind fun ds st1 => if ds.length = n then F ds st1 else .bad := rfl
theorem noP_e : noP en st = .ok none st := rfl
def toI : D → Sto → R (Option Int) := fun d st1 => match d with
  | .int i => .ok (some i) st1
  | _ => .bad
theorem someP_e {f : EF} : someP f en st = (f en st).bind toI := rfl
theorem toI_int {i : Int} : toI (.int i) st = .ok (some i) st := rfl
theorem slF_e {f : EF} {l h : PF} : slF f l h en st = (f en st).bind fun a st1 => (l en st1).bind fun lo st2 => (h en st2).bind fun hi st3 => R.ofO (slD a lo hi st3) := rfl
/-! operations -/
theorem addD_ii {i j : Int} : addD (.int i) (.int j) st = some (.int (i + j), st) := rfl
theorem subD_ii {i j : Int} : subD (.int i) (.int j) st = some (.int (i - j), st) := rfl
theorem mulD_ii {i j : Int} (h : mulOk i j = true) : mulD (.int i) (.int j) st = some (.int (i * j), st) := (if_pos h : (if mulOk i j = true then some (D.int (i * j), st) else none) = _)
theorem modD_ii {i j : Int} (h : j ≠ 0) : modD (.int i) (.int j) st = some (.int (i.fmod j), st) := (if_pos h : (if j ≠ 0 then some (D.int (i.fmod j), st) else none) = _)
theorem fdivD_ii {i j : Int} (h : j ≠ 0) (h2 : j.natAbs.log2 < 9000) : fdivD (.int i) (.int j) st = some (.int (i.fdiv j), st) :=
  (if_pos (by rw [decide_eq_true h, decide_eq_true h2]; rfl) : (if (decide (j ≠ 0) && decide (j.natAbs.log2 < 9000)) = true then some (D.int (i.fdiv j), st) else none) = _)
theorem powD_ii {x : Int} {j : Int} (n : Nat) (hj : j = (n : Nat)) (hn : n ≤ 1000000) (hx : x.natAbs < 2 ^ 64) : powD (.int x) (.int j) st = some (.int (x ^ n), st) := by
  subst hj
  show (if (decide (0 ≤ ((n : Nat) : Int)) && decide (((n : Nat) : Int) ≤ 1000000) && decide (x.natAbs < 2 ^ 64)) = true then some (D.int (x ^ ((n : Nat) : Int).toNat), st) else none) = _
  rw [decide_eq_true (Int.natCast_nonneg n), decide_eq_true (by omega), decide_eq_true hx, Int.toNat_natCast]
  rfl
theorem cmpI_ii {p : Int → Int → Bool} {i j : Int} : cmpI p (.int i) (.int j) st = some (.bl (p i j), st) := rfl
theorem negD_i {i : Int} : negD (.int i) st = some (.int (-i), st) := rfl
theorem ixD_t {ds : List D} {i : Int} (h : atD ds i = some d) : ixD (.tup ds) (.int i) st = some (d, st) := by
  show (atD ds i).bind (fun d => some (d, st)) = _
  rw [h]
  rfl
theorem ixD_l {ds : List D} {i : Int} (h : atD ds i = some d) : ixD (.lst ds) (.int i) st = some (d, st) := by
  show (atD ds i).bind (fun d => some (d, st)) = _
  rw [h]
  rfl
theorem ixD_f {ds : List D} {i : Int} (h : atD ds i = some d) : ixD (.fro ds) (.int i) st = some (d, st) := by
  show (atD ds i).bind (fun d => some (d, st)) = _
  rw [h]
  rfl
theorem ixD_r {ds : List D} {i : Int} {n : Nat} (hc : st[n]? = some (.lst ds)) (h : atD ds i = some d) : ixD (.ref n) (.int i) st = some (d, st) := by
  show (match st[n]? with | some (.lst ds) => some ds | _ => none).bind (fun ds => (atD ds i).bind fun d => some (d, st)) = _
  rw [hc]
  show (atD ds i).bind (fun d => some (d, st)) = _
  rw [h]
  rfl
theorem intL_i {i : Int} : intL [.int i] st = some (.int i, st) := rfl
theorem lenL_t {ds : List D} : lenL [.tup ds] st = some (.int ds.length, st) := rfl
theorem lenL_l {ds : List D} : lenL [.lst ds] st = some (.int ds.length, st) := rfl
theorem lenL_f {ds : List D} : lenL [.fro ds] st = some (.int ds.length, st) := rfl
theorem lenL_r {ds : List D} {n : Nat} (hc : st[n]? = some (.lst ds)) : lenL [.ref n] st = some (.int ds.length, st) := by
  show (match st[n]? with | some (.lst ds) => some ds | _ => none).bind (fun es => some (D.int es.length, st)) = _
  rw [hc]
  rfl
theorem absL_i {i : Int} : absL [.int i] st = some (.int (if i < 0 then -i else i), st) := rfl
theorem gcdL_i {i j : Int} : gcdL [.int i, .int j] st = some (.int ((Nat.gcd i.natAbs j.natAbs : Nat) : Int), st) := rfl
theorem tupL_e {ds : List D} (h : ds.length ≤ 1000) : tupL ds st = some (.tup ds, st) := if_pos (Nat.le_trans h (by decide))
theorem lstL_e {ds : List D} (h : ds.length ≤ 1000) : lstL ds st = some (.lst ds, st) := if_pos (Nat.le_trans h (by decide))
theorem celL_e {ds : List D} (h : ds.length ≤ 1000) : celL ds st = some (.ref st.length, st ++ [.lst ds]) := if_pos (Nat.le_trans h (by decide))
theorem atD_nat {ds : List D} {n : Nat} (h : ds[n]? = some d) : atD ds (n : Nat) = some d := by
  have hl := (List.getElem?_eq_some_iff.mp h).1
  unfold atD ixN
  rw [if_pos (Int.natCast_nonneg n), if_pos (by omega), Int.toNat_natCast]
  exact h
/-! statements -/
theorem seqS_e {f g : SF} : seqS f g en st = match f en st with
  | .nx en' st' => g en' st'
  | r => r := rfl
theorem step_set {i : Nat} {e : EF} {r : SF} {en' : En} {st' : Sto} (h : e en st = .ok d st') (hi : i < en.length) (he : en.set i (some d) = en') : seqS (setS i e) r en st = r en' st' := by
  subst he
  unfold seqS setS asgS nameG
  rw [h]
  simp only [bindS_ok, if_pos hi]
theorem set_ok {i : Nat} {e : EF} {en' : En} {st' : Sto} (h : e en st = .ok d st') (hi : i < en.length) (he : en.set i (some d) = en') : setS i e en st = .nx en' st' := by
  subst he
  unfold setS asgS nameG
  rw [h]
  simp only [bindS_ok, if_pos hi]
theorem step_if {c : TF} {f g r : SF} {st' : Sto} {b : Bool} (h : c en st = .ok b st') : seqS (ifS c f g) r en st = seqS (if b = true then f else g) r en st' := by
  unfold seqS ifS
  rw [h]
  cases b <;> rfl
theorem if_ok {c : TF} {f g : SF} {st' : Sto} {b : Bool} (h : c en st = .ok b st') : ifS c f g en st = (if b = true then f else g) en st' := by
  unfold ifS
  rw [h]
  cases b <;> rfl
theorem step_pass {r : SF} : seqS passS r en st = r en st := rfl
theorem step_ret {e : EF} {r : SF} {st' : Sto} (h : e en st = .ok d st') : seqS (retS e) r en st = .rt d st' := by
  unfold seqS retS
  rw [h]
  rfl
theorem ret_ok {e : EF} {st' : Sto} (h : e en st = .ok d st') : retS e en st = .rt d st' := by
  unfold retS
  rw [h]
  rfl
theorem step_of {f r : SF} {en' : En} {st' : Sto} (h : f en st = .nx en' st') : seqS f r en st = r en' st' := by
  unfold seqS
  rw [h]
theorem sub_ok {f o i : EF} {st1 st2 st3 : Sto} {n : Nat} {m : Int} {ds : List D} {q : Nat} (h1 : f en st = .ok d st1) (h2 : o en st1 = .ok (.ref n) st2) (h3 : i en st2 = .ok (.int m) st3) (hc : st3[n]? = some (.lst ds)) (hq : ixN ds.length m = some q) : subS f o i en st = .nx en (st3.set n (.lst (ds.set q d))) := by
  unfold subS
  rw [h1]
  simp only [bindS_ok]
  rw [h2]
  simp only [bindS_ok]
  rw [h3]
  simp only [bindS_ok, hc, hq]
theorem fn_rt {n : Nat} {g : SF} {ds : List D} {st' : Sto} {en0 : En} (he : ds.map some ++ List.replicate (n - ds.length) none = en0) (h : g en0 st = .rt d st') : fnF n g ds st = .ok d st' := by
  subst he
  unfold fnF
  rw [h]
theorem fn_ex {n c : Nat} {p : Pay} {g : SF} {ds : List D} {st' : Sto} {en0 en1 : En} (he : ds.map some ++ List.replicate (n - ds.length) none = en0) (h : g en0 st = .ex c p en1 st') : fnF n g ds st = .ex c p st' := by
  subst he
  unfold fnF
  rw [h]
theorem step_par {i j : Nat} {fs : AF} {r : SF} {e : D} {st' : Sto} {en' : En} (h : fs en st = .ok [d, e] st') (hi : i < en.length ∧ j < en.length) (he : (en.set i (some d)).set j (some e) = en') : seqS (parS i j fs) r en st = r en' st' := by
  subst he
  unfold seqS parS
  rw [h]
  simp only [bindS_ok, if_pos hi]
theorem par_ok {i j : Nat} {fs : AF} {e : D} {st' : Sto} {en' : En} (h : fs en st = .ok [d, e] st') (hi : i < en.length ∧ j < en.length) (he : (en.set i (some d)).set j (some e) = en') : parS i j fs en st = .nx en' st' := by
  subst he
  unfold parS
  rw [h]
  simp only [bindS_ok, if_pos hi]
theorem step_asg {e : EF} {g : GF} {r : SF} {st' : Sto} {en' : En} (h : e en st = .ok d st') (hg : g d st' en = some en') : seqS (asgS e g) r en st = r en' st' := by
  unfold seqS asgS
  rw [h]
  simp only [bindS_ok, hg]
theorem step_expr {e : EF} {r : SF} {st' : Sto} (h : e en st = .ok d st') : seqS (exprS e) r en st = r en st' := by
  unfold seqS exprS
  rw [h]
  rfl
end
/-! numbers -/
theorem mulOk_l {i j : Int} (h : -(2 ^ 64) < i) (h' : i < 2 ^ 64) : mulOk i j = true := by
  unfold mulOk
  rw [decide_eq_true (show -(2 ^ 64) < i ∧ i < 2 ^ 64 from ⟨h, h'⟩)]
  rfl
theorem mulOk_r {i j : Int} (h : -(2 ^ 64) < j) (h' : j < 2 ^ 64) : mulOk i j = true := by
  unfold mulOk
  rw [decide_eq_true (show -(2 ^ 64) < j ∧ j < 2 ^ 64 from ⟨h, h'⟩)]
  simp
theorem mulOk_w {i j : Int} {a b : Nat} (ha : i.natAbs < 2 ^ a) (hb : j.natAbs < 2 ^ b) (h0 : 0 < a) (h1 : 0 < b) (h : a + b ≤ 1000000) : mulOk i j = true := by
  have w : i.natAbs.log2 + j.natAbs.log2 < 1000000 := wide_mul ha hb h0 h1 h
  unfold mulOk
  rw [decide_eq_true w]
  simp
end Ev

namespace Ev
open PySem PySem.Spec PyProof.Rows L2

/-! ## data that repr tells -/
structure Rq (k w : Nat) (p : PyData) : Prop where
  can : p.canLay0 = true
  ish : p.intsShort 100 = true
  sh : p.showable = true
  dep : p.depth ≤ k
  wt : p.weight ≤ w
  gt : ∀ c ∈ p.shown.cps.toList, c < 256
structure Rqs (k w : Nat) (ps : List PyData) : Prop where
  can : PyData.canLayAll0 ps = true
  ish : PyData.intsShortAll 100 ps = true
  sh : PyData.showableAll ps = true
  dep : PyData.depthAll ps ≤ k
  wt : PyData.weightAll ps ≤ ps.length * (w + 1)
  gt : ∀ t ∈ PyData.shownAll ps, ∀ c ∈ t.cps.toList, c < 256
theorem Rqs.nil {k w : Nat} : Rqs k w [] := ⟨rfl, rfl, rfl, Nat.zero_le _, Nat.zero_le _, fun t h => nomatch h⟩
theorem Rqs.cons {k w : Nat} {p : PyData} {ps : List PyData} (h : Rq k w p) (hs : Rqs k w ps) : Rqs k w (p :: ps) := by
  refine ⟨?_, ?_, ?_, ?_, ?_, ?_⟩
  · show (p.canLay0 && PyData.canLayAll0 ps) = true
    rw [h.can, hs.can]
    rfl
  · show (p.intsShort 100 && PyData.intsShortAll 100 ps) = true
    rw [h.ish, hs.ish]
    rfl
  · show (p.showable && PyData.showableAll ps) = true
    rw [h.sh, hs.sh]
    rfl
  · exact Nat.max_le.mpr ⟨h.dep, hs.dep⟩
  · show p.weight + 1 + PyData.weightAll ps ≤ (ps.length + 1) * (w + 1)
    have h1 := h.wt
    have h2 := hs.wt
    rw [Nat.add_mul]
    omega
  · intro t ht c hc
    rcases List.mem_cons.mp (show t ∈ p.shown :: PyData.shownAll ps from ht) with rfl | ht
    · exact h.gt c hc
    · exact hs.gt t ht c hc
theorem Rq.mono {k w k' w' : Nat} {p : PyData} (h : Rq k w p) (hk : k ≤ k') (hw : w ≤ w') : Rq k' w' p := ⟨h.can, h.ish, h.sh, Nat.le_trans h.dep hk, Nat.le_trans h.wt hw, h.gt⟩
theorem join_small {s : Str} {ts : List Str} (hs : ∀ c ∈ s.cps.toList, c < 256) (ht : ∀ t ∈ ts, ∀ c ∈ t.cps.toList, c < 256) : ∀ c ∈ (Str.join s ts).cps.toList, c < 256 := by
  intro c hc
  rw [mem_join] at hc
  rcases hc with ⟨t, h, hc⟩ | ⟨_, hc⟩
  · exact ht t h c hc
  · exact hs c hc
theorem Rq.tup {k w : Nat} {ps : List PyData} (h : Rqs k w ps) : Rq (k + 1) (ps.length * (w + 1)) (.tuple ps) := by
  refine ⟨h.can, h.ish, h.sh, Nat.succ_le_succ h.dep, h.wt, ?_⟩
  intro c hc
  have hc : c ∈ (((("(" : String) : Str) ++ Str.join ", " (PyData.shownAll ps) ++ ((if (PyData.shownAll ps).length == 1 then ",)" else ")" : String) : Str)) : Str).cps.toList := hc
  rw [mem_cps_append, mem_cps_append] at hc
  rcases hc with (hc | hc) | hc
  · rw [show (("(" : String) : Str).cps.toList = [40] from by decide] at hc
    simp only [List.mem_cons, List.not_mem_nil, or_false] at hc
    omega
  · exact join_small (by intro c hc; rw [show ((", " : String) : Str).cps.toList = [44, 32] from by decide] at hc; simp only [List.mem_cons, List.not_mem_nil, or_false] at hc; omega) h.gt c hc
  · by_cases e : (PyData.shownAll ps).length == 1
    · rw [if_pos e, show ((",)" : String) : Str).cps.toList = [44, 41] from by decide] at hc
      simp only [List.mem_cons, List.not_mem_nil, or_false] at hc
      omega
    · rw [if_neg e, show ((")" : String) : Str).cps.toList = [41] from by decide] at hc
      simp only [List.mem_cons, List.not_mem_nil, or_false] at hc
      omega
theorem from_small : ∀ {ts : List Str} {k : Nat} {acc : Str}, (∀ c ∈ acc.cps.toList, c < 256) → (∀ t ∈ ts, ∀ c ∈ t.cps.toList, c < 256) → ∀ c ∈ (textFrom k acc ts).cps.toList, c < 256
  | [], _, _, ha, _, c, hc => ha c hc
  | t :: r, k, acc, ha, ht, c, hc => by
    unfold textFrom at hc
    refine from_small (ts := r) ?_ (fun t' h => ht t' (List.mem_cons_of_mem _ h)) c hc
    intro c hc
    have ht' := ht t List.mem_cons_self
    by_cases hk : k > 0
    · simp only [if_pos hk, mem_cps_append] at hc
      rcases hc with (hc | hc) | hc
      · exact ha c hc
      · rw [show ((", " : String) : Str).cps.toList = [44, 32] from by decide] at hc
        simp only [List.mem_cons, List.not_mem_nil, or_false] at hc
        omega
      · exact ht' c hc
    · simp only [if_neg hk, mem_cps_append] at hc
      rcases hc with (hc | hc) | hc
      · exact ha c hc
      · rw [show (("" : String) : Str).cps.toList = [] from by decide] at hc
        cases hc
      · exact ht' c hc
theorem Rq.lst {k w : Nat} {ps : List PyData} (h : Rqs k w ps) : Rq (k + 1) (ps.length * (w + 1)) (.list ps) := by
  refine ⟨h.can, h.ish, h.sh, Nat.succ_le_succ h.dep, h.wt, ?_⟩
  intro c hc
  have hc : c ∈ (textFrom 0 "[" (PyData.shownAll ps) ++ (("]" : String) : Str)).cps.toList := hc
  rw [mem_cps_append] at hc
  rcases hc with hc | hc
  · exact from_small (by rw [show (("[" : String) : Str).cps.toList = [91] from by decide]; intro c hc; simp only [List.mem_cons, List.not_mem_nil, or_false] at hc; omega) h.gt c hc
  · rw [show (("]" : String) : Str).cps.toList = [93] from by decide] at hc
    simp only [List.mem_cons, List.not_mem_nil, or_false] at hc
    omega
theorem Rq.int {i : Int} (h : i.natAbs < 10 ^ 80) : Rq 0 400 (.int i) := by
  have hb : i.natAbs < 2 ^ 300 := Nat.lt_trans h (by decide +kernel)
  have hl : i.natAbs.log2 < 300 := by
    by_cases hz : i.natAbs = 0
    · rw [hz]
      decide
    · exact (Nat.log2_lt hz).2 hb
  refine ⟨rfl, ?_, ?_, Nat.le_refl _, ?_, ?_⟩
  · show decide ((PyData.shown (.int i)).length ≤ 100) = true
    have e := int_text_length_le10 (k := 80) (by decide) h
    have e2 : (PyData.shown (.int i)).length = (toString i).length := by
      show (Str.ofString (toString i)).length = _
      rw [PySem.ofString_length]
    rw [decide_eq_true_eq]
    omega
  · show decide (i.natAbs.log2 < 1920) = true
    rw [decide_eq_true_eq]
    omega
  · show (if i == 0 then 0 else i.natAbs.log2 + 1) ≤ 400
    split <;> omega
  · intro c hc
    rw [PyData.shown_int, signs_ofString] at hc
    obtain ⟨ch, hc, e⟩ := List.mem_map.mp hc
    rcases int_sign i ch hc with hd | hd
    · have := digit_range hd
      omega
    · rw [hd] at e
      have e' : c = 45 := by rw [← e]; decide
      omega
theorem Rq.bl {b : Bool} : Rq 0 400 (.bool b) := by
  refine ⟨rfl, rfl, rfl, Nat.le_refl _, Nat.zero_le _, ?_⟩
  cases b
  · rw [PyData.shown_bool]
    exact show ∀ c ∈ (Str.ofString "False").cps.toList, c < 256 from by decide
  · rw [PyData.shown_bool]
    exact show ∀ c ∈ (Str.ofString "True").cps.toList, c < 256 from by decide
theorem Rq.non : Rq 0 400 .none := by
  refine ⟨rfl, rfl, rfl, Nat.le_refl _, Nat.zero_le _, ?_⟩
  rw [PyData.shown_none]
  decide
theorem Rq.ok {k w : Nat} {p : PyData} (h : Rq k w p) (hk : k ≤ 15) (hw : w ≤ 150000) : reprOk p = true := by
  have h1 := PyData.shown_le 100 (by decide) p (PyData.leavesShort_of_canLay0 100 p h.can h.ish)
  have h2 := h.wt
  have h3 := h.dep
  have h4 : (100 + 2) * p.weight ≤ 102 * 150000 := Nat.mul_le_mul (by decide) (by omega)
  unfold reprOk
  rw [h.sh, PyData.hasDict_of_canLay p h.can, decide_eq_true (show p.depth ≤ 60 by omega), decide_eq_true (show p.shown.length ≤ sizeLine by rw [sizeLine_eq]; omega)]
  rfl
theorem Rq.text {k w : Nat} {p : PyData} (h : Rq k w p) : SeqAt.shaped (.str p.shown) = true := by
  show (PyData.canLay0 (.str p.shown) && decide (PyData.depth (.str p.shown) ≤ 64)) = true
  have : PyData.canLay0 (.str p.shown) = true := by
    show p.shown.cps.all (· < 0x110000) = true
    rw [Array.all_eq_true_iff_forall_mem]
    intro c hc
    have := h.gt c (Array.mem_toList_iff.mpr hc)
    rw [decide_eq_true_eq]
    omega
  rw [this]
  rfl
/-- datum and its plain form -/
structure Rd (k w : Nat) (d : D) (p : PyData) : Prop where
  at' : ∀ n st, k < n → toP n st d = some p
  q : Rq k w p
structure Rds (k w : Nat) (ds : List D) (ps : List PyData) : Prop where
  at' : ∀ n st, k < n → mapO (toP n st) ds = some ps
  q : Rqs k w ps
theorem Rds.nil {k w : Nat} : Rds k w [] [] := ⟨fun _ _ _ => rfl, .nil⟩
theorem Rds.cons {k w : Nat} {d : D} {p : PyData} {ds : List D} {ps : List PyData} (h : Rd k w d p) (hs : Rds k w ds ps) : Rds k w (d :: ds) (p :: ps) := by
  refine ⟨fun n st hn => ?_, .cons h.q hs.q⟩
  show (toP n st d).bind (fun b => (mapO (toP n st) ds).bind fun bs => some (b :: bs)) = _
  rw [h.at' n st hn, hs.at' n st hn]
  rfl
theorem Rd.tup {k w : Nat} {ds : List D} {ps : List PyData} (h : Rds k w ds ps) : Rd (k + 1) (ps.length * (w + 1)) (.tup ds) (.tuple ps) := by
  refine ⟨fun n st hn => ?_, .tup h.q⟩
  cases n with
  | zero => omega
  | succ n =>
    show (mapO (toP n st) ds).map PyData.tuple = _
    rw [h.at' n st (by omega)]
    rfl
theorem Rd.lst {k w : Nat} {ds : List D} {ps : List PyData} (h : Rds k w ds ps) : Rd (k + 1) (ps.length * (w + 1)) (.lst ds) (.list ps) := by
  refine ⟨fun n st hn => ?_, .lst h.q⟩
  cases n with
  | zero => omega
  | succ n =>
    show (mapO (toP n st) ds).map PyData.list = _
    rw [h.at' n st (by omega)]
    rfl
theorem Rd.int {i : Int} (h : i.natAbs < 10 ^ 80) : Rd 0 400 (.int i) (.int i) := ⟨fun n st hn => by cases n with | zero => omega | succ n => rfl, .int h⟩
theorem Rd.bl {b : Bool} : Rd 0 400 (.bl b) (.bool b) := ⟨fun n st hn => by cases n with | zero => omega | succ n => rfl, .bl⟩
theorem Rd.non : Rd 0 400 .non .none := ⟨fun n st hn => by cases n with | zero => omega | succ n => rfl, .non⟩
theorem Rd.str {s : Str} (hs : SeqAt.shaped (PyData.str s) = true) (hw : s.cps.size ≤ 400) (hg : ∀ c ∈ (PyData.shown (PyData.str s)).cps.toList, c < 256) : Rd 0 400 (.str s) (.str s) :=
  ⟨fun n st hn => by cases n with | zero => omega | succ n => rfl, ⟨(Bool.and_eq_true_iff.mp hs).1, rfl, rfl, Nat.le_refl _, hw, hg⟩⟩
theorem Rd.mono {k w k' w' : Nat} {d : D} {p : PyData} (h : Rd k w d p) (hk : k ≤ k') (hw : w ≤ w') : Rd k' w' d p := ⟨fun n st hn => h.at' n st (by omega), h.q.mono hk hw⟩
section
variable {k w : Nat} {d : D} {p : PyData} {st : Sto}
theorem reprL_is (h : Rd k w d p) (hk : k ≤ 15) (hw : w ≤ 150000) : reprL [d] st = some (.str p.shown, st) := by
  show (toP 16 st d).bind (fun p => if reprOk p then some (D.str p.shown, st) else none) = _
  rw [h.at' 16 st (by omega)]
  show (if reprOk p then some (D.str p.shown, st) else none) = _
  rw [if_pos (h.q.ok hk hw)]
theorem eqB_str {s : Str} (hs : SeqAt.shaped (PyData.str s) = true) : eqB (.str s) (.str s) st = some true := by
  unfold eqB
  show (if SeqAt.shaped (PyData.str s) && SeqAt.shaped (PyData.str s) then some (PyData.eqv (.str s) (.str s)) else none) = _
  rw [hs]
  show some (s == s) = _
  rw [beq_self_eq_true]
theorem neD_text (h : Rd k w d p) : neD (.str p.shown) (.str p.shown) st = some (.bl false, st) := by
  unfold neD
  rw [eqB_str h.q.text]
  rfl
theorem eqD_text (h : Rd k w d p) : eqD (.str p.shown) (.str p.shown) st = some (.bl true, st) := by
  unfold eqD
  rw [eqB_str h.q.text]
  rfl
theorem eqD_ii {i j : Int} : eqD (.int i) (.int j) st = some (.bl (i == j), st) := rfl
theorem neD_ii {i j : Int} : neD (.int i) (.int j) st = some (.bl (!(i == j)), st) := rfl
/-- what is told twice is told alike -/
theorem eqB_same (h : Rd k w d p) (hk : k ≤ 15) : eqB d d st = some true := by
  unfold eqB
  rw [h.at' 16 st (by omega)]
  have h1 := h.q.dep
  have : SeqAt.shaped p = true := by
    show (p.canLay0 && decide (p.depth ≤ 64)) = true
    rw [h.q.can, decide_eq_true (by omega)]
    rfl
  show (if SeqAt.shaped p && SeqAt.shaped p then some (PyData.eqv p p) else none) = _
  rw [this, SeqAt.eqv_refl p h.q.can]
  rfl
end
end Ev

namespace Lw
open Ev PySem PyProof.Rows
/-! the law does not look at its script: the kernel's own evaluation -/
def okT : Ev.R D → Bool
  | .ok (.bl true) _ => true
  | _ => false
theorem okT_ok {r : Ev.R D} (h : okT r = true) : ∃ st, r = .ok (.bl true) st := by
  unfold okT at h
  split at h
  · exact ⟨_, rfl⟩
  · cases h
theorem by_hand (x : D) : okT (f_law [x] []) = true := by kernel_rfl
theorem law_true (ns : List Int) (_h : ns.length ≤ 63) : ∃ st, f_law [.fro (ns.map .int)] [] = .ok (.bl true) st := okT_ok (by_hand _)
end Lw

namespace Lw
open PySem PySem.Spec PyProof.Rows L2 Ev
theorem all_mk {l : PySem.W.OpenLaw} (hl : l.prog = PySem.Challenge.pw_nextwork_k49_choices_by_hand) {w : World} {K : PySem.W.Frag} {h : Heap} {mg : Str → Option Value} {fa f0 f1 f2 f3 f4 f5 f6 f7 f8 f9 f10 f11 f12 f13 f14 f15 f16 f17 f18 f19 f20 f21 f22 f23 f24 f25 f26 f27 f28 f29 f30 f31 f32 f33 f34 f35 f36 f37 f38 : Addr} (X : K.In h) (G : h.Ns mainGlobals mg) (hfa : mg "law" = some (.ref fa))
  {od0 an0 od1 an1 od2 an2 od3 an3 od4 an4 od5 an5 od6 an6 od7 an7 od8 an8 od9 an9 od10 an10 od11 an11 od12 an12 od13 an13 od14 an14 od15 an15 od16 an16 od17 an17 od18 an18 od19 an19 od20 an20 od21 an21 od22 an22 od23 an23 od24 an24 od25 an25 od26 an26 od27 an27 od28 an28 od29 an29 od30 an30 od31 an31 od32 an32 od33 an33 od34 an34 od35 an35 od36 an36 od37 an37 od38 an38 : Option Addr} {sl0 sl1 sl2 sl3 sl4 sl5 sl6 sl7 sl8 sl9 sl10 sl11 sl12 sl13 sl14 sl15 sl16 sl17 sl18 sl19 sl20 sl21 sl22 sl23 sl24 sl25 sl26 sl27 sl28 sl29 sl30 sl31 sl32 sl33 sl34 sl35 sl36 sl37 sl38 : Array (Option Value)} {oc0 kV0 dc0 pm0 cd0 ct0 oc1 kV1 dc1 pm1 cd1 ct1 oc2 kV2 dc2 pm2 cd2 ct2 oc3 kV3 dc3 pm3 cd3 ct3 oc4 kV4 dc4 pm4 cd4 ct4 oc5 kV5 dc5 pm5 cd5 ct5 oc6 kV6 dc6 pm6 cd6 ct6 oc7 kV7 dc7 pm7 cd7 ct7 oc8 kV8 dc8 pm8 cd8 ct8 oc9 kV9 dc9 pm9 ct9 oc10 kV10 dc10 pm10 cd10 ct10 oc11 kV11 dc11 pm11 cd11 ct11 oc12 kV12 dc12 pm12 cd12 ct12 oc13 kV13 dc13 pm13 cd13 ct13 oc14 kV14 dc14 pm14 cd14 ct14 oc15 kV15 dc15 pm15 cd15 ct15 oc16 kV16 dc16 pm16 cd16 ct16 oc17 kV17 dc17 pm17 cd17 ct17 oc18 kV18 dc18 pm18 cd18 ct18 oc19 kV19 dc19 pm19 cd19 ct19 oc20 kV20 dc20 pm20 ct20 oc21 kV21 dc21 pm21 cd21 ct21 oc22 kV22 dc22 pm22 cd22 ct22 oc23 kV23 dc23 pm23 cd23 ct23 oc24 kV24 dc24 pm24 cd24 ct24 oc25 kV25 dc25 pm25 cd25 ct25 oc26 kV26 dc26 pm26 ct26 oc27 kV27 dc27 pm27 cd27 ct27 oc28 kV28 dc28 pm28 cd28 ct28 oc29 kV29 dc29 pm29 cd29 ct29 oc30 kV30 dc30 pm30 cd30 ct30 oc31 kV31 dc31 pm31 cd31 ct31 oc32 kV32 dc32 pm32 cd32 ct32 oc33 kV33 dc33 pm33 ct33 oc34 kV34 dc34 pm34 cd34 ct34 oc35 kV35 dc35 pm35 ct35 oc36 kV36 dc36 pm36 cd36 ct36 oc37 kV37 dc37 pm37 cd37 ct37 oc38 kV38 dc38 pm38 cd38 ct38 : Value}
  {C_NoChoices C_NoCompany C_NoFraction C_NoRule : Addr}
  {cc9 T9 cc20 T20 cc26 T26 cc33 T33 cc35 T35 : Addr}
  (a0 : PySem.W.nsIn K mainGlobals "is_whole" = some (some (.ref f0))) (l0 : K.lookup f0 = some ⟨oc0, od0, .func (PySem.W.fnOf "is_whole" "is_whole" (defArgs s_is_whole) (defBody s_is_whole) (defScope s_is_whole) .none kV0 dc0 pm0 an0 cd0 ct0), sl0⟩) (c0 : PySem.W.codeIn K cd0 "is_whole" = true) (k0 : PySem.W.keepIn K (.ref f0) = true)
  (a1 : PySem.W.nsIn K mainGlobals "is_fraction" = some (some (.ref f1))) (l1 : K.lookup f1 = some ⟨oc1, od1, .func (PySem.W.fnOf "is_fraction" "is_fraction" (defArgs s_is_fraction) (defBody s_is_fraction) (defScope s_is_fraction) .none kV1 dc1 pm1 an1 cd1 ct1), sl1⟩) (c1 : PySem.W.codeIn K cd1 "is_fraction" = true) (k1 : PySem.W.keepIn K (.ref f1) = true)
  (a2 : PySem.W.nsIn K mainGlobals "need_fraction" = some (some (.ref f2))) (l2 : K.lookup f2 = some ⟨oc2, od2, .func (PySem.W.fnOf "need_fraction" "need_fraction" (defArgs s_need_fraction) (defBody s_need_fraction) (defScope s_need_fraction) .none kV2 dc2 pm2 an2 cd2 ct2), sl2⟩) (c2 : PySem.W.codeIn K cd2 "need_fraction" = true) (k2 : PySem.W.keepIn K (.ref f2) = true)
  (a3 : PySem.W.nsIn K mainGlobals "fraction" = some (some (.ref f3))) (l3 : K.lookup f3 = some ⟨oc3, od3, .func (PySem.W.fnOf "fraction" "fraction" (defArgs s_fraction) (defBody s_fraction) (defScope s_fraction) .none kV3 dc3 pm3 an3 cd3 ct3), sl3⟩) (c3 : PySem.W.codeIn K cd3 "fraction" = true) (k3 : PySem.W.keepIn K (.ref f3) = true)
  (a4 : PySem.W.nsIn K mainGlobals "plus" = some (some (.ref f4))) (l4 : K.lookup f4 = some ⟨oc4, od4, .func (PySem.W.fnOf "plus" "plus" (defArgs s_plus) (defBody s_plus) (defScope s_plus) .none kV4 dc4 pm4 an4 cd4 ct4), sl4⟩) (c4 : PySem.W.codeIn K cd4 "plus" = true) (k4 : PySem.W.keepIn K (.ref f4) = true)
  (a5 : PySem.W.nsIn K mainGlobals "common_bottom" = some (some (.ref f5))) (l5 : K.lookup f5 = some ⟨oc5, od5, .func (PySem.W.fnOf "common_bottom" "common_bottom" (defArgs s_common_bottom) (defBody s_common_bottom) (defScope s_common_bottom) .none kV5 dc5 pm5 an5 cd5 ct5), sl5⟩) (c5 : PySem.W.codeIn K cd5 "common_bottom" = true) (k5 : PySem.W.keepIn K (.ref f5) = true)
  (a6 : PySem.W.nsIn K mainGlobals "_is_move" = some (some (.ref f6))) (l6 : K.lookup f6 = some ⟨oc6, od6, .func (PySem.W.fnOf "_is_move" "_is_move" (defArgs s_is_move) (defBody s_is_move) (defScope s_is_move) .none kV6 dc6 pm6 an6 cd6 ct6), sl6⟩) (c6 : PySem.W.codeIn K cd6 "_is_move" = true) (k6 : PySem.W.keepIn K (.ref f6) = true)
  (a7 : PySem.W.nsIn K mainGlobals "_are_moves" = some (some (.ref f7))) (l7 : K.lookup f7 = some ⟨oc7, od7, .func (PySem.W.fnOf "_are_moves" "_are_moves" (defArgs s_are_moves) (defBody s_are_moves) (defScope s_are_moves) .none kV7 dc7 pm7 an7 cd7 ct7), sl7⟩) (c7 : PySem.W.codeIn K cd7 "_are_moves" = true) (k7 : PySem.W.keepIn K (.ref f7) = true)
  (a8 : PySem.W.nsIn K mainGlobals "_is_row" = some (some (.ref f8))) (l8 : K.lookup f8 = some ⟨oc8, od8, .func (PySem.W.fnOf "_is_row" "_is_row" (defArgs s_is_row) (defBody s_is_row) (defScope s_is_row) .none kV8 dc8 pm8 an8 cd8 ct8), sl8⟩) (c8 : PySem.W.codeIn K cd8 "_is_row" = true) (k8 : PySem.W.keepIn K (.ref f8) = true)
  (a9 : PySem.W.nsIn K mainGlobals "is_work" = some (some (.ref f9))) (l9 : K.lookup f9 = some ⟨oc9, od9, .func (PySem.W.fnOf "is_work" "is_work" (defArgs s_is_work) (defBody s_is_work) (defScope s_is_work) .none kV9 dc9 pm9 an9 (.ref cc9) ct9), sl9⟩) (c9 : PySem.W.codeIn K (.ref cc9) "is_work" = true) (k9 : PySem.W.keepIn K (.ref f9) = true)
  (t9 : PySem.W.tabIn K "is_work" = some (cc9, T9))
  (a10 : PySem.W.nsIn K mainGlobals "is_state" = some (some (.ref f10))) (l10 : K.lookup f10 = some ⟨oc10, od10, .func (PySem.W.fnOf "is_state" "is_state" (defArgs s_is_state) (defBody s_is_state) (defScope s_is_state) .none kV10 dc10 pm10 an10 cd10 ct10), sl10⟩) (c10 : PySem.W.codeIn K cd10 "is_state" = true) (k10 : PySem.W.keepIn K (.ref f10) = true)
  (a11 : PySem.W.nsIn K mainGlobals "is_company" = some (some (.ref f11))) (l11 : K.lookup f11 = some ⟨oc11, od11, .func (PySem.W.fnOf "is_company" "is_company" (defArgs s_is_company) (defBody s_is_company) (defScope s_is_company) .none kV11 dc11 pm11 an11 cd11 ct11), sl11⟩) (c11 : PySem.W.codeIn K cd11 "is_company" = true) (k11 : PySem.W.keepIn K (.ref f11) = true)
  (a12 : PySem.W.nsIn K mainGlobals "is_number_of_work" = some (some (.ref f12))) (l12 : K.lookup f12 = some ⟨oc12, od12, .func (PySem.W.fnOf "is_number_of_work" "is_number_of_work" (defArgs s_is_number_of_work) (defBody s_is_number_of_work) (defScope s_is_number_of_work) .none kV12 dc12 pm12 an12 cd12 ct12), sl12⟩) (c12 : PySem.W.codeIn K cd12 "is_number_of_work" = true) (k12 : PySem.W.keepIn K (.ref f12) = true)
  (a13 : PySem.W.nsIn K mainGlobals "is_standing" = some (some (.ref f13))) (l13 : K.lookup f13 = some ⟨oc13, od13, .func (PySem.W.fnOf "is_standing" "is_standing" (defArgs s_is_standing) (defBody s_is_standing) (defScope s_is_standing) .none kV13 dc13 pm13 an13 cd13 ct13), sl13⟩) (c13 : PySem.W.codeIn K cd13 "is_standing" = true) (k13 : PySem.W.keepIn K (.ref f13) = true)
  (a14 : PySem.W.nsIn K mainGlobals "need_company" = some (some (.ref f14))) (l14 : K.lookup f14 = some ⟨oc14, od14, .func (PySem.W.fnOf "need_company" "need_company" (defArgs s_need_company) (defBody s_need_company) (defScope s_need_company) .none kV14 dc14 pm14 an14 cd14 ct14), sl14⟩) (c14 : PySem.W.codeIn K cd14 "need_company" = true) (k14 : PySem.W.keepIn K (.ref f14) = true)
  (a15 : PySem.W.nsIn K mainGlobals "all_standings" = some (some (.ref f15))) (l15 : K.lookup f15 = some ⟨oc15, od15, .func (PySem.W.fnOf "all_standings" "all_standings" (defArgs s_all_standings) (defBody s_all_standings) (defScope s_all_standings) .none kV15 dc15 pm15 an15 cd15 ct15), sl15⟩) (c15 : PySem.W.codeIn K cd15 "all_standings" = true) (k15 : PySem.W.keepIn K (.ref f15) = true)
  (a16 : PySem.W.nsIn K mainGlobals "all_pairs" = some (some (.ref f16))) (l16 : K.lookup f16 = some ⟨oc16, od16, .func (PySem.W.fnOf "all_pairs" "all_pairs" (defArgs s_all_pairs) (defBody s_all_pairs) (defScope s_all_pairs) .none kV16 dc16 pm16 an16 cd16 ct16), sl16⟩) (c16 : PySem.W.codeIn K cd16 "all_pairs" = true) (k16 : PySem.W.keepIn K (.ref f16) = true)
  (a17 : PySem.W.nsIn K mainGlobals "_greatest_first" = some (some (.ref f17))) (l17 : K.lookup f17 = some ⟨oc17, od17, .func (PySem.W.fnOf "_greatest_first" "_greatest_first" (defArgs s_greatest_first) (defBody s_greatest_first) (defScope s_greatest_first) .none kV17 dc17 pm17 an17 cd17 ct17), sl17⟩) (c17 : PySem.W.codeIn K cd17 "_greatest_first" = true) (k17 : PySem.W.keepIn K (.ref f17) = true)
  (a18 : PySem.W.nsIn K mainGlobals "rule_by_pays" = some (some (.ref f18))) (l18 : K.lookup f18 = some ⟨oc18, od18, .func (PySem.W.fnOf "rule_by_pays" "rule_by_pays" (defArgs s_rule_by_pays) (defBody s_rule_by_pays) (defScope s_rule_by_pays) .none kV18 dc18 pm18 an18 cd18 ct18), sl18⟩) (c18 : PySem.W.codeIn K cd18 "rule_by_pays" = true) (k18 : PySem.W.keepIn K (.ref f18) = true)
  (a19 : PySem.W.nsIn K mainGlobals "_is_whole_pair" = some (some (.ref f19))) (l19 : K.lookup f19 = some ⟨oc19, od19, .func (PySem.W.fnOf "_is_whole_pair" "_is_whole_pair" (defArgs s_is_whole_pair) (defBody s_is_whole_pair) (defScope s_is_whole_pair) .none kV19 dc19 pm19 an19 cd19 ct19), sl19⟩) (c19 : PySem.W.codeIn K cd19 "_is_whole_pair" = true) (k19 : PySem.W.keepIn K (.ref f19) = true)
  (a20 : PySem.W.nsIn K mainGlobals "has_all_pairs" = some (some (.ref f20))) (l20 : K.lookup f20 = some ⟨oc20, od20, .func (PySem.W.fnOf "has_all_pairs" "has_all_pairs" (defArgs s_has_all_pairs) (defBody s_has_all_pairs) (defScope s_has_all_pairs) .none kV20 dc20 pm20 an20 (.ref cc20) ct20), sl20⟩) (c20 : PySem.W.codeIn K (.ref cc20) "has_all_pairs" = true) (k20 : PySem.W.keepIn K (.ref f20) = true)
  (t20 : PySem.W.tabIn K "has_all_pairs" = some (cc20, T20))
  (a21 : PySem.W.nsIn K mainGlobals "is_rule" = some (some (.ref f21))) (l21 : K.lookup f21 = some ⟨oc21, od21, .func (PySem.W.fnOf "is_rule" "is_rule" (defArgs s_is_rule) (defBody s_is_rule) (defScope s_is_rule) .none kV21 dc21 pm21 an21 cd21 ct21), sl21⟩) (c21 : PySem.W.codeIn K cd21 "is_rule" = true) (k21 : PySem.W.keepIn K (.ref f21) = true)
  (a22 : PySem.W.nsIn K mainGlobals "need_rule" = some (some (.ref f22))) (l22 : K.lookup f22 = some ⟨oc22, od22, .func (PySem.W.fnOf "need_rule" "need_rule" (defArgs s_need_rule) (defBody s_need_rule) (defScope s_need_rule) .none kV22 dc22 pm22 an22 cd22 ct22), sl22⟩) (c22 : PySem.W.codeIn K cd22 "need_rule" = true) (k22 : PySem.W.keepIn K (.ref f22) = true)
  (a23 : PySem.W.nsIn K mainGlobals "plan_of" = some (some (.ref f23))) (l23 : K.lookup f23 = some ⟨oc23, od23, .func (PySem.W.fnOf "plan_of" "plan_of" (defArgs s_plan_of) (defBody s_plan_of) (defScope s_plan_of) .none kV23 dc23 pm23 an23 cd23 ct23), sl23⟩) (c23 : PySem.W.codeIn K cd23 "plan_of" = true) (k23 : PySem.W.keepIn K (.ref f23) = true)
  (a24 : PySem.W.nsIn K mainGlobals "rule_plan" = some (some (.ref f24))) (l24 : K.lookup f24 = some ⟨oc24, od24, .func (PySem.W.fnOf "rule_plan" "rule_plan" (defArgs s_rule_plan) (defBody s_rule_plan) (defScope s_rule_plan) .none kV24 dc24 pm24 an24 cd24 ct24), sl24⟩) (c24 : PySem.W.codeIn K cd24 "rule_plan" = true) (k24 : PySem.W.keepIn K (.ref f24) = true)
  (a25 : PySem.W.nsIn K mainGlobals "_is_choice" = some (some (.ref f25))) (l25 : K.lookup f25 = some ⟨oc25, od25, .func (PySem.W.fnOf "_is_choice" "_is_choice" (defArgs s_is_choice) (defBody s_is_choice) (defScope s_is_choice) .none kV25 dc25 pm25 an25 cd25 ct25), sl25⟩) (c25 : PySem.W.codeIn K cd25 "_is_choice" = true) (k25 : PySem.W.keepIn K (.ref f25) = true)
  (a26 : PySem.W.nsIn K mainGlobals "are_choices" = some (some (.ref f26))) (l26 : K.lookup f26 = some ⟨oc26, od26, .func (PySem.W.fnOf "are_choices" "are_choices" (defArgs s_are_choices) (defBody s_are_choices) (defScope s_are_choices) .none kV26 dc26 pm26 an26 (.ref cc26) ct26), sl26⟩) (c26 : PySem.W.codeIn K (.ref cc26) "are_choices" = true) (k26 : PySem.W.keepIn K (.ref f26) = true)
  (t26 : PySem.W.tabIn K "are_choices" = some (cc26, T26))
  (a27 : PySem.W.nsIn K mainGlobals "need_choices" = some (some (.ref f27))) (l27 : K.lookup f27 = some ⟨oc27, od27, .func (PySem.W.fnOf "need_choices" "need_choices" (defArgs s_need_choices) (defBody s_need_choices) (defScope s_need_choices) .none kV27 dc27 pm27 an27 cd27 ct27), sl27⟩) (c27 : PySem.W.codeIn K cd27 "need_choices" = true) (k27 : PySem.W.keepIn K (.ref f27) = true)
  (a28 : PySem.W.nsIn K mainGlobals "_set_first" = some (some (.ref f28))) (l28 : K.lookup f28 = some ⟨oc28, od28, .func (PySem.W.fnOf "_set_first" "_set_first" (defArgs s_set_first) (defBody s_set_first) (defScope s_set_first) .none kV28 dc28 pm28 an28 cd28 ct28), sl28⟩) (c28 : PySem.W.codeIn K cd28 "_set_first" = true) (k28 : PySem.W.keepIn K (.ref f28) = true)
  (a29 : PySem.W.nsIn K mainGlobals "_left_out" = some (some (.ref f29))) (l29 : K.lookup f29 = some ⟨oc29, od29, .func (PySem.W.fnOf "_left_out" "_left_out" (defArgs s_left_out) (defBody s_left_out) (defScope s_left_out) .none kV29 dc29 pm29 an29 cd29 ct29), sl29⟩) (c29 : PySem.W.codeIn K cd29 "_left_out" = true) (k29 : PySem.W.keepIn K (.ref f29) = true)
  (a30 : PySem.W.nsIn K mainGlobals "_why_not" = some (some (.ref f30))) (l30 : K.lookup f30 = some ⟨oc30, od30, .func (PySem.W.fnOf "_why_not" "_why_not" (defArgs s_why_not) (defBody s_why_not) (defScope s_why_not) .none kV30 dc30 pm30 an30 cd30 ct30), sl30⟩) (c30 : PySem.W.codeIn K cd30 "_why_not" = true) (k30 : PySem.W.keepIn K (.ref f30) = true)
  (a31 : PySem.W.nsIn K mainGlobals "_ring_among" = some (some (.ref f31))) (l31 : K.lookup f31 = some ⟨oc31, od31, .func (PySem.W.fnOf "_ring_among" "_ring_among" (defArgs s_ring_among) (defBody s_ring_among) (defScope s_ring_among) .none kV31 dc31 pm31 an31 cd31 ct31), sl31⟩) (c31 : PySem.W.codeIn K cd31 "_ring_among" = true) (k31 : PySem.W.keepIn K (.ref f31) = true)
  (a32 : PySem.W.nsIn K mainGlobals "rule_of" = some (some (.ref f32))) (l32 : K.lookup f32 = some ⟨oc32, od32, .func (PySem.W.fnOf "rule_of" "rule_of" (defArgs s_rule_of) (defBody s_rule_of) (defScope s_rule_of) .none kV32 dc32 pm32 an32 cd32 ct32), sl32⟩) (c32 : PySem.W.codeIn K cd32 "rule_of" = true) (k32 : PySem.W.keepIn K (.ref f32) = true)
  (a33 : PySem.W.nsIn K mainGlobals "makes_all" = some (some (.ref f33))) (l33 : K.lookup f33 = some ⟨oc33, od33, .func (PySem.W.fnOf "makes_all" "makes_all" (defArgs s_makes_all) (defBody s_makes_all) (defScope s_makes_all) .none kV33 dc33 pm33 an33 (.ref cc33) ct33), sl33⟩) (c33 : PySem.W.codeIn K (.ref cc33) "makes_all" = true) (k33 : PySem.W.keepIn K (.ref f33) = true)
  (t33 : PySem.W.tabIn K "makes_all" = some (cc33, T33))
  (a34 : PySem.W.nsIn K mainGlobals "makes" = some (some (.ref f34))) (l34 : K.lookup f34 = some ⟨oc34, od34, .func (PySem.W.fnOf "makes" "makes" (defArgs s_makes) (defBody s_makes) (defScope s_makes) .none kV34 dc34 pm34 an34 cd34 ct34), sl34⟩) (c34 : PySem.W.codeIn K cd34 "makes" = true) (k34 : PySem.W.keepIn K (.ref f34) = true)
  (a35 : PySem.W.nsIn K mainGlobals "are_numbers_of_choices" = some (some (.ref f35))) (l35 : K.lookup f35 = some ⟨oc35, od35, .func (PySem.W.fnOf "are_numbers_of_choices" "are_numbers_of_choices" (defArgs s_are_numbers_of_choices) (defBody s_are_numbers_of_choices) (defScope s_are_numbers_of_choices) .none kV35 dc35 pm35 an35 (.ref cc35) ct35), sl35⟩) (c35 : PySem.W.codeIn K (.ref cc35) "are_numbers_of_choices" = true) (k35 : PySem.W.keepIn K (.ref f35) = true)
  (t35 : PySem.W.tabIn K "are_numbers_of_choices" = some (cc35, T35))
  (a36 : PySem.W.nsIn K mainGlobals "closes" = some (some (.ref f36))) (l36 : K.lookup f36 = some ⟨oc36, od36, .func (PySem.W.fnOf "closes" "closes" (defArgs s_closes) (defBody s_closes) (defScope s_closes) .none kV36 dc36 pm36 an36 cd36 ct36), sl36⟩) (c36 : PySem.W.codeIn K cd36 "closes" = true) (k36 : PySem.W.keepIn K (.ref f36) = true)
  (a37 : PySem.W.nsIn K mainGlobals "is_ring" = some (some (.ref f37))) (l37 : K.lookup f37 = some ⟨oc37, od37, .func (PySem.W.fnOf "is_ring" "is_ring" (defArgs s_is_ring) (defBody s_is_ring) (defScope s_is_ring) .none kV37 dc37 pm37 an37 cd37 ct37), sl37⟩) (c37 : PySem.W.codeIn K cd37 "is_ring" = true) (k37 : PySem.W.keepIn K (.ref f37) = true)
  (a38 : PySem.W.nsIn K mainGlobals "law" = some (some (.ref f38))) (l38 : K.lookup f38 = some ⟨oc38, od38, .func (PySem.W.fnOf "law" "law" (defArgs s_law) (defBody s_law) (defScope s_law) .none kV38 dc38 pm38 an38 cd38 ct38), sl38⟩) (c38 : PySem.W.codeIn K cd38 "law" = true) (k38 : PySem.W.keepIn K (.ref f38) = true)
  (z_all : PySem.W.nsIn K mainGlobals "all" = some none)
  (z_bool : PySem.W.nsIn K mainGlobals "bool" = some none)
  (z_dict : PySem.W.nsIn K mainGlobals "dict" = some none)
  (z_enumerate : PySem.W.nsIn K mainGlobals "enumerate" = some none)
  (z_int : PySem.W.nsIn K mainGlobals "int" = some none)
  (z_isinstance : PySem.W.nsIn K mainGlobals "isinstance" = some none)
  (z_len : PySem.W.nsIn K mainGlobals "len" = some none)
  (z_min : PySem.W.nsIn K mainGlobals "min" = some none)
  (z_range : PySem.W.nsIn K mainGlobals "range" = some none)
  (z_reversed : PySem.W.nsIn K mainGlobals "reversed" = some none)
  (z_sorted : PySem.W.nsIn K mainGlobals "sorted" = some none)
  (z_tuple : PySem.W.nsIn K mainGlobals "tuple" = some none)
  (z_zip : PySem.W.nsIn K mainGlobals "zip" = some none)
  (m_gcd : PySem.W.nsIn K mainGlobals "gcd" = some (some (.builtin "math.gcd")))
  (m_lcm : PySem.W.nsIn K mainGlobals "lcm" = some (some (.builtin "math.lcm")))
  (aC_NoChoices : PySem.W.nsIn K mainGlobals "NoChoices" = some (some (.ref C_NoChoices)))
  (aC_NoCompany : PySem.W.nsIn K mainGlobals "NoCompany" = some (some (.ref C_NoCompany)))
  (aC_NoFraction : PySem.W.nsIn K mainGlobals "NoFraction" = some (some (.ref C_NoFraction)))
  (aC_NoRule : PySem.W.nsIn K mainGlobals "NoRule" = some (some (.ref C_NoRule)))
  (kC_NoChoices : PySem.W.keepIn K (.ref C_NoChoices) = true) (xC_NoChoices : PySem.W.excIn K C_NoChoices [.type "ValueError", .type "Exception", .type "BaseException", .type "object"] "ValueError.__new__" = true) (bC_NoChoices : PySem.W.subIn K (.ref C_NoChoices) (.type "BaseException") = some true) (tC_NoChoices : PySem.W.typeIn K (.ref C_NoChoices) = some (.type "type"))
  (kC_NoCompany : PySem.W.keepIn K (.ref C_NoCompany) = true) (xC_NoCompany : PySem.W.excIn K C_NoCompany [.type "ValueError", .type "Exception", .type "BaseException", .type "object"] "ValueError.__new__" = true) (bC_NoCompany : PySem.W.subIn K (.ref C_NoCompany) (.type "BaseException") = some true) (tC_NoCompany : PySem.W.typeIn K (.ref C_NoCompany) = some (.type "type"))
  (kC_NoFraction : PySem.W.keepIn K (.ref C_NoFraction) = true) (xC_NoFraction : PySem.W.excIn K C_NoFraction [.type "ValueError", .type "Exception", .type "BaseException", .type "object"] "ValueError.__new__" = true) (bC_NoFraction : PySem.W.subIn K (.ref C_NoFraction) (.type "BaseException") = some true) (tC_NoFraction : PySem.W.typeIn K (.ref C_NoFraction) = some (.type "type"))
  (kC_NoRule : PySem.W.keepIn K (.ref C_NoRule) = true) (xC_NoRule : PySem.W.excIn K C_NoRule [.type "ValueError", .type "Exception", .type "BaseException", .type "object"] "ValueError.__new__" = true) (bC_NoRule : PySem.W.subIn K (.ref C_NoRule) (.type "BaseException") = some true) (tC_NoRule : PySem.W.typeIn K (.ref C_NoRule) = some (.type "type"))
  {t_MOST_CHOICES : Value} (y_MOST_CHOICES : PySem.W.nsIn K mainGlobals "MOST_CHOICES" = some (some t_MOST_CHOICES)) (r_MOST_CHOICES : RelV (.int 20) t_MOST_CHOICES)
  {t_MOST_STANDINGS : Value} (y_MOST_STANDINGS : PySem.W.nsIn K mainGlobals "MOST_STANDINGS" = some (some t_MOST_STANDINGS)) (r_MOST_STANDINGS : RelV (.int 12) t_MOST_STANDINGS)
  {t_MOST_STATES : Value} (y_MOST_STATES : PySem.W.nsIn K mainGlobals "MOST_STATES" = some (some t_MOST_STATES)) (r_MOST_STATES : RelV (.int 6) t_MOST_STATES)
  {t_MOST_WORKS : Value} (y_MOST_WORKS : PySem.W.nsIn K mainGlobals "MOST_WORKS" = some (some t_MOST_WORKS)) (r_MOST_WORKS : RelV (.int 3) t_MOST_WORKS) :
  ∃ (cs : List (Addr × Addr)) (fd : FuncData) (xm : List Addr), (∀ p ∈ cs, ∃ y ∈ (["is_work", "has_all_pairs", "are_choices", "makes_all", "are_numbers_of_choices"] : List Str), PySem.W.tabIn K y = some p) ∧ (∀ (s : Shared) (v : Value), BindsTo s fd ⟨[v], []⟩ [("script", v)]) ∧ ∀ base : Heap, K.In base → base.Ns mainGlobals mg → (∀ p ∈ cs, GxR.TabB base mg p.1 p.2) → FnG l.prog w K mg base 12 fa fd ["script"] (@spF ⟨cs.map (·.2), some w⟩ K xm f_law 1) := by
  have e := hfa.symm.trans (PySem.W.mg_of X G a38)
  cases e
  have F0 := fun_mk (st := s_is_whole) l0 c0 k0
  have b0 := F0.binds (ps := ["value"]) fun _ _ _ _ _ _ us hl => match us, hl with | [_], _ => rfl
  have F1 := fun_mk (st := s_is_fraction) l1 c1 k1
  have b1 := F1.binds (ps := ["value"]) fun _ _ _ _ _ _ us hl => match us, hl with | [_], _ => rfl
  have F2 := fun_mk (st := s_need_fraction) l2 c2 k2
  have b2 := F2.binds (ps := ["value"]) fun _ _ _ _ _ _ us hl => match us, hl with | [_], _ => rfl
  have F3 := fun_mk (st := s_fraction) l3 c3 k3
  have b3 := F3.binds (ps := ["top", "bottom"]) fun _ _ _ _ _ _ us hl => match us, hl with | [_, _], _ => rfl
  have F4 := fun_mk (st := s_plus) l4 c4 k4
  have b4 := F4.binds (ps := ["one", "other"]) fun _ _ _ _ _ _ us hl => match us, hl with | [_, _], _ => rfl
  have F5 := fun_mk (st := s_common_bottom) l5 c5 k5
  have b5 := F5.binds (ps := ["values"]) fun _ _ _ _ _ _ us hl => match us, hl with | [_], _ => rfl
  have F6 := fun_mk (st := s_is_move) l6 c6 k6
  have b6 := F6.binds (ps := ["move", "before", "many"]) fun _ _ _ _ _ _ us hl => match us, hl with | [_, _, _], _ => rfl
  have F7 := fun_mk (st := s_are_moves) l7 c7 k7
  have b7 := F7.binds (ps := ["moves", "many"]) fun _ _ _ _ _ _ us hl => match us, hl with | [_, _], _ => rfl
  have F8 := fun_mk (st := s_is_row) l8 c8 k8
  have b8 := F8.binds (ps := ["row", "many"]) fun _ _ _ _ _ _ us hl => match us, hl with | [_, _], _ => rfl
  have F9 := fun_mk (st := s_is_work) l9 c9 k9
  have b9 := F9.binds (ps := ["value"]) fun _ _ _ _ _ _ us hl => match us, hl with | [_], _ => rfl
  have F10 := fun_mk (st := s_is_state) l10 c10 k10
  have b10 := F10.binds (ps := ["work", "value"]) fun _ _ _ _ _ _ us hl => match us, hl with | [_, _], _ => rfl
  have F11 := fun_mk (st := s_is_company) l11 c11 k11
  have b11 := F11.binds (ps := ["value"]) fun _ _ _ _ _ _ us hl => match us, hl with | [_], _ => rfl
  have F12 := fun_mk (st := s_is_number_of_work) l12 c12 k12
  have b12 := F12.binds (ps := ["company", "value"]) fun _ _ _ _ _ _ us hl => match us, hl with | [_, _], _ => rfl
  have F13 := fun_mk (st := s_is_standing) l13 c13 k13
  have b13 := F13.binds (ps := ["company", "value"]) fun _ _ _ _ _ _ us hl => match us, hl with | [_, _], _ => rfl
  have F14 := fun_mk (st := s_need_company) l14 c14 k14
  have b14 := F14.binds (ps := ["value"]) fun _ _ _ _ _ _ us hl => match us, hl with | [_], _ => rfl
  have F15 := fun_mk (st := s_all_standings) l15 c15 k15
  have b15 := F15.binds (ps := ["company"]) fun _ _ _ _ _ _ us hl => match us, hl with | [_], _ => rfl
  have F16 := fun_mk (st := s_all_pairs) l16 c16 k16
  have b16 := F16.binds (ps := ["company"]) fun _ _ _ _ _ _ us hl => match us, hl with | [_], _ => rfl
  have F17 := fun_mk (st := s_greatest_first) l17 c17 k17
  have b17 := F17.binds (ps := ["company", "told"]) fun _ _ _ _ _ _ us hl => match us, hl with | [_, _], _ => rfl
  have F18 := fun_mk (st := s_rule_by_pays) l18 c18 k18
  have b18 := F18.binds (ps := ["company"]) fun _ _ _ _ _ _ us hl => match us, hl with | [_], _ => rfl
  have F19 := fun_mk (st := s_is_whole_pair) l19 c19 k19
  have b19 := F19.binds (ps := ["value"]) fun _ _ _ _ _ _ us hl => match us, hl with | [_], _ => rfl
  have F20 := fun_mk (st := s_has_all_pairs) l20 c20 k20
  have b20 := F20.binds (ps := ["company", "value"]) fun _ _ _ _ _ _ us hl => match us, hl with | [_, _], _ => rfl
  have F21 := fun_mk (st := s_is_rule) l21 c21 k21
  have b21 := F21.binds (ps := ["company", "value"]) fun _ _ _ _ _ _ us hl => match us, hl with | [_, _], _ => rfl
  have F22 := fun_mk (st := s_need_rule) l22 c22 k22
  have b22 := F22.binds (ps := ["company", "value"]) fun _ _ _ _ _ _ us hl => match us, hl with | [_, _], _ => rfl
  have F23 := fun_mk (st := s_plan_of) l23 c23 k23
  have b23 := F23.binds (ps := ["company", "rule"]) fun _ _ _ _ _ _ us hl => match us, hl with | [_, _], _ => rfl
  have F24 := fun_mk (st := s_rule_plan) l24 c24 k24
  have b24 := F24.binds (ps := ["company", "rule"]) fun _ _ _ _ _ _ us hl => match us, hl with | [_, _], _ => rfl
  have F25 := fun_mk (st := s_is_choice) l25 c25 k25
  have b25 := F25.binds (ps := ["company", "value"]) fun _ _ _ _ _ _ us hl => match us, hl with | [_, _], _ => rfl
  have F26 := fun_mk (st := s_are_choices) l26 c26 k26
  have b26 := F26.binds (ps := ["company", "value"]) fun _ _ _ _ _ _ us hl => match us, hl with | [_, _], _ => rfl
  have F27 := fun_mk (st := s_need_choices) l27 c27 k27
  have b27 := F27.binds (ps := ["company", "value"]) fun _ _ _ _ _ _ us hl => match us, hl with | [_, _], _ => rfl
  have F28 := fun_mk (st := s_set_first) l28 c28 k28
  have b28 := F28.binds (ps := ["choice"]) fun _ _ _ _ _ _ us hl => match us, hl with | [_], _ => rfl
  have F29 := fun_mk (st := s_left_out) l29 c29 k29
  have b29 := F29.binds (ps := ["choice"]) fun _ _ _ _ _ _ us hl => match us, hl with | [_], _ => rfl
  have F30 := fun_mk (st := s_why_not) l30 c30 k30
  have b30 := F30.binds (ps := ["choices", "left", "pair"]) fun _ _ _ _ _ _ us hl => match us, hl with | [_, _, _], _ => rfl
  have F31 := fun_mk (st := s_ring_among) l31 c31 k31
  have b31 := F31.binds (ps := ["choices", "left"]) fun _ _ _ _ _ _ us hl => match us, hl with | [_, _], _ => rfl
  have F32 := fun_mk (st := s_rule_of) l32 c32 k32
  have b32 := F32.binds (ps := ["company", "choices"]) fun _ _ _ _ _ _ us hl => match us, hl with | [_, _], _ => rfl
  have F33 := fun_mk (st := s_makes_all) l33 c33 k33
  have b33 := F33.binds (ps := ["company", "choices", "rule"]) fun _ _ _ _ _ _ us hl => match us, hl with | [_, _, _], _ => rfl
  have F34 := fun_mk (st := s_makes) l34 c34 k34
  have b34 := F34.binds (ps := ["company", "choices", "rule"]) fun _ _ _ _ _ _ us hl => match us, hl with | [_, _, _], _ => rfl
  have F35 := fun_mk (st := s_are_numbers_of_choices) l35 c35 k35
  have b35 := F35.binds (ps := ["choices", "value"]) fun _ _ _ _ _ _ us hl => match us, hl with | [_, _], _ => rfl
  have F36 := fun_mk (st := s_closes) l36 c36 k36
  have b36 := F36.binds (ps := ["choices", "numbers"]) fun _ _ _ _ _ _ us hl => match us, hl with | [_, _], _ => rfl
  have F37 := fun_mk (st := s_is_ring) l37 c37 k37
  have b37 := F37.binds (ps := ["company", "choices", "value"]) fun _ _ _ _ _ _ us hl => match us, hl with | [_, _, _], _ => rfl
  refine ⟨[(cc9, T9), (cc20, T20), (cc26, T26), (cc33, T33), (cc35, T35)], PySem.W.fnOf "law" "law" (defArgs s_law) (defBody s_law) (defScope s_law) .none kV38 dc38 pm38 an38 cd38 ct38, [C_NoChoices, C_NoCompany, C_NoFraction, C_NoRule], fun p hp => by
    simp only [List.mem_cons, List.not_mem_nil, or_false] at hp
    rcases hp with rfl | rfl | rfl | rfl | rfl
    · exact ⟨"is_work", by simp, t9⟩
    · exact ⟨"has_all_pairs", by simp, t20⟩
    · exact ⟨"are_choices", by simp, t26⟩
    · exact ⟨"makes_all", by simp, t33⟩
    · exact ⟨"are_numbers_of_choices", by simp, t35⟩, fun s v => .of_eq rfl, fun base _ _ hB => ?_⟩
  letI : Tabs := ⟨([(cc9, T9), (cc20, T20), (cc26, T26), (cc33, T33), (cc35, T35)] : List (Addr × Addr)).map (·.2), some w⟩
  have T : Txt w K mg [C_NoChoices, C_NoCompany, C_NoFraction, C_NoRule] := {
    wd := rfl
    n_all := PySem.W.mg_none_of X G z_all
    n_bool := PySem.W.mg_none_of X G z_bool
    n_dict := PySem.W.mg_none_of X G z_dict
    n_enumerate := PySem.W.mg_none_of X G z_enumerate
    n_int := PySem.W.mg_none_of X G z_int
    n_isinstance := PySem.W.mg_none_of X G z_isinstance
    n_len := PySem.W.mg_none_of X G z_len
    n_min := PySem.W.mg_none_of X G z_min
    n_range := PySem.W.mg_none_of X G z_range
    n_reversed := PySem.W.mg_none_of X G z_reversed
    n_sorted := PySem.W.mg_none_of X G z_sorted
    n_tuple := PySem.W.mg_none_of X G z_tuple
    n_zip := PySem.W.mg_none_of X G z_zip
    m_gcd := PySem.W.mg_of X G m_gcd
    m_lcm := PySem.W.mg_of X G m_lcm
    x_NoChoices := ⟨C_NoChoices, rfl, PySem.W.mg_of X G aC_NoChoices, kC_NoChoices, xC_NoChoices, bC_NoChoices, tC_NoChoices⟩
    x_NoCompany := ⟨C_NoCompany, rfl, PySem.W.mg_of X G aC_NoCompany, kC_NoCompany, xC_NoCompany, bC_NoCompany, tC_NoCompany⟩
    x_NoFraction := ⟨C_NoFraction, rfl, PySem.W.mg_of X G aC_NoFraction, kC_NoFraction, xC_NoFraction, bC_NoFraction, tC_NoFraction⟩
    x_NoRule := ⟨C_NoRule, rfl, PySem.W.mg_of X G aC_NoRule, kC_NoRule, xC_NoRule, bC_NoRule, tC_NoRule⟩
    k_MOST_CHOICES := ⟨_, PySem.W.mg_of X G y_MOST_CHOICES, r_MOST_CHOICES⟩
    k_MOST_STANDINGS := ⟨_, PySem.W.mg_of X G y_MOST_STANDINGS, r_MOST_STANDINGS⟩
    k_MOST_STATES := ⟨_, PySem.W.mg_of X G y_MOST_STATES, r_MOST_STATES⟩
    k_MOST_WORKS := ⟨_, PySem.W.mg_of X G y_MOST_WORKS, r_MOST_WORKS⟩
  }
  have d_is_whole : DefAt l.prog w K mg base _ 1 "is_whole" ["value"] f_is_whole := ⟨f0, _, ok_is_whole F0 T, PySem.W.mg_of X G a0, k0, b0⟩
  have d_is_fraction : DefAt l.prog w K mg base _ 2 "is_fraction" ["value"] f_is_fraction := ⟨f1, _, ok_is_fraction F1 T d_is_whole, PySem.W.mg_of X G a1, k1, b1⟩
  have d_need_fraction : DefAt l.prog w K mg base _ 3 "need_fraction" ["value"] f_need_fraction := ⟨f2, _, ok_need_fraction F2 T d_is_fraction, PySem.W.mg_of X G a2, k2, b2⟩
  have d_fraction : DefAt l.prog w K mg base _ 2 "fraction" ["top", "bottom"] f_fraction := ⟨f3, _, ok_fraction F3 T d_is_whole, PySem.W.mg_of X G a3, k3, b3⟩
  have d_plus : DefAt l.prog w K mg base _ 4 "plus" ["one", "other"] f_plus := ⟨f4, _, ok_plus F4 T d_need_fraction d_fraction, PySem.W.mg_of X G a4, k4, b4⟩
  have d_is_move : DefAt l.prog w K mg base _ 3 "_is_move" ["move", "before", "many"] f_is_move := ⟨f6, _, ok_is_move F6 T d_is_whole d_is_fraction, PySem.W.mg_of X G a6, k6, b6⟩
  have d_are_moves : DefAt l.prog w K mg base _ 5 "_are_moves" ["moves", "many"] f_are_moves := ⟨f7, _, ok_are_moves F7 T d_plus d_is_move, PySem.W.mg_of X G a7, k7, b7⟩
  have d_is_row : DefAt l.prog w K mg base _ 6 "_is_row" ["row", "many"] f_is_row := ⟨f8, _, ok_is_row F8 T d_is_fraction d_are_moves, PySem.W.mg_of X G a8, k8, b8⟩
  have d_is_work : DefAt l.prog w K mg base _ 8 "is_work" ["value"] f_is_work := ⟨f9, _, ok_is_work (funT_mk (st := s_is_work) l9 c9) (hB (cc9, T9) (by simp)) (by show T9 ∈ [T9, T20, T26, T33, T35]; simp) T d_is_row, PySem.W.mg_of X G a9, k9, b9⟩
  have d_is_company : DefAt l.prog w K mg base _ 9 "is_company" ["value"] f_is_company := ⟨f11, _, ok_is_company F11 T d_is_work, PySem.W.mg_of X G a11, k11, b11⟩
  have d_need_company : DefAt l.prog w K mg base _ 10 "need_company" ["value"] f_need_company := ⟨f14, _, ok_need_company F14 T d_is_company, PySem.W.mg_of X G a14, k14, b14⟩
  have d_common_bottom : DefAt l.prog w K mg base _ 1 "common_bottom" ["values"] f_common_bottom := ⟨f5, _, ok_common_bottom F5 T, PySem.W.mg_of X G a5, k5, b5⟩
  have d_all_pairs : DefAt l.prog w K mg base _ 1 "all_pairs" ["company"] f_all_pairs := ⟨f16, _, ok_all_pairs F16 T, PySem.W.mg_of X G a16, k16, b16⟩
  have d_greatest_first : DefAt l.prog w K mg base _ 2 "_greatest_first" ["company", "told"] f_greatest_first := ⟨f17, _, ok_greatest_first F17 T d_common_bottom d_all_pairs, PySem.W.mg_of X G a17, k17, b17⟩
  have d_rule_by_pays : DefAt l.prog w K mg base _ 11 "rule_by_pays" ["company"] f_rule_by_pays := ⟨f18, _, ok_rule_by_pays F18 T d_need_company d_greatest_first, PySem.W.mg_of X G a18, k18, b18⟩
  have d_is_whole_pair : DefAt l.prog w K mg base _ 2 "_is_whole_pair" ["value"] f_is_whole_pair := ⟨f19, _, ok_is_whole_pair F19 T d_is_whole, PySem.W.mg_of X G a19, k19, b19⟩
  have d_has_all_pairs : DefAt l.prog w K mg base _ 4 "has_all_pairs" ["company", "value"] f_has_all_pairs := ⟨f20, _, ok_has_all_pairs (funT_mk (st := s_has_all_pairs) l20 c20) (hB (cc20, T20) (by simp)) (by show T20 ∈ [T9, T20, T26, T33, T35]; simp) T d_all_pairs d_is_whole_pair, PySem.W.mg_of X G a20, k20, b20⟩
  have d_is_rule : DefAt l.prog w K mg base _ 11 "is_rule" ["company", "value"] f_is_rule := ⟨f21, _, ok_is_rule F21 T d_need_company d_has_all_pairs, PySem.W.mg_of X G a21, k21, b21⟩
  have d_need_rule : DefAt l.prog w K mg base _ 5 "need_rule" ["company", "value"] f_need_rule := ⟨f22, _, ok_need_rule F22 T d_has_all_pairs, PySem.W.mg_of X G a22, k22, b22⟩
  have d_all_standings : DefAt l.prog w K mg base _ 1 "all_standings" ["company"] f_all_standings := ⟨f15, _, ok_all_standings F15 T, PySem.W.mg_of X G a15, k15, b15⟩
  have d_plan_of : DefAt l.prog w K mg base _ 2 "plan_of" ["company", "rule"] f_plan_of := ⟨f23, _, ok_plan_of F23 T d_all_standings, PySem.W.mg_of X G a23, k23, b23⟩
  have d_rule_plan : DefAt l.prog w K mg base _ 11 "rule_plan" ["company", "rule"] f_rule_plan := ⟨f24, _, ok_rule_plan F24 T d_need_company d_need_rule d_plan_of, PySem.W.mg_of X G a24, k24, b24⟩
  have d_all_pairs__c : DefAt l.prog w K mg base _ 1 "all_pairs" ["company"] f_all_pairs__c := ⟨f16, _, ok_all_pairs__c F16 T, PySem.W.mg_of X G a16, k16, b16⟩
  have d_is_number_of_work : DefAt l.prog w K mg base _ 2 "is_number_of_work" ["company", "value"] f_is_number_of_work := ⟨f12, _, ok_is_number_of_work F12 T d_is_whole, PySem.W.mg_of X G a12, k12, b12⟩
  have d_is_state : DefAt l.prog w K mg base _ 2 "is_state" ["work", "value"] f_is_state := ⟨f10, _, ok_is_state F10 T d_is_whole, PySem.W.mg_of X G a10, k10, b10⟩
  have d_is_standing : DefAt l.prog w K mg base _ 3 "is_standing" ["company", "value"] f_is_standing := ⟨f13, _, ok_is_standing F13 T d_is_state, PySem.W.mg_of X G a13, k13, b13⟩
  have d_is_choice : DefAt l.prog w K mg base _ 4 "_is_choice" ["company", "value"] f_is_choice := ⟨f25, _, ok_is_choice F25 T d_is_number_of_work d_is_standing, PySem.W.mg_of X G a25, k25, b25⟩
  have d_are_choices : DefAt l.prog w K mg base _ 6 "are_choices" ["company", "value"] f_are_choices := ⟨f26, _, ok_are_choices (funT_mk (st := s_are_choices) l26 c26) (hB (cc26, T26) (by simp)) (by show T26 ∈ [T9, T20, T26, T33, T35]; simp) T d_is_choice, PySem.W.mg_of X G a26, k26, b26⟩
  have d_need_choices : DefAt l.prog w K mg base _ 7 "need_choices" ["company", "value"] f_need_choices := ⟨f27, _, ok_need_choices F27 T d_are_choices, PySem.W.mg_of X G a27, k27, b27⟩
  have d_set_first : DefAt l.prog w K mg base _ 1 "_set_first" ["choice"] f_set_first := ⟨f28, _, ok_set_first F28 T, PySem.W.mg_of X G a28, k28, b28⟩
  have d_left_out : DefAt l.prog w K mg base _ 1 "_left_out" ["choice"] f_left_out := ⟨f29, _, ok_left_out F29 T, PySem.W.mg_of X G a29, k29, b29⟩
  have d_why_not : DefAt l.prog w K mg base _ 2 "_why_not" ["choices", "left", "pair"] f_why_not := ⟨f30, _, ok_why_not F30 T d_set_first d_left_out, PySem.W.mg_of X G a30, k30, b30⟩
  have d_ring_among : DefAt l.prog w K mg base _ 3 "_ring_among" ["choices", "left"] f_ring_among := ⟨f31, _, ok_ring_among F31 T d_set_first d_why_not, PySem.W.mg_of X G a31, k31, b31⟩
  have d_rule_of : DefAt l.prog w K mg base _ 11 "rule_of" ["company", "choices"] f_rule_of := ⟨f32, _, ok_rule_of F32 T d_need_company d_all_pairs__c d_need_choices d_why_not d_ring_among, PySem.W.mg_of X G a32, k32, b32⟩
  have d_makes_all : DefAt l.prog w K mg base _ 4 "makes_all" ["company", "choices", "rule"] f_makes_all := ⟨f33, _, ok_makes_all (funT_mk (st := s_makes_all) l33 c33) (hB (cc33, T33) (by simp)) (by show T33 ∈ [T9, T20, T26, T33, T35]; simp) T d_all_standings d_plan_of, PySem.W.mg_of X G a33, k33, b33⟩
  have d_makes : DefAt l.prog w K mg base _ 11 "makes" ["company", "choices", "rule"] f_makes := ⟨f34, _, ok_makes F34 T d_need_company d_need_rule d_need_choices d_makes_all, PySem.W.mg_of X G a34, k34, b34⟩
  have d_are_numbers_of_choices : DefAt l.prog w K mg base _ 3 "are_numbers_of_choices" ["choices", "value"] f_are_numbers_of_choices := ⟨f35, _, ok_are_numbers_of_choices (funT_mk (st := s_are_numbers_of_choices) l35 c35) (hB (cc35, T35) (by simp)) (by show T35 ∈ [T9, T20, T26, T33, T35]; simp) T d_is_whole, PySem.W.mg_of X G a35, k35, b35⟩
  have d_closes : DefAt l.prog w K mg base _ 2 "closes" ["choices", "numbers"] f_closes := ⟨f36, _, ok_closes F36 T d_set_first d_left_out, PySem.W.mg_of X G a36, k36, b36⟩
  have d_is_ring : DefAt l.prog w K mg base _ 11 "is_ring" ["company", "choices", "value"] f_is_ring := ⟨f37, _, ok_is_ring F37 T d_need_company d_need_choices d_are_numbers_of_choices d_closes, PySem.W.mg_of X G a37, k37, b37⟩
  exact ok_law (fun_mk (st := s_law) l38 c38 k38) T d_rule_by_pays d_is_rule d_rule_plan d_rule_of d_makes d_is_ring
end Lw
open PySem PySem.W PyProof.Rows in
set_option maxRecDepth 100000 in
set_option maxHeartbeats 0 in
theorem PySem.Challenge.cw_nextwork_k49_choices_by_hand_holds : PySem.Challenge.rw_nextwork_k49_choices_by_hand.Holds := by
  w_on; o_law; k_head; (case hw => w_witness2)
  k_fill
  refine Ev.walkG (l := PySem.Challenge.rw_nextwork_k49_choices_by_hand) (F := Lw.f_law) (k := 12) (x := "script") ["is_work", "has_all_pairs", "are_choices", "makes_all", "are_numbers_of_choices"] (by first | rfl | decide +kernel) (fun _ => by first | kernel_rfl | rfl) rfl rfl ⟨rfl, by decide, by decide⟩ (fun w h Y => PySem.W.kIn_of Y) ?F Lw.law_true
  case F =>
    intro w mg fa h KX G hmg
    refine' Lw.all_mk (l := PySem.Challenge.rw_nextwork_k49_choices_by_hand) rfl KX G hmg ?a0 ?l0 ?c0 ?k0 ?a1 ?l1 ?c1 ?k1 ?a2 ?l2 ?c2 ?k2 ?a3 ?l3 ?c3 ?k3 ?a4 ?l4 ?c4 ?k4 ?a5 ?l5 ?c5 ?k5 ?a6 ?l6 ?c6 ?k6 ?a7 ?l7 ?c7 ?k7 ?a8 ?l8 ?c8 ?k8 ?a9 ?l9 ?c9 ?k9 ?t9 ?a10 ?l10 ?c10 ?k10 ?a11 ?l11 ?c11 ?k11 ?a12 ?l12 ?c12 ?k12 ?a13 ?l13 ?c13 ?k13 ?a14 ?l14 ?c14 ?k14 ?a15 ?l15 ?c15 ?k15 ?a16 ?l16 ?c16 ?k16 ?a17 ?l17 ?c17 ?k17 ?a18 ?l18 ?c18 ?k18 ?a19 ?l19 ?c19 ?k19 ?a20 ?l20 ?c20 ?k20 ?t20 ?a21 ?l21 ?c21 ?k21 ?a22 ?l22 ?c22 ?k22 ?a23 ?l23 ?c23 ?k23 ?a24 ?l24 ?c24 ?k24 ?a25 ?l25 ?c25 ?k25 ?a26 ?l26 ?c26 ?k26 ?t26 ?a27 ?l27 ?c27 ?k27 ?a28 ?l28 ?c28 ?k28 ?a29 ?l29 ?c29 ?k29 ?a30 ?l30 ?c30 ?k30 ?a31 ?l31 ?c31 ?k31 ?a32 ?l32 ?c32 ?k32 ?a33 ?l33 ?c33 ?k33 ?t33 ?a34 ?l34 ?c34 ?k34 ?a35 ?l35 ?c35 ?k35 ?t35 ?a36 ?l36 ?c36 ?k36 ?a37 ?l37 ?c37 ?k37 ?a38 ?l38 ?c38 ?k38 ?z_all ?z_bool ?z_dict ?z_enumerate ?z_int ?z_isinstance ?z_len ?z_min ?z_range ?z_reversed ?z_sorted ?z_tuple ?z_zip ?m_gcd ?m_lcm ?aC_NoChoices ?aC_NoCompany ?aC_NoFraction ?aC_NoRule ?kC_NoChoices ?xC_NoChoices ?bC_NoChoices ?tC_NoChoices ?kC_NoCompany ?xC_NoCompany ?bC_NoCompany ?tC_NoCompany ?kC_NoFraction ?xC_NoFraction ?bC_NoFraction ?tC_NoFraction ?kC_NoRule ?xC_NoRule ?bC_NoRule ?tC_NoRule ?y_MOST_CHOICES ?r_MOST_CHOICES ?y_MOST_STANDINGS ?r_MOST_STANDINGS ?y_MOST_STATES ?r_MOST_STATES ?y_MOST_WORKS ?r_MOST_WORKS
    (case a0 => k_is)
    (case l0 => k_is)
    (case c0 => k_is)
    (case k0 => k_is)
    (case a1 => k_is)
    (case l1 => k_is)
    (case c1 => k_is)
    (case k1 => k_is)
    (case a2 => k_is)
    (case l2 => k_is)
    (case c2 => k_is)
    (case k2 => k_is)
    (case a3 => k_is)
    (case l3 => k_is)
    (case c3 => k_is)
    (case k3 => k_is)
    (case a4 => k_is)
    (case l4 => k_is)
    (case c4 => k_is)
    (case k4 => k_is)
    (case a5 => k_is)
    (case l5 => k_is)
    (case c5 => k_is)
    (case k5 => k_is)
    (case a6 => k_is)
    (case l6 => k_is)
    (case c6 => k_is)
    (case k6 => k_is)
    (case a7 => k_is)
    (case l7 => k_is)
    (case c7 => k_is)
    (case k7 => k_is)
    (case a8 => k_is)
    (case l8 => k_is)
    (case c8 => k_is)
    (case k8 => k_is)
    (case a9 => k_is)
    (case l9 => k_is)
    (case c9 => k_is)
    (case k9 => k_is)
    (case t9 => first | exact rfl | with_unfolding_all exact rfl)
    (case a10 => k_is)
    (case l10 => k_is)
    (case c10 => k_is)
    (case k10 => k_is)
    (case a11 => k_is)
    (case l11 => k_is)
    (case c11 => k_is)
    (case k11 => k_is)
    (case a12 => k_is)
    (case l12 => k_is)
    (case c12 => k_is)
    (case k12 => k_is)
    (case a13 => k_is)
    (case l13 => k_is)
    (case c13 => k_is)
    (case k13 => k_is)
    (case a14 => k_is)
    (case l14 => k_is)
    (case c14 => k_is)
    (case k14 => k_is)
    (case a15 => k_is)
    (case l15 => k_is)
    (case c15 => k_is)
    (case k15 => k_is)
    (case a16 => k_is)
    (case l16 => k_is)
    (case c16 => k_is)
    (case k16 => k_is)
    (case a17 => k_is)
    (case l17 => k_is)
    (case c17 => k_is)
    (case k17 => k_is)
    (case a18 => k_is)
    (case l18 => k_is)
    (case c18 => k_is)
    (case k18 => k_is)
    (case a19 => k_is)
    (case l19 => k_is)
    (case c19 => k_is)
    (case k19 => k_is)
    (case a20 => k_is)
    (case l20 => k_is)
    (case c20 => k_is)
    (case k20 => k_is)
    (case t20 => first | exact rfl | with_unfolding_all exact rfl)
    (case a21 => k_is)
    (case l21 => k_is)
    (case c21 => k_is)
    (case k21 => k_is)
    (case a22 => k_is)
    (case l22 => k_is)
    (case c22 => k_is)
    (case k22 => k_is)
    (case a23 => k_is)
    (case l23 => k_is)
    (case c23 => k_is)
    (case k23 => k_is)
    (case a24 => k_is)
    (case l24 => k_is)
    (case c24 => k_is)
    (case k24 => k_is)
    (case a25 => k_is)
    (case l25 => k_is)
    (case c25 => k_is)
    (case k25 => k_is)
    (case a26 => k_is)
    (case l26 => k_is)
    (case c26 => k_is)
    (case k26 => k_is)
    (case t26 => first | exact rfl | with_unfolding_all exact rfl)
    (case a27 => k_is)
    (case l27 => k_is)
    (case c27 => k_is)
    (case k27 => k_is)
    (case a28 => k_is)
    (case l28 => k_is)
    (case c28 => k_is)
    (case k28 => k_is)
    (case a29 => k_is)
    (case l29 => k_is)
    (case c29 => k_is)
    (case k29 => k_is)
    (case a30 => k_is)
    (case l30 => k_is)
    (case c30 => k_is)
    (case k30 => k_is)
    (case a31 => k_is)
    (case l31 => k_is)
    (case c31 => k_is)
    (case k31 => k_is)
    (case a32 => k_is)
    (case l32 => k_is)
    (case c32 => k_is)
    (case k32 => k_is)
    (case a33 => k_is)
    (case l33 => k_is)
    (case c33 => k_is)
    (case k33 => k_is)
    (case t33 => first | exact rfl | with_unfolding_all exact rfl)
    (case a34 => k_is)
    (case l34 => k_is)
    (case c34 => k_is)
    (case k34 => k_is)
    (case a35 => k_is)
    (case l35 => k_is)
    (case c35 => k_is)
    (case k35 => k_is)
    (case t35 => first | exact rfl | with_unfolding_all exact rfl)
    (case a36 => k_is)
    (case l36 => k_is)
    (case c36 => k_is)
    (case k36 => k_is)
    (case a37 => k_is)
    (case l37 => k_is)
    (case c37 => k_is)
    (case k37 => k_is)
    (case a38 => k_is)
    (case l38 => k_is)
    (case c38 => k_is)
    (case k38 => k_is)
    (case z_all => k_is)
    (case z_bool => k_is)
    (case z_dict => k_is)
    (case z_enumerate => k_is)
    (case z_int => k_is)
    (case z_isinstance => k_is)
    (case z_len => k_is)
    (case z_min => k_is)
    (case z_range => k_is)
    (case z_reversed => k_is)
    (case z_sorted => k_is)
    (case z_tuple => k_is)
    (case z_zip => k_is)
    (case m_gcd => k_is)
    (case m_lcm => k_is)
    (case aC_NoChoices => k_is)
    (case aC_NoCompany => k_is)
    (case aC_NoFraction => k_is)
    (case aC_NoRule => k_is)
    (case kC_NoChoices => k_is)
    (case xC_NoChoices => k_exc)
    (case bC_NoChoices => k_is)
    (case tC_NoChoices => k_is)
    (case kC_NoCompany => k_is)
    (case xC_NoCompany => k_exc)
    (case bC_NoCompany => k_is)
    (case tC_NoCompany => k_is)
    (case kC_NoFraction => k_is)
    (case xC_NoFraction => k_exc)
    (case bC_NoFraction => k_is)
    (case tC_NoFraction => k_is)
    (case kC_NoRule => k_is)
    (case xC_NoRule => k_exc)
    (case bC_NoRule => k_is)
    (case tC_NoRule => k_is)
    (case y_MOST_CHOICES => k_is)
    (case r_MOST_CHOICES => exact ⟨_, rfl⟩)
    (case y_MOST_STANDINGS => k_is)
    (case r_MOST_STANDINGS => exact ⟨_, rfl⟩)
    (case y_MOST_STATES => k_is)
    (case r_MOST_STATES => exact ⟨_, rfl⟩)
    (case y_MOST_WORKS => k_is)
    (case r_MOST_WORKS => exact ⟨_, rfl⟩)
