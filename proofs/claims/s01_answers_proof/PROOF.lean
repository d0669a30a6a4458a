import PyProof.Rows.All
import Wide.All
import OpenK.AllK
import Wide.FinOn
import KE.BitLaws
import KE.KDictList
import KE.KDictSum
import KE.OsGo
import KE.OsHead
import Open.SpecLaws
import PyFlatLaws
import PyKzk
import PyProof.CodeObj
import PyProof.DictIter
import PyProof.DictKinds
import PyProof.EqAt
import PyProof.EqKinds
import PyProof.FactsAll.set
import PyProof.Rows.SetFrom
import PyProof.Rows.SortShell
import PyProof.Rows.SortWalk
import PyProof.SetKind
import PyProof.SetRoads
import PyProof.TupleCall
import PyProof.Walks
import PySem.Challenge.RW_watchtowers_s01_answers
import PySem.SetOps
set_option Elab.async false
set_option linter.all false
set_option maxRecDepth 100000
set_option maxHeartbeats 4000000
def zAa := @List.length_map
def zAb := @List.getD_eq_getElem?_getD
def zAc := @List.getElem?_eq_getElem
def zAd := @List.getElem?_eq_some_iff
def zAe := @of_decide_eq_true
def zAf := @decide_eq_true
def zAg := @List.mem_cons_self
def zAh := @List.getElem?_map
def zAi := @List.length_append
def zAj := @List.mem_cons_of_mem
def zAk := @List.mem_range
def zAl := @Int.toNat_natCast
def zAm := @List.length_filter_le
def zAn := @Nat.le_trans
def zAo := @Classical.byContradiction
def zAp := @List.map_append
def zAq := @List.mem_map
def zAr := @List.length_range
def zAs := @List.mem_of_getElem?
def zAt := @Nat.le_refl
def zAu := @List.length_eq_zero_iff
def zAv := @List.mem_cons
def zAw := @List.map_map
def zAx := @List.getElem?_append_right
def zAy := @List.getElem?_append_left
def zAz := @List.length_cons
def zBa := @List.all_eq_true
def zBb := @Array.getElem?_eq_getElem
def zBc := @List.length_pos_iff
def zBd := @List.filter_cons
def zBe := @List.mem_filter
def zBf := @Nat.zero_le
def zBg := @Bool.and_eq_true
def zBh := @Nat.lt_of_lt_of_le
def zBi := @Nat.lt_of_le_of_lt
def zBj := @PySem.F.slot_list_append
def zBk := @PySem.F.type_list_append
def zBl := @Option.some.inj
def zBm := @decide_eq_false
def zBn := @decide_eq_true_iff
def zBo := @List.length_take
def zBp := @List.getElem?_set_self
def zBq := @Nat.not_lt_zero
def zBr := @Nat.lt_irrefl
def zBs := @Nat.lt_succ_self
def zBt := @Nat.sub_self
def zBu := @List.pairwise_cons
def zBv := @List.nodup_cons
def zBw := @List.mem_singleton
def zBx := @List.mem_append
def zBy := @List.append_assoc
def zBz := @List.append_nil
def zCa := @List.foldl_append
def zCb := @List.foldl_cons
def zCc := @List.filter_append
def zCd := @List.filter_nil
def zCe := @Nat.two_pow_pos
def zCf := @Nat.le_of_lt
def zCg := @List.filter_eq_nil_iff
def zCh := @List.any_eq_true
def zCi := @List.getElem_mem
def zCj := @List.getElem?_eq_none
def zCk := @Nat.testBit_and
def zCl := @Nat.testBit_or
def zCm := @Nat.eq_of_testBit_eq
def zCn := @Nat.testBit_lt_two_pow
def zCo := @Bool.eq_iff_iff
def zCp := @Nat.pow_le_pow_right
section
namespace L2
open PySem PySem.Spec PyProof.Rows
abbrev Key := Sum Int Str
def qU : Key -> Value -> Bool
 | .inl k, v => Value.isInt k v
 | .inr x, v => Value.isStrOf x v
def K0 (w : World) : Key -> Int
 | .inl k => hashInt k
 | .inr x => hashStr w x
theorem cf : ∀ {k : Key} {v : Value}, qU k v = true -> (∃ i t, k = Sum.inl i /\ v = Value.int i t) \/ (∃ x t, k = Sum.inr x /\ v = Value.str x t)
 | .inl i, v, h => by
  obtain ⟨t, e⟩ := Value.isInt_shape (k := i) (v := v) h
  exact .inl ⟨i, t, rfl, e⟩
 | .inr x, v, h => by
  obtain ⟨t, e⟩ := Value.isStrOf_shape (x := x) (v := v) h
  exact .inr ⟨x, t, rfl, e⟩
theorem Az (i : Int) (t : Tok) : qU (.inl i) (.int i t) = true := by simp [qU, Value.isInt]
theorem Ay (x : Str) (t : Tok) : qU (.inr x) (.str x t) = true := by simp [qU, Value.isStrOf]
theorem HQ (a b : Int) : decide ((Sum.inl a : Key) = Sum.inl b) = (a == b) := by
 by_cases e : a = b
 ·subst e; simp
 ·have h : ¬ (Sum.inl a : Key) = Sum.inl b := fun q => e (Sum.inl.inj q)
  rw [zBm h]
  exact (beq_eq_false_iff_ne.mpr e).symm
theorem HM (a b : Str) : decide ((Sum.inr a : Key) = Sum.inr b) = decide (a = b) := by
 by_cases e : a = b
 ·subst e; simp
 ·have h : ¬ (Sum.inr a : Key) = Sum.inr b := fun q => e (Sum.inr.inj q)
  rw [zBm h, zBm e]
theorem HP (a : Int) (b : Str) : decide ((Sum.inl a : Key) = Sum.inr b) = false := zBm (fun q => nomatch q)
theorem HN (a : Str) (b : Int) : decide ((Sum.inr a : Key) = Sum.inl b) = false := zBm (fun q => nomatch q)
def cB (prog : Program) (w : World) : PySem.KeyKind prog w Key where
 is := qU
 hash := K0 w
 inj := fun v a b ha hb => by
  rcases cf ha with ⟨i, t, rfl, rfl⟩ | ⟨x, t, rfl, rfl⟩
  ·rcases cf hb with ⟨j, u, rfl, e⟩ | ⟨y, u, rfl, e⟩
   ·injection e with e1 _; rw [e1]
   ·exact nomatch e
  ·rcases cf hb with ⟨j, u, rfl, e⟩ | ⟨y, u, rfl, e⟩
   ·exact nomatch e
   ·injection e with e1 _; rw [e1]
 byValue := fun k v h => by
  rcases cf h with ⟨i, t, rfl, rfl⟩ | ⟨x, t, rfl, rfl⟩ <;> rfl
 pyHash := fun hv h => by
  rcases cf hv with ⟨i, t, rfl, rfl⟩ | ⟨x, t, rfl, rfl⟩
  ·exact wpAny_pyHash_int h
  ·exact wpAny_pyHash_str h
 eqBool := fun hu hv h => by
  rcases cf hu with ⟨i, t, rfl, rfl⟩ | ⟨x, t, rfl, rfl⟩
  ·rcases cf hv with ⟨j, u, rfl, rfl⟩ | ⟨y, u, rfl, rfl⟩
   ·rw [HQ] at h; exact wpAny_eqBool_int h
   ·rw [HP] at h; exact SeqAt.EqAt.int_str i t y u _ _ _ _ h
  ·rcases cf hv with ⟨j, u, rfl, rfl⟩ | ⟨y, u, rfl, rfl⟩
   ·rw [HN] at h; exact SeqAt.EqAt.str_int x t j u _ _ _ _ h
   ·rw [HM] at h; exact wpAny_eqBool_str h
 «strs» := fun k x t v h => by
  rcases cf h with ⟨i, u, rfl, e⟩ | ⟨y, u, rfl, e⟩
  ·exact nomatch e
  ·injection e with e1 _
   subst e1
   cases v <;> rfl
theorem vg (prog : Program) (w : World) (i : Int) (t : Tok) : (cB prog w).is (.inl i) (.int i t) = true := Az i t
theorem vf (prog : Program) (w : World) (x : Str) (t : Tok) : (cB prog w).is (.inr x) (.str x t) = true := Ay x t
inductive V where
 | non | bl (b : Bool) | int (i : Int) | str (x : Str) | byt (b : Array UInt8) | flt (b : UInt64) | ref (a : Addr) | ty (n : String)
 deriving DecidableEq
def RelV : V -> Value -> Prop
 | .non, u => u = Value.none
 | .bl b, u => u = Value.bool b
 | .int i, u => ∃ t, u = Value.int i t
 | .str x, u => ∃ t, u = Value.str x t
 | .byt b, u => ∃ t, u = Value.bytes b t
 | .flt b, u => ∃ t, u = Value.float b t
 | .ref a, u => u = Value.ref a
 | .ty n, u => u = Value.type n
abbrev Vals : List V -> List Value -> Prop := Paired RelV
theorem Vals.length {xs : List V} {us : List Value} (r : Vals xs us) : xs.length = us.length := Paired.length r
theorem Vals.get : ∀ {xs : List V} {us : List Value} {i : Nat} {x : V}, Vals xs us -> xs[i]? = some x -> ∃ u, us[i]? = some u /\ RelV x u
 | _, _, _, _, .nil, e => by simp at e
 | _, _, 0, _, .cons r _, e => by simp at e; subst e; exact ⟨_, rfl, r⟩
 | _, _, i + 1, x, .cons _ t, e => by
  obtain ⟨u, h1, h2⟩ := Vals.get (i := i) (x := x) t (by simpa using e)
  exact ⟨u, by simpa using h1, h2⟩
theorem Vals.set {x : V} {u : Value} (r : RelV x u) : ∀ {xs : List V} {us : List Value} (i : Nat), Vals xs us -> Vals (xs.set i x) (us.set i u)
 | _, _, _, .nil => .nil
 | _, _, 0, .cons _ t => .cons r t
 | _, _, i + 1, .cons q t => .cons q (Vals.set r i t)
theorem Vals.append : ∀ {xs ys : List V} {us ws : List Value}, Vals xs us -> Vals ys ws -> Vals (xs ++ ys) (us ++ ws)
 | _, _, _, _, .nil, s => s
 | _, _, _, _, .cons r t, s => .cons r (Vals.append t s)
theorem Vals.take : ∀ {xs : List V} {us : List Value} (n : Nat), Vals xs us -> Vals (xs.take n) (us.take n)
 | _, _, 0, _ => .nil
 | _, _, _ + 1, .nil => .nil
 | _, _, n + 1, .cons r t => .cons r (Vals.take n t)
theorem Vals.drop : ∀ {xs : List V} {us : List Value} (n : Nat), Vals xs us -> Vals (xs.drop n) (us.drop n)
 | _, _, 0, r => r
 | _, _, _ + 1, .nil => .nil
 | _, _, n + 1, .cons _ t => Vals.drop n t
def jb : Option V -> Option Value -> Prop
 | some v, some u => RelV v u
 | none, none => True
 | _, _ => False
def KV {κ : Type} : List (κ × V) -> List (κ × Value) -> Prop := Paired fun (p : κ × V) (q : κ × Value) => p.1 = q.1 /\ RelV p.2 q.2
def kV : Key -> V
 | .inl i => .int i
 | .inr x => .str x
inductive HO where
 | lst (xs : List V)
 | tup (xs : List V)
 | dK (kvs : List (Key × V)) | dT (kvs : List (List Key × V))
 | set (S : Int -> Bool) (n : Nat)
 | ins (C dx : Addr) (fs : List (Str × V))
 | own (x : Addr)
 | xd (fs : List (Str × V))
 | met (f x : Addr)
 | rng (lo hi : Int)
 | frz (o : Obj) (u : HO)
 | tbl (ps : Array Value)
 | ext (φ : Heap -> Prop)
abbrev Hp := Addr -> Option HO
def upd (H : Hp) (a : Addr) (o : HO) : Hp := fun b => if b = a then some o else H b
theorem ae {H : Hp} {a : Addr} {o : HO} : upd H a o a = some o := by unfold upd; rw [if_pos rfl]
theorem ag {H : Hp} {a b : Addr} {o : HO} (h : b ≠ a) : upd H a o b = H b := by unfold upd; rw [if_neg h]
theorem mU {H : Hp} {a : Addr} {o u : HO} : upd (upd H a o) a u = upd H a u := by
 funext b; unfold upd; split <;> rfl
theorem cU {H : Hp} {a b : Addr} {o u : HO} (h : H a = some o) (h' : H b = some u) (d : o ≠ u) : a ≠ b := by
 intro e; subst e; rw [h] at h'; exact d (zBl h')
theorem ax {H : Hp} {a b : Addr} {o : HO} (h : H a = some o) (h' : H b = none) : a ≠ b := by
 intro e; subst e; rw [h] at h'; cases h'
section
variable (P : Program) (w : World)
def cG (H : Hp) (h : Heap) (a : Addr) : HO -> Prop
 | .lst xs => xs.length <= sizeLine /\ ∃ (its : List Value) (n : Nat), Vals xs its /\ h.get? a = some { cls := .type "list", data := .seq its.toArray n }
 | .tup xs => xs.length <= sizeLine /\ ∃ its : List Value, Vals xs its /\ IsTup h a its.toArray
 | .dK kvs => kvs.length <= sizeLine /\ (a == sysModules) = false /\ ∃ vs, KV kvs vs /\ h.DictOf (cB P w) a vs
 | .dT kvs => kvs.length <= sizeLine /\ (a == sysModules) = false /\ ∃ xs : List (List Key × Addr × Value),
   Paired (fun (p : List Key × V) (q : List Key × Addr × Value) => p.1 = q.1 /\ H q.2.1 = some (.tup (p.1.map kV)) /\ RelV p.2 q.2.2) kvs xs ∧
   ∃ o es ep, h.get? a = some o /\ o.ExactDict /\ o.data = .dict es ep /\ es.toList = xs.map (entryOfKey (tupleKind (cB P w))) /\ (xs.map (·.1)).Nodup
 | .set S n => h.SetOf (intKind P w) a S n
 | .ins C dx fs => H dx = some (.own a) /\ fs.length <= 1000 /\ dx ≠ a /\ h.get? a = some (PySem.W.instObj C dx) ∧
   ∃ mA, h.Ns1 dx mA /\ (∀ f, jb (fs.lookup f) (mA f)) /\ PySem.Within mA (fs.map (·.1))
 | .own _ => ∃ o, h.get? a = some o
 | .xd fs => ∃ mA, h.Ns1 a mA /\ ∀ f, jb (fs.lookup f) (mA f)
 | .rng lo hi => ∃ t u v, h.get? a = some { cls := .type "range", data := .fields #[.int lo t, .int hi u, .int 1 v] }
 | .frz o u => h.get? a = some o /\ cG H h a u
 | .tbl ps => h.get? a = some { cls := .none, data := .fields ps }
 | .met f x => h.get? a = some (PySem.W.methodObj (.ref f) (.ref x))
 | .ext φ => φ h /\ (∃ o, h.get? a = some o) /\ ∀ h1 h2 : Heap, φ h1 -> (∀ o, h1.get? a = some o -> h2.get? a = some o) -> φ h2
def HOk (H : Hp) (h : Heap) : Prop := ∀ a o, H a = some o -> cG P w H h a o
end
section
variable {P : Program} {w : World} {H H' : Hp} {h h' : Heap} {a : Addr} {o : HO}
theorem cG.lt (x : cG P w H h a o) : a < h.objs.size := by
 cases o with
 | lst xs => obtain ⟨_, _, _, _, e⟩ := x; exact Heap.lt_size e
 | tup xs => obtain ⟨_, _, _, p⟩ := x; exact p.lt
 | dK kvs => obtain ⟨_, _, _, _, o, _, _, e, _⟩ := x; exact Heap.lt_size e
 | dT kvs => obtain ⟨_, _, _, _, o, _, _, e, _⟩ := x; exact Heap.lt_size e
 | set S n => obtain ⟨o, _, _, _, e, _⟩ := x; exact Heap.lt_size e
 | ins C dx fs => obtain ⟨_, _, _, e, _⟩ := x; exact Heap.lt_size e
 | own y => obtain ⟨_, e⟩ := x; exact Heap.lt_size e
 | xd fs => obtain ⟨_, ⟨_, _, _, e, _⟩, _⟩ := x; exact Heap.lt_size e
 | rng lo hi => obtain ⟨_, _, _, e⟩ := x; exact Heap.lt_size e
 | frz ob u => obtain ⟨e, _⟩ := x; exact Heap.lt_size e
 | tbl ps => exact Heap.lt_size (show h.get? a = some _ from x)
 | met f y => exact Heap.lt_size (show h.get? a = some _ from x)
 | ext φ => obtain ⟨_, ⟨_, e⟩, _⟩ := x; exact Heap.lt_size e
theorem Paired.HK {α β : Type} {F G : α -> β -> Prop} : ∀ {l₁ : List α} {l₂ : List β}, Paired F l₁ l₂ -> (∀ a b, F a b -> G a b) -> Paired G l₁ l₂
 | _, _, .nil, _ => .nil
 | _, _, .cons r t, f => .cons (f _ _ r) (Paired.HK t f)
theorem cG.Bi (x : cG P w H h a o) (k : ∀ b u, (b = a \/ H b = some (.own a)) -> h.get? b = some u -> h'.get? b = some u)
  (ho : ∀ b, H b = some (.own a) -> H' b = some (.own a)) (ht : ∀ b xs, H b = some (.tup xs) -> H' b = some (.tup xs)) : cG P w H' h' a o := by
 induction o with
 | lst xs => obtain ⟨z, its, n, r, e⟩ := x; exact ⟨z, its, n, r, k _ _ (.inl rfl) e⟩
 | tup xs => obtain ⟨z, its, r, ob, e, c⟩ := x; exact ⟨z, its, r, ob, k _ _ (.inl rfl) e, c⟩
 | dK kvs => obtain ⟨z, y, vs, r, ob, es, ep, e, c⟩ := x; exact ⟨z, y, vs, r, ob, es, ep, k _ _ (.inl rfl) e, c⟩
 | dT kvs =>
  obtain ⟨z, y, xs, r, ob, es, ep, e, c⟩ := x
  exact ⟨z, y, xs, Paired.HK r fun p q z => ⟨z.1, ht _ _ z.2.1, z.2.2⟩, ob, es, ep, k _ _ (.inl rfl) e, c⟩
 | set S n => obtain ⟨ob, es, ep, t, e, c⟩ := x; exact ⟨ob, es, ep, t, k _ _ (.inl rfl) e, c⟩
 | ins C dx fs =>
  obtain ⟨d, z, ne, e, mA, ⟨od, es, ep, e2, c⟩, r⟩ := x
  exact ⟨ho _ d, z, ne, k _ _ (.inl rfl) e, mA, ⟨od, es, ep, k _ _ (.inr d) e2, c⟩, r⟩
 | own y => obtain ⟨ob, e⟩ := x; exact ⟨ob, k _ _ (.inl rfl) e⟩
 | xd fs => obtain ⟨mA, ⟨od, es, ep, e, c⟩, r⟩ := x; exact ⟨mA, ⟨od, es, ep, k _ _ (.inl rfl) e, c⟩, r⟩
 | rng lo hi => obtain ⟨t, u, v, e⟩ := x; exact ⟨t, u, v, k _ _ (.inl rfl) e⟩
 | frz ob u ih => obtain ⟨e, q⟩ := x; exact ⟨k _ _ (.inl rfl) e, ih q⟩
 | tbl ps =>
  have e : h.get? a = some { cls := .none, data := .fields ps } := x
  show h'.get? a = some { cls := .none, data := .fields ps }
  exact k a _ (.inl rfl) e
 | met f y =>
  have e : h.get? a = some (PySem.W.methodObj (.ref f) (.ref y)) := x
  show h'.get? a = some (PySem.W.methodObj (.ref f) (.ref y))
  exact k a _ (.inl rfl) e
 | ext φ => obtain ⟨p, ⟨o, e⟩, st⟩ := x; exact ⟨st _ _ p fun o q => k _ _ (.inl rfl) q, ⟨o, k _ _ (.inl rfl) e⟩, st⟩
theorem HOk.lt (x : HOk P w H h) (e : H a = some o) : a < h.objs.size := (x a o e).lt
theorem HOk.fresh (x : HOk P w H h) (e : h.objs.size <= a) : H a = none := by
 cases q : H a with
 | none => rfl
 | some u => exact absurd (zBh (x.lt q) e) (zBr _)
theorem HOk.kept (x : HOk P w H h) (k : ∀ b u, h.get? b = some u -> h'.get? b = some u) : HOk P w H h' := fun a o e =>
 (x a o e).Bi (fun b u _ q => k b u q) (fun _ q => q) fun _ _ q => q
theorem HOk.laid (x : HOk P w H h) (k : ∀ b u, h.get? b = some u -> h'.get? b = some u) (hp : h.objs.size <= a) (new : cG P w (upd H a o) h' a o) : HOk P w (upd H a o) h' := fun b u e => by
 have hn := x.fresh hp
 by_cases hb : b = a
 ·subst hb; rw [ae] at e; cases e; exact new
 ·rw [ag hb] at e
  exact (x b u e).Bi (fun c v _ q => k c v q) (fun c q => by rw [ag (ax q hn)]; exact q) fun c xs q => by rw [ag (ax q hn)]; exact q
end
def Rd (H : Hp) (a : Addr) (u : HO) : Prop := H a = some u \/ ∃ o, H a = some (.frz o u)
theorem Rd.ok {P : Program} {w : World} {H : Hp} {h : Heap} {a : Addr} {u : HO} (r : Rd H a u) (x : HOk P w H h) : cG P w H h a u := by
 rcases r with r | ⟨o, r⟩
 ·exact x a u r
 ·obtain ⟨_, q⟩ := x a _ r
  exact q
def Mut : Option HO -> Prop
 | some (.lst _) => True
 | some (.dK _) => True
 | some (.dT _) => True
 | some (.set _ _) => True
 | some (.ins _ _ _) => True
 | some (.ext _) => True
 | _ => False
section
variable {P : Program} {w : World} {H : Hp} {h h' : Heap} {x e : Addr} {o' : HO}
theorem HOk.write (ok : HOk P w H h) (mu : Mut (H x)) (he : e = x \/ H e = some (.own x)) (k : ∀ b u, b ≠ e -> h.get? b = some u -> h'.get? b = some u) (heo : ∃ u, h'.get? e = some u)
  (new : cG P w (upd H x o') h' x o') : HOk P w (upd H x o') h' := fun b u q => by
 have JR : ∀ c y, H c = some (.own y) -> c ≠ x := fun c y r z => by subst z; rw [r] at mu; exact mu
 have KU : ∀ c xs, H c = some (.tup xs) -> c ≠ x := fun c xs r z => by subst z; rw [r] at mu; exact mu
 by_cases hb : b = x
 ·subst hb; rw [ae] at q; cases q; exact new
 ·rw [ag hb] at q
  by_cases hbe : b = e
  ·have q' : H b = some (.own x) := by
    rcases he with z | z
    ·exact absurd (hbe.trans z) hb
    ·rw [hbe]; exact z
   rw [q] at q'; cases q'
   obtain ⟨v, hv⟩ := heo
   exact ⟨v, by rw [hbe]; exact hv⟩
  ·refine (ok b u q).Bi (fun c v hc r => k c v ?_ r) (fun c r => by rw [ag (JR c b r)]; exact r) fun c xs r => by rw [ag (KU c xs r)]; exact r
   rcases hc with rfl | hc
   ·exact hbe
   ·rintro rfl
    rcases he with z | z
    ·exact JR c b hc z
    ·rw [hc] at z; cases z; exact hb rfl
end
structure Un (fs ex : List Addr) (H H' : Hp) (h h' : Heap) : Prop where
 keep : ∀ b o, h.get? b = some o -> H b = none -> b ∉ fs -> b ∉ ex -> h'.get? b = some o
 slot : ∀ b o, h.get? b = some o -> H b = none -> b ∈ fs -> b ∉ ex -> ∃ sl, h'.get? b = some { o with slots := sl }
 free : ∀ b o, h.get? b = some o -> H b = none -> b ∉ ex -> H' b = none
 there : ∀ b o, h.get? b = some o -> b ∉ ex -> ∃ o', h'.get? b = some o'
 dF : ∀ b xs, H b = some (.tup xs) -> H' b = some (.tup xs)
 tG : ∀ b o u, H b = some (.frz o u) -> H' b = some (.frz o u)
 ue : ∀ b ps, H b = some (.tbl ps) -> ∃ more, H' b = some (.tbl (ps ++ more))
section
variable {fs fs' ex ex' : List Addr} {H H1 H2 : Hp} {h h1 h2 h' : Heap} {a x e : Addr} {o : HO}
theorem Un.any (u : Un fs ex H H1 h h1) {b : Addr} {ob : Obj} (q : h.get? b = some ob) (n : H b = none) (hx : b ∉ ex) : ∃ sl, h1.get? b = some { ob with slots := sl } := by
 by_cases hb : b ∈ fs
 ·exact u.slot b ob q n hb hx
 ·exact ⟨ob.slots, u.keep b ob q n hb hx⟩
theorem Un.kept (k : ∀ b u, h.get? b = some u -> h'.get? b = some u) : Un fs ex H H h h' :=
 ⟨fun b ob q _ _ _ => k b ob q, fun b ob q _ _ _ => ⟨ob.slots, k b ob q⟩, fun _ _ _ n _ => n, fun b ob q _ => ⟨ob, k b ob q⟩, fun _ _ q => q, fun _ _ _ q => q, fun _ ps q => ⟨#[], by rw [q]; simp⟩⟩
theorem Un.refl : Un fs ex H H h h := Un.kept fun _ _ q => q
theorem Un.laid (k : ∀ b u, h.get? b = some u -> h'.get? b = some u) (hp : h.objs.size <= a) (hn : H a = none) : Un fs ex H (upd H a o) h h' where
 keep := fun b u q _ _ _ => k b u q
 slot := fun b u q _ _ _ => ⟨u.slots, k b u q⟩
 free := fun b u q n _ => by rw [ag (Nat.ne_of_lt (zBh (Heap.lt_size q) hp))]; exact n
 there := fun b u q _ => ⟨u, k b u q⟩
 dF := fun b xs q => by rw [ag (ax q hn)]; exact q
 tG := fun b u xs q => by rw [ag (ax q hn)]; exact q
 ue := fun b ps q => ⟨#[], by rw [ag (ax q hn), q]; simp⟩
theorem Un.write (mu : Mut (H x)) (he : e = x \/ H e = some (.own x)) (k : ∀ b u, b ≠ e -> h.get? b = some u -> h'.get? b = some u) (heo : ∃ u, h'.get? e = some u) : Un fs ex H (upd H x o) h h' := by
 have hx : ∀ b, H b = none -> b ≠ x := fun b n z => by subst z; rw [n] at mu; exact mu
 have hb : ∀ b, H b = none -> b ≠ e := fun b n z => by
  subst z
  rcases he with r | r
  ·exact hx b n r
  ·rw [n] at r; cases r
 have hm : ∀ b u, H b = some u -> ¬ Mut (some u) -> b ≠ x := fun b u q nm z => by subst z; rw [q] at mu; exact nm mu
 refine ⟨fun b u q n _ _ => k b u (hb b n) q, fun b u q n _ _ => ⟨u.slots, k b u (hb b n) q⟩, fun b u q n _ => by rw [ag (hx b n)]; exact n, fun b u q _ => ?_,
  fun b xs q => by rw [ag (hm b _ q fun z => z)]; exact q, fun b u xs q => by rw [ag (hm b _ q fun z => z)]; exact q, fun b ps q => ⟨#[], by rw [ag (hm b _ q fun z => z), q]; simp⟩⟩
 by_cases hbe : b = e
 ·subst hbe; exact heo
 ·exact ⟨u, k b u hbe q⟩
end
def trk (h : Heap) (H : Hp) : List Addr := (List.range h.objs.size).filter fun a => (H a).isSome
def tm (h : Heap) (H : Hp) : Heap := PySem.W.hideAll h (trk h H)
theorem AE (h : Heap) (H : Hp) : (tm h H).objs.size = h.objs.size := PySem.W.hideAll_size _ _
theorem C0 {h : Heap} {H : Hp} {b : Addr} {o : Obj} (e : h.get? b = some o) (n : H b = none) : (tm h H).get? b = some o :=
 PySem.W.hideAll_get _ e fun hm => by
  have q : (H b).isSome = true := (zBe.mp hm).2
  rw [n] at q; simp at q
theorem Fe {h : Heap} {H : Hp} {b : Addr} {o : Obj} (e : (tm h H).get? b = some o) : h.get? b = some o /\ H b = none := by
 have e' : h.get? b = some o := PySem.W.of_hideAll (trk h H) e
 refine ⟨e', ?_⟩
 cases q : H b with
 | none => rfl
 | some x =>
  have hm : b ∈ trk h H := zBe.mpr ⟨zAk.mpr (Heap.lt_size e'), by simp [q]⟩
  have z : (tm h H).get? b = none := PySem.W.hideAll_none (trk h H) hm
  rw [z] at e; cases e
structure Mod (K : PySem.W.Frag) (mg : Str -> Option Value) (base : Heap) : Prop where
 kin : K.In base
 glob : base.Ns mainGlobals mg
 blt : ∃ mb, base.Ns builtinsNs mb /\ ∀ x : Str, x ≠ "__name__" -> mb x = bootBuiltins x
 nolimit : base.NoLimit
structure Cx where
 prog : Program
 w : World
 K : PySem.W.Frag
 mg : Str -> Option Value
 base : Heap
 A : Around
 N : List Str
 s_0 : Shared
 H_0 : Hp
 env : Env
 outer : List Env
 stack : List Env
 ex : List Addr
 fn : Str -> Bool
 calm : Bool
 pn : List (Addr × Obj)
 xe : Value -> Shared -> Prop
def frs (l : List Env) : List Addr := l.filterMap (·.frame)
abbrev Cx.fs (X : Cx) : List Addr := frs X.outer
def Vis (sc : Scope) (x : Str) : Prop := sc.names.lookup x = some .local \/ sc.names.lookup x = some .cell \/ sc.names.lookup x = some .free
def Loc (sc : Scope) (x : Str) : Prop := sc.names.lookup x = some .local \/ sc.names.lookup x = some .cell
def Look (env : Env) (h : Heap) (m : Str -> Option Value) (x : Str) (u : Value) : Prop :=
 (env.kindOf x = some .local /\ m x = some u) \/ ((env.kindOf x = some .cell \/ env.kindOf x = some .free) /\ ∃ c, env.cells.lookup x = some c /\ h.IsCell c (some u))
structure Cx.Ok (X : Cx) : Prop where
 mod : Mod X.K X.mg X.base
 kind : X.env.scope.kind = .function
 glob : X.env.globals = mainGlobals
 blt : X.env.builtins = builtinsNs
 above : X.s_0.heap.objs.size <= X.env.locals
 inj : ∀ x y c, X.env.cells.lookup x = some c -> X.env.cells.lookup y = some c -> x = y
 has : ∀ x, (X.env.kindOf x = some .cell \/ X.env.kindOf x = some .free) -> ∃ c, X.env.cells.lookup x = some c
 cab : ∀ x c, X.fn x = true -> X.env.cells.lookup x = some c -> X.s_0.heap.objs.size <= c
 hd : X.calm = true -> X.A.handled = none
 frames : X.A.frames = some X.stack
 stk : X.stack = X.outer \/ (X.stack = X.env :: X.outer /\ X.env.frame = some X.env.locals)
 exf : ∀ b ∈ X.ex, b ≠ X.env.locals /\ ∀ x c, X.env.cells.lookup x = some c -> c ≠ b
 bs : ∀ b o, X.base.get? b = some o -> X.s_0.heap.get? b = some o /\ X.H_0 b = none
 bsz : X.base.objs.size <= X.s_0.heap.objs.size
 CA : ∀ b o, X.base.get? b = some o -> b ∉ X.ex
 Dl : ∀ b ∈ X.ex, b ∉ X.fs
 mO : X.s_0.heap.FunFrames X.base X.outer
 frf : ∀ b ∈ X.fs, X.H_0 b = none
structure Inv (X : Cx) (pins : List (Addr × Obj)) (σ : List (Option V)) (H : Hp) (s : Shared) : Prop where
 ok : X.Ok
 os : s.os = X.s_0.os
 bare : AllBare s.gens
 base : Un X.fs X.ex X.H_0 H X.s_0.heap s.heap
 loc : ∃ m, s.heap.Ns X.env.locals m /\ ∀ (i : Nat) (x : Str) (v : V), X.N[i]? = some x -> σ[i]? = some (some v) -> Vis X.env.scope x -> ∃ u, RelV v u /\ Look X.env s.heap m x u
 cell : ∀ x c, X.env.cells.lookup x = some c -> ∃ v, s.heap.IsCell c v
 free : H X.env.locals = none
 iI : ∀ x c, X.env.cells.lookup x = some c -> H c = none
 pin : ∀ p ∈ X.pn ++ pins, s.heap.get? p.1 = some p.2 /\ H p.1 = none /\ p.1 ≠ X.env.locals /\ p.1 ∉ X.fs /\ ∀ v, p.2.data ≠ .cell v
 hok : HOk X.prog X.w H s.heap
 len : σ.length = X.N.length
section
variable {X : Cx} {pins : List (Addr × Obj)} {σ : List (Option V)} {H H' : Hp} {s : Shared} {h' : Heap}
theorem Cx.Ok.KY (ok : X.Ok) {b : Addr} {o : Obj} (e : X.base.get? b = some o) : b ∉ X.fs := fun hb => by
 have := (ok.mO.mem hb).1
 rw [e] at this; cases this
theorem Inv.bs (I : Inv X pins σ H s) : ∀ b o, X.base.get? b = some o -> s.heap.get? b = some o /\ H b = none := fun b o e =>
 ⟨I.base.keep b o (I.ok.bs b o e).1 (I.ok.bs b o e).2 (I.ok.KY e) (I.ok.CA b o e), I.base.free b o (I.ok.bs b o e).1 (I.ok.bs b o e).2 (I.ok.CA b o e)⟩
theorem Inv.bk (I : Inv X pins σ H s) : ∀ b o, X.base.get? b = some o -> s.heap.get? b = some o := fun b o e => (I.bs b o e).1
theorem Inv.mod (I : Inv X pins σ H s) : Mod X.K X.mg X.base := I.ok.mod
theorem Inv.kIn (I : Inv X pins σ H s) : X.K.In s.heap := I.ok.mod.kin.keeps I.bk
theorem Inv.lt (I : Inv X pins σ H s) : X.env.locals < s.heap.objs.size := let ⟨_, hn, _⟩ := I.loc; hn.lt
theorem Inv.sz (I : Inv X pins σ H s) : X.s_0.heap.objs.size <= s.heap.objs.size := zAn I.ok.above (zCf I.lt)
theorem Inv.KW (I : Inv X pins σ H s) {a : Addr} (h : s.heap.objs.size <= a) : a ∉ X.fs := fun hb => by
 obtain ⟨_, o, ho, _⟩ := I.ok.mO.mem hb
 exact absurd (zBh (Heap.lt_size ho) (zAn I.sz h)) (zBr _)
theorem Inv.cne (I : Inv X pins σ H s) : ∀ x c, X.env.cells.lookup x = some c -> c ≠ X.env.locals := fun x c e z => by
 obtain ⟨v, o, ho, hd⟩ := I.cell x c e
 obtain ⟨m, ⟨o', es, ep, ho', hd', _⟩, _⟩ := I.loc
 rw [z, ho'] at ho; cases ho; rw [hd'] at hd; cases hd
theorem Inv.mO (I : Inv X pins σ H s) : s.heap.FunFrames X.base X.outer := by
 have all : ∀ (l : List Env), (∀ b ∈ frs l, b ∈ X.fs) -> X.s_0.heap.FunFrames X.base l -> s.heap.FunFrames X.base l := by
  intro l
  induction l with
  | nil => intro _ _; trivial
  | cons env r ih =>
   intro hs hl
   obtain ⟨hk, ⟨L, o, hf, hn, ho, hd⟩, hr⟩ := hl
   have hL : L ∈ X.fs := hs L (by unfold frs; rw [List.filterMap_cons, hf]; exact zAg)
   obtain ⟨sl, e⟩ := I.base.slot L o ho (I.ok.frf L hL) hL fun z => I.ok.Dl L z hL
   exact ⟨hk, ⟨L, _, hf, hn, e, hd⟩, ih (fun b hb => hs b (by unfold frs; rw [List.filterMap_cons, hf]; exact zAj _ hb)) hr⟩
 exact all X.outer (fun _ hb => hb) I.ok.mO
theorem Inv.stack (I : Inv X pins σ H s) : s.heap.FunFrames X.base X.stack := by
 rcases I.ok.stk with e | ⟨e, hf⟩
 ·rw [e]; exact I.mO
 ·rw [e]
  obtain ⟨m, hn, _⟩ := I.loc
  refine .cons (by rw [I.ok.kind]; decide) hf hn ?_ I.mO
  exact Heap.get?_none_of_le (zAn I.ok.bsz I.ok.above)
theorem Inv.wq (I : Inv X pins σ H s) : ∀ b ∈ frs X.stack, b ∈ X.env.locals :: X.fs := fun b hb => by
 rcases I.ok.stk with e | ⟨e, hf⟩
 ·rw [e] at hb; exact zAj _ hb
 ·rw [e] at hb
  unfold frs at hb
  rw [List.filterMap_cons, hf] at hb
  exact hb
theorem Inv.yq (I : Inv X pins σ H s) : ∀ b ∈ frs X.stack, H b = none := fun b hb => by
 rcases zAv.mp (I.wq b hb) with e | hb
 ·rw [e]; exact I.free
 ·obtain ⟨_, o, ho, _⟩ := I.ok.mO.mem hb
  exact I.base.free b o ho (I.ok.frf b hb) fun z => I.ok.Dl b z hb
theorem Inv.step {g' : Array GenState} {t' : Nat} {d' : Drawn} {ch : List Addr} (I : Inv X pins σ H s)
  (hch : ∀ b ∈ ch, (b ∈ X.ex \/ X.s_0.heap.objs.size <= b) /\ b ≠ X.env.locals /\ (∀ x c, X.env.cells.lookup x = some c -> c ≠ b) /\ ∀ p ∈ X.pn ++ pins, p.1 ≠ b)
  (keep : ∀ b o, b ≠ X.env.locals -> b ∉ X.fs -> b ∉ ch -> s.heap.get? b = some o -> H b = none -> h'.get? b = some o)
  (slot : ∀ b o, b ≠ X.env.locals -> b ∈ X.fs -> b ∉ ch -> s.heap.get? b = some o -> H b = none -> ∃ sl, h'.get? b = some { o with slots := sl }) (free : ∀ b o, b ∉ ch -> s.heap.get? b = some o -> H b = none -> H' b = none)
  (there : ∀ b o, b ∉ ch -> s.heap.get? b = some o -> ∃ o', h'.get? b = some o')
  (dF : ∀ b xs, H b = some (.tup xs) -> H' b = some (.tup xs)) (tG : ∀ b o u, H b = some (.frz o u) -> H' b = some (.frz o u)) (ue : ∀ b ps, H b = some (.tbl ps) -> ∃ more, H' b = some (.tbl (ps ++ more)))
  (ns : ∀ m, s.heap.Ns X.env.locals m -> h'.Ns X.env.locals m) (hok : HOk X.prog X.w H' h') (hg : AllBare g') :
  Inv X pins σ H' { s with heap := h', gens := g', drawn := d', toks := t' } := by
 have neL : ∀ b o, X.s_0.heap.get? b = some o -> b ≠ X.env.locals := fun b o e => Nat.ne_of_lt (zBh (Heap.lt_size e) I.ok.above)
 have neC : ∀ b o, X.s_0.heap.get? b = some o -> b ∉ X.ex -> b ∉ ch := fun b o e hx hb => by
  rcases (hch b hb).1 with z | z
  ·exact hx z
  ·exact absurd (zBh (Heap.lt_size e) z) (zBr _)
 have cellK : ∀ x c, X.env.cells.lookup x = some c -> ∀ v, s.heap.IsCell c v -> h'.IsCell c v := fun x c e v ⟨o, ho, hd⟩ => by
  have nch : c ∉ ch := fun z => (hch c z).2.2.1 x c e rfl
  by_cases hc : c ∈ X.fs
  ·obtain ⟨sl, q⟩ := slot c o (I.cne x c e) hc nch ho (I.iI x c e)
   exact ⟨_, q, hd⟩
  ·exact ⟨o, keep c o (I.cne x c e) hc nch ho (I.iI x c e), hd⟩
 refine ⟨I.ok, I.os, hg, ⟨fun b o e n hb hx => ?_, fun b o e n hb hx => ?_, fun b o e n hx => ?_, fun b o e hx => ?_, fun b xs e => dF b xs (I.base.dF b xs e), fun b o xs e => tG b o xs (I.base.tG b o xs e), fun b ps e => ?_⟩, ?_, fun x c e => ?_, ?_, fun x c e => ?_, fun p hp => ?_, hok, I.len⟩
 ·exact keep b o (neL b o e) hb (neC b o e hx) (I.base.keep b o e n hb hx) (I.base.free b o e n hx)
 ·obtain ⟨sl, e1⟩ := I.base.slot b o e n hb hx
  obtain ⟨sl', e2⟩ := slot b _ (neL b o e) hb (neC b o e hx) e1 (I.base.free b o e n hx)
  exact ⟨sl', e2⟩
 ·obtain ⟨o', e1⟩ := I.base.there b o e hx
  exact free b o' (neC b o e hx) e1 (I.base.free b o e n hx)
 ·obtain ⟨o', e1⟩ := I.base.there b o e hx
  exact there b o' (neC b o e hx) e1
 ·obtain ⟨m1, e1⟩ := I.base.ue b ps e
  obtain ⟨m2, e2⟩ := ue b _ e1
  exact ⟨m1 ++ m2, by rw [e2, Array.append_assoc]⟩
 ·obtain ⟨m, hn, hl⟩ := I.loc
  refine ⟨m, ns m hn, fun i x v e1 e2 e3 => ?_⟩
  obtain ⟨u, r, l⟩ := hl i x v e1 e2 e3
  refine ⟨u, r, ?_⟩
  rcases l with l | ⟨k, c, e, z⟩
  ·exact .inl l
  ·exact .inr ⟨k, c, e, cellK x c e _ z⟩
 ·obtain ⟨v, z⟩ := I.cell x c e
  exact ⟨v, cellK x c e v z⟩
 ·obtain ⟨m, ⟨o, _, _, ho, _⟩, _⟩ := I.loc
  exact free _ o (fun z => (hch _ z).2.1 rfl) ho I.free
 ·obtain ⟨v, o, ho, hd⟩ := I.cell x c e
  exact free c o (fun z => (hch c z).2.2.1 x c e rfl) ho (I.iI x c e)
 ·obtain ⟨e, n, ne, nf, d⟩ := I.pin p hp
  have nch : p.1 ∉ ch := fun z => (hch p.1 z).2.2.2 p hp rfl
  exact ⟨keep p.1 p.2 ne nf nch e n, free p.1 p.2 nch e n, ne, nf, d⟩
theorem Inv.un {t' : Nat} (I : Inv X pins σ H s) (u : Un X.fs [] H H' s.heap h') (hok : HOk X.prog X.w H' h') : Inv X pins σ H' { s with heap := h', toks := t' } := by
 obtain ⟨m, ⟨o, es, ep, ho, r⟩, _⟩ := id I.loc
 obtain ⟨sl, hL⟩ := u.any ho I.free (by simp)
 exact I.step (g' := s.gens) (d' := s.drawn) (ch := []) (fun _ z => nomatch z) (fun b o _ hb _ e n => u.keep b o e n hb (by simp)) (fun b o _ hb _ e n => u.slot b o e n hb (by simp)) (fun b o _ e n => u.free b o e n (by simp)) (fun b o _ e => u.there b o e (by simp)) u.dF u.tG u.ue (fun m' hm => by
  obtain ⟨o', es', ep', ho', r'⟩ := hm
  rw [ho] at ho'; cases ho'
  exact ⟨_, es', ep', hL, r'⟩) hok I.bare
theorem Inv.call {g' : Array GenState} {t' : Nat} {d' : Drawn} {ch : List Addr} (I : Inv X pins σ H s) (u : Un (frs X.stack) ch H H' s.heap h') (hok : HOk X.prog X.w H' h') (hg : AllBare g')
  (hch : ∀ b ∈ ch, (b ∈ X.ex \/ X.s_0.heap.objs.size <= b) /\ b ≠ X.env.locals /\ (∀ x c, X.env.cells.lookup x = some c -> c ≠ b) /\ ∀ p ∈ X.pn ++ pins, p.1 ≠ b) :
  Inv X pins σ H' { s with heap := h', gens := g', drawn := d', toks := t' } := by
 obtain ⟨m, ⟨o, es, ep, ho, r⟩, _⟩ := id I.loc
 obtain ⟨sl, hL⟩ := u.any ho I.free fun z => (hch _ z).2.1 rfl
 exact I.step (ch := ch) hch (fun b o hL hb hc e n => u.keep b o e n (fun z => (zAv.mp (I.wq b z)).elim hL hb) hc) (fun b o _ _ hc e n => u.any e n hc) (fun b o hc e n => u.free b o e n hc) (fun b o hc e => u.there b o e hc) u.dF u.tG u.ue (fun m' hm => by
  obtain ⟨o', es', ep', ho', r'⟩ := hm
  rw [ho] at ho'; cases ho'
  exact ⟨_, es', ep', hL, r'⟩) hok hg
theorem Inv.turned {t' : Nat} {it : Addr} (I : Inv X pins σ H s) (k : ∀ b o, b ≠ it -> s.heap.get? b = some o -> h'.get? b = some o) (hn : H it = none) (hL : it ≠ X.env.locals)
  (h1 : it ∈ X.ex \/ X.s_0.heap.objs.size <= it) (h2 : ∀ x c, X.env.cells.lookup x = some c -> c ≠ it) (h3 : ∀ p ∈ X.pn ++ pins, p.1 ≠ it) : Inv X pins σ H { s with heap := h', toks := t' } := by
 have nit : ∀ b u, H b = some u -> b ≠ it := fun b u e z => by rw [z, hn] at e; cases e
 refine I.step (g' := s.gens) (d' := s.drawn) (ch := [it]) (fun b hb => ?_) (fun b o _ _ hc e _ => k b o (fun z => hc (by simp [z])) e) (fun b o _ _ hc e _ => ⟨o.slots, k b o (fun z => hc (by simp [z])) e⟩) (fun _ _ _ _ n => n)
  (fun b o hc e => ⟨o, k b o (fun z => hc (by simp [z])) e⟩) (fun _ _ e => e) (fun _ _ _ e => e) (fun b ps e => ⟨#[], by rw [e]; simp⟩) (fun m hm => ?_) (fun b u e => ?_) I.bare
 ·have e : b = it := by simpa using hb
  subst e
  exact ⟨h1, hL, h2, h3⟩
 ·obtain ⟨o, es, ep, ho, r⟩ := hm
  exact ⟨o, es, ep, k _ o (Ne.symm hL) ho, r⟩
 ·refine (I.hok b u e).Bi (fun c v hc q => k c v ?_ q) (fun _ q => q) fun _ _ q => q
  rcases hc with z | z
  ·rw [z]; exact nit b u e
  ·exact nit c _ z
theorem Inv.tok (I : Inv X pins σ H s) (t : Nat) : Inv X pins σ H { s with toks := t } := I.un (h' := s.heap) (t' := t) Un.refl I.hok
theorem Inv.kept {t' : Nat} (I : Inv X pins σ H s) (k : ∀ b u, s.heap.get? b = some u -> h'.get? b = some u) : Inv X pins σ H { s with heap := h', toks := t' } := I.un (Un.kept k) (I.hok.kept k)
theorem Inv.laid {a : Addr} {o : HO} {t' : Nat} (I : Inv X pins σ H s) (k : ∀ b u, s.heap.get? b = some u -> h'.get? b = some u) (hp : s.heap.objs.size <= a) (new : cG X.prog X.w (upd H a o) h' a o) :
  Inv X pins σ (upd H a o) { s with heap := h', toks := t' } := I.un (Un.laid k hp (I.hok.fresh hp)) (I.hok.laid k hp new)
theorem Inv.write {x e : Addr} {o : HO} {t' : Nat} (I : Inv X pins σ H s) (mu : Mut (H x)) (he : e = x \/ H e = some (.own x)) (k : ∀ b u, b ≠ e -> s.heap.get? b = some u -> h'.get? b = some u) (heo : ∃ u, h'.get? e = some u)
  (new : cG X.prog X.w (upd H x o) h' x o) : Inv X pins σ (upd H x o) { s with heap := h', toks := t' } := I.un (Un.write mu he k heo) (I.hok.write mu he k heo new)
theorem Inv.weak {σ' : List (Option V)} (I : Inv X pins σ H s) (hl : σ'.length = σ.length) (w : ∀ (i : Nat) v, σ'[i]? = some (some v) -> σ[i]? = some (some v)) : Inv X pins σ' H s :=
 ⟨I.ok, I.os, I.bare, I.base, let ⟨m, hn, hl'⟩ := I.loc; ⟨m, hn, fun i x v e1 e2 e3 => hl' i x v e1 (w i v e2) e3⟩, I.cell, I.free, I.iI, I.pin, I.hok, hl.trans I.len⟩
theorem Inv.yE {Gx : List (Addr × Obj)} (I : Inv X pins σ H s) (h : ∀ p ∈ Gx, s.heap.get? p.1 = some p.2 /\ H p.1 = none /\ p.1 ≠ X.env.locals /\ p.1 ∉ X.fs /\ ∀ v, p.2.data ≠ .cell v) : Inv X Gx σ H s :=
 ⟨I.ok, I.os, I.bare, I.base, I.loc, I.cell, I.free, I.iI, fun p hp => (zBx.mp hp).elim (fun z => I.pin p (List.mem_append_left _ z)) (h p), I.hok, I.len⟩
theorem om {N : List Str} (hN : N.Nodup) {i j : Nat} {x : Str} (a : N[i]? = some x) (b : N[j]? = some x) : i = j := by
 obtain ⟨h1, e1⟩ := zAd.mp a
 obtain ⟨h2, e2⟩ := zAd.mp b
 exact (List.getElem_inj hN).mp (e1.trans e2.symm)
theorem qC {M : Model} {A : Around} {E : Value -> Shared -> Prop} {i : Nat} {x : Str} {v : V} {u : Value} {Q : Unit -> Shared -> Prop} (I : Inv X pins σ H s) (hN : X.N.Nodup) (hi : X.N[i]? = some x) (hx : Loc X.env.scope x) (r : RelV v u)
  (h : ∀ s', Inv X pins (σ.set i (some v)) H s' -> (∃ a, Heap.SameBut a s.heap s'.heap /\ (a = X.env.locals \/ X.env.cells.lookup x = some a)) -> Q () s') (hf : X.fn x = true \/ X.env.scope.names.lookup x = some .local := by first | exact .inl rfl | exact .inr rfl | assumption) : wpAny M A (storeName X.env x u) Q E s := by
 obtain ⟨m, hn, hl⟩ := id I.loc
 have Lk : (X.env.scope.kind == .class || (X.env.scope.kind == .module && X.env.locals != X.env.globals)) = false := by rw [I.ok.kind]; rfl
 have hiσ : i < σ.length := by rw [I.len]; exact (zAd.mp hi).1
 have cne := I.cne
 have tracked : ∀ {a : Addr} {h' : Heap}, (∃ o, s.heap.get? a = some o /\ H a = none) -> Heap.SameBut a s.heap h' -> HOk X.prog X.w H h' := fun {a h'} ha hs b ob e => by
  obtain ⟨_, _, qW⟩ := ha
  refine (I.hok b ob e).Bi (fun c w' hc q => (hs.2 c ?_).trans q) (fun _ q => q) fun _ _ q => q
  rintro rfl
  rcases hc with rfl | hc
  ·rw [qW] at e; cases e
  ·rw [qW] at hc; cases hc
 rcases hx with hk | hk
 ·refine wpAny_storeName_local hk hn (fun h' hn' hs => ?_) Lk
  obtain ⟨oL, _, _, hoL, _⟩ := id hn
  refine h _ ⟨I.ok, I.os, I.bare, ⟨fun b o e n hb hx => ?_, fun b o e n hb hx => ?_, I.base.free, fun b o e hx => ?_, I.base.dF, I.base.tG, I.base.ue⟩, ⟨_, hn', fun j y v' e1 e2 e3 => ?_⟩, fun y c e => ?_, I.free, I.iI, fun p hp => ?_, tracked ⟨oL, hoL, I.free⟩ hs, by simpa using I.len⟩ ⟨_, hs, .inl rfl⟩
  ·exact (hs.2 b (Nat.ne_of_lt (zBh (Heap.lt_size e) I.ok.above))).trans (I.base.keep b o e n hb hx)
  ·obtain ⟨sl, e1⟩ := I.base.slot b o e n hb hx
   exact ⟨sl, (hs.2 b (Nat.ne_of_lt (zBh (Heap.lt_size e) I.ok.above))).trans e1⟩
  ·obtain ⟨o', e1⟩ := I.base.there b o e hx
   exact ⟨o', (hs.2 b (Nat.ne_of_lt (zBh (Heap.lt_size e) I.ok.above))).trans e1⟩
  ·by_cases hj : j = i
   ·subst hj
    rw [hi] at e1; cases e1
    rw [zBp hiσ] at e2
    cases e2
    exact ⟨u, r, .inl ⟨hk, by simp⟩⟩
   ·rw [List.getElem?_set_ne (Ne.symm hj)] at e2
    obtain ⟨u', r', q⟩ := hl j y v' e1 e2 e3
    refine ⟨u', r', ?_⟩
    rcases q with ⟨k, e⟩ | ⟨k, c, e, z⟩
    ·refine .inl ⟨k, ?_⟩
     have : y ≠ x := fun e => hj (om hN e1 (e ▸ hi))
     simp [this, e]
    ·exact .inr ⟨k, c, e, z.sameBut hs (cne y c e)⟩
  ·obtain ⟨w', z⟩ := I.cell y c e
   exact ⟨w', z.sameBut hs (cne y c e)⟩
  ·obtain ⟨e, n, ne, nf, d⟩ := I.pin p hp
   exact ⟨(hs.2 p.1 ne).trans e, n, ne, nf, d⟩
 ·have hfn : X.fn x = true := by
   rcases hf with z | z
   ·exact z
   ·rw [z] at hk; cases hk
  obtain ⟨c, hc⟩ := I.ok.has x (.inl hk)
  obtain ⟨w', z⟩ := I.cell x c hc
  refine wpAny_storeName_cell I.ok.kind hk hc z (fun h' hc' hs => ?_)
  obtain ⟨oc, hoc, La⟩ := id z
  refine h { s with heap := h' } ⟨I.ok, I.os, I.bare, ⟨fun b o e n hb hx => ?_, fun b o e n hb hx => ?_, I.base.free, fun b o e hx => ?_, I.base.dF, I.base.tG, I.base.ue⟩, ⟨m, hn.sameBut hs (Ne.symm (cne x c hc)), fun j y v' e1 e2 e3 => ?_⟩, fun y c' e => ?_, I.free, I.iI, fun p hp => ?_, tracked ⟨oc, hoc, I.iI x c hc⟩ hs, by simpa using I.len⟩ ⟨c, hs, .inr hc⟩
  ·exact (hs.2 b (Nat.ne_of_lt (zBh (Heap.lt_size e) (I.ok.cab x c hfn hc)))).trans (I.base.keep b o e n hb hx)
  ·obtain ⟨sl, e1⟩ := I.base.slot b o e n hb hx
   exact ⟨sl, (hs.2 b (Nat.ne_of_lt (zBh (Heap.lt_size e) (I.ok.cab x c hfn hc)))).trans e1⟩
  ·obtain ⟨o', e1⟩ := I.base.there b o e hx
   exact ⟨o', (hs.2 b (Nat.ne_of_lt (zBh (Heap.lt_size e) (I.ok.cab x c hfn hc)))).trans e1⟩
  ·by_cases hj : j = i
   ·subst hj
    rw [hi] at e1; cases e1
    rw [zBp hiσ] at e2
    cases e2
    exact ⟨u, r, .inr ⟨.inl hk, c, hc, hc'⟩⟩
   ·rw [List.getElem?_set_ne (Ne.symm hj)] at e2
    obtain ⟨u', r', q⟩ := hl j y v' e1 e2 e3
    refine ⟨u', r', ?_⟩
    rcases q with q | ⟨k, c', e, z'⟩
    ·exact .inl q
    ·refine .inr ⟨k, c', e, z'.sameBut hs ?_⟩
     rintro rfl
     exact hj (om hN e1 (I.ok.inj _ _ _ e hc ▸ hi))
  ·by_cases hcc : c' = c
   ·subst hcc; exact ⟨_, hc'⟩
   ·obtain ⟨w2, z2⟩ := I.cell y c' e
    exact ⟨w2, z2.sameBut hs hcc⟩
  ·obtain ⟨e, n, ne, nf, d⟩ := I.pin p hp
   refine ⟨(hs.2 p.1 ?_).trans e, n, ne, nf, d⟩
   intro q
   rw [q, hoc] at e
   have q' : oc = p.2 := zBl e
   exact d w' (by rw [← q']; exact La)
theorem nj {M : Model} {A : Around} {E : Value -> Shared -> Prop} {i : Nat} {x : Str} {v : V} {u : Value} {Q : Unit -> Shared -> Prop} (I : Inv X pins σ H s) (hN : X.N.Nodup) (hi : X.N[i]? = some x) (hx : Loc X.env.scope x) (r : RelV v u)
  (h : ∀ s', Inv X pins (σ.set i (some v)) H s' -> Q () s') (hf : X.fn x = true \/ X.env.scope.names.lookup x = some .local := by first | exact .inl rfl | exact .inr rfl | assumption) : wpAny M A (storeName X.env x u) Q E s :=
 qC I hN hi hx r (fun s' I' _ => h s' I') hf
theorem Inv.Kq {s' : Shared} {ch : List Addr} (I : Inv X pins σ H s) (ho : s'.os = s.os) (u : Un (frs X.stack) ch H H' s.heap s'.heap) (hok : HOk X.prog X.w H' s'.heap) (hg : AllBare s'.gens)
  (hch : ∀ b ∈ ch, (b ∈ X.ex \/ X.s_0.heap.objs.size <= b) /\ b ≠ X.env.locals /\ (∀ x c, X.env.cells.lookup x = some c -> c ≠ b) /\ ∀ p ∈ X.pn ++ pins, p.1 ≠ b) : Inv X pins σ H' s' := by
 obtain ⟨h', g', d', t', o'⟩ := s'
 have e : o' = s.os := ho
 subst e
 exact I.call (g' := g') (t' := t') (d' := d') u hok hg hch
end
abbrev XK := Value -> Option Addr -> Hp -> Prop
abbrev St := List (Option V)
abbrev VK := V -> Hp -> Prop
abbrev TE := St -> Hp -> VK -> Prop
abbrev TT := St -> Hp -> (Bool -> Hp -> Prop) -> Prop
abbrev TA := St -> Hp -> (List V -> Hp -> Prop) -> Prop
structure Ends where
 nx : St -> Hp -> Prop
 rt : VK
 bk : St -> Hp -> Prop := fun _ _ => False
 ct : St -> Hp -> Prop := fun _ _ => False
abbrev TS := Ends -> St -> Hp -> Prop
def EP (X : Cx) (pins : List (Addr × Obj)) (σ : St) (Q : VK) (u : Value) (s' : Shared) : Prop := ∃ v H', Inv X pins σ H' s' /\ RelV v u /\ Q v H'
def TP (X : Cx) (pins : List (Addr × Obj)) (σ : St) (Q : Bool -> Hp -> Prop) (b : Bool) (s' : Shared) : Prop := ∃ H', Inv X pins σ H' s' /\ Q b H'
def AP (X : Cx) (pins : List (Addr × Obj)) (σ : St) (Q : List V -> Hp -> Prop) (us : List Value) (s' : Shared) : Prop := ∃ vs H', Inv X pins σ H' s' /\ Vals vs us /\ Q vs H'
def SP (X : Cx) (pins : List (Addr × Obj)) (D : Ends) (f : Flow) (s' : Shared) : Prop :=
 match f with
 | .next => ∃ σ' H', Inv X pins σ' H' s' /\ D.nx σ' H'
 | .brk => ∃ σ' H', Inv X pins σ' H' s' /\ D.bk σ' H'
 | .cont => ∃ σ' H', Inv X pins σ' H' s' /\ D.ct σ' H'
 | .ret u => ∃ v σ' H', Inv X pins σ' H' s' /\ RelV v u /\ D.rt v H'
def PE (X : Cx) (e : Expr) (t : TE) : Prop :=
 ∀ (pins : List (Addr × Obj)) (s : Shared) (σ : St) (H : Hp) (Q : VK), Inv X pins σ H s -> t σ H Q -> wpAny (model X.prog X.w) X.A (eval e X.env) (EP X pins σ Q) X.xe s
def PT (X : Cx) (e : Expr) (t : TT) : Prop :=
 ∀ (pins : List (Addr × Obj)) (s : Shared) (σ : St) (H : Hp) (Q : Bool -> Hp -> Prop), Inv X pins σ H s -> t σ H Q -> wpAny (model X.prog X.w) X.A (isTrue e X.env (eval e X.env)) (TP X pins σ Q) X.xe s
def PW (X : Cx) (e : Expr) (t : TT) : Prop :=
 ∀ (whole : Sem Value) (pins : List (Addr × Obj)) (s : Shared) (σ : St) (H : Hp) (Q : Bool -> Hp -> Prop), Inv X pins σ H s -> t σ H Q -> wpAny (model X.prog X.w) X.A (isTrue e X.env whole) (TP X pins σ Q) X.xe s
theorem PW.pt {X : Cx} {e : Expr} {t : TT} (h : PW X e t) : PT X e t := h _
def PA (X : Cx) (es : List Expr) (t : TA) : Prop :=
 ∀ (pos : Pos) (pins : List (Addr × Obj)) (s : Shared) (σ : St) (H : Hp) (Q : List V -> Hp -> Prop), Inv X pins σ H s -> t σ H Q -> wpAny (model X.prog X.w) X.A (spliced (backTo pos (starEach es X.env))) (AP X pins σ Q) X.xe s
def PS (X : Cx) (st : Stmt) (t : TS) : Prop :=
 ∀ (pins : List (Addr × Obj)) (s : Shared) (σ : St) (H : Hp) (D : Ends), Inv X pins σ H s -> t D σ H -> wpAny (model X.prog X.w) X.A (exec st X.env) (SP X pins D) X.xe s
def PSs (X : Cx) (st : List Stmt) (t : TS) : Prop :=
 ∀ (pins : List (Addr × Obj)) (s : Shared) (σ : St) (H : Hp) (D : Ends), Inv X pins σ H s -> t D σ H -> wpAny (model X.prog X.w) X.A (execs st X.env) (SP X pins D) X.xe s
theorem thn {α : Type} {t : Sem α} {Q Q' : α -> Shared -> Prop} {M : Model} {A : Around} {E : Value -> Shared -> Prop} {s : Shared} (h : wpAny M A t Q E s) (hQ : ∀ a s, Q a s -> Q' a s) : wpAny M A t Q' E s := wpAny_mono h hQ fun _ _ x => x
section
variable {X : Cx}
def dS (i : Nat) : TE := fun σ H Q => ∃ v, σ[i]? = some (some v) /\ Q v H
def tC (v : V) : TE := fun _ H Q => Q v H
theorem Hi {i : Nat} {x : Str} {pos : Pos} (hN : X.N[i]? = some x) (hv : Vis X.env.scope x) (hd : (x == ("__debug__" : Str)) = false := by decide) (hcd : (x == ("__classdict__" : Str)) = false := by decide) : PE X (.Name x pos) (dS i) := by
 intro pins s σ H Q I h
 obtain ⟨v, e, h⟩ := h
 obtain ⟨m, hn, hl⟩ := I.loc
 obtain ⟨u, r, l⟩ := hl i x v hN e hv
 have fin : EP X pins σ Q u s := ⟨v, H, I, r, h⟩
 rcases l with ⟨hk, hm⟩ | ⟨hk, c, hc, y0⟩
 ·exact wpAny_Name (wpAny_loadName_local I.ok.kind hk hn hm fin) hd
 ·rcases hk with hk | hk
  ·exact wpAny_Name (wpAny_loadName_cell I.ok.kind hk hc y0 fin) hd
  ·exact wpAny_Name (wpAny_loadName_free I.ok.kind hk hc y0 fin hcd) hd
theorem Hl {i j pos} : PE X (.Constant (.int i) j pos) (tC (.int i)) := fun _ _ _ H _ I h => wpAny_Constant_int ⟨.int i, H, I.tok _, ⟨_, rfl⟩, h⟩
theorem yK {b j pos} : PE X (.Constant (.bool b) j pos) (tC (.bl b)) := fun _ _ _ H _ I h => Constant_bool ⟨.bl b, H, I, rfl, h⟩
theorem aY {x j pos} : PE X (.Constant (.str x) j pos) (tC (.str x)) := fun _ _ _ H _ I h => Calls.Constant_str ⟨.str x, H, I.tok _, ⟨_, rfl⟩, h⟩
def Gl (X : Cx) (x : Str) : Prop := X.env.kindOf x = some .globalImplicit
theorem sx {E : Value -> Shared -> Prop} {pins : List (Addr × Obj)} {s : Shared} {σ : St} {H : Hp} {x : Str} {u : Value} {pos : Pos} {Q : Value -> Shared -> Prop} (I : Inv X pins σ H s) (hg : Gl X x) (hm : X.mg x = some u) (h : Q u s)
  (hd : (x == ("__debug__" : Str)) = false := by decide) : wpAny (model X.prog X.w) X.A (eval (.Name x pos) X.env) Q E s :=
 Calls.Name_function_global I.ok.kind hg (Calls.loadGlobal_global (by rw [I.ok.glob]; exact I.mod.glob.keeps I.bk) hm h) hd
theorem ow {E : Value -> Shared -> Prop} {pins : List (Addr × Obj)} {s : Shared} {σ : St} {H : Hp} {x : Str} {u : Value} {pos : Pos} {Q : Value -> Shared -> Prop} (I : Inv X pins σ H s) (hg : Gl X x) (hm : X.mg x = none) (hv : bootBuiltins x = some u) (h : Q u s)
  (hn : x ≠ "__name__" := by decide) (hd : (x == ("__debug__" : Str)) = false := by decide) : wpAny (model X.prog X.w) X.A (eval (.Name x pos) X.env) Q E s := by
 obtain ⟨mb, h1, h2⟩ := I.mod.blt
 exact Calls.Name_function_global I.ok.kind hg (Calls.loadGlobal_builtin (by rw [I.ok.glob]; exact I.mod.glob.keeps I.bk) hm (by rw [I.ok.blt]; exact h1.keeps I.bk) ((h2 x hn).trans hv) h) hd
theorem EM {x : Str} {v : V} {u : Value} {pos : Pos} (hg : Gl X x) (hm : X.mg x = some u) (r : RelV v u) (hd : (x == ("__debug__" : Str)) = false := by decide) : PE X (.Name x pos) (tC v) :=
 fun _ _ _ H _ I h => sx I hg hm ⟨v, H, I, r, h⟩ hd
variable {a b : Expr} {ta tb : TE} {pos : Pos}
def PC (X : Cx) (op : CmpOp) (a b : Expr) (t : TE) : Prop :=
 ∀ (pins : List (Addr × Obj)) (s : Shared) (σ : St) (H : Hp) (Q : VK), Inv X pins σ H s -> t σ H Q →
  wpAny (model X.prog X.w) X.A (eval a X.env) (fun v s₁ => wpAny (model X.prog X.w) X.A (eval b X.env) (fun u s₂ => wpAny (model X.prog X.w) X.A (compareOp op v u) (EP X pins σ Q) X.xe s₂) X.xe s₁) X.xe s
def tB (t : TE) : TT := fun σ H Q => t σ H fun x H1 => ∃ c, x = .bl c /\ Q c H1
theorem BS {op : CmpOp} {t : TE} (h : PC X op a b t) (h1 : behindInMarks op b = false := by first | exact JS _ (by decide) (by decide) | rfl) : PT X (.Compare a [op] [b] pos) (tB t) := by
 intro pins s σ H Q I hw
 refine wpAny_isTrue_Compare1 (thn (h pins s σ H _ I hw) fun v s1 h1 => thn h1 fun u s2 h2 => thn h2 fun c s3 ⟨x, H1, I1, r1, q1⟩ => ?_) h1
 obtain ⟨d, rfl, q⟩ := q1
 cases r1
 exact wpAny_truthy_bool ⟨H1, I1, q⟩
theorem aM {e : Expr} {t : TE} (h : PE X e t) (he : ∀ whole, isTrue e X.env whole = (do let v ← whole; standAt e.pos; holding [v] (truthy v)) := by intro _; rfl) : PT X e (tB t) := by
 intro pins s σ H Q I hw
 refine isTrue_plain (thn (h pins s σ H _ I hw) fun v s1 ⟨x, H1, I1, r1, q1⟩ => ?_) (he _)
 obtain ⟨d, rfl, q⟩ := q1
 cases r1
 exact wpAny_truthy_bool ⟨H1, I1, q⟩
variable {tA tB' : TT} {rest : List Expr}
def KJ (t u : TT) : TT := fun σ H Q => t σ H fun c H1 => if c = true then u σ H1 Q else Q false H1
def tOr (t u : TT) : TT := fun σ H Q => t σ H fun c H1 => if c = true then Q true H1 else u σ H1 Q
def KI (t : TT) : TT := fun σ H Q => t σ H fun c H1 => Q (!c) H1
theorem dt (ha : PT X a tA) : PW X (.BoolOp .And [a] pos) tA := by
 intro wh pins s σ H Q I h
 refine isTrue_and (thn (ha pins s σ H Q I h) fun c s1 e => ?_)
 cases c with
 | true => exact isTrue_and_nil e
 | false => exact e
theorem nQ (ha : PT X a tA) : PW X (.BoolOp .Or [a] pos) tA := by
 intro wh pins s σ H Q I h
 refine isTrue_or (thn (ha pins s σ H Q I h) fun c s1 e => ?_)
 cases c with
 | false => exact isTrue_or_nil e
 | true => exact e
theorem dH (ha : PT X a tA) (hb : PW X (.BoolOp .And (b :: rest) pos) tB') : PW X (.BoolOp .And (a :: b :: rest) pos) (KJ tA tB') := by
 intro wh pins s σ H Q I h
 refine isTrue_and (thn (ha pins s σ H _ I h) fun c s1 ⟨H1, I1, q1⟩ => ?_)
 cases c with
 | true => exact hb wh pins s1 σ H1 Q I1 q1
 | false => exact ⟨H1, I1, q1⟩
theorem uL (ha : PT X a tA) (hb : PW X (.BoolOp .Or (b :: rest) pos) tB') : PW X (.BoolOp .Or (a :: b :: rest) pos) (tOr tA tB') := by
 intro wh pins s σ H Q I h
 refine isTrue_or (thn (ha pins s σ H _ I h) fun c s1 ⟨H1, I1, q1⟩ => ?_)
 cases c with
 | true => exact ⟨H1, I1, q1⟩
 | false => exact hb wh pins s1 σ H1 Q I1 q1
theorem cg (ha : PT X a tA) : PT X (.UnaryOp .Not a pos) (KI tA) := by
 intro pins s σ H Q I h
 exact isTrue_not (ha pins s σ H (fun c H1 => Q (!c) H1) I h)
def KH (ta tb : TE) : TE := fun σ H Q => ta σ H fun x H1 => ∃ c, x = .bl c /\ if c = true then Q (.bl true) H1 else tb σ H1 Q
theorem BZ {op} {t : TE} (h : PE X a t) : PE X (.BoolOp op [a] pos) t := fun pins s σ H Q I hw => BoolOp_one (h pins s σ H Q I hw)
theorem Gy (ha : PE X a ta) (hb : PE X (.BoolOp .Or (b :: rest) pos) tb) : PE X (.BoolOp .Or (a :: b :: rest) pos) (KH ta tb) := by
 intro pins s σ H Q I h
 refine BoolOp_or (thn (ha pins s σ H _ I h) fun v s1 ⟨x, H1, I1, r1, q1⟩ => ?_)
 obtain ⟨c, rfl, q1⟩ := q1
 cases r1
 refine wpAny_truthy_bool ?_
 cases c with
 | false => exact hb pins s1 σ H1 Q I1 q1
 | true => exact ⟨.bl true, H1, I1, rfl, q1⟩
def tIf (t : TT) (ta tb : TE) : TE := fun σ H Q => t σ H fun c H1 => if c = true then ta σ H1 Q else tb σ H1 Q
theorem B2 {c : Expr} (hc : PT X c tA) (ha : PE X a ta) (hb : PE X b tb) : PE X (.IfExp c a b pos) (tIf tA ta tb) := by
 intro pins s σ H Q I h
 refine wpAny_IfExp (thn (hc pins s σ H _ I h) fun d s1 ⟨H1, I1, q1⟩ => ?_)
 cases d with
 | true => exact ha pins s1 σ H1 Q I1 q1
 | false => exact hb pins s1 σ H1 Q I1 q1
end
def SqL (K : PySem.W.Frag) (H : Hp) (a : Addr) (xs : List V) : Prop :=
 Rd H a (.lst xs) ∨
  ∃ (o : Obj) (its : Array Value) (n : Nat), K.lookup a = some o /\ o.cls = .type "list" /\ o.dict = none /\ o.data = .seq its n /\ its.size <= sizeLine /\ Vals xs its.toList
def SqT (K : PySem.W.Frag) (H : Hp) (a : Addr) (xs : List V) : Prop :=
 Rd H a (.tup xs) ∨
  ∃ (o : Obj) (its : Array Value) (n : Nat), K.lookup a = some o /\ o.cls = .type "tuple" /\ o.data = .seq its n /\ its.size <= sizeLine /\ Vals xs its.toList
def Lv : Value -> Option V
 | .none => some .non
 | .bool b => some (.bl b)
 | .int i _ => some (.int i)
 | .str x _ => some (.str x)
 | .bytes b _ => some (.byt b)
 | .float b _ => some (.flt b)
 | .ref a => some (.ref a)
 | .type n => some (.ty n)
 | _ => none
theorem RelV.abs {x : V} {u : Value} (r : RelV x u) : Lv u = some x := by
 cases x with
 | non => cases r; rfl
 | bl _ => cases r; rfl
 | int _ => obtain ⟨t, rfl⟩ := r; rfl
 | str _ => obtain ⟨t, rfl⟩ := r; rfl
 | byt _ => obtain ⟨t, rfl⟩ := r; rfl
 | flt _ => obtain ⟨t, rfl⟩ := r; rfl
 | ref _ => cases r; rfl
 | ty _ => cases r; rfl
theorem RelV.inj {x y : V} {u : Value} (r : RelV x u) (q : RelV y u) : x = y := zBl (r.abs.symm.trans q.abs)
theorem Vals.inj : ∀ {xs ys : List V} {us : List Value}, Vals xs us -> Vals ys us -> xs = ys
 | _, _, _, .nil, .nil => rfl
 | _, _, _, .cons r t, .cons r' t' => by rw [r.inj r', Vals.inj t t']
section
variable {X : Cx} {pins : List (Addr × Obj)} {σ : St} {H : Hp} {s : Shared} {a : Addr} {xs ys : List V}
theorem SqL.of {K : PySem.W.Frag} (h : H a = some (.lst xs)) : SqL K H a xs := .inl (.inl h)
theorem Inv.list (I : Inv X pins σ H s) (h : SqL X.K H a xs) : ∃ its : List Value, Vals xs its /\ PlainL s.heap a its.toArray /\ xs.length <= sizeLine := by
 rcases h with h | ⟨o, its, n, hk, hc, hd, hs, hz, r⟩
 ·obtain ⟨z, its, n, r, e⟩ := h.ok I.hok
  exact ⟨its, r, ⟨_, n, e, rfl, rfl, rfl⟩, z⟩
 ·refine ⟨its.toList, r, ⟨o, n, I.kIn a o hk, hc, hd, by simpa using hs⟩, ?_⟩
  have e := r.length
  simp only [Array.length_toList] at e
  omega
theorem Inv.tuple (I : Inv X pins σ H s) (h : SqT X.K H a xs) : ∃ its : List Value, Vals xs its /\ IsTup s.heap a its.toArray /\ xs.length <= sizeLine := by
 rcases h with h | ⟨o, its, n, hk, hc, hs, hz, r⟩
 ·obtain ⟨z, its, r, p⟩ := h.ok I.hok
  exact ⟨its, r, p, z⟩
 ·refine ⟨its.toList, r, ⟨o, I.kIn a o hk, hc, n, by simpa using hs⟩, ?_⟩
  have e := r.length
  simp only [Array.length_toList] at e
  omega
theorem Inv.CJ (I : Inv X pins σ H s) (h : SqL X.K H a xs) (h' : SqL X.K H a ys) : xs = ys := by
 obtain ⟨its, r, ⟨o, n, e, _, _, d⟩, _⟩ := I.list h
 obtain ⟨its', r', ⟨o', n', e', _, _, d'⟩, _⟩ := I.list h'
 rw [e] at e'; cases e'
 rw [d] at d'
 injection d' with d1 _
 have : its = its' := by simpa using congrArg Array.toList d1
 subst this
 exact r.inj r'
end
abbrev Cx.pD (X : Cx) (E : Value -> Shared -> Prop) : Cx := { X with xe := E }
abbrev Cx.nox (X : Cx) : Cx := X.pD fun _ _ => False
theorem Cx.Ok.pD {X : Cx} (ok : X.Ok) (E : Value -> Shared -> Prop) : (X.pD E).Ok :=
 ⟨ok.mod, ok.kind, ok.glob, ok.blt, ok.above, ok.inj, ok.has, ok.cab, ok.hd, ok.frames, ok.stk, ok.exf, ok.bs, ok.bsz, ok.CA, ok.Dl, ok.mO, ok.frf⟩
theorem Cx.Ok.h9 {X : Cx} {E : Value -> Shared -> Prop} (ok : (X.pD E).Ok) : X.Ok :=
 ⟨ok.mod, ok.kind, ok.glob, ok.blt, ok.above, ok.inj, ok.has, ok.cab, ok.hd, ok.frames, ok.stk, ok.exf, ok.bs, ok.bsz, ok.CA, ok.Dl, ok.mO, ok.frf⟩
section
variable {X : Cx} {pins : List (Addr × Obj)} {σ : St} {H : Hp} {s : Shared} {E : Value -> Shared -> Prop}
theorem Inv.pD (I : Inv X pins σ H s) (E : Value -> Shared -> Prop) : Inv (X.pD E) pins σ H s := ⟨I.ok.pD E, I.os, I.bare, I.base, I.loc, I.cell, I.free, I.iI, I.pin, I.hok, I.len⟩
theorem Inv.h9 (I : Inv (X.pD E) pins σ H s) : Inv X pins σ H s := ⟨I.ok.h9, I.os, I.bare, I.base, I.loc, I.cell, I.free, I.iI, I.pin, I.hok, I.len⟩
theorem SP.h9 {D : Ends} {f : Flow} {s' : Shared} (h : SP (X.pD E) pins D f s') : SP X pins D f s' := by
 cases f with
 | next => obtain ⟨σ', H', I, q⟩ := h; exact ⟨σ', H', I.h9, q⟩
 | brk => obtain ⟨σ', H', I, q⟩ := h; exact ⟨σ', H', I.h9, q⟩
 | cont => obtain ⟨σ', H', I, q⟩ := h; exact ⟨σ', H', I.h9, q⟩
 | ret u => obtain ⟨v, σ', H', I, r, q⟩ := h; exact ⟨v, σ', H', I.h9, r, q⟩
theorem PSs.nox {st : List Stmt} {t : TS} (h : PSs X.nox st t) : PSs X st t := fun pins s σ H D I hw =>
 wpAny_mono (h pins s σ H D (I.pD _) hw) (fun _ _ q => q.h9) fun _ _ z => False.elim z
end
section
variable {X : Cx} {st : Stmt} {rest : List Stmt} {t u : TS} {e : Expr} {te : TE} {pos : Pos}
def Gs : TS := fun D σ H => D.nx σ H
def wk (t u : TS) : TS := fun D σ H => t { D with nx := u D } σ H
theorem aj : PSs X [] Gs := fun _ _ σ H _ I h => wpAny_execs_nil ⟨σ, H, I, h⟩
theorem aa (h1 : PS X st t) (h2 : PSs X rest u) : PSs X (st :: rest) (wk t u) := by
 intro pins s σ H D I h
 refine wpAny_execs_cons (thn (h1 pins s σ H { D with nx := u D } I h) fun f s1 q => ?_)
 cases f with
 | next =>
  obtain ⟨σ', H', I', q⟩ := q
  exact h2 pins s1 σ' H' D I' q
 | ret v => exact q
 | brk => exact q
 | cont => exact q
theorem ab (h1 : PS X st t) : PSs X [st] t := by
 intro pins s σ H D I h
 refine wpAny_execs_cons (thn (h1 pins s σ H D I h) fun f s1 q => ?_)
 cases f with
 | next => exact wpAny_execs_nil q
 | ret v => exact q
 | brk => exact q
 | cont => exact q
theorem Inv.quiet {pins : List (Addr × Obj)} {σ : St} {H : Hp} {s : Shared} (I : Inv X pins σ H s) : interactive X.env = false := by simp [interactive, I.ok.kind]
def uf (te : TE) : TS := fun D σ H => te σ H fun _ H1 => D.nx σ H1
theorem aX (he : PE X e te) (hs : swapsWith e none pos.line X.env = pure false := by rfl) : PS X (.Expr e pos) (uf te) := by
 intro pins s σ H D I h
 exact wpAny_Expr_any (thn (he pins s σ H _ I h) fun v s1 ⟨x, H1, I1, r1, q1⟩ => ⟨σ, H1, I1, q1⟩) I.quiet hs
def DU (te : TE) : TS := fun D σ H => te σ H D.rt
theorem af (he : PE X e te) : PS X (.Return (some e) pos) (DU te) := by
 intro pins s σ H D I h
 exact wpAny_Return_some (thn (he pins s σ H _ I h) fun v s1 ⟨x, H1, I1, r1, q1⟩ => ⟨x, σ, H1, I1, r1, q1⟩)
def Je (c : TT) (t u : TS) : TS := fun D σ H => c σ H fun b H1 => if b = true then t D σ H1 else u D σ H1
theorem aA {c : Expr} {a b : List Stmt} {tc : TT} (hc : PT X c tc) (ha : PSs X a t) (hb : PSs X b u) : PS X (.If c a b pos) (Je tc t u) := by
 intro pins s σ H D I h
 refine wpAny_If (thn (hc pins s σ H _ I h) fun d s1 ⟨H1, I1, q1⟩ => ?_)
 cases d with
 | true => exact ha pins s1 σ H1 D I1 q1
 | false => exact hb pins s1 σ H1 D I1 q1
end
abbrev TG := V -> St -> Hp -> (St -> Hp -> Prop) -> Prop
def PG (X : Cx) (target : Expr) (t : TG) : Prop :=
 ∀ (pins : List (Addr × Obj)) (s : Shared) (σ : St) (H : Hp) (v : V) (u : Value) (Q : St -> Hp -> Prop), Inv X pins σ H s -> RelV v u -> t v σ H Q →
  wpAny (model X.prog X.w) X.A (assign target X.env u) (fun _ s' => ∃ σ' H', Inv X pins σ' H' s' /\ Q σ' H') X.xe s
abbrev IX := V -> V -> V -> Hp -> (Hp -> Prop) -> Prop
def KC (X : Cx) (t : IX) : Prop :=
 ∀ (pins : List (Addr × Obj)) (s : Shared) (σ : St) (H : Hp) (o i v : V) (ov iv u : Value) (Q : Hp -> Prop), Inv X pins σ H s -> RelV o ov -> RelV i iv -> RelV v u -> t o i v H Q →
  wpAny (model X.prog X.w) X.A (setItem ov iv u) (fun _ s' => ∃ H', Inv X pins σ H' s' /\ Q H') X.xe s
abbrev TIp := V -> V -> Hp -> VK -> Prop
def PIp (X : Cx) (op : Operator) (t : TIp) : Prop :=
 ∀ (pins : List (Addr × Obj)) (s : Shared) (σ : St) (H : Hp) (x y : V) (v u : Value) (Q : VK), Inv X pins σ H s -> RelV x v -> RelV y u -> t x y H Q →
  wpAny (model X.prog X.w) X.A (inplaceOp op v u) (EP X pins σ Q) X.xe s
section
variable {X : Cx} {pos : Pos}
def g4 (i : Nat) : TG := fun v σ H Q => Q (σ.set i (some v)) H
theorem yH {i : Nat} {x : Str} (hN : X.N.Nodup) (hi : X.N[i]? = some x) (hx : Loc X.env.scope x) (hf : X.fn x = true \/ X.env.scope.names.lookup x = some .local := by first | exact .inl rfl | exact .inr rfl | assumption) : PG X (.Name x pos) (g4 i) := by
 intro pins s σ H v u Q I r h
 exact wpAny_assign_Name (nj I hN hi hx r (fun s' I' => ⟨_, H, I', h⟩) hf)
def Lr (to ti : TE) (t : IX) : TG := fun v σ H Q => to σ H fun o H1 => ti σ H1 fun i H2 => t o i v H2 fun H3 => Q σ H3
theorem BX {o i : Expr} {to ti : TE} {t : IX} (ho : PE X o to) (hi : PE X i ti) (hs : KC X t)
  (ha : ∀ v, assign (.Subscript o i pos) X.env v = (do
   let ov ← holding [v] (eval o X.env)
   let iv ← holding [v, ov] (eval i X.env)
   standAt pos
   holding [v, ov, iv] (setItem ov iv v)
   release [v, ov, iv] []) := by intro _; rfl) : PG X (.Subscript o i pos) (Lr to ti t) := by
 intro pins s σ H v u Q I r h
 rw [ha]
 refine wpAny_bind (wpAny_holding (thn (ho pins s σ H _ I h) fun ov s1 ⟨x, H1, I1, r1, q1⟩ => ?_))
 refine wpAny_bind (wpAny_holding (thn (hi pins s1 σ H1 _ I1 q1) fun iv s2 ⟨y, H2, I2, r2, q2⟩ => ?_))
 refine wpAny_bind (wpAny_standAt (wpAny_bind (wpAny_holding (thn (hs pins s2 σ H2 x y v ov iv u _ I2 r1 r2 r q2) fun _ s3 ⟨H3, I3, q3⟩ => ?_))))
 exact wpAny_release ⟨σ, H3, I3, q3⟩
def zz (te : TE) (g : TG) : TS := fun D σ H => te σ H fun x H1 => g x σ H1 D.nx
theorem BV {tg e : Expr} {te : TE} {g : TG} (he : PE X e te) (hg : PG X tg g) (hs : swapsWithSole [tg] e pos.line X.env = pure false := by rfl) (hw : swappedStores [tg] e X.env = pure none := by rfl)
  (h1 : (assignEach [tg] X.env).map (·.2) = [assign tg X.env] := by rfl) : PS X (.Assign [tg] e pos) (zz te g) := by
 intro pins s σ H D I h
 refine wpAny_Assign_stores (thn (he pins s σ H _ I h) fun v s1 ⟨x, H1, I1, r1, q1⟩ => ?_) hs hw
 rw [h1]
 exact thn (hg pins s1 σ H1 x v _ I1 r1 q1) fun _ s2 q => q
theorem Hg {i : Nat} {x : Str} {e : Expr} {te : TE} {pos' : Pos} (hN : X.N.Nodup) (hi : X.N[i]? = some x) (hx : Loc X.env.scope x) (he : PE X e te) (hs : swapsWith e (some (.Name x pos')) pos.line X.env = pure false := by rfl) (hf : X.fn x = true \/ X.env.scope.names.lookup x = some .local := by first | exact .inl rfl | exact .inr rfl | assumption) :
  PS X (.Assign [.Name x pos'] e pos) (zz te (g4 i)) := by
 intro pins s σ H D I h
 refine wpAny_Assign_Name (thn (he pins s σ H _ I h) fun v s1 ⟨y, H1, I1, r1, q1⟩ => ?_) hs
 exact nj I1 hN hi hx r1 (fun s2 I2 => ⟨_, H1, I2, q1⟩) hf
def Jk (i : Nat) (te : TE) (ti : TIp) : TS := fun D σ H => ∃ x, σ[i]? = some (some x) /\ te σ H fun y H1 => ti x y H1 fun z H2 => D.nx (σ.set i (some z)) H2
theorem iu {i : Nat} {x : Str} {e : Expr} {te : TE} {op : Operator} {ti : TIp} {pos' : Pos} (hN : X.N.Nodup) (hi : X.N[i]? = some x) (hx : Loc X.env.scope x) (he : PE X e te) (ho : PIp X op ti) (hf : X.fn x = true \/ X.env.scope.names.lookup x = some .local := by first | exact .inl rfl | exact .inr rfl | assumption) :
  PS X (.AugAssign (.Name x pos') op e pos) (Jk i te ti) := by
 intro pins s σ H D I h
 obtain ⟨v, e1, h⟩ := h
 obtain ⟨m, hn, hl⟩ := I.loc
 have vis : Vis X.env.scope x := by rcases hx with k | k; exact .inl k; exact .inr (.inl k)
 obtain ⟨u, r, l⟩ := hl i x v hi e1 vis
 refine wpAny_AugAssign_Name ?_
 have go : wpAny (model X.prog X.w) X.A (eval e X.env) (fun w s₂ => wpAny (model X.prog X.w) X.A (inplaceOp op u w) (fun r s₃ => wpAny (model X.prog X.w) X.A (storeName X.env x r) (fun _ => SP X pins D .next) X.xe s₃) X.xe s₂) X.xe s := by
  refine thn (he pins s σ H _ I h) fun w s1 ⟨y, H1, I1, r1, q1⟩ => ?_
  refine thn (ho pins s1 σ H1 v y u w _ I1 r r1 q1) fun z s2 ⟨zv, H2, I2, r2, q2⟩ => ?_
  exact nj I2 hN hi hx r2 (fun s3 I3 => ⟨_, H2, I3, q2⟩) hf
 rcases l with ⟨hk, hm⟩ | ⟨hk, c, hc, y0⟩
 ·exact wpAny_loadName_local I.ok.kind hk hn hm go
 ·rcases hk with hk | hk
  ·exact wpAny_loadName_cell I.ok.kind hk hc y0 go
  ·rcases hx with k | k
   ·have : X.env.scope.names.lookup x = some .free := hk
    rw [k] at this; cases this
   ·have : X.env.scope.names.lookup x = some .free := hk
    rw [k] at this; cases this
def ipI (f : Int -> Int -> Int) : TIp := fun x y H Q => ∃ i j, x = .int i /\ y = .int j /\ Q (.int (f i j)) H
theorem HV : PIp X .Add (ipI fun i j => i + j) := by
 intro pins s σ H x y v u Q I r1 r2 h
 obtain ⟨i, j, e1, e2, q⟩ := h
 subst e1; subst e2
 obtain ⟨t, rfl⟩ := r1
 obtain ⟨t', rfl⟩ := r2
 exact iadd_int ⟨.int _, H, I.tok _, ⟨_, rfl⟩, q⟩
end
section
variable {X : Cx} {pos : Pos}
def Bc (c : TT) (tb : TS) : TS := fun D σ H => ∃ W : Nat -> St -> Hp -> Prop, (∃ m, W m σ H) /\ ∀ m σ H, W m σ H →
 c σ H fun b H1 => if b = true then ∃ N : St -> Hp -> Prop, (∀ σ' H', N σ' H' -> ∃ m', m' < m /\ W m' σ' H') /\ tb { D with nx := N, ct := N, bk := D.nx } σ H1 else D.nx σ H1
theorem dX {c : Expr} {body : List Stmt} {tc : TT} {tb : TS} (hp : PassesOwn (model X.prog X.w) X.A X.env X.xe) (hc : PT X c tc) (hb : PSs X body tb) : PS X (.While c body [] pos) (Bc tc tb) := by
 intro pins s σ H D I h
 obtain ⟨W, ⟨m0, w0⟩, turn⟩ := h
 refine wpAny_While (codeAny_whileLoop (fun n s' => ∃ σ' H', Inv X pins σ' H' s' /\ W n σ' H') ?_ m0 ⟨σ, H, I, w0⟩)
 rintro n s1 ⟨σ1, H1, I1, w1⟩
 refine wpAny_passesOwn hp (thn (hc pins s1 σ1 H1 _ I1 (turn n σ1 H1 w1)) fun b s2 ⟨H2, I2, q2⟩ => ?_)
 cases b with
 | true =>
  obtain ⟨N, hN, q2⟩ := q2
  rw [if_pos rfl]
  refine wpAny_passesOwn hp (thn (hb pins s2 σ1 H2 _ I2 q2) fun f s3 q3 => ?_)
  cases f with
  | next =>
   obtain ⟨σ3, H3, I3, n3⟩ := q3
   obtain ⟨m', hm, w3⟩ := hN σ3 H3 n3
   exact ⟨m', hm, σ3, H3, I3, w3⟩
  | cont =>
   obtain ⟨σ3, H3, I3, n3⟩ := q3
   obtain ⟨m', hm, w3⟩ := hN σ3 H3 n3
   exact ⟨m', hm, σ3, H3, I3, w3⟩
  | brk => exact q3
  | ret v => exact q3
 | false =>
  rw [if_neg Bool.false_ne_true]
  exact wpAny_execs_nil ⟨σ1, H2, I2, q2⟩
end
structure It where
 go : Nat -> Hp -> Prop
 yld : Nat -> Hp -> V -> Hp -> Prop
 stop : Nat -> Hp -> Prop
def qv (X : Cx) (pins : List (Addr × Obj)) (H : Hp) (b : Addr) : Prop :=
 H b = none /\ b ≠ X.env.locals /\ b ∉ X.fs /\ (b ∈ X.ex \/ X.s_0.heap.objs.size <= b) /\ (∀ x c, X.env.cells.lookup x = some c -> c ≠ b) /\ ∀ p ∈ X.pn ++ pins, p.1 ≠ b
theorem Inv.Ik {X : Cx} {pins : List (Addr × Obj)} {σ : St} {H H' : Hp} {s : Shared} {b : Addr} (I : Inv X pins σ H s) (hb : s.heap.objs.size <= b) (hn : H' b = none) : qv X pins H' b := by
 refine ⟨hn, Nat.ne_of_gt (zBh I.lt hb), I.KW hb, .inr (zAn I.sz hb), fun x c e z => ?_, fun p hp z => ?_⟩
 ·obtain ⟨v, q⟩ := I.cell x c e
  exact absurd (zBh q.lt (by rw [z]; exact hb)) (zBr _)
 ·exact absurd (zBh (Heap.lt_size (I.pin p hp).1) (by rw [z]; exact hb)) (zBr _)
structure Turn (P : Program) (w : World) (K : PySem.W.Frag) (tg : Expr) (J : It) (fp : List Addr) (it : Addr) (tn : Nat -> Heap -> Prop) : Prop where
 mem : it ∈ fp
 obj : ∀ i h, tn i h -> ∀ b ∈ fp, ∃ o, h.get? b = some o /\ ∀ v, o.data ≠ .cell v
 keep : ∀ i h h', tn i h -> (∀ b ∈ fp, ∀ o, h.get? b = some o -> h'.get? b = some o) -> tn i h'
 item : ∀ (X : Cx), X.prog = P -> X.w = w -> X.K = K -> X.calm = true -> ∀ (i : Nat) (pins : List (Addr × Obj)) (s : Shared) (σ : St) (H : Hp) (E : Value -> Shared -> Prop), Inv X pins σ H s -> (∀ b ∈ fp, qv X pins H b) -> tn i s.heap -> J.go i H →
  wpAny (model P w) X.A (pyNext (.ref it)) (fun r s1 => ∃ u, r = some u ∧
   wpAny (model P w) X.A (letOwnedTupleGo tg (.ref it) u) (fun _ s2 => ∃ x H', Inv X pins σ H' s2 /\ RelV x u /\ J.yld i H x H' /\ tn (i + 1) s2.heap /\ ∀ b ∈ fp, H' b = none) E s1) E s
 done : ∀ (X : Cx), X.prog = P -> X.w = w -> X.K = K -> X.calm = true -> ∀ (i : Nat) (pins : List (Addr × Obj)) (s : Shared) (σ : St) (H : Hp) (E : Value -> Shared -> Prop), Inv X pins σ H s -> (∀ b ∈ fp, qv X pins H b) -> tn i s.heap -> J.stop i H →
  wpAny (model P w) X.A (pyNext (.ref it)) (fun r s1 => r = none /\ Inv X pins σ H s1) E s
 self : ∀ (A : Around) (i : Nat) (s : Shared) (Q : Value -> Shared -> Prop) (E : Value -> Shared -> Prop), tn i s.heap -> Q (.ref it) s -> wpAny (model P w) A (pyIter (.ref it)) Q E s
abbrev TI := St -> Hp -> (It -> Hp -> Prop) -> Prop
def PIE (X : Cx) (pins : List (Addr × Obj)) (σ : St) (tg : Expr) (R : It -> Hp -> Prop) (itv : Value) (s2 : Shared) : Prop :=
 ∃ (it : Addr) (fp : List Addr) (tn : Nat -> Heap -> Prop) (J : It) (H' : Hp), itv = .ref it /\ Inv X pins σ H' s2 /\ Turn X.prog X.w X.K tg J fp it tn /\ tn 0 s2.heap /\ (∀ b ∈ fp, qv X pins H' b) /\ R J H'
def PI (X : Cx) (tg iter : Expr) (wi : TI) : Prop :=
 ∀ (pins : List (Addr × Obj)) (s : Shared) (σ : St) (H : Hp) (R : It -> Hp -> Prop), Inv X pins σ H s -> wi σ H R →
  wpAny (model X.prog X.w) X.A (eval iter X.env) (fun v s1 => wpAny (model X.prog X.w) X.A (pyIter v) (PIE X pins σ tg R) X.xe s1) X.xe s
theorem GL {M : Model} {A : Around} {E : Value -> Shared -> Prop} {s : Shared} {tg : Expr} {it : Addr} {u : Value} {o : Obj} {n : String} {vs : Array Value} {Q : Unit -> Shared -> Prop} (ho : s.heap.get? it = some o) (hc : o.cls = .type n) (hd : o.data = .fields vs)
    (hn : ["enumerate", "zip", "dict_itemiterator", "dict_reverseitemiterator", "odict_iterator", "itertools.zip_longest", "itertools.pairwise"].contains n = false) (hQ : Q () s) : wpAny M A (letOwnedTupleGo tg (.ref it) u) Q E s := by
  unfold letOwnedTupleGo
  cases tg <;> first
    | exact wpAny_pure hQ
    | (cases u <;> first
        | exact wpAny_pure hQ
        | (refine wpAny_bind (wpAny_load ho ?_)
           rw [hc, hd]
           show wpAny M A (if (["enumerate", "zip", "dict_itemiterator", "dict_reverseitemiterator", "odict_iterator", "itertools.zip_longest", "itertools.pairwise"].contains n && vs[0]? == some (rawInt _)) = true then _ else _) Q E s
           rw [if_neg (by intro h; rw [hn, Bool.false_and] at h; cases h)]
           exact wpAny_pure hQ))
def Itl (K : PySem.W.Frag) (a : Addr) : It :=
 ⟨fun i H => ∃ xs x, SqL K H a xs /\ xs[i]? = some x, fun i H x H' => H' = H /\ ∀ xs, SqL K H a xs -> xs[i]? = some x, fun i H => ∃ xs, SqL K H a xs /\ xs.length <= i⟩
def Itr (lo : Int) (n : Nat) : It := ⟨fun i _ => i < n, fun i H x H' => H' = H /\ x = .int (lo + i), fun i _ => n <= i⟩
theorem zu {P : Program} {w : World} {K : PySem.W.Frag} {tg : Expr} (a it : Addr) : Turn P w K tg (Itl K a) [it] it (fun i h => h.IsListIter it a i) where
 mem := by simp
 obj := fun i h st b hb => by
  have e : b = it := by simpa using hb
  subst e
  obtain ⟨o, e, c, d⟩ := st
  exact ⟨o, e, fun v z => by rw [d] at z; cases z⟩
 keep := fun i h h' st k => st.at fun o e => k it (by simp) o e
 item := by
  intro X hP hw hK hc i pins s σ H E I hf st hg
  subst hP hw hK
  obtain ⟨xs, x, hq, hx⟩ := hg
  obtain ⟨its, rv, p, hz⟩ := I.list hq
  obtain ⟨u, hu, ru⟩ := rv.get hx
  obtain ⟨f0, f1, f2, f3, f4, f5⟩ := hf it (by simp)
  refine wpAny_pyNext_list_item st p.isList (x := u) (by simpa using hu) fun h' st' sb => ?_
  have I1 : Inv X pins σ H { s with heap := h' } := I.turned (t' := s.toks) (fun b o hb e => (sb.2 b hb).trans e) f0 f1 f3 f4 f5
  obtain ⟨o, e, c, d⟩ := id st'
  exact ⟨u, rfl, GL (s := { s with heap := h' }) e c d (by decide) ⟨x, H, I1, ru, ⟨rfl, fun ys hy => by rw [I.CJ hy hq]; exact hx⟩, st', fun b hb => (hf b hb).1⟩⟩
 done := by
  intro X hP hw hK hc i pins s σ H E I hf st hg
  subst hP hw hK
  obtain ⟨xs, hq, hx⟩ := hg
  obtain ⟨its, rv, p, hz⟩ := I.list hq
  obtain ⟨f0, f1, f2, f3, f4, f5⟩ := hf it (by simp)
  have hl := rv.length
  exact wpAny_pyNext_list_end (I.ok.hd hc) st p.isList (by simp; omega) fun h' eb => ⟨rfl, I.turned (t' := s.toks) (fun b o hb e => eb b o hb e) f0 f1 f3 f4 f5⟩
 self := fun _ _ _ _ _ st h => wpAny_pyIter_listiter st h
theorem wg {P : Program} {w : World} {K : PySem.W.Frag} {tg : Expr} (it : Addr) (lo : Int) (n : Nat) : Turn P w K tg (Itr lo n) [it] it (fun i h => IsRangeIter h it (lo + (i : Nat) * 1) ((n : Int) - (i : Nat)) 1) where
 mem := by simp
 obj := fun i h st b hb => by
  have e : b = it := by simpa using hb
  subst e
  exact ⟨_, st, fun v z => by
   have z' : Data.fields _ = Data.cell v := z
   cases z'⟩
 keep := fun i h h' st k => k it (by simp) _ st
 item := by
  intro X hP hw hK hc i pins s σ H E I hf st hg
  subst hP hw hK
  obtain ⟨f0, f1, f2, f3, f4, f5⟩ := hf it (by simp)
  have W := Walks.range (prog := X.prog) (w := X.w) (I.ok.hd hc) it lo 1 n
  refine W.item i s _ _ hg st fun v h' tk hv st' kk => ?_
  obtain ⟨t, rfl⟩ := hv
  have I1 : Inv X pins σ H { s with heap := h', toks := tk } := I.turned (fun b o hb e => kk b o (by simpa using hb) e) f0 f1 f3 f4 f5
  refine ⟨_, rfl, GL (s := { s with heap := h', toks := tk }) (n := "range_iterator") st' rfl rfl (by decide) ⟨.int (lo + i), H, I1, ⟨t, ?_⟩, ⟨rfl, rfl⟩, st', fun b hb => (hf b hb).1⟩⟩
  rw [Int.mul_one]
 done := by
  intro X hP hw hK hc i pins s σ H E I hf st hg
  subst hP hw hK
  obtain ⟨f0, f1, f2, f3, f4, f5⟩ := hf it (by simp)
  exact wpAny_pyNext_range_end (I.ok.hd hc) st (by have : n <= i := hg; omega) fun h' eb => ⟨rfl, I.turned (t' := s.toks) (fun b o hb e => eb b o hb e) f0 f1 f3 f4 f5⟩
 self := fun _ _ _ _ _ st h => wpAny_pyIter_rangeiter st h
section
variable {X : Cx} {tg : Expr}
def GH (K : PySem.W.Frag) (tl : TE) : TI := fun σ H R => tl σ H fun x H1 => ∃ a, x = .ref a /\ (∃ xs, SqL K H1 a xs) /\ R (Itl K a) H1
theorem bz {l : Expr} {tl : TE} (hl : PE X l tl) : PI X tg l (GH X.K tl) := by
 intro pins s σ H R I h
 refine thn (hl pins s σ H _ I h) fun v s1 ⟨x, H1, I1, r1, q1⟩ => ?_
 obtain ⟨a, e, ⟨xs, hq⟩, q⟩ := q1
 subst e
 cases r1
 obtain ⟨its, rv, p, hz⟩ := I1.list hq
 refine wpAny_pyIter_list p.isList ?_
 refine ⟨s1.heap.objs.size, [s1.heap.objs.size], _, _, H1, rfl, I1.kept (t' := s1.toks) fun b o e => Heap.get?_push_of_some _ e, zu a _, ⟨_, Heap.get?_push_size _ rfl, rfl, rfl⟩, fun b hb => ?_, q⟩
 have e : b = s1.heap.objs.size := by simpa using hb
 subst e
 exact I1.Ik (zAt _) (I1.hok.fresh (zAt _))
theorem uF {pins : List (Addr × Obj)} {σ : St} {H : Hp} {s : Shared} {R : It -> Hp -> Prop} {E : Value -> Shared -> Prop} {lo hi : Int} {t u v : Tok} {tk : Nat} (I : Inv X pins σ H s) (h1 : -(2 ^ 62) <= lo) (h2 : lo < 2 ^ 62) (h3 : -(2 ^ 62) <= hi) (h4 : hi < 2 ^ 62)
  (q : R (Itr lo (hi - lo).toNat) H) : wpAny (model X.prog X.w) X.A (pyIter (.ref s.heap.objs.size)) (PIE X pins σ tg R) E { s with heap := s.heap.push { cls := .type "range", data := .fields #[.int lo t, .int hi u, .int 1 v] }, toks := tk } := by
 refine wpAny_pyIter_range (IsRange.new ..) (small_one h1 h2 h3 h4) ?_
 have I1 : Inv X pins σ H { s with heap := s.heap.push { cls := .type "range", data := .fields #[.int lo t, .int hi u, .int 1 v] }, toks := tk } := I.kept fun b o e => Heap.get?_push_of_some _ e
 refine ⟨(s.heap.push { cls := .type "range", data := .fields #[.int lo t, .int hi u, .int 1 v] }).objs.size, [(s.heap.push { cls := .type "range", data := .fields #[.int lo t, .int hi u, .int 1 v] }).objs.size], _, _, H, rfl,
  I1.kept (t' := tk) fun b o e => Heap.get?_push_of_some _ e, wg _ lo (hi - lo).toNat, ?_, fun b hb => ?_, q⟩
 ·have e1 : lo + ((0 : Nat) : Int) * 1 = lo := by simp
  have e2 : (((hi - lo).toNat : Nat) : Int) - ((0 : Nat) : Int) = Builtin.Range.rangeSize lo hi 1 := by rw [rangeSize_one]; split <;> omega
  show IsRangeIter _ _ (lo + ((0 : Nat) : Int) * 1) ((((hi - lo).toNat : Nat) : Int) - ((0 : Nat) : Int)) 1
  rw [e1, e2]
  exact Heap.get?_push_size _ rfl
 ·have e : b = (s.heap.push { cls := .type "range", data := .fields #[.int lo t, .int hi u, .int 1 v] }).objs.size := by simpa using hb
  subst e
  exact I1.Ik (zAt _) (I1.hok.fresh (zAt _))
def GG (ta : TA) : TI := fun σ H R => ta σ H fun vs H1 => ∃ j : Int, vs = [.int j] /\ -(2 ^ 62) <= j /\ j < 2 ^ 62 /\ R (Itr 0 j.toNat) H1
def J1 (ta : TA) : TI := fun σ H R => ta σ H fun vs H1 => ∃ i j : Int, vs = [.int i, .int j] /\ (-(2 ^ 62) <= i /\ i < 2 ^ 62 /\ -(2 ^ 62) <= j /\ j < 2 ^ 62) /\ R (Itr i (j - i).toNat) H1
theorem zY {a : Expr} {ta : TA} {p pos : Pos} (hg : Gl X "range") (hm : X.mg "range" = none) (ha : PA X [a] ta) (hs : starEach [a] X.env = [(false, eval a X.env)] := by rfl) : PI X tg (.Call (.Name "range" p) [a] [] pos) (GG ta) := by
 intro pins s σ H R I h
 refine Call_ (ow I hg hm boot_range (PyProof.Rows.callWith_type1 (thn (ha pos pins s σ H _ I h) fun us s1 ⟨vs, H1, I1, r1, q1⟩ => ?_) hs rfl))
 obtain ⟨j, e, q1, q2, q⟩ := q1
 subst e
 cases r1 with
 | cons r rr =>
  cases rr
  obtain ⟨t, rfl⟩ := r
  exact call_range_1 (uF I1 (by omega) (by omega) q1 q2 (by simpa using q))
theorem qM {a b : Expr} {ta : TA} {p pos : Pos} (hg : Gl X "range") (hm : X.mg "range" = none) (ha : PA X [a, b] ta) (hs : starEach [a, b] X.env = [(false, eval a X.env), (false, eval b X.env)] := by rfl) (hs2 : starEach [b] X.env = [(false, eval b X.env)] := by rfl) :
  PI X tg (.Call (.Name "range" p) [a, b] [] pos) (J1 ta) := by
 intro pins s σ H R I h
 refine Call_ (ow I hg hm boot_range (PyProof.Rows.callWith_type1 (thn (ha pos pins s σ H _ I h) fun us s1 ⟨vs, H1, I1, r1, q1⟩ => ?_) (by rw [hs, hs2]) (by rw [hs2]; rfl)))
 obtain ⟨i, j, e, ⟨q1, q2, q3, q4⟩, q⟩ := q1
 subst e
 cases r1 with
 | cons r rr =>
  cases rr with
  | cons r' rr =>
   cases rr
   obtain ⟨t, rfl⟩ := r
   obtain ⟨t', rfl⟩ := r'
   exact call_range_2 (uF I1 q1 q2 q3 q4 q)
def Jf (wi : TI) (g : TG) (tb : TS) : TS := fun D σ H => wi σ H fun J H1 => ∃ W : Nat -> Nat -> St -> Hp -> Prop, (∃ m, W 0 m σ H1) /\ ∀ i m σ H, W i m σ H →
 (J.stop i H /\ D.nx σ H) \/ (J.go i H /\ ∃ N : St -> Hp -> Prop, (∀ σ' H', N σ' H' -> ∃ m', m' < m /\ W (i + 1) m' σ' H') /\ ∀ x H', J.yld i H x H' -> g x σ H' fun σ2 H2 => tb { D with nx := N, ct := N, bk := D.nx } σ2 H2)
def nV (fp : List Addr) (h : Heap) : List (Addr × Obj) := fp.filterMap fun b => (h.get? b).map fun o => (b, o)
theorem jz {fp : List Addr} {h : Heap} {b : Addr} {o : Obj} (hb : b ∈ fp) (e : h.get? b = some o) : (b, o) ∈ nV fp h := List.mem_filterMap.mpr ⟨b, hb, by rw [e]; rfl⟩
theorem Ap {fp : List Addr} {h : Heap} {p : Addr × Obj} (hp : p ∈ nV fp h) : p.1 ∈ fp /\ h.get? p.1 = some p.2 := by
 obtain ⟨b, hb, e⟩ := List.mem_filterMap.mp hp
 cases q : h.get? b with
 | none => rw [q] at e; cases e
 | some o =>
  rw [q] at e
  have e' : (b, o) = p := zBl e
  subst e'
  exact ⟨hb, q⟩
theorem Inv.pinned {pins : List (Addr × Obj)} {σ : St} {H : Hp} {s : Shared} {fp : List Addr} (I : Inv X pins σ H s) (hf : ∀ b ∈ fp, qv X pins H b) (ho : ∀ b ∈ fp, ∃ o, s.heap.get? b = some o /\ ∀ v, o.data ≠ .cell v) : Inv X (pins ++ nV fp s.heap) σ H s :=
 I.yE fun p hp => (zBx.mp hp).elim (fun z => I.pin p (List.mem_append_right _ z)) fun z => by
  obtain ⟨hb, e⟩ := Ap z
  obtain ⟨f0, f1, f2, _⟩ := hf p.1 hb
  obtain ⟨o, e', d⟩ := ho p.1 hb
  rw [e] at e'; cases e'
  exact ⟨e, f0, f1, f2, d⟩
theorem Inv.jW {pins pl : List (Addr × Obj)} {σ : St} {H : Hp} {s : Shared} (I : Inv X (pins ++ pl) σ H s) : Inv X pins σ H s := I.yE fun p hp => I.pin p (List.mem_append_right _ (List.mem_append_left _ hp))
theorem Hh {iter : Expr} {body : List Stmt} {wi : TI} {g : TG} {tb : TS} {pos : Pos} (hp : PassesOwn (model X.prog X.w) X.A X.env X.xe) (hc : X.calm = true) (hi : PI X tg iter wi) (hg : PG X tg g) (hb : PSs X body tb)
  (hs : ∀ x, foldedSetIterable iter X.env x = pure x := by intro _; rfl) : PS X (.For tg iter body [] pos) (Jf wi g tb) := by
 intro pins s σ H D I h
 refine wpAny_For (thn (hi pins s σ H _ I h) fun v s1 h1 => thn h1 fun itv s2 h2 => ?_) hs
 obtain ⟨it, fp, tn, J, H2, e, I2, T, st2, f2, W, ⟨m0, w0⟩, turn⟩ := h2
 subst e
 have wt : ∀ {H' : Hp}, (∀ b ∈ fp, H' b = none) -> ∀ b ∈ fp, qv X pins H' b := fun hn b hb => ⟨hn b hb, (f2 b hb).2⟩
 refine codeAny_forLoop_any (fun n s' => ∃ i σ' H', Inv X pins σ' H' s' /\ tn i s'.heap /\ (∀ b ∈ fp, H' b = none) /\ W i n σ' H') ?_ m0 ⟨0, σ, H2, I2, st2, fun b hb => (f2 b hb).1, w0⟩
 rintro n s3 ⟨i, σ3, H3, I3, st3, fr3, w3⟩
 rcases turn i n σ3 H3 w3 with ⟨stop, qn⟩ | ⟨go, N, hN, step⟩
 ·refine wpAny_passesOwn hp (thn (T.done X rfl rfl rfl hc i pins s3 σ3 H3 X.xe I3 (wt fr3) st3 stop) fun r s4 ⟨hr, I4⟩ => ?_)
  subst hr
  exact wpAny_execs_nil ⟨σ3, H3, I4, qn⟩
 ·refine wpAny_passesOwn hp (thn (T.item X rfl rfl rfl hc i pins s3 σ3 H3 X.xe I3 (wt fr3) st3 go) fun r s4 ⟨u, hr, h4⟩ => ?_)
  subst hr
  refine wpAny_passesOwn hp (thn h4 fun _ s5 ⟨x, H5, I5, r5, y5, st5, fr5⟩ => ?_)
  have I5' := I5.pinned (wt fr5) (T.obj _ _ st5)
  refine wpAny_passesOwn hp (thn (hg _ s5 σ3 H5 x u _ I5' r5 (step x H5 y5)) fun _ s6 ⟨σ6, H6, I6, q6⟩ => ?_)
  refine wpAny_passesOwn hp (thn (hb _ s6 σ6 H6 _ I6 q6) fun f s7 q7 => ?_)
  have again : ∀ {σ7 : St} {H7 : Hp}, Inv X (pins ++ nV fp s5.heap) σ7 H7 s7 -> N σ7 H7 -> ∃ m, m < n /\ ∃ i σ' H', Inv X pins σ' H' s7 /\ tn i s7.heap /\ (∀ b ∈ fp, H' b = none) /\ W i m σ' H' := fun {σ7 H7} I7 n7 => by
   obtain ⟨m', hm, w7⟩ := hN σ7 H7 n7
   refine ⟨m', hm, i + 1, σ7, H7, I7.jW, T.keep _ _ _ st5 fun b hb o e => (I7.pin (b, o) (List.mem_append_right _ (List.mem_append_right _ (jz hb e)))).1, fun b hb => ?_, w7⟩
   obtain ⟨o, e, d⟩ := T.obj _ _ st5 b hb
   exact (I7.pin (b, o) (List.mem_append_right _ (List.mem_append_right _ (jz hb e)))).2.1
  cases f with
  | next => obtain ⟨σ7, H7, I7, n7⟩ := q7; exact again I7 n7
  | cont => obtain ⟨σ7, H7, I7, n7⟩ := q7; exact again I7 n7
  | brk => obtain ⟨σ7, H7, I7, q7⟩ := q7; exact ⟨σ7, H7, I7.jW, q7⟩
  | ret v => obtain ⟨x7, σ7, H7, I7, r7, q7⟩ := q7; exact ⟨x7, σ7, H7, I7.jW, r7, q7⟩
end
theorem fh {K : PySem.W.Frag} {a : Addr} {xs : List V} {g : TG} {tb : TS} {D : Ends} {σ : St} {H : Hp} (Pv : Nat -> St -> Hp -> Prop) (h0 : Pv 0 σ H) (hl : ∀ i σ H, i <= xs.length -> Pv i σ H -> SqL K H a xs)
  (hs : ∀ i x σ H, xs[i]? = some x -> Pv i σ H -> g x σ H fun σ2 H2 => tb { D with nx := Pv (i + 1), ct := Pv (i + 1), bk := D.nx } σ2 H2) (hd : ∀ σ H, Pv xs.length σ H -> D.nx σ H) :
  ∃ W : Nat -> Nat -> St -> Hp -> Prop, (∃ m, W 0 m σ H) /\ ∀ i m σ H, W i m σ H →
   ((Itl K a).stop i H /\ D.nx σ H) \/ ((Itl K a).go i H /\ ∃ N : St -> Hp -> Prop, (∀ σ' H', N σ' H' -> ∃ m', m' < m /\ W (i + 1) m' σ' H') /\ ∀ x H', (Itl K a).yld i H x H' -> g x σ H' fun σ2 H2 => tb { D with nx := N, ct := N, bk := D.nx } σ2 H2) := by
 refine ⟨fun i m σ H => m = xs.length - i /\ i <= xs.length /\ Pv i σ H, ⟨xs.length, by simp, zBf _, h0⟩, ?_⟩
 rintro i m σ H ⟨rfl, hi, p⟩
 have q := hl i σ H hi p
 by_cases hlt : i < xs.length
 ·refine .inr ⟨⟨xs, xs[i], q, by simp [hlt]⟩, Pv (i + 1), fun σ' H' p' => ⟨xs.length - (i + 1), by omega, rfl, hlt, p'⟩, fun x H' y => ?_⟩
  obtain ⟨e, y⟩ := y
  subst e
  exact hs i x σ _ (y xs q) p
 ·have e : i = xs.length := by omega
  subst e
  exact .inl ⟨⟨xs, q, zAt _⟩, hd σ H p⟩
theorem bq {lo : Int} {n : Nat} {g : TG} {tb : TS} {D : Ends} {σ : St} {H : Hp} (Pv : Nat -> St -> Hp -> Prop) (h0 : Pv 0 σ H)
  (hs : ∀ i σ H, i < n -> Pv i σ H -> g (.int (lo + i)) σ H fun σ2 H2 => tb { D with nx := Pv (i + 1), ct := Pv (i + 1), bk := D.nx } σ2 H2) (hd : ∀ σ H, Pv n σ H -> D.nx σ H) :
  ∃ W : Nat -> Nat -> St -> Hp -> Prop, (∃ m, W 0 m σ H) /\ ∀ i m σ H, W i m σ H →
   ((Itr lo n).stop i H /\ D.nx σ H) \/ ((Itr lo n).go i H /\ ∃ N : St -> Hp -> Prop, (∀ σ' H', N σ' H' -> ∃ m', m' < m /\ W (i + 1) m' σ' H') /\ ∀ x H', (Itr lo n).yld i H x H' -> g x σ H' fun σ2 H2 => tb { D with nx := N, ct := N, bk := D.nx } σ2 H2) := by
 refine ⟨fun i m σ H => m = n - i /\ i <= n /\ Pv i σ H, ⟨n, by simp, zBf _, h0⟩, ?_⟩
 rintro i m σ H ⟨rfl, hi, p⟩
 by_cases hlt : i < n
 ·refine .inr ⟨hlt, Pv (i + 1), fun σ' H' p' => ⟨n - (i + 1), by omega, rfl, hlt, p'⟩, fun x H' y => ?_⟩
  obtain ⟨e, y⟩ := y
  subst e y
  exact hs i σ _ hlt p
 ·have e : i = n := by omega
  subst e
  exact .inl ⟨zAt _, hd σ H p⟩
theorem t9 {c : TT} {tb : TS} {D : Ends} {σ : St} {H : Hp} (Pv : St -> Hp -> Prop) (μ : St -> Hp -> Nat) (h0 : Pv σ H)
  (hs : ∀ σ H, Pv σ H -> c σ H fun b H1 => if b = true then tb { D with nx := fun σ' H' => Pv σ' H' /\ μ σ' H' < μ σ H, ct := fun σ' H' => Pv σ' H' /\ μ σ' H' < μ σ H, bk := D.nx } σ H1 else D.nx σ H1)
  (mono : ∀ σ H Q Q', (∀ b H1, Q b H1 -> Q' b H1) -> c σ H Q -> c σ H Q') : Bc c tb D σ H := by
 refine ⟨fun m σ H => m = μ σ H /\ Pv σ H, ⟨_, rfl, h0⟩, ?_⟩
 rintro m σ H ⟨rfl, p⟩
 refine mono σ H _ _ (fun b H1 q => ?_) (hs σ H p)
 cases b with
 | true => exact ⟨_, fun σ' H' ⟨p', l⟩ => ⟨_, l, rfl, p'⟩, q⟩
 | false => exact q
abbrev R2 := V -> V -> Hp -> VK -> Prop
def OpR (X : Cx) (f : Value -> Value -> Sem Value) (r : R2) : Prop :=
 ∀ (pins : List (Addr × Obj)) (s : Shared) (σ : St) (H : Hp) (x y : V) (v u : Value) (Q : VK), Inv X pins σ H s -> RelV x v -> RelV y u -> r x y H Q →
  wpAny (model X.prog X.w) X.A (f v u) (EP X pins σ Q) X.xe s
def UnR (X : Cx) (f : Value -> Sem Value) (r : V -> Hp -> VK -> Prop) : Prop :=
 ∀ (pins : List (Addr × Obj)) (s : Shared) (σ : St) (H : Hp) (x : V) (v : Value) (Q : VK), Inv X pins σ H s -> RelV x v -> r x H Q →
  wpAny (model X.prog X.w) X.A (f v) (EP X pins σ Q) X.xe s
def bY (X : Cx) (f : Value) (r : List V -> Hp -> VK -> Prop) : Prop :=
 ∀ (pins : List (Addr × Obj)) (s : Shared) (σ : St) (H : Hp) (xs : List V) (us : List Value) (Q : VK), Inv X pins σ H s -> Vals xs us -> r xs H Q →
  wpAny (model X.prog X.w) X.A (call f us) (EP X pins σ Q) X.xe s
def tOp (r : R2) (ta tb : TE) : TE := fun σ H Q => ta σ H fun x H1 => tb σ H1 fun y H2 => r x y H2 Q
def tUn (r : V -> Hp -> VK -> Prop) (ta : TE) : TE := fun σ H Q => ta σ H fun x H1 => r x H1 Q
def rI (C : Int -> Int -> Prop) (g : Int -> Int -> V) : R2 := fun x y H Q => ∃ i j, x = .int i /\ y = .int j /\ C i j /\ Q (g i j) H
def rI0 (g : Int -> Int -> V) : R2 := fun x y H Q => ∃ i j, x = .int i /\ y = .int j /\ Q (g i j) H
def rU (g : Int -> V) : V -> Hp -> VK -> Prop := fun x H Q => ∃ i, x = .int i /\ Q (g i) H
section
variable {X : Cx} {a b c : Expr} {ta tb tc : TE} {pos : Pos}
theorem IT (ha : PE X a ta) (hb : PE X b tb) {pins : List (Addr × Obj)} {s : Shared} {σ : St} {H : Hp} {R : V -> V -> Hp -> Prop} (I : Inv X pins σ H s)
  (h : ta σ H fun x H1 => tb σ H1 fun y H2 => R x y H2) {Q : Value -> Shared -> Prop} {f : Value -> Value -> Sem Value}
  (hf : ∀ v u s2 x y H2, Inv X pins σ H2 s2 -> RelV x v -> RelV y u -> R x y H2 -> wpAny (model X.prog X.w) X.A (f v u) Q X.xe s2) :
  wpAny (model X.prog X.w) X.A (eval a X.env) (fun v s₁ => wpAny (model X.prog X.w) X.A (eval b X.env) (fun u s₂ => wpAny (model X.prog X.w) X.A (f v u) Q X.xe s₂) X.xe s₁) X.xe s := by
 refine thn (ha pins s σ H _ I h) fun v s1 ⟨x, H1, I1, r1, q1⟩ => ?_
 refine thn (hb pins s1 σ H1 _ I1 q1) fun u s2 ⟨y, H2, I2, r2, q2⟩ => ?_
 exact hf v u s2 x y H2 I2 r1 r2 q2
theorem aZ {op : Operator} {r : R2} (ho : OpR X (binaryOp op) r) (ha : PE X a ta) (hb : PE X b tb) : PE X (.BinOp a op b pos) (tOp r ta tb) := by
 intro pins s σ H Q I h
 exact wpAny_BinOp (IT ha hb I h fun v u s2 x y H2 I2 rx ry q => ho pins s2 σ H2 x y v u Q I2 rx ry q)
theorem yI {op : UnaryOp} {r : V -> Hp -> VK -> Prop} (ho : UnR X (unaryOp op) r) (ha : PE X a ta) : PE X (.UnaryOp op a pos) (tUn r ta) := by
 intro pins s σ H Q I h
 exact UnaryOp_ (thn (ha pins s σ H _ I h) fun v s1 ⟨x, H1, I1, r1, q1⟩ => ho pins s1 σ H1 x v Q I1 r1 q1)
theorem opI {f : Value -> Value -> Sem Value} {C : Int -> Int -> Prop} {g : Int -> Int -> Int}
  (rule : ∀ (i j : Int) (t u : Tok) (s : Shared) (Q : Value -> Shared -> Prop) (E : Value -> Shared -> Prop), C i j -> Q (.int (g i j) s.toks) { s with toks := s.toks + 1 } -> wpAny (model X.prog X.w) X.A (f (.int i t) (.int j u)) Q E s) :
  OpR X f (rI C fun i j => .int (g i j)) := by
 intro pins s σ H x y v u Q I rx ry h
 obtain ⟨i, j, rfl, rfl, hc, q⟩ := h
 obtain ⟨t, rfl⟩ := rx
 obtain ⟨t', rfl⟩ := ry
 exact rule i j t t' s _ _ hc ⟨.int (g i j), H, I.tok _, ⟨_, rfl⟩, q⟩
theorem B8 {f : Value -> Value -> Sem Value} {g : Int -> Int -> Int}
  (rule : ∀ (i j : Int) (t u : Tok) (s : Shared) (Q : Value -> Shared -> Prop) (E : Value -> Shared -> Prop), Q (.int (g i j) s.toks) { s with toks := s.toks + 1 } -> wpAny (model X.prog X.w) X.A (f (.int i t) (.int j u)) Q E s) :
  OpR X f (rI0 fun i j => .int (g i j)) := by
 intro pins s σ H x y v u Q I rx ry h
 obtain ⟨i, j, rfl, rfl, q⟩ := h
 obtain ⟨t, rfl⟩ := rx
 obtain ⟨t', rfl⟩ := ry
 exact rule i j t t' s _ _ ⟨.int (g i j), H, I.tok _, ⟨_, rfl⟩, q⟩
theorem EU {f : Value -> Value -> Sem Value} {g : Int -> Int -> Bool}
  (rule : ∀ (i j : Int) (t u : Tok) (s : Shared) (Q : Value -> Shared -> Prop) (E : Value -> Shared -> Prop), Q (.bool (g i j)) s -> wpAny (model X.prog X.w) X.A (f (.int i t) (.int j u)) Q E s) :
  OpR X f (rI0 fun i j => .bl (g i j)) := by
 intro pins s σ H x y v u Q I rx ry h
 obtain ⟨i, j, rfl, rfl, q⟩ := h
 obtain ⟨t, rfl⟩ := rx
 obtain ⟨t', rfl⟩ := ry
 exact rule i j t t' s _ _ ⟨.bl (g i j), H, I, rfl, q⟩
def LQ (i j : Int) : Prop := 0 <= j /\ j <= 1000000 /\ i.natAbs < 2 ^ 64
theorem we (k : Nat) : (0 : Int) <= 2 ^ k := by
 rw [two_pow_cast]
 exact Int.natCast_nonneg _
theorem Hz : OpR X (binaryOp .Add) (rI0 fun i j => .int (i + j)) := B8 fun _ _ _ _ _ _ _ q => add_int q
theorem Ht : OpR X (binaryOp .Sub) (rI0 fun i j => .int (i - j)) := B8 fun _ _ _ _ _ _ _ q => sub_int q
theorem Hx : OpR X (binaryOp .Mod) (rI (fun _ j => 0 < j) fun i j => .int (i % j)) := opI fun i j _ _ _ _ _ hc q => by
 have h1 : (0 : Int) < j := hc
 exact mod_int' (by omega) (by rw [Int.fmod_eq_emod_of_nonneg i (by omega)]; exact q)
theorem Hv : OpR X (binaryOp .LShift) (rI LQ fun i j => .int (i * 2 ^ j.toNat)) := opI fun _ _ _ _ _ _ _ hc q => lshift_int_small hc.1 hc.2.1 hc.2.2 q
theorem Hu : OpR X (binaryOp .RShift) (rI (fun _ j => 0 <= j) fun i j => .int (i / 2 ^ j.toNat)) := opI fun i j _ _ _ _ _ hc q =>
 rshift_int hc (by rw [Int.fdiv_eq_ediv_of_nonneg i (we _)]; exact q)
theorem Hy : OpR X (binaryOp .BitAnd) (rI0 fun i j => .int (Builtin.bitAnd i j)) := B8 fun _ _ _ _ _ _ _ q => and_int q
theorem JJ : OpR X (binaryOp .BitOr) (rI0 fun i j => .int (Builtin.bitOr i j)) := B8 fun _ _ _ _ _ _ _ q => or_int q
theorem Hs : OpR X (binaryOp .BitXor) (rI0 fun i j => .int (Builtin.bitXor i j)) := B8 fun _ _ _ _ _ _ _ q => xor_int q
theorem unI {f : Value -> Sem Value} {g : Int -> Int}
  (rule : ∀ (i : Int) (t : Tok) (s : Shared) (Q : Value -> Shared -> Prop) (E : Value -> Shared -> Prop), Q (.int (g i) s.toks) { s with toks := s.toks + 1 } -> wpAny (model X.prog X.w) X.A (f (.int i t)) Q E s) :
  UnR X f (rU fun i => .int (g i)) := by
 intro pins s σ H x v Q I rx h
 obtain ⟨i, rfl, q⟩ := h
 obtain ⟨t, rfl⟩ := rx
 exact rule i t s _ _ ⟨.int (g i), H, I.tok _, ⟨_, rfl⟩, q⟩
theorem rp : UnR X (unaryOp .USub) (rU fun i => .int (-i)) := unI fun _ _ _ _ _ q => neg_int q
end
def Jm : V -> V -> Bool
 | .non, .non => true | .non, .int _ => true | .int _, .non => true | .non, .bl _ => true | .bl _, .non => true | .non, .str _ => true | .str _, .non => true
 | .int _, .int _ => true | .bl _, .bl _ => true | .str _, .str _ => true | .byt _, .byt _ => true
 | .int _, .str _ => true | .str _, .int _ => true | .bl _, .str _ => true | .str _, .bl _ => true
 | _, _ => false
def rEq : R2 := fun x y H Q => Jm x y = true /\ Q (.bl (decide (x = y))) H
def rNe : R2 := fun x y H Q => Jm x y = true /\ Q (.bl (!decide (x = y))) H
theorem zd {i j : Int} : decide (V.int i = V.int j) = (i == j) := by
 rw [zCo]
 simp
theorem tQ {i j : Bool} : decide (V.bl i = V.bl j) = (i == j) := by
 rw [zCo]
 simp
theorem tP {i j : Str} : decide (V.str i = V.str j) = (i == j) := by
 rw [zCo]
 simp
theorem ze {i j : Array UInt8} : decide (V.byt i = V.byt j) = (i.toList == j.toList) := by
 rw [zCo]
 cases i
 cases j
 simp
section
variable {X : Cx} {a b c : Expr} {ta tb tc : TE} {pos : Pos}
theorem br {pins : List (Addr × Obj)} {σ : St} {H : Hp} {s : Shared} {Q : VK} {k k' : Bool} (I : Inv X pins σ H s) (q : Q (.bl k) H) (e : k = k') : EP X pins σ Q (.bool k') s := by
 subst e
 exact ⟨.bl k, H, I, rfl, q⟩
theorem bt : OpR X (compareOp .Eq) rEq := by
 intro pins s σ H x y v u Q I rx ry h
 obtain ⟨hs, q⟩ := h
 cases x with
 | non =>
  cases rx
  cases y with
  | non => cases ry; exact PySem.EqNone.eq_none_none (br I q (by simp))
  | bl j => cases ry; exact PySem.EqNone.eq_none_bool (br I q (by simp))
  | int j => obtain ⟨t', rfl⟩ := ry; exact PySem.EqNone.eq_none_int (br I q (by simp))
  | str j => obtain ⟨t', rfl⟩ := ry; exact PySem.EqNone.eq_none_str (br I q (by simp))
  | _ => exact absurd (show false = true from hs) Bool.false_ne_true
 | bl i =>
  cases rx
  cases y with
  | non => cases ry; exact PySem.EqNone.eq_bool_none (br I q (by simp))
  | bl j => cases ry; exact eq_bool (br I q tQ)
  | str j => obtain ⟨t', rfl⟩ := ry; exact PySem.EqMixed.eq_bool_str (br I q (by simp))
  | _ => exact absurd (show false = true from hs) Bool.false_ne_true
 | int i =>
  obtain ⟨t, rfl⟩ := rx
  cases y with
  | non => cases ry; exact PySem.EqNone.eq_int_none (br I q (by simp))
  | int j => obtain ⟨t', rfl⟩ := ry; exact eq_int (br I q zd)
  | str j => obtain ⟨t', rfl⟩ := ry; exact PySem.EqMixed.eq_int_str (br I q (by simp))
  | _ => exact absurd (show false = true from hs) Bool.false_ne_true
 | str i =>
  obtain ⟨t, rfl⟩ := rx
  cases y with
  | non => cases ry; exact PySem.EqNone.eq_str_none (br I q (by simp))
  | bl j => cases ry; exact PySem.EqMixed.eq_str_bool (br I q (by simp))
  | int j => obtain ⟨t', rfl⟩ := ry; exact PySem.EqMixed.eq_str_int (br I q (by simp))
  | str j => obtain ⟨t', rfl⟩ := ry; exact eq_str (br I q tP)
  | _ => exact absurd (show false = true from hs) Bool.false_ne_true
 | byt i =>
  obtain ⟨t, rfl⟩ := rx
  cases y with
  | byt j => obtain ⟨t', rfl⟩ := ry; exact PySem.W.eq_bytes (br I q ze)
  | _ => exact absurd (show false = true from hs) Bool.false_ne_true
 | _ => cases y <;> exact absurd (show false = true from hs) Bool.false_ne_true
theorem Gz : OpR X (compareOp .NotEq) rNe := by
 intro pins s σ H x y v u Q I rx ry h
 obtain ⟨hs, q⟩ := h
 cases x with
 | non =>
  cases rx
  cases y with
  | non => cases ry; exact PySem.EqNone.ne_none_none (br I q (by simp))
  | bl j => cases ry; exact PySem.EqNone.ne_none_bool (br I q (by simp))
  | int j => obtain ⟨t', rfl⟩ := ry; exact PySem.EqNone.ne_none_int (br I q (by simp))
  | str j => obtain ⟨t', rfl⟩ := ry; exact PySem.EqNone.ne_none_str (br I q (by simp))
  | _ => exact absurd (show false = true from hs) Bool.false_ne_true
 | bl i =>
  cases rx
  cases y with
  | non => cases ry; exact PySem.EqNone.ne_bool_none (br I q (by simp))
  | bl j => cases ry; exact ne_bool (br I q (congrArg not tQ))
  | str j => obtain ⟨t', rfl⟩ := ry; exact PySem.EqMixed.ne_bool_str (br I q (by simp))
  | _ => exact absurd (show false = true from hs) Bool.false_ne_true
 | int i =>
  obtain ⟨t, rfl⟩ := rx
  cases y with
  | non => cases ry; exact PySem.EqNone.ne_int_none (br I q (by simp))
  | int j => obtain ⟨t', rfl⟩ := ry; exact ne_int (br I q (congrArg not zd))
  | str j => obtain ⟨t', rfl⟩ := ry; exact PySem.EqMixed.ne_int_str (br I q (by simp))
  | _ => exact absurd (show false = true from hs) Bool.false_ne_true
 | str i =>
  obtain ⟨t, rfl⟩ := rx
  cases y with
  | non => cases ry; exact PySem.EqNone.ne_str_none (br I q (by simp))
  | bl j => cases ry; exact PySem.EqMixed.ne_str_bool (br I q (by simp))
  | int j => obtain ⟨t', rfl⟩ := ry; exact PySem.EqMixed.ne_str_int (br I q (by simp))
  | str j => obtain ⟨t', rfl⟩ := ry; exact ne_str (br I q (congrArg not tP))
  | _ => exact absurd (show false = true from hs) Bool.false_ne_true
 | byt i =>
  obtain ⟨t, rfl⟩ := rx
  cases y with
  | byt j => obtain ⟨t', rfl⟩ := ry; exact PySem.W.ne_bytes (br I q (congrArg not ze))
  | _ => exact absurd (show false = true from hs) Bool.false_ne_true
 | _ => cases y <;> exact absurd (show false = true from hs) Bool.false_ne_true
theorem B7 : OpR X (compareOp .Lt) (rI0 fun i j => .bl (decide (i < j))) := EU fun _ _ _ _ _ _ _ q => lt_int q
theorem JK : OpR X (compareOp .LtE) (rI0 fun i j => .bl (decide (i <= j))) := EU fun _ _ _ _ _ _ _ q => le_int q
theorem JL : OpR X (compareOp .Gt) (rI0 fun i j => .bl (decide (j < i))) := EU fun _ _ _ _ _ _ _ q => gt_int q
theorem GA : OpR X (compareOp .GtE) (rI0 fun i j => .bl (decide (j <= i))) := EU fun _ _ _ _ _ _ _ q => ge_int q
theorem Cz (b : Expr) {op : CmpOp} (h : op ≠ .In := by decide) (h2 : op ≠ .NotIn := by decide) : behindInMarks op b = false := by
 have e1 : (op == CmpOp.In) = false := by cases op <;> first | rfl | exact absurd rfl h
 have e2 : (op == CmpOp.NotIn) = false := by cases op <;> first | rfl | exact absurd rfl h2
 cases b <;> simp [behindInMarks, e1, e2]
theorem EO {op : CmpOp} {r : R2} (ho : OpR X (compareOp op) r) (ha : PE X a ta) (hb : PE X b tb) (hm : behindInMarks op b = false) : PE X (.Compare a [op] [b] pos) (tOp r ta tb) := by
 intro pins s σ H Q I h
 exact wpAny_Compare1 (IT ha hb I h fun v u s2 x y H2 I2 rx ry q => ho pins s2 σ H2 x y v u Q I2 rx ry q) hm
def Be (t : TE) : TT := fun σ H Q => t σ H fun x H' => ∃ k, x = .bl k /\ Q k H'
theorem EG {op : CmpOp} {r : R2} (ho : OpR X (compareOp op) r) (ha : PE X a ta) (hb : PE X b tb) (hm : behindInMarks op b = false) : PT X (.Compare a [op] [b] pos) (Be (tOp r ta tb)) := by
 intro pins s σ H Q I h
 refine wpAny_isTrue_Compare1 (thn (ha pins s σ H _ I h) fun v s1 ⟨x, H1, I1, r1, q1⟩ => thn (hb pins s1 σ H1 _ I1 q1) fun u s2 ⟨y, H2, I2, r2, q2⟩ =>
  thn (ho pins s2 σ H2 x y v u _ I2 r1 r2 q2) fun c s3 ⟨z, H3, I3, r3, k, e, q3⟩ => ?_) hm
 subst e
 cases r3
 exact wpAny_truthy_bool ⟨H3, I3, q3⟩
theorem sv : (sizeLine : Nat) < 2 ^ 63 := by rw [sizeLine_eq]; decide
theorem vals1 {x : V} {us : List Value} (r : Vals [x] us) : ∃ u, us = [u] /\ RelV x u := by
 cases r with
 | cons r1 r2 => cases r2; exact ⟨_, rfl, r1⟩
theorem vals2 {x y : V} {us : List Value} (r : Vals [x, y] us) : ∃ u w', us = [u, w'] /\ RelV x u /\ RelV y w' := by
 cases r with
 | cons r1 r2 =>
  cases r2 with
  | cons r3 r4 => cases r4; exact ⟨_, _, rfl, r1, r3⟩
theorem AV (hc : X.calm = true) : bY X (.builtin "max") (fun xs H Q => ∃ i j, xs = [.int i, .int j] /\ Q (.int (if j > i then j else i)) H) := by
 intro pins s σ H xs us Q I r h
 obtain ⟨i, j, rfl, q⟩ := h
 obtain ⟨u, w', rfl, ⟨t, rfl⟩, ⟨t', rfl⟩⟩ := vals2 r
 refine max_two_ints (I.ok.hd hc) fun h' tk k => ⟨_, H, I.kept k, ?_, q⟩
 by_cases hj : j > i
 ·rw [if_pos hj, if_pos hj]; exact ⟨_, rfl⟩
 ·rw [if_neg hj, if_neg hj]; exact ⟨_, rfl⟩
end
structure yo (h : Heap) (x dx C : Addr) (mA : Str -> Option Value) : Prop where
 obj : h.get? x = some (PySem.W.instObj C dx)
 ns : h.Ns1 dx mA
 ne : dx ≠ x
theorem Ar {h : Heap} {dx : Addr} {mA : Str -> Option Value} (n : h.Ns1 dx mA) : ∃ od, h.get? dx = some od /\ ∀ name, PySem.W.lookIn name od = some (mA name) := by
 obtain ⟨o, es, ep, ho, hd, hk, _, hm⟩ := n
 refine ⟨o, ho, fun name => ?_⟩
 have e := hm name
 unfold nsFind findBy at e
 rw [← Array.find?_toList] at e
 unfold PySem.W.lookIn
 rw [hd]
 dsimp only
 split
 ·rename_i y q
  rw [q] at e
  exact congrArg some e
 ·rename_i q
  rw [q] at e
  have a : es.toList.any (·.refKey) = false := by
   rw [List.any_eq_false]
   intro y hy
   obtain ⟨z, t, Lh⟩ := hk y (Array.mem_toList_iff.mp hy)
   simp [DictEntry.refKey, Lh]
  have a' : ¬ es.toList.any (·.refKey) = true := by rw [a]; exact Bool.false_ne_true
  rw [if_neg a']
  exact congrArg some e
theorem yo.look {h : Heap} {x dx C : Addr} {mA : Str -> Option Value} (I : yo h x dx C mA) : ∃ od, PySem.W.InstAt h x (PySem.W.instObj C dx) C (some od) /\ ∀ name, PySem.W.lookIn name od = some (mA name) :=
 let ⟨od, ho, hl⟩ := Ar I.ns
 ⟨od, ⟨I.obj, rfl, rfl, ho⟩, hl⟩
section
variable {prog : Program} {w : World} {A : Around} {E : Value -> Shared -> Prop} {s : Shared} {K : PySem.W.Frag} {x dx C f : Addr} {mA : Str -> Option Value} {name : Str} {v : Value}
theorem get_map {expr : Bool} {Q : Value -> Shared -> Prop} (X : K.In s.heap) (I : yo s.heap x dx C mA) (hg : PySem.W.plainGet K C name = true) (hh : PySem.W.hasDictIn K C = true)
  (ha : PySem.W.findIn K (.ref C) name = some none) (hv : mA name = some v) (hv' : PySem.W.handedIn v = true) (h : Q v { s with toks := s.toks + 1 }) :
  wpAny (model prog w) A (getAttr (.ref x) name expr) Q E s := by
 obtain ⟨od, J, hl⟩ := I.look
 exact PySem.W.get_value X J (PySem.W.plainGet_of hg).1 (PySem.W.findObj_own hh ha rfl (by rw [hl, hv])) hv' h
theorem C9 {pl : Sem Bool} {Q : Value × List Value -> Shared -> Prop} (X : K.In s.heap) (I : yo s.heap x dx C mA) (hg : PySem.W.plainGet K C name = true)
  (hf : PySem.W.findIn K (.ref C) name = some (some (.ref f))) (ht : PySem.W.isFn K (.ref f) = true) (hv : mA name = none) (h : Q (.ref f, [.ref x]) s) :
  wpAny (model prog w) A (getMethod (.ref x) name pl) Q E s := by
 obtain ⟨od, J, hl⟩ := I.look
 exact PySem.W.method_fn X J (PySem.W.plainGet_of hg).1 (PySem.W.plainGet_of hg).2 hf (beq_iff_eq.mp ht) (by show (PySem.W.lookIn name od).map (·.isSome) = some false; rw [hl, hv]; rfl) h
theorem Em {ns : List Str} {Q : Unit -> Shared -> Prop} (X : K.In s.heap) (I : yo s.heap x dx C mA)
  (hs : PySem.W.findIn K (.ref C) "__setattr__" = some (some (.builtin "object.__setattr__"))) (hp : PySem.W.plainOver K C = true) (ht : PySem.W.takerIn K C name = some none) (hh : PySem.W.hasDictIn K C = true)
  (hw : PySem.Within mA ns) (hsz : ns.length <= sizeLine)
  (h : ∀ h', yo h' x dx C (fun y => if y = name then some v else mA y) -> Heap.SameBut dx s.heap h' -> Q () { s with heap := h', toks := s.toks + 2 }) :
  wpAny (model prog w) A (setAttr (.ref x) name v) Q E s := by
 obtain ⟨od, J, hl⟩ := I.look
 refine PySem.W.set_plain X J hs (PySem.W.osa_open (s := { s with toks := s.toks + 1 }) (r := none) X J hp ht fun b => ?_)
 obtain ⟨cd, hc, hd'⟩ := PySem.W.any_some hh
 have hx : s.heap.get? x = some ⟨.ref C, some dx, .plain, #[]⟩ := I.obj
 refine wpAny_bind (wpAny_pure (wpAny_bind (wpAny_bind (wpAny_loadPart hx (wpAny_bind (PySem.W.Looks.here (s := { s with toks := s.toks + 1 }) (PySem.W.looks_clsIn X hc) ?_))))))
 rw [hd']
 refine wpAny_pure (a := some dx) (wpAny_bind (wpAny_pure (wpAny_bind ?_)))
 refine wpAny_nsSet1 (s := { s with toks := s.toks + 1 }) I.ns fun h' hn2 hs2 => ?_
 obtain ⟨oD, esD, epD, hoD, hdD, hcD⟩ := hn2.count (PySem.Within.cons name v hw)
 refine wpAny_bind (wpAny_lookBehind hoD (by rw [hdD]; exact pastItsLine_dict (zAn hcD (by rw [zAz]; omega))) ?_)
 exact wpAny_pure (h _ ⟨(hs2.2 _ (Ne.symm I.ne)).trans I.obj, hn2, I.ne⟩ hs2)
theorem CI {R : Result -> Shared -> Prop} {vs : List Value} {kw : List (Str × Value)} (X : K.In s.heap) (hm : PySem.W.makesIn K C = true)
  (hi : PySem.W.findIn K (.ref C) "__init__" = some (some (.ref f))) (hf : PySem.W.typeIn K (.ref f) = some (.type "function"))
  (h : codeAny (model prog w) (A.under (.builtin "type.__call__" ⟨.ref C :: vs, kw⟩)) (.call (.ref f) ⟨.ref (s.heap.objs.size + 1) :: vs, kw⟩) (PySem.W.InitBack (s.heap.objs.size + 1) R)
   { s with heap := (s.heap.push PySem.W.emptyDict).push (PySem.W.instObj C s.heap.objs.size) }) :
  codeAny (model prog w) A (.call (.ref C) ⟨vs, kw⟩) R s := by
 obtain ⟨hh, g, d, t, os⟩ := s
 exact PySem.W.make_core (PySem.W.makes_of X hm) (PySem.W.looks_findIn X hi) (fun self => PySem.W.bind_fn X self hf) (.inl rfl) h
end
def bU (f : Str) (v : V) : List (Str × V) -> List (Str × V)
 | [] => [(f, v)]
 | (g, x) :: r => if g = f then (g, v) :: r else (g, x) :: bU f v r
theorem ml (f g : Str) (v : V) : ∀ fs : List (Str × V), (bU f v fs).lookup g = if g = f then some v else fs.lookup g
 | [] => by
  show List.lookup g [(f, v)] = _
  by_cases h : g = f
  ·have hb : (g == f) = true := beq_iff_eq.mpr h
   simp only [List.lookup, hb, if_pos h]
  ·have hb : (g == f) = false := beq_eq_false_iff_ne.mpr h
   simp only [List.lookup, hb, if_neg h]
 | (k, x) :: r => by
  have ih := ml f g v r
  rw [show bU f v ((k, x) :: r) = (if k = f then (k, v) :: r else (k, x) :: bU f v r) from rfl]
  by_cases hk : k = f
  ·rw [if_pos hk]
   by_cases h : g = k
   ·have hb : (g == k) = true := beq_iff_eq.mpr h
    simp only [List.lookup, hb, if_pos (h.trans hk)]
   ·have hb : (g == k) = false := beq_eq_false_iff_ne.mpr h
    simp only [List.lookup, hb, if_neg (fun e : g = f => h (e.trans hk.symm))]
  ·rw [if_neg hk]
   by_cases h : g = k
   ·have hb : (g == k) = true := beq_iff_eq.mpr h
    simp only [List.lookup, hb, if_neg (fun e : g = f => hk (h.symm.trans e))]
   ·have hb : (g == k) = false := beq_eq_false_iff_ne.mpr h
    simp only [List.lookup, hb]
    exact ih
theorem lB (f : Str) (v : V) : ∀ fs : List (Str × V), f ∈ (bU f v fs).map (·.1) /\ ∀ g, g ∈ fs.map (·.1) -> g ∈ (bU f v fs).map (·.1)
 | [] => ⟨by simp [bU], fun g h => by simp at h⟩
 | (k, x) :: r => by
  obtain ⟨i1, i2⟩ := lB f v r
  rw [show bU f v ((k, x) :: r) = (if k = f then (k, v) :: r else (k, x) :: bU f v r) from rfl]
  by_cases hk : k = f
  ·rw [if_pos hk]
   subst hk
   exact ⟨by simp, fun g h => by simpa using h⟩
  ·rw [if_neg hk]
   refine ⟨?_, fun g h => ?_⟩
   ·rw [List.map_cons]
    exact zAj _ i1
   ·rw [List.map_cons] at h ⊢
    rcases zAv.mp h with e | e
    ·exact zAv.mpr (.inl e)
    ·exact zAj _ (i2 g e)
theorem mm (f : Str) (v : V) : ∀ fs : List (Str × V), (bU f v fs).length <= fs.length + 1
 | [] => by simp [bU]
 | (k, x) :: r => by
  have ih := mm f v r
  rw [show bU f v ((k, x) :: r) = (if k = f then (k, v) :: r else (k, x) :: bU f v r) from rfl]
  by_cases hk : k = f
  ·rw [if_pos hk, zAz, zAz]; omega
  ·rw [if_neg hk, zAz, zAz]; omega
theorem jb.some_of {v : V} {o : Option Value} (r : jb (some v) o) : ∃ u, o = some u /\ RelV v u := by
 cases o with
 | none => exact (show False from r).elim
 | some u => exact ⟨u, rfl, r⟩
theorem jb.none_of {o : Option Value} (r : jb none o) : o = none := by
 cases o with
 | none => rfl
 | some u => exact (show False from r).elim
theorem AH {v : V} {u : Value} (r : RelV v u) : PySem.W.handedIn u = true := by
 cases v with
 | non => cases (show u = Value.none from r); rfl
 | bl b => cases (show u = Value.bool b from r); rfl
 | int i => obtain ⟨t, e⟩ := (show ∃ t, u = Value.int i t from r); cases e; rfl
 | str x => obtain ⟨t, e⟩ := (show ∃ t, u = Value.str x t from r); cases e; rfl
 | byt b => obtain ⟨t, e⟩ := (show ∃ t, u = Value.bytes b t from r); cases e; rfl
 | flt b => obtain ⟨t, e⟩ := (show ∃ t, u = Value.float b t from r); cases e; rfl
 | ref a => cases (show u = Value.ref a from r); rfl
 | ty n => cases (show u = Value.type n from r); rfl
section
variable {P : Program} {w : World} {H H' : Hp} {h h' : Heap} {a C dx : Addr} {fs fs' : List (Str × V)}
theorem tf (hok : HOk P w H h) (e : H a = some (.ins C dx fs)) : ∃ mA, yo h a dx C mA /\ (∀ f, jb (fs.lookup f) (mA f)) /\ PySem.Within mA (fs.map (·.1)) /\ fs.length <= 1000 /\ H dx = some (.own a) := by
 obtain ⟨d, z, ne, ob, mA, n, r, q⟩ := (show cG P w H h a (.ins C dx fs) from hok a _ e)
 exact ⟨mA, ⟨ob, n, ne⟩, r, q, z, d⟩
end
structure Cls (K : PySem.W.Frag) (C : Addr) : Prop where
 pg : PySem.W.plainGet K C Str.empty = true
 hd : PySem.W.hasDictIn K C = true
 po : PySem.W.plainOver K C = true
 sa : PySem.W.findIn K (.ref C) "__setattr__" = some (some (.builtin "object.__setattr__"))
theorem Cls.get {K : PySem.W.Frag} {C : Addr} (c : Cls K C) (f : Str) : PySem.W.plainGet K C f = true := c.pg
def cJ (K : PySem.W.Frag) (C : Addr) (f : Str) : Prop := PySem.W.findIn K (.ref C) f = some none
theorem cJ.Jc {K : PySem.W.Frag} {C : Addr} {f : Str} (n : cJ K C f) : PySem.W.takerIn K C f = some none := by
 unfold PySem.W.takerIn
 rw [show PySem.W.findIn K (.ref C) f = some none from n]
 rfl
structure Meth (K : PySem.W.Frag) (C : Addr) (m : Str) (f : Addr) : Prop where
 at_ : PySem.W.findIn K (.ref C) m = some (some (.ref f))
 fn : PySem.W.isFn K (.ref f) = true
 kp : PySem.W.keepIn K (.ref f) = true
section
variable {X : Cx} {pins : List (Addr × Obj)} {σ : St} {H : Hp} {s : Shared} {a C dx : Addr} {fs : List (Str × V)} {f : Str} {v : V} {A : Around} {E : Value -> Shared -> Prop}
theorem oV {b : Bool} {Q : Value -> Shared -> Prop} (I : Inv X pins σ H s) (e : H a = some (.ins C dx fs)) (c : Cls X.K C) (n : cJ X.K C f) (l : fs.lookup f = some v)
  (h : ∀ u s', Inv X pins σ H s' -> RelV v u -> Q u s') : wpAny (model X.prog X.w) A (getAttr (.ref a) f b) Q E s := by
 obtain ⟨mA, O, r, _, _, _⟩ := tf I.hok e
 obtain ⟨u, hu, ru⟩ := jb.some_of (v := v) (o := mA f) (by rw [← l]; exact r f)
 exact get_map I.kIn O (c.get f) c.hd n hu (AH ru) (h u _ (I.tok _) ru)
theorem oU {m : Str} {g : Addr} {pl : Sem Bool} {Q : Value × List Value -> Shared -> Prop} (I : Inv X pins σ H s) (e : H a = some (.ins C dx fs)) (c : Cls X.K C) (k : Meth X.K C m g) (l : fs.lookup m = none)
  (h : Q (.ref g, [.ref a]) s) : wpAny (model X.prog X.w) A (getMethod (.ref a) m pl) Q E s := by
 obtain ⟨mA, O, r, _, _, _⟩ := tf I.hok e
 have hn : mA m = none := jb.none_of (by rw [← l]; exact r m)
 exact C9 I.kIn O (c.get m) k.at_ k.fn hn h
theorem nH {y : V} {u : Value} {Q : Unit -> Shared -> Prop} (I : Inv X pins σ H s) (e : H a = some (.ins C dx fs)) (c : Cls X.K C) (n : cJ X.K C f) (hl : fs.length < 1000) (ry : RelV y u)
  (h : ∀ s', Inv X pins σ (upd H a (.ins C dx (bU f y fs))) s' -> Q () s') : wpAny (model X.prog X.w) A (setAttr (.ref a) f u) Q E s := by
 obtain ⟨mA, O, r, wi, _, ho⟩ := tf I.hok e
 have hz : (fs.map (·.1)).length <= sizeLine := by rw [zAa, sizeLine_eq]; omega
 refine Em I.kIn O c.sa c.po n.Jc c.hd wi hz fun h' O' sb => h _ ?_
 have hd : ∃ o, h'.get? dx = some o := let ⟨o, _, _, e', _⟩ := O'.ns; ⟨o, e'⟩
 refine I.write (x := a) (e := dx) (by rw [e]; exact True.intro) (.inr ho) (fun b q hb z => (sb.2 b hb).trans z) hd ?_
 refine ⟨by rw [ag O.ne]; exact ho, ?_, O.ne, O'.obj, _, O'.ns, fun g => ?_, fun g hg => ?_⟩
 ·have := mm f y fs; omega
 ·show jb ((bU f y fs).lookup g) (if g = f then some u else mA g)
  rw [ml]
  by_cases q : g = f
  ·rw [if_pos q, if_pos q]; exact ry
  ·rw [if_neg q, if_neg q]; exact r g
 ·by_cases q : g = f
  ·rw [q]; exact (lB f y fs).1
  ·refine (lB f y fs).2 g (wi g fun z => hg ?_)
   show (if g = f then some u else mA g) = none
   rw [if_neg q]; exact z
theorem Inv.made (I : Inv X pins σ H s) : Inv X pins σ (upd (upd H s.heap.objs.size (.own (s.heap.objs.size + 1))) (s.heap.objs.size + 1) (.ins C s.heap.objs.size []))
  { s with heap := (s.heap.push PySem.W.emptyDict).push (PySem.W.instObj C s.heap.objs.size) } := by
 have e1 : (s.heap.push PySem.W.emptyDict).get? s.heap.objs.size = some PySem.W.emptyDict := Heap.get?_push_size s.heap rfl
 have e2 : ((s.heap.push PySem.W.emptyDict).push (PySem.W.instObj C s.heap.objs.size)).get? (s.heap.objs.size + 1) = some (PySem.W.instObj C s.heap.objs.size) := by
  have := Heap.get?_push_size (s.heap.push PySem.W.emptyDict) (o := PySem.W.instObj C s.heap.objs.size) rfl
  rwa [Heap.size_push] at this
 have e3 : (s.heap.push PySem.W.emptyDict).Ns s.heap.objs.size (fun _ => none) := ⟨PySem.W.emptyDict, #[], _, e1, rfl, (fun e he => absurd he (by simp)), fun _ => rfl⟩
 have I1 := I.laid (a := s.heap.objs.size) (o := .own (s.heap.objs.size + 1)) (h' := s.heap.push PySem.W.emptyDict) (t' := s.toks) (fun b u q => Heap.get?_push_of_some _ q) (zAt _) ⟨_, e1⟩
 refine I1.laid (a := s.heap.objs.size + 1) (o := .ins C s.heap.objs.size []) (t' := s.toks) (fun b u q => Heap.get?_push_of_some _ q) (Nat.le_of_eq (Heap.size_push _ _)) ?_
 have ne : s.heap.objs.size ≠ s.heap.objs.size + 1 := Nat.ne_of_lt (zBs _)
 refine ⟨by rw [ag ne, ae], zBf _, ne, e2, fun _ => none, (Heap.Ns1.of_empty e3).at fun o q => Heap.get?_push_of_some _ q, fun _ => True.intro, fun y hy => absurd rfl hy⟩
theorem Gm {prog : Program} {w : World} {env : Env} {e : Expr} {f : Str} {pos : Pos} {s : Shared} {Q : Value -> Shared -> Prop} (hb : attributeBase e f env (eval e env) = eval e env)
  (h : wpAny (model prog w) A (eval e env) (fun o s₁ => wpAny (model prog w) A (getAttr o f true) Q E s₁) E s) : wpAny (model prog w) A (eval (.Attribute e f pos) env) Q E s :=
 Attribute_any_ h (by rw [arm_eval_Attribute, hb])
end
def Jg (K : PySem.W.Frag) (ta : TE) (f : Str) : TE := fun σ H Q => ta σ H fun x H1 => ∃ a C dx fs v, x = .ref a /\ H1 a = some (.ins C dx fs) /\ Cls K C /\ cJ K C f /\ fs.lookup f = some v /\ Q v H1
def Jn (K : PySem.W.Frag) (ta tv : TE) (f : Str) : TS := fun D σ H => tv σ H fun y H1 => ta σ H1 fun x H2 => ∃ a C dx fs, x = .ref a /\ H2 a = some (.ins C dx fs) /\ Cls K C /\ cJ K C f /\ fs.length < 1000 ∧
 D.nx σ (upd H2 a (.ins C dx (bU f y fs)))
def IY (X : Cx) (op : Operator) (rd : V -> V -> Hp -> VK -> Prop) : Prop :=
 ∀ (pins : List (Addr × Obj)) (s : Shared) (σ : St) (H : Hp) (x y : V) (u v : Value) (Q : VK), Inv X pins σ H s -> RelV x u -> RelV y v -> rd x y H Q -> wpAny (model X.prog X.w) X.A (inplaceOp op u v) (EP X pins σ Q) X.xe s
def yw (K : PySem.W.Frag) (ta tv : TE) (rd : V -> V -> Hp -> VK -> Prop) (f : Str) : TS := fun D σ H => ta σ H fun x H1 => ∃ a C dx fs v, x = .ref a /\ H1 a = some (.ins C dx fs) /\ Cls K C /\ cJ K C f /\ fs.lookup f = some v ∧
 tv σ H1 fun y H2 => rd v y H2 fun z H3 => ∃ dx' fs', H3 a = some (.ins C dx' fs') /\ fs'.length < 1000 /\ D.nx σ (upd H3 a (.ins C dx' (bU f z fs')))
section
variable {X : Cx} {o e value : Expr} {f : Str} {pos pos' Jb : Pos} {ta tv : TE}
theorem Hm (he : PE X e ta) (hb : attributeBase e f X.env (eval e X.env) = eval e X.env) : PE X (.Attribute e f pos) (Jg X.K ta f) := by
 intro pins s σ H Q I h
 refine Gm hb (thn (he pins s σ H _ I h) fun u s1 ⟨x, H1, I1, rx, a, C, dx, fs, v, ex, ea, c, n, l, q⟩ => ?_)
 subst ex
 obtain rfl : u = Value.ref a := rx
 exact oV I1 ea c n l fun u' s2 I2 ru => ⟨v, H1, I2, ru, q⟩
theorem bS (ha : PE X o ta) (hv : PE X value tv) (hs : swapsWith value (some (.Attribute o f pos')) pos.line X.env = pure false) : PS X (.Assign [.Attribute o f pos'] value pos) (Jn X.K ta tv f) := by
 intro pins s σ H D I h
 refine plainObj_wpAny_Assign_Attribute (thn (hv pins s σ H _ I h) fun u s1 ⟨y, H1, I1, ry, q⟩ => thn (ha pins s1 σ H1 _ I1 q) fun ov s2 ⟨x, H2, I2, rx, a, C, dx, fs, ex, ea, c, n, l, q2⟩ => ?_) hs
 subst ex
 obtain rfl : ov = Value.ref a := rx
 exact nH I2 ea c n l ry fun s3 I3 => ⟨σ, _, I3, q2⟩
theorem f9 {op : Operator} {rd : V -> V -> Hp -> VK -> Prop} (ha : PE X o ta) (hv : PE X value tv) (hop : IY X op rd) : PS X (.AugAssign (.Attribute o f Jb) op value pos) (yw X.K ta tv rd f) := by
 intro pins s σ H D I h
 refine wpAny_AugAssign_AttributeAny (thn (ha pins s σ H _ I h) fun ov s1 ⟨x, H1, I1, rx, a, C, dx, fs, v, ex, ea, c, n, l, q⟩ => ?_)
 subst ex
 obtain rfl : ov = Value.ref a := rx
 refine oV I1 ea c n l fun u s2 I2 ru => thn (hv pins s2 σ H1 _ I2 q) fun w3 s3 ⟨y, H2, I3, ry, q3⟩ => thn (hop pins s3 σ H2 v y u w3 _ I3 ru ry q3) fun w4 s4 ⟨z, H3, I4, rz, dx', fs', ea', l', q4⟩ => ?_
 exact nH I4 ea' c n l' rz fun s5 I5 => ⟨σ, _, I5, q4⟩
def KQ : V -> V -> Hp -> VK -> Prop := fun x y H Q => ∃ i j, x = .int i /\ y = .int j /\ Q (.int (i + j)) H
theorem HW : IY X .Add KQ := by
 rintro pins s σ H x y u v Q I rx ry ⟨i, j, rfl, rfl, q⟩
 obtain ⟨t, rfl⟩ := (show ∃ t, u = Value.int i t from rx)
 obtain ⟨t', rfl⟩ := (show ∃ t', v = Value.int j t' from ry)
 exact PyProof.Rows.iadd_int ⟨.int (i + j), H, I.tok _, ⟨_, rfl⟩, q⟩
end
section
variable {X : Cx} {pins : List (Addr × Obj)} {σ : St} {H : Hp} {s : Shared} {A : Around} {E : Value -> Shared -> Prop} {Q : Value -> Shared -> Prop} {c : Value} {b : Bool}
end
structure dj (k : Nat) (A : Around) : Prop where
 hd : A.handled = none
 dp : A.depth + 3 * k + 5 < recursionLimit
 un : A.units + 16 * k + 200 < cLine
theorem dj.mono {j k : Nat} {A : Around} (r : dj k A) (h : j <= k) : dj j A := ⟨r.hd, by have := r.dp; omega, by have := r.un; omega⟩
theorem dj.deeper {k : Nat} {A : Around} (r : dj (k + 1) A) (env : Env) : dj k (A.deeper env) :=
 ⟨r.hd, by have := r.dp; show A.depth + 1 + 3 * k + 5 < _; omega, by have := r.un; show A.units + 3 + 16 * k + 200 < _; omega⟩
theorem xq {A : Around} {C : Addr} {us : List Value} {kw : List (Str × Value)} : (A.under (.builtin "type.__call__" ⟨.ref C :: us, kw⟩)).depth = A.depth + 1 := by
 first | rfl | simp [Around.under, Code.weight, Code.isCreation, Code.isGuard, Code.isCaller, Code.frames, Code.isFrame, guardIds]
theorem xn {A : Around} {C : Addr} {us : List Value} {kw : List (Str × Value)} : (A.under (.builtin "type.__call__" ⟨.ref C :: us, kw⟩)).units = A.units + 1 := by
 first | rfl | simp [Around.under, Code.cUnits, Code.frames, Code.isFrame]
theorem dj.make {k : Nat} {A : Around} (r : dj (k + 1) A) (C : Addr) (us : List Value) (kw : List (Str × Value)) : dj k (A.under (.builtin "type.__call__" ⟨.ref C :: us, kw⟩)) :=
 ⟨r.hd, by have := r.dp; rw [xq]; omega, by have := r.un; rw [xn]; omega⟩
theorem dj.depth {k : Nat} {A : Around} (r : dj k A) : A.depth < recursionLimit := by have := r.dp; omega
theorem dj.units {k : Nat} {A : Around} (r : dj k A) : A.units + 64 < cLine := by have := r.un; omega
def fL : TA := fun _ H Q => Q [] H
def cT (ta : TE) (tr : TA) : TA := fun σ H Q => ta σ H fun x H1 => tr σ H1 fun xs H2 => Q (x :: xs) H2
section
variable {X : Cx} {e : Expr} {es : List Expr} {te : TE} {t : TA} {pos : Pos}
theorem bC : PA X [] fL := fun _ _ _ _ H Q I h => Calls.spliced_nil ⟨[], H, I, .nil, h⟩
theorem aL (ha : PE X e te) (hr : PA X es t) (hs : starEach (e :: es) X.env = (false, eval e X.env) :: starEach es X.env := by rfl) : PA X (e :: es) (cT te t) := by
 intro pos pins s σ H Q I h
 rw [hs]
 show wpAny _ _ (spliced ((false, eval e X.env) :: backTo pos (starEach es X.env))) _ _ s
 refine Calls.spliced_cons (thn (ha pins s σ H _ I h) fun u s1 ⟨x, H1, I1, r1, q1⟩ => ?_)
 exact thn (hr pos pins s1 σ H1 _ I1 q1) fun us s2 ⟨xs, H2, I2, r2, q2⟩ => ⟨x :: xs, H2, I2, .cons r1 r2, q2⟩
def KG (t : TA) : TE := fun σ H Q => t σ H fun xs H1 => xs.length <= sizeLine /\ ∀ p, H1 p = none -> Q (.ref p) (upd H1 p (.tup xs))
def DW (t : TA) : TE := fun σ H Q => t σ H fun xs H1 => xs.length <= sizeLine /\ ∀ p, H1 p = none -> Q (.ref p) (upd H1 p (.lst xs))
theorem BY {x1} (h : PA X es t) : PE X (.Tuple es x1 pos) (KG t) := by
 intro pins s σ H Q I hq
 refine wpAny_Tuple_spliced (thn (h pos pins s σ H _ I hq) fun us s1 ⟨xs, H1, I1, r, z, q⟩ => ⟨by rw [← r.length]; exact z, ?_⟩)
 have hf : H1 s1.heap.objs.size = none := I1.hok.fresh (zAt _)
 refine ⟨.ref s1.heap.objs.size, upd H1 s1.heap.objs.size (.tup xs), I1.laid (t' := s1.toks) (fun b u e => Heap.get?_push_of_some _ e) (zAt _) ?_, rfl, q _ hf⟩
 exact ⟨z, us, r, ⟨_, Heap.get?_push_size _ rfl, rfl, _, rfl⟩⟩
theorem ay (h : PA X es t) : PE X (.List es pos) (DW t) := by
 intro pins s σ H Q I hq
 refine wpAny_List_spliced (thn (h pos pins s σ H _ I hq) fun us s1 ⟨xs, H1, I1, r, z, q⟩ => ⟨by rw [← r.length]; exact z, ?_⟩)
 have hf : H1 s1.heap.objs.size = none := I1.hok.fresh (zAt _)
 refine ⟨.ref s1.heap.objs.size, upd H1 s1.heap.objs.size (.lst xs), I1.laid (t' := s1.toks) (fun b u e => Heap.get?_push_of_some _ e) (zAt _) ?_, rfl, q _ hf⟩
 exact ⟨z, us, 0, r, Heap.get?_push_size _ rfl⟩
end
abbrev Sp := List V -> Hp -> VK -> XK -> Prop
abbrev CXT := List Env -> Hp -> Shared -> XK -> Value -> Shared -> Prop
structure yp (P : Program) (w : World) (K : PySem.W.Frag) (mg : Str -> Option Value) (base : Heap) (A : Around) (outer : List Env) (s : Shared) (H : Hp) : Prop where
 frames : A.frames = some outer
 mod : Mod K mg base
 bs : ∀ b o, base.get? b = some o -> s.heap.get? b = some o /\ H b = none
 bsz : base.objs.size <= s.heap.objs.size
 mO : s.heap.FunFrames base outer
 frf : ∀ b ∈ frs outer, H b = none
 hok : HOk P w H s.heap
 bare : AllBare s.gens
def CE (outer : List Env) (P : Program) (w : World) (H : Hp) (s : Shared) (Q : VK) (u : Value) (s' : Shared) : Prop :=
 ∃ v H', s'.os = s.os /\ AllBare s'.gens /\ Un (frs outer) [] H H' s.heap s'.heap /\ HOk P w H' s'.heap /\ RelV v u /\ Q v H'
def CR (CX : CXT) (outer : List Env) (P : Program) (w : World) (H : Hp) (s : Shared) (Q : VK) (E : XK) (r : Result) (s' : Shared) : Prop :=
 match r with
 | .ok (.ret u) => CE outer P w H s Q u s'
 | .ok _ => False
 | .error e => CX outer H s E e s'
structure jc (P : Program) (w : World) (K : PySem.W.Frag) (mg : Str -> Option Value) (base : Heap) (CX : CXT) (k : Nat) (f : Addr) (fd : FuncData) (ps : List Str) (sp : Sp) : Prop where
 len : ∀ vs H Q E, sp vs H Q E -> vs.length = ps.length
 run : ∀ (A : Around) (outer : List Env) (s : Shared) (H : Hp) (args : Args) (us : List Value) (vs : List V) (Q : VK) (E : XK), dj k A -> yp P w K mg base A outer s H -> BindsTo s fd args (ps.zip us) -> Vals vs us -> sp vs H Q E →
  codeAny (model P w) A (.call (.ref f) args) (CR CX outer P w H s Q E) s
theorem yp.make {P : Program} {w : World} {K : PySem.W.Frag} {mg : Str -> Option Value} {base : Heap} {A : Around} {outer : List Env} {s : Shared} {H : Hp} (e : yp P w K mg base A outer s H) (C : Addr) (us : List Value) (kw : List (Str × Value)) :
  yp P w K mg base (A.under (.builtin "type.__call__" ⟨.ref C :: us, kw⟩)) outer s H := ⟨by first | exact e.frames | (simpa [Around.under, Code.envs, Code.isFrame, pushEnvs] using e.frames), e.mod, e.bs, e.bsz, e.mO, e.frf, e.hok, e.bare⟩
section
variable {X : Cx} {pins : List (Addr × Obj)} {σ : St} {H : Hp} {s s' : Shared}
theorem Inv.Kn (I : Inv X pins σ H s) : yp X.prog X.w X.K X.mg X.base X.A X.stack s H :=
 ⟨I.ok.frames, I.ok.mod, I.bs, zAn I.ok.bsz I.sz, I.stack, I.yq, I.hok, I.bare⟩
theorem Inv.after {Q : VK} {u : Value} (I : Inv X pins σ H s) (h : CE X.stack X.prog X.w H s Q u s') : EP X pins σ Q u s' := by
 obtain ⟨v, H', os, bare, un, hok, r, q⟩ := h
 obtain ⟨hh, g, d, t, os'⟩ := s'
 obtain rfl : os' = s.os := os
 exact ⟨v, H', I.call (h' := hh) (g' := g) (d' := d) (t' := t) (ch := []) un hok bare (fun b z => absurd z (by simp)), r, q⟩
end
def Bh (sp : Sp) (dvs : List V) (E : XK) (t : TA) : TE := fun σ H Q => t σ H fun vs H1 => sp (vs ++ dvs) H1 Q E
def qA (C : Addr) (m : Str) (sp : Sp) (dvs : List V) (E : XK) (ta : TE) (t : TA) : TE := fun σ H Q => ta σ H fun x H1 => ∃ a dx fs, x = .ref a /\ H1 a = some (.ins C dx fs) /\ fs.lookup m = none ∧
 t σ H1 fun vs H2 => sp (x :: (vs ++ dvs)) H2 Q E
def Gu (C : Addr) (sp : Sp) (dvs : List V) (E : XK) (t : TA) : TE := fun σ H Q => t σ H fun vs H1 => ∀ x dx, H1 x = none -> H1 dx = none -> dx ≠ x →
 sp (.ref x :: (vs ++ dvs)) (upd (upd H1 dx (.own x)) x (.ins C dx [])) (fun v H2 => v = .non /\ Q (.ref x) H2) E
def Binds (K : PySem.W.Frag) (fd : FuncData) (ps : List Str) (ds : List Value) : Prop :=
 ∀ (s : Shared) (us : List Value), K.In s.heap -> (us ++ ds).length = ps.length -> BindsTo s fd ⟨us, []⟩ (ps.zip (us ++ ds))
theorem Binds.all {K : PySem.W.Frag} {fd : FuncData} {ps : List Str} (h : ∀ us : List Value, us.length = ps.length -> bindArgs fd ⟨us, []⟩ = pure (ps.zip us)) : Binds K fd ps [] := fun s us _ hl => by
 rw [zBz] at hl ⊢
 exact .of_eq (h us hl)
def Passes (CX : CXT) (X : Cx) (E : XK) : Prop := ∀ (pins : List (Addr × Obj)) (σ : St) (H : Hp) (s : Shared) (e : Value) (s' : Shared), Inv X pins σ H s -> CX X.stack H s E e s' -> X.xe e s'
section
variable {X : Cx} {CX : CXT} {k : Nat} {f C : Addr} {fd : FuncData} {ps : List Str} {sp : Sp} {dvs : List V} {ds : List Value} {E : XK} {x m : Str} {p pos apos : Pos} {e o : Expr} {es : List Expr} {ta : TE} {t : TA}
theorem wJ {pins : List (Addr × Obj)} {σ : St} {H : Hp} {s : Shared} {Q : VK} {us : List Value} {vs : List V} (F : jc X.prog X.w X.K X.mg X.base CX k f fd ps sp) (hr : dj k X.A) (hb : Binds X.K fd ps ds) (hd : Vals dvs ds) (hx : Passes CX X E)
  (I : Inv X pins σ H s) (r : Vals vs us) (h : sp (vs ++ dvs) H Q E) : wpAny (model X.prog X.w) X.A (call (.ref f) us) (EP X pins σ Q) X.xe s := by
 have r2 : Vals (vs ++ dvs) (us ++ ds) := r.append hd
 have hl : (us ++ ds).length = ps.length := by rw [← r2.length]; exact F.len _ _ _ _ h
 refine wpAny_call (codeAny_mono (F.run X.A X.stack s H ⟨us, []⟩ (us ++ ds) (vs ++ dvs) Q E hr I.Kn (hb s us I.kIn hl) r2 h) fun r s' hq => ?_)
 cases r with
 | error e => exact hx pins σ H s e s' I hq
 | ok fl =>
  cases fl with
  | ret u => exact I.after hq
  | next => exact False.elim hq
  | brk => exact False.elim hq
  | cont => exact False.elim hq
theorem ER (F : jc X.prog X.w X.K X.mg X.base CX k f fd ps sp) (hr : dj k X.A) (hg : Gl X x) (hm : X.mg x = some (.ref f)) (hk : PySem.W.keepIn X.K (.ref f) = true) (hb : Binds X.K fd ps ds) (hd : Vals dvs ds) (hx : Passes CX X E)
  (ha : PA X (e :: es) t) (hdb : (x == ("__debug__" : Str)) = false := by decide) (he : starEach (e :: es) X.env = (false, eval e X.env) :: starEach es X.env := by rfl) (hpl : (backTo pos (starEach es X.env)).any (·.1) = false := by rfl) :
  PE X (.Call (.Name x p) (e :: es) [] pos) (Bh sp dvs E t) := by
 intro pins s σ H Q I h
 refine wpAny_Call_Name_kw (sx I hg hm ?_ hdb)
 refine PySem.W.callWith_K (h₀ := X.base) I.ok.mod.kin hk (thn (ha pos pins s σ H _ I h) fun us s1 ⟨vs, H1, I1, r, q⟩ => ⟨I1.kIn, ?_⟩) he hpl
 exact wJ F hr hb hd hx I1 r q
theorem EL {pl : Sem Bool} (he : PE X o ta) (c : Cls X.K C) (hm : Meth X.K C m f) (F : jc X.prog X.w X.K X.mg X.base CX k f fd ps sp) (hr : dj k X.A) (hb : Binds X.K fd ps ds) (hd : Vals dvs ds) (hx : Passes CX X E) (ha : PA X (e :: es) t)
  (hst : starEach (e :: es) X.env = (false, eval e X.env) :: starEach es X.env := by rfl) (hpl : (backTo pos (starEach es X.env)).any (·.1) = false := by rfl)
  (ht : eval (.Call (.Attribute o m apos) (e :: es) [] pos) X.env = (do
   let ov ← eval o X.env
   standAt apos.atName
   let (f, first) ← holding [ov] (getMethod ov m pl)
   callWith pos f first (backTo pos (starEach (e :: es) X.env)) (backToKw pos (keywordEach [] X.env))) := by rfl) :
  PE X (.Call (.Attribute o m apos) (e :: es) [] pos) (qA C m sp dvs E ta t) := by
 intro pins s σ H Q I h
 refine PySem.W.methodCall_KW (pl := pl) (thn (he pins s σ H _ I h) fun u s1 ⟨x, H1, I1, rx, a, dx, fs, ex, ea, l, q⟩ => ?_) ht
 subst ex
 obtain rfl : u = Value.ref a := rx
 refine oU I1 ea c hm l ?_
 refine PySem.W.callWith_K (first := [.ref a]) (h₀ := X.base) I.ok.mod.kin hm.kp (thn (ha pos pins s1 σ H1 _ I1 q) fun us s2 ⟨vs, H2, I2, r, q2⟩ => ⟨I2.kIn, ?_⟩) hst hpl
 exact wJ (us := .ref a :: us) (vs := .ref a :: vs) F hr hb hd hx I2 (.cons rfl r) q2
theorem B0 {pl : Sem Bool} (he : PE X o ta) (c : Cls X.K C) (hm : Meth X.K C m f) (F : jc X.prog X.w X.K X.mg X.base CX k f fd ps sp) (hr : dj k X.A) (hb : Binds X.K fd ps ds) (hd : Vals dvs ds) (hx : Passes CX X E)
  (ht : eval (.Call (.Attribute o m apos) [] [] pos) X.env = (do
   let ov ← eval o X.env
   standAt apos.atName
   let (f, first) ← holding [ov] (getMethod ov m pl)
   callWith pos f first (backTo pos (starEach [] X.env)) (backToKw pos (keywordEach [] X.env))) := by rfl) :
  PE X (.Call (.Attribute o m apos) [] [] pos) (qA C m sp dvs E ta fL) := by
 intro pins s σ H Q I h
 refine PySem.W.methodCall_KW (pl := pl) (thn (he pins s σ H _ I h) fun u s1 ⟨x, H1, I1, rx, a, dx, fs, ex, ea, l, q⟩ => ?_) ht
 subst ex
 obtain rfl : u = Value.ref a := rx
 refine oU I1 ea c hm l ?_
 exact PySem.W.callWith_K0 (first := [.ref a]) I1.kIn hm.kp (wJ (us := [.ref a]) (vs := [.ref a]) F hr hb hd hx I1 (.cons rfl .nil) q)
structure Mk (K : PySem.W.Frag) (C f : Addr) : Prop where
 makes : PySem.W.makesIn K C = true
 init : PySem.W.findIn K (.ref C) "__init__" = some (some (.ref f))
 fn : PySem.W.isFn K (.ref f) = true
 kp : PySem.W.keepIn K (.ref C) = true
theorem BC {pins : List (Addr × Obj)} {σ : St} {H : Hp} {s : Shared} {Q : VK} {us : List Value} {vs : List V} (M : Mk X.K C f) (F : jc X.prog X.w X.K X.mg X.base CX k f fd ps sp) (hr : dj (k + 1) X.A) (hb : Binds X.K fd ps ds) (hd : Vals dvs ds)
  (hx : Passes CX X E) (I : Inv X pins σ H s) (r : Vals vs us)
  (h : ∀ x dx, H x = none -> H dx = none -> dx ≠ x -> sp (.ref x :: (vs ++ dvs)) (upd (upd H dx (.own x)) x (.ins C dx [])) (fun v H2 => v = .non /\ Q (.ref x) H2) E) :
  wpAny (model X.prog X.w) X.A (call (.ref C) us) (EP X pins σ Q) X.xe s := by
 have hq := h (s.heap.objs.size + 1) s.heap.objs.size (I.hok.fresh (Nat.le_succ _)) (I.hok.fresh (zAt _)) (Nat.ne_of_lt (zBs _))
 have I2 := Inv.made (C := C) I
 have r2 : Vals (V.ref (s.heap.objs.size + 1) :: (vs ++ dvs)) (Value.ref (s.heap.objs.size + 1) :: (us ++ ds)) := .cons rfl (r.append hd)
 have hl : (Value.ref (s.heap.objs.size + 1) :: us ++ ds).length = ps.length := by
  have e := r2.length
  rw [F.len _ _ _ _ hq] at e
  exact e.symm
 refine wpAny_call (CI (f := f) I.kIn M.makes M.init (beq_iff_eq.mp M.fn) (codeAny_mono (F.run _ X.stack _ _ ⟨Value.ref (s.heap.objs.size + 1) :: us, []⟩ (Value.ref (s.heap.objs.size + 1) :: (us ++ ds)) _ _ E (hr.make C us [])
  (I2.Kn.make C us []) (hb _ (Value.ref (s.heap.objs.size + 1) :: us) I2.kIn hl) r2 hq) fun r s' hq' => ?_))
 cases r with
 | error e => exact hx pins σ _ _ e s' I2 hq'
 | ok fl =>
  cases fl with
  | ret u =>
   obtain ⟨v, H', I3, rv, ev, q3⟩ := I2.after hq'
   subst ev
   exact ⟨rv, ⟨V.ref (s.heap.objs.size + 1), H', I3, rfl, q3⟩⟩
  | next => exact False.elim hq'
  | brk => exact False.elim hq'
  | cont => exact False.elim hq'
theorem B1 (M : Mk X.K C f) (F : jc X.prog X.w X.K X.mg X.base CX k f fd ps sp) (hr : dj (k + 1) X.A) (hg : Gl X x) (hm : X.mg x = some (.ref C)) (hb : Binds X.K fd ps ds) (hd : Vals dvs ds) (hx : Passes CX X E)
  (hdb : (x == ("__debug__" : Str)) = false := by decide) : PE X (.Call (.Name x p) [] [] pos) (Gu C sp dvs E fL) := by
 intro pins s σ H Q I h
 refine wpAny_Call_Name_kw (sx I hg hm ?_ hdb)
 exact PySem.W.callWith_K0 I.kIn M.kp (BC (us := []) M F hr hb hd hx I .nil h)
end
section
variable {X : Cx} {CX : CXT} {k : Nat} {f C : Addr} {fd : FuncData} {ps ks : List Str} {sp : Sp} {E : XK} {x m : Str} {p pos apos LW : Pos} {e o : Expr} {es : List Expr} {kws : List Keyword} {te ta : TE} {t tk : TA} {nm : Option Str}
variable {g : List Value -> List Value -> List Value} {gV : List V -> List V -> List V}
end
structure gY (N P : List Str) (sc : Scope) : Prop where
 kind : sc.kind = .function
 co : sc.isCoroutine = false
 gen : sc.isGenerator = false
 nd : N.Nodup
 pre : N.take P.length = P
 par : ∀ x ∈ P, sc.names.lookup x = some .local \/ sc.names.lookup x = some .cell
 HG : ∀ y ∈ sc.names, y.2 ≠ .free
theorem rg {kindOf : Str -> Option NameKind} {x : Str} : ∀ {binds : List (Str × Value)} {m : Str -> Option Value}, (∀ v, (x, v) ∉ binds) -> bindL kindOf binds m x = m x
 | [], _, _ => rfl
 | (n, v) :: r, m, h => by
  unfold bindL
  rw [rg fun w hw => h w (zAj _ hw)]
  split
  ·have : x ≠ n := by rintro rfl; exact h v zAg
   simp [this]
  ·rfl
theorem rj {kindOf : Str -> Option NameKind} {x : Str} : ∀ {binds : List (Str × Value)} {m : Str -> Option Value}, (∀ v, (x, v) ∉ binds) -> bindC kindOf binds m x = m x
 | [], _, _ => rfl
 | (n, v) :: r, m, h => by
  unfold bindC
  rw [rj fun w hw => h w (zAj _ hw)]
  split
  ·rfl
  ·have : x ≠ n := by rintro rfl; exact h v zAg
   simp [this]
theorem rh {kindOf : Str -> Option NameKind} {x : Str} {v : Value} : ∀ {P : List Str} {vs : List Value} {i : Nat} {m : Str -> Option Value}, P.Nodup -> P[i]? = some x -> vs[i]? = some v -> kindOf x = some .local →
  bindL kindOf (P.zip vs) m x = some v
 | [], _, _, _, _, h, _, _ => by simp at h
 | _ :: _, [], _, _, _, _, h, _ => by simp at h
 | p :: P, w :: vs, 0, m, nd, h1, h2, hk => by
  simp at h1 h2; subst h1; subst h2
  show bindL kindOf ((p, w) :: P.zip vs) m p = _
  unfold bindL
  rw [rg fun v hv => (zBv.mp nd).1 (List.of_mem_zip hv).1, if_pos hk]
  simp
 | p :: P, w :: vs, i + 1, m, nd, h1, h2, hk => by
  show bindL kindOf ((p, w) :: P.zip vs) m x = _
  unfold bindL
  exact rh (i := i) (zBv.mp nd).2 (by simpa using h1) (by simpa using h2) hk
theorem rl {kindOf : Str -> Option NameKind} {x : Str} {v : Value} : ∀ {P : List Str} {vs : List Value} {i : Nat} {m : Str -> Option Value}, P.Nodup -> P[i]? = some x -> vs[i]? = some v -> kindOf x ≠ some .local →
  bindC kindOf (P.zip vs) m x = some v
 | [], _, _, _, _, h, _, _ => by simp at h
 | _ :: _, [], _, _, _, _, h, _ => by simp at h
 | p :: P, w :: vs, 0, m, nd, h1, h2, hk => by
  simp at h1 h2; subst h1; subst h2
  show bindC kindOf ((p, w) :: P.zip vs) m p = _
  unfold bindC
  rw [rj fun v hv => (zBv.mp nd).1 (List.of_mem_zip hv).1, if_neg hk]
  simp
 | p :: P, w :: vs, i + 1, m, nd, h1, h2, hk => by
  show bindC kindOf ((p, w) :: P.zip vs) m x = _
  unfold bindC
  exact rl (i := i) (zBv.mp nd).2 (by simpa using h1) (by simpa using h2) hk
def start (N : List Str) (vs : List V) : St := vs.map some ++ List.replicate (N.length - vs.length) none
def x3 (CX : CXT) (P : Program) (w : World) (K : PySem.W.Frag) (mg : Str -> Option Value) (base : Heap) (N : List Str) (qual : Str) (scope : Scope) (f : Addr) (cd : Value) (A : Around) (outer : List Env) (s : Shared) (H : Hp) (E : XK) : Cx where
 prog := P
 w := w
 K := K
 mg := mg
 base := base
 A := A.deeper (envOfC qual scope s.heap.objs.size f cd)
 N := N
 s_0 := s
 H_0 := H
 env := envOfC qual scope s.heap.objs.size f cd
 outer := outer
 stack := envOfC qual scope s.heap.objs.size f cd :: outer
 ex := []
 calm := true
 fn := fun _ => true
 pn := []
 xe := fun e s' => wpAny (model P w) (A.deeper (envOfC qual scope s.heap.objs.size f cd)) (leaving (envOfC qual scope s.heap.objs.size f cd) e) (fun _ s'' => CX outer H s E e s'') (fun e' s'' => CX outer H s E e' s'') s'
theorem vM {sc : Scope} {n : Nat} {x : Str} (h : sc.names.lookup x = some .cell) : ∃ c, (cellsFrom n sc.names []).lookup x = some c := by
 have q := PySem.W.cellsFrom_some sc.names n [] (.inl h)
 exact Option.isSome_iff_exists.mp q
theorem AA {CX : CXT} {P : Program} {w : World} {K : PySem.W.Frag} {mg : Str -> Option Value} {base : Heap} {N ps : List Str} {qual : Str} {scope : Scope} {f : Addr} {cd : Value} {A : Around} {outer : List Env} {s s1 : Shared} {H : Hp} {E : XK} {us : List Value} {vs : List V}
  (S : gY N ps scope) (hd : A.handled = none) (e0 : yp P w K mg base A outer s H) (hl : vs.length = ps.length) (r : Vals vs us)
  (x : InCallC s s.heap.objs.size (bindL (envOfC qual scope s.heap.objs.size f cd).kindOf (ps.zip us) fun _ => none) (cellsFrom (s.heap.objs.size + 1) scope.names []) (bindC (envOfC qual scope s.heap.objs.size f cd).kindOf (ps.zip us) fun _ => none) s1) :
  Inv (x3 CX P w K mg base N qual scope f cd A outer s H E) [] (start N vs) H s1 := by
 have hpl : ps.length <= N.length := by have := congrArg List.length S.pre; rw [zBo] at this; omega
 obtain ⟨h1, tk, rfl, hk⟩ := x.done
 have noA : ∀ b : Addr, b ∉ (x3 CX P w K mg base N qual scope f cd A outer s H E).ex := fun b z => absurd (show b ∈ ([] : List Addr) from z) (by simp)
 refine ⟨⟨e0.mod, S.kind, rfl, rfl, zAt _, fun y z c h1 h2 => ?_, fun y hy => ?_, fun y c _ h => ?_, fun _ => hd, Around.frames_deeper e0.frames, .inr ⟨rfl, rfl⟩, fun b z => absurd z (noA b), e0.bs, e0.bsz, fun b _ _ => noA b, fun b z => absurd z (noA b), e0.mO, e0.frf⟩,
  rfl, e0.bare, Un.kept hk, ⟨_, x.toInCall.ns, fun i y v h1 h2 h3 => ?_⟩, fun y c h => ⟨_, x.cell y c h⟩, e0.hok.fresh (zAt _), fun y c h => ?_, fun p hp => absurd (show p ∈ ([] : List (Addr × Obj)) from hp) (by simp), e0.hok.kept hk, ?_⟩
 ·exact name_of_addr x.apart (PySem.mem_of_lookup h1) (PySem.mem_of_lookup h2)
 ·have hy : scope.names.lookup y = some .cell \/ scope.names.lookup y = some .free := hy
  rcases hy with hy | hy
  ·exact vM hy
  ·exact absurd rfl (S.HG _ (PySem.mem_of_lookup hy))
 ·exact zCf (x.above y c (PySem.mem_of_lookup h))
 ·have hi : i < vs.length := by
   unfold start at h2
   by_cases hi : i < vs.length
   ·exact hi
   ·rw [zAx (by simpa using hi)] at h2
    rw [List.getElem?_replicate] at h2
    split at h2 <;> cases h2
  have ha : vs[i]? = some v := by
   unfold start at h2
   rw [zAy (by simpa using hi), zAh] at h2
   cases e : vs[i]? with
   | none => rw [e] at h2; cases h2
   | some a => rw [e] at h2; cases h2; rfl
  obtain ⟨u, hu, rv⟩ := r.get ha
  have hp : ps[i]? = some y := by
   rw [← S.pre, List.getElem?_take_of_lt (by omega)]; exact h1
  have ndP : ps.Nodup := by rw [← S.pre]; exact S.nd.sublist (List.take_sublist _ _)
  refine ⟨u, rv, ?_⟩
  rcases S.par y (zAs hp) with k | k
  ·exact .inl ⟨k, rh ndP hp hu k⟩
  ·obtain ⟨c, e⟩ := vM (n := s.heap.objs.size + 1) k
   refine .inr ⟨.inl k, c, e, ?_⟩
   have q := x.cell y c e
   rw [rl ndP hp hu (by show scope.names.lookup y ≠ _; rw [k]; decide)] at q
   exact q
 ·exact e0.hok.fresh (zCf (x.above y c (PySem.mem_of_lookup h)))
 ·unfold start
  show _ = N.length
  rw [zAi, zAa, List.length_replicate]
  omega
theorem Kj {CX : CXT} {P : Program} {w : World} {K : PySem.W.Frag} {mg : Str -> Option Value} {base : Heap} {k : Nat} {f : Addr} {name qual : Str} {params : Arguments} {body : List Stmt} {scope : Scope} {dV kV doc pm cdv ct oc : Value} {an od : Option Addr}
  {osl : Array (Option Value)} {N ps : List Str} {sp : Sp} (lk : K.lookup f = some ⟨oc, od, .func (PySem.W.fnOf name qual params body scope dV kV doc pm an cdv ct), osl⟩) (hcd : PySem.W.codeIn K cdv qual = true) (S : gY N ps scope)
  (len : ∀ vs H Q E, sp vs H Q E -> vs.length = ps.length)
  (C5 : ∀ (A : Around) (outer : List Env) (s : Shared) (H : Hp) (vs : List V) (Q : VK) (E : XK), dj k (A.deeper (envOfC qual scope s.heap.objs.size f cdv)) -> sp vs H Q E →
   ∃ t, PSs (x3 CX P w K mg base N qual scope f cdv A outer s H E) body t /\ t { nx := fun _ H' => Q .non H', rt := Q } (start N vs) H) :
  jc P w K mg base CX (k + 1) f (PySem.W.fnOf name qual params body scope dV kV doc pm an cdv ct) ps sp := by
 refine ⟨len, fun A outer s H args us vs Q E hr e0 hb r hsp => ?_⟩
 have hl := len _ _ _ _ hsp
 have KX : K.In s.heap := e0.mod.kin.keeps fun b o e => (e0.bs b o e).1
 have lim : s.heap.NoLimit := e0.mod.nolimit.keeps fun b o e => (e0.bs b o e).1
 have Kc : ∀ y ∈ ps.zip us, scope.names.lookup y.1 = some .local \/ (scope.names.lookup y.1 = some .cell /\ ((cellsFrom (s.heap.objs.size + 1) scope.names []).lookup y.1).isSome = true) := fun ⟨n, v⟩ hy => by
  rcases S.par n (List.of_mem_zip hy).1 with q | q
  ·exact .inl q
  ·exact .inr ⟨q, PySem.W.cellsFrom_some _ _ _ (.inl q)⟩
 refine codeAny_call_function hr.depth (KX _ _ lk) rfl S.co S.gen rfl (PySem.W.codeRec_of KX hcd) (hb _ _ _ _ ?_)
 refine wpAny_newFunctionEnv_cells S.kind Kc fun env he s1 x => ?_
 subst he
 refine ⟨lim.keeps x.toInCall.keep, codeAny_func ?_⟩
 obtain ⟨t, ht, hq⟩ := C5 A outer s H vs Q E (hr.deeper _) hsp
 have I : Inv (x3 CX P w K mg base N qual scope f cdv A outer s H E) [] (start N vs) H s1 := AA S hr.hd e0 hl r x
 refine wpAny_mono (ht [] s1 (start N vs) H _ I hq) (fun fl s' hs => ?_) fun e s' hs => hs
 have fin : ∀ {σ' : St} {H' : Hp} {v : V} {u : Value}, Inv (x3 CX P w K mg base N qual scope f cdv A outer s H E) [] σ' H' s' -> RelV v u -> Q v H' -> CE outer P w H s Q u s' :=
  fun {σ' H' v u} J rv q => ⟨v, H', J.os, J.bare, J.base, J.hok, rv, q⟩
 cases fl with
 | ret u =>
  obtain ⟨v, σ', H', J, rv, q⟩ := hs
  exact fin J rv q
 | next =>
  obtain ⟨σ', H', J, q⟩ := hs
  exact fin (v := V.non) (u := Value.none) J rfl q
 | brk =>
  obtain ⟨_, _, _, q⟩ := hs
  exact False.elim q
 | cont =>
  obtain ⟨_, _, _, q⟩ := hs
  exact False.elim q
section
variable {X : Cx} {x : Str} {p pos : Pos} {e : Expr} {es : List Expr} {t : TA} {id T : String} {r : List V -> Hp -> VK -> Prop}
def tCB (r : List V -> Hp -> VK -> Prop) (t : TA) : TE := fun σ H Q => t σ H fun vs H1 => r vs H1 Q
theorem uO (hc : bY X (.builtin id) r) (hg : Gl X x) (hm : X.mg x = none) (hv : bootBuiltins x = some (.builtin id)) (ha : PA X (e :: es) t) (hn : x ≠ "__name__" := by decide) (hdb : (x == ("__debug__" : Str)) = false := by decide)
  (he : starEach (e :: es) X.env = (false, eval e X.env) :: starEach es X.env := by rfl) (hpl : (backTo pos (starEach es X.env)).any (·.1) = false := by rfl) : PE X (.Call (.Name x p) (e :: es) [] pos) (tCB r t) := by
 intro pins s σ H Q I h
 refine wpAny_Call_Name_kw (ow I hg hm hv ?_ hn hdb)
 exact PyProof.Rows.callWith_builtin1 (thn (ha pos pins s σ H _ I h) fun us s1 ⟨vs, H1, I1, r1, q1⟩ => hc pins s1 σ H1 vs us Q I1 r1 q1) he hpl
theorem bZ (hc : bY X (.type T) r) (hg : Gl X x) (hm : X.mg x = none) (hv : bootBuiltins x = some (.type T)) (ha : PA X (e :: es) t) (hn : x ≠ "__name__" := by decide) (hdb : (x == ("__debug__" : Str)) = false := by decide)
  (he : starEach (e :: es) X.env = (false, eval e X.env) :: starEach es X.env := by rfl) (hpl : (backTo pos (starEach es X.env)).any (·.1) = false := by rfl) : PE X (.Call (.Name x p) (e :: es) [] pos) (tCB r t) := by
 intro pins s σ H Q I h
 refine wpAny_Call_Name_kw (ow I hg hm hv ?_ hn hdb)
 exact PyProof.Rows.callWith_type1 (thn (ha pos pins s σ H _ I h) fun us s1 ⟨vs, H1, I1, r1, q1⟩ => hc pins s1 σ H1 vs us Q I1 r1 q1) he hpl
end
end L2
namespace HT
open PySem PyProof.Rows
section
open PySem.SeqAt
open PySem.AutoSeq1 (wpAny_loadPart')
open PySem.MeetsSeq PySem.MeetsSeq2 PySem.MeetsSeq3
end
section
variable {prog : Program} {w : World} {A : Around} {E : Value -> Shared -> Prop} {s : Shared}
def sIx (n d : Nat) : Option Int -> Nat
 | none => d
 | some v => if v < 0 then (v + (n : Int)).toNat else min v.toNat n
theorem rL (n d k : Nat) : sIx n d (some (k : Int)) = min k n := by
 show (if (k : Int) < 0 then ((k : Int) + (n : Int)).toNat else min (k : Int).toNat n) = min k n
 rw [if_neg (by omega), zAl]
end
end HT
namespace L2
open PySem PySem.Spec PyProof.Rows
abbrev TO := St -> Hp -> (Option Int -> Hp -> Prop) -> Prop
def PO (X : Cx) (e : Option Expr) (t : TO) : Prop :=
 ∀ (pins : List (Addr × Obj)) (s : Shared) (σ : St) (H : Hp) (Q : Option Int -> Hp -> Prop), Inv X pins σ H s -> t σ H Q →
  wpAny (model X.prog X.w) X.A (evalPart e X.env) (fun u s' => ∃ o H', Inv X pins σ H' s' /\ IsPart u o /\ Q o H') X.xe s
def DV : TO := fun _ H Q => Q none H
def Bg (t : TE) : TO := fun σ H Q => t σ H fun x H1 => ∃ i, x = .int i /\ Q (some i) H1
theorem intsAre_of {ns : List Int} : ∀ {us : List Value}, Vals (ns.map V.int) us -> IntsAre us ns := by
 induction ns with
 | nil => intro us r; rw [List.map_nil] at r; cases r; exact .nil
 | cons n ns ih =>
  intro us r
  rw [List.map_cons] at r
  cases r with
  | cons r1 r2 =>
   obtain ⟨t, e⟩ := r1
   subst e
   exact .cons n t (ih r2)
section
variable {X : Cx} {e : Expr} {te : TE} {lo hi : Option Expr} {tl th : TO} {pos p2 : Pos}
theorem EJ : PO X none DV := by
 intro pins s σ H Q I h
 rw [evalPart_none]
 exact wpAny_pure ⟨none, H, I, .none, h⟩
theorem rS (h : PE X e te) : PO X (some e) (Bg te) := by
 intro pins s σ H Q I hw
 rw [evalPart_some]
 refine thn (h pins s σ H _ I hw) fun u s1 ⟨x, H1, I1, r1, q1⟩ => ?_
 obtain ⟨i, rfl, q⟩ := q1
 obtain ⟨t, rfl⟩ := r1
 exact ⟨some i, H1, I1, .int i t, q⟩
def SlR (X : Cx) (r : V -> Option Int -> Option Int -> Hp -> VK -> Prop) : Prop :=
 ∀ (pins : List (Addr × Obj)) (s : Shared) (σ : St) (H : Hp) (x : V) (v vl vu : Value) (lo hi : Option Int) (sl : Addr) (Q : VK), Inv X pins σ H s -> RelV x v -> s.heap.IsSliceOf sl vl vu .none -> IsPart vl lo -> IsPart vu hi -> r x lo hi H Q →
  ∃ T id, typeLookup (.type T) "__getitem__" = pure (some (.builtin id)) /\ s.TypeIs v T /\ wpAny (model X.prog X.w) X.A (getItem v (.ref sl)) (EP X pins σ Q) X.xe s
def tSl (r : V -> Option Int -> Option Int -> Hp -> VK -> Prop) (te : TE) (tl th : TO) : TE := fun σ H Q => te σ H fun x H1 => tl σ H1 fun l H2 => th σ H2 fun u H3 => r x l u H3 Q
theorem uN {r : V -> Option Int -> Option Int -> Hp -> VK -> Prop} (hr : SlR X r) (he : PE X e te) (hl : PO X lo tl) (hu : PO X hi th) : PE X (.Subscript e (.Slice lo hi none p2) pos) (tSl r te tl th) := by
 intro pins s σ H Q I h
 refine Subscript_ (thn (he pins s σ H _ I h) fun v s1 ⟨x, H1, I1, r1, q1⟩ => ?_)
 refine wpAny_Slice (thn (hl pins s1 σ H1 _ I1 q1) fun vl s2 ⟨l, H2, I2, pl, q2⟩ => thn (hu pins s2 σ H2 _ I2 q2) fun vu s3 ⟨u, H3, I3, pu, q3⟩ => ?_)
 rw [evalPart_none]
 refine wpAny_pure ?_
 have I4 : Inv X pins σ H3 { s3 with heap := s3.heap.push { cls := .type "slice", data := .fields #[vl, vu, .none] } } := I3.kept (t' := s3.toks) fun b ob q => Heap.get?_push_of_some _ q
 obtain ⟨T, id, hT, ht, hg⟩ := hr pins { s3 with heap := s3.heap.push { cls := .type "slice", data := .fields #[vl, vu, .none] } } σ H3 x v vl vu l u s3.heap.objs.size Q I4 r1 (Heap.IsSliceOf.new ..) pl pu q3
 show wpAny (model X.prog X.w) X.A (subscriptTail e (.Slice lo hi none p2) v (.ref s3.heap.objs.size)) (EP X pins σ Q) X.xe { s3 with heap := s3.heap.push { cls := .type "slice", data := .fields #[vl, vu, .none] } }
 exact tail_any (ops := [.ref s3.heap.objs.size, v]) ht hT hg (by with_unfolding_all rfl)
def vK (xs : List V) (lo hi : Option Int) : List V := (xs.drop (HT.sIx xs.length 0 lo)).take (HT.sIx xs.length xs.length hi - HT.sIx xs.length 0 lo)
theorem vJ (xs : List V) (lo hi : Option Int) : (vK xs lo hi).length <= xs.length := by
 unfold vK
 rw [zBo, List.length_drop]
 omega
end
def ixN (n : Nat) (i : Int) : Option Nat := if 0 <= i then (if i < n then some i.toNat else none) else if -(n : Int) <= i then some (i + n).toNat else none
def atI {α : Type} (xs : List α) (i : Int) : Option α := (ixN xs.length i).bind fun j => xs[j]?
theorem yX {n : Nat} {i : Int} {j : Nat} (h : ixN n i = some j) : seqIndex? i n = some j /\ j < n /\ -(n : Int) <= i /\ i < n := by
 unfold ixN at h
 by_cases h0 : 0 <= i
 ·rw [if_pos h0] at h
  by_cases h1 : i < n
  ·rw [if_pos h1] at h
   have e : i.toNat = j := zBl h
   exact ⟨by rw [seqIndex_of h0 h1, e], by omega, by omega, h1⟩
  ·rw [if_neg h1] at h; cases h
 ·rw [if_neg h0] at h
  by_cases h1 : -(n : Int) <= i
  ·rw [if_pos h1] at h
   have e : (i + n).toNat = j := zBl h
   exact ⟨by rw [seqIndex_neg (by omega) h1, e], by omega, h1, by omega⟩
  ·rw [if_neg h1] at h; cases h
theorem zl {α : Type} {xs : List α} {i : Int} {v : α} (h : atI xs i = some v) : ∃ j, seqIndex? i xs.length = some j /\ xs[j]? = some v /\ j < xs.length /\ -(xs.length : Int) <= i /\ i < xs.length := by
 unfold atI at h
 cases e : ixN xs.length i with
 | none => rw [e] at h; cases h
 | some j =>
  rw [e] at h
  obtain ⟨h1, h2, h3, h4⟩ := yX e
  exact ⟨j, h1, h, h2, h3, h4⟩
theorem cq {α : Type} {xs : List α} {j : Nat} {v : α} (h : xs[j]? = some v) : atI xs (j : Int) = some v := by
 have hj : j < xs.length := (zAd.mp h).1
 have e : ixN xs.length (j : Int) = some j := by
  unfold ixN
  rw [if_pos (by omega), if_pos (by omega)]; simp
 unfold atI; rw [e]; exact h
def zo (b : Expr) : Prop := ∀ o i, subscripted b false o i = operate [o, i] (getItem o i)
def IxR (X : Cx) (r : R2) : Prop :=
 ∀ (value slice : Expr) (pins : List (Addr × Obj)) (s : Shared) (σ : St) (H : Hp) (x y : V) (v u : Value) (Q : VK), Inv X pins σ H s -> RelV x v -> RelV y u -> r x y H Q →
  subscripted slice false v u = operate [v, u] (getItem v u) -> wpAny (model X.prog X.w) X.A (subscriptTail value slice v u) (EP X pins σ Q) X.xe s
def MtR (X : Cx) (id : String) (r : V -> List V -> Hp -> VK -> Prop) : Prop :=
 ∀ (pins : List (Addr × Obj)) (s : Shared) (σ : St) (H : Hp) (x : V) (xs : List V) (v : Value) (us : List Value) (Q : VK), Inv X pins σ H s -> RelV x v -> Vals xs us -> r x xs H Q →
  wpAny (model X.prog X.w) X.A (call (.builtin id) (v :: us)) (EP X pins σ Q) X.xe s
section
variable {X : Cx} {a b : Expr} {ta tb : TE} {pos : Pos}
theorem dZ {r : R2} (hr : IxR X r) (ha : PE X a ta) (hb : PE X b tb) (hs : zo b) : PE X (.Subscript a b pos) (tOp r ta tb) := by
 intro pins s σ H Q I h
 exact Subscript_ (IT ha hb I h fun v u s2 x y H2 I2 rx ry q => hr a b pins s2 σ H2 x y v u Q I2 rx ry q (hs _ _))
def Eo (K : PySem.W.Frag) : R2 := fun x y H Q => ∃ p xs i v, x = .ref p /\ y = .int i /\ SqL K H p xs /\ atI xs i = some v /\ Q v H
def Jw (K : PySem.W.Frag) : R2 := fun x y H Q => ∃ p xs i v, x = .ref p /\ y = .int i /\ SqT K H p xs /\ atI xs i = some v /\ Q v H
theorem Fz : IxR X (Eo X.K) := by
 intro value slice pins s σ H x y v u Q I rx ry h hs
 obtain ⟨p, xs, i, z, rfl, rfl, hq, he, q⟩ := h
 cases rx
 obtain ⟨t, rfl⟩ := ry
 obtain ⟨its, r, pl, hz⟩ := I.list hq
 obtain ⟨j, h1, h2, h3, h4, h5⟩ := zl he
 obtain ⟨w, ew, rw'⟩ := r.get h2
 have hl := r.length
 have hn := sv
 have fin : EP X pins σ Q w s := ⟨z, H, I, rw', q⟩
 by_cases h0 : 0 <= i
 ·have hj : i.toNat = j := by
   rw [seqIndex_of h0 h5] at h1
   exact zBl h1
  exact item_listR pl.isList h0 (by omega) (by rw [hj]; simpa using ew) fin hs
 ·have hj : (i + (its.toArray.size : Int)).toNat = j := by
   rw [seqIndex_neg (by omega) h4] at h1
   rw [List.size_toArray, ← hl]
   exact zBl h1
  exact subscriptTail_builtinR (x := w) pl.isList.typeIs slot_list_getitem.lookup
   (wpAny_getItem_list_neg (Q := fun r s' => r = w /\ EP X pins σ Q r s') pl.isList (by omega) (by rw [List.size_toArray] <;> omega) (by omega) (by rw [hj]; simpa using ew) ⟨rfl, fin⟩) hs
theorem HS : IxR X (Jw X.K) := by
 intro value slice pins s σ H x y v u Q I rx ry h hs
 obtain ⟨p, xs, i, z, rfl, rfl, hq, he, q⟩ := h
 cases rx
 obtain ⟨t, rfl⟩ := ry
 obtain ⟨its, r, pl, hz⟩ := I.tuple hq
 obtain ⟨j, h1, h2, h3, h4, h5⟩ := zl he
 obtain ⟨w, ew, rw'⟩ := r.get h2
 have hl := r.length
 have hn := sv
 have fin : EP X pins σ Q w s := ⟨z, H, I, rw', q⟩
 exact subscriptTail_builtinR (x := w) pl.typeIs slot_tuple_getitem.lookup
  (getItem_tuple (j := j) (Q := fun r s' => r = w /\ EP X pins σ Q r s') pl (by omega) (by omega) (by rw [List.size_toArray, ← hl]; exact h1) (by simpa using ew) ⟨rfl, fin⟩) hs
theorem xm (its : List Value) (n j : Nat) (u : Value) : Obj.mapSeq (·.setIfInBounds j u) { cls := .type "list", data := .seq its.toArray n } = { cls := .type "list", data := .seq (its.set j u).toArray n } := by
 simp [Obj.mapSeq]
theorem Inv.lst {pins : List (Addr × Obj)} {σ : St} {H : Hp} {s : Shared} {p : Addr} {xs : List V} (I : Inv X pins σ H s) (h : H p = some (.lst xs)) :
  ∃ (its : List Value) (n : Nat), Vals xs its /\ s.heap.get? p = some { cls := .type "list", data := .seq its.toArray n } /\ xs.length <= sizeLine := by
 obtain ⟨z, its, n, r, e⟩ := I.hok p _ h
 exact ⟨its, n, r, e, z⟩
theorem Inv.HL {pins : List (Addr × Obj)} {σ : St} {H : Hp} {s : Shared} {p : Addr} {xs ys : List V} {its its' : List Value} {n n' : Nat} {f : Obj -> Obj} (I : Inv X pins σ H s) (h : H p = some (.lst xs))
  (ho : s.heap.get? p = some { cls := .type "list", data := .seq its.toArray n }) (hf : f { cls := .type "list", data := .seq its.toArray n } = { cls := .type "list", data := .seq its'.toArray n' }) (r : Vals ys its') (hz : ys.length <= sizeLine) (t : Nat) :
  Inv X pins σ (upd H p (.lst ys)) { s with heap := s.heap.update p f, toks := t } := by
 have e : (s.heap.update p f).get? p = some { cls := .type "list", data := .seq its'.toArray n' } := by
  rw [Heap.get?_update_self f ho (by rw [hf] <;> rfl), hf]
 refine I.write (x := p) (e := p) (by rw [h]; trivial) (.inl rfl) (fun b u hb q => (Heap.get?_update_other _ _ (Ne.symm hb)).trans q) ⟨_, e⟩ ?_
 exact ⟨hz, its', n', r, e⟩
def Jt : V -> V -> V -> Hp -> (Hp -> Prop) -> Prop := fun o i v H Q => ∃ p xs k j, o = .ref p /\ i = .int k /\ H p = some (.lst xs) /\ ixN xs.length k = some j /\ Q (upd H p (.lst (xs.set j v)))
theorem set_list : KC X Jt := by
 intro pins s σ H o i v ov iv u Q I ro ri rv h
 obtain ⟨p, xs, k, j, rfl, rfl, hp, hj, q⟩ := h
 cases ro
 obtain ⟨t, rfl⟩ := ri
 obtain ⟨its, n, r, ho, hz⟩ := I.lst hp
 obtain ⟨h1, h2, h3, h4⟩ := yX hj
 have hl := r.length
 have hn := sv
 have I' : Inv X pins σ (upd H p (.lst (xs.set j v))) { s with heap := s.heap.update p (Obj.mapSeq (·.setIfInBounds j u)) } :=
  I.HL hp ho (xm its n j u) (r.set rv j) (by rw [List.length_set]; exact hz) s.toks
 by_cases h0 : 0 <= k
 ·have hk : k.toNat = j := by
   rw [seqIndex_of h0 h4] at h1
   exact zBl h1
  exact PySem.W.ki_setAt ho h0 (by omega) (by rw [List.size_toArray, ← hl]; exact h4) (by rw [hk]; exact ⟨_, I', q⟩)
 ·have hk : (k + (its.toArray.size : Int)).toNat = j := by
   rw [seqIndex_neg (by omega) h3] at h1
   rw [List.size_toArray, ← hl]
   exact zBl h1
  exact PySem.W.ki_setBack ho (by omega) (by rw [List.size_toArray, ← hl]; exact h3) (by omega) (by rw [hk]; exact ⟨_, I', q⟩)
theorem rJ (lo hi : Option Int) (n : Nat) : (sliceBounds lo hi none n).1 = ((HT.sIx n 0 lo : Nat) : Int) /\ (sliceBounds lo hi none n).2.1 = ((HT.sIx n n hi : Nat) : Int) /\ (sliceBounds lo hi none n).2.2 = 1 := by
 refine ⟨?_, ?_, rfl⟩
 ·cases lo with
  | none => simp [sliceBounds, HT.sIx]
  | some i =>
   simp only [sliceBounds, HT.sIx, Option.getD_none, show (1 : Int) > 0 by decide, if_true]
   by_cases h : i < 0
   ·simp only [h, if_true] <;> omega
   ·simp only [h, if_false] <;> omega
 ·cases hi with
  | none => simp [sliceBounds, HT.sIx]
  | some i =>
   simp only [sliceBounds, HT.sIx, Option.getD_none, show (1 : Int) > 0 by decide, if_true]
   by_cases h : i < 0
   ·simp only [h, if_true] <;> omega
   ·simp only [h, if_false] <;> omega
theorem pQ (its : List Value) (lo hi : Option Int) : slicePick its.toArray lo hi none = ((its.drop (HT.sIx its.length 0 lo)).take (HT.sIx its.length its.length hi - HT.sIx its.length 0 lo)).toArray := by
 obtain ⟨h1, h2, h3⟩ := rJ lo hi its.toArray.size
 unfold slicePick
 rw [h1, h2, h3]
 simp only [sliceRange_one, pick_run, List.size_toArray] <;> rfl
def GZ (K : PySem.W.Frag) : V -> Option Int -> Option Int -> Hp -> VK -> Prop := fun x lo hi H Q => ∃ a xs, x = .ref a /\ SqL K H a xs /\ ∀ p, H p = none -> Q (.ref p) (upd H p (.lst (vK xs lo hi)))
theorem El : SlR X (GZ X.K) := by
 intro pins s σ H x v vl vu lo hi sl Q I rx hs pl pu h
 obtain ⟨a, xs, rfl, hx, q⟩ := h
 cases rx
 obtain ⟨its, r, ht, hz⟩ := I.list hx
 have hlen := r.length
 refine ⟨"list", _, slot_list_getitem.lookup, ht.isList.typeIs, ?_⟩
 refine wpAny_getItem_list_slice ht.isList hs pl pu .none (by simp) ?_ (by rw [List.size_toArray] <;> omega)
 rw [pQ, ← hlen]
 refine ⟨.ref s.heap.objs.size, _, I.laid (t' := s.toks) (o := .lst (vK xs lo hi)) (fun b ob q => Heap.get?_push_of_some _ q) (zAt _) ?_, rfl, q _ (I.hok.fresh (zAt _))⟩
 exact ⟨zAn (vJ xs lo hi) hz, _, 0, (r.drop (HT.sIx xs.length 0 lo)).take (HT.sIx xs.length xs.length hi - HT.sIx xs.length 0 lo), Heap.get?_push_size _ rfl⟩
def gk : V -> Bool
 | .non => true
 | .bl _ => true
 | .int _ => true
 | .str _ => true
 | _ => false
def eqV : V -> V -> Bool
 | .non, .non => true
 | .bl a, .bl b => a == b
 | .bl a, .int b => (if a then 1 else 0) == b
 | .int a, .bl b => a == (if b then 1 else 0)
 | .int a, .int b => a == b
 | .str a, .str b => a == b
 | _, _ => false
theorem Il {A : Around} {s : Shared} {y x : V} {u v : Value} (ry : RelV y u) (rx : RelV x v) (fy : gk y = true) (fx : gk x = true) : SeqAt.EqAt A s u v (eqV y x) := by
 cases y with
 | non =>
  cases ry
  cases x with
  | non => cases rx; exact SeqAt.EqAt.same _
  | bl b => cases rx; exact SeqAt.EqAt.none_bool b
  | int b => obtain ⟨t, rfl⟩ := rx; exact SeqAt.EqAt.none_int b t
  | str b => obtain ⟨t, rfl⟩ := rx; exact SeqAt.EqAt.none_str b t
  | _ => exact absurd (show false = true from fx) Bool.false_ne_true
 | bl a =>
  cases ry
  cases x with
  | non => cases rx; exact SeqAt.EqAt.bool_none a
  | bl b => cases rx; exact SeqAt.EqAt.bool_bool a b
  | int b => obtain ⟨t, rfl⟩ := rx; exact SeqAt.EqAt.bool_int a b t
  | str b => obtain ⟨t, rfl⟩ := rx; exact SeqAt.EqAt.bool_str a b t
  | _ => exact absurd (show false = true from fx) Bool.false_ne_true
 | int a =>
  obtain ⟨t', rfl⟩ := ry
  cases x with
  | non => cases rx; exact SeqAt.EqAt.int_none a t'
  | bl b => cases rx; exact SeqAt.EqAt.int_bool a t' b
  | int b => obtain ⟨t, rfl⟩ := rx; exact SeqAt.EqAt.int_int a t' b t
  | str b => obtain ⟨t, rfl⟩ := rx; exact SeqAt.EqAt.int_str a t' b t
  | _ => exact absurd (show false = true from fx) Bool.false_ne_true
 | str a =>
  obtain ⟨t', rfl⟩ := ry
  cases x with
  | non => cases rx; exact SeqAt.EqAt.str_none a t'
  | bl b => cases rx; exact SeqAt.EqAt.str_bool a t' b
  | int b => obtain ⟨t, rfl⟩ := rx; exact SeqAt.EqAt.str_int a t' b t
  | str b => obtain ⟨t, rfl⟩ := rx; exact SeqAt.EqAt.str_str a t' b t
  | _ => exact absurd (show false = true from fx) Bool.false_ne_true
 | _ => exact absurd (show false = true from fy) Bool.false_ne_true
def eqU (x : V) (u : Value) : Bool := match u with
 | .none => eqV .non x
 | .bool b => eqV (.bl b) x
 | .int i _ => eqV (.int i) x
 | .str z _ => eqV (.str z) x
 | _ => false
theorem tK {x y : V} {u : Value} (r : RelV y u) (f : gk y = true) : eqU x u = eqV y x := by
 cases y with
 | non => cases r; rfl
 | bl b => cases r; rfl
 | int i => obtain ⟨t, rfl⟩ := r; rfl
 | str z => obtain ⟨t, rfl⟩ := r; rfl
 | _ => exact absurd (show false = true from f) Bool.false_ne_true
theorem kN {x : V} : ∀ {xs : List V} {us : List Value}, Vals xs us -> xs.all gk = true -> us.any (eqU x) = xs.any fun y => eqV y x
 | _, _, .nil, _ => rfl
 | y :: xs, u :: us, .cons r t, f => by
  rw [List.all_cons, zBg] at f
  rw [List.any_cons, List.any_cons, tK r f.1, kN t f.2]
theorem gg {A : Around} {s : Shared} {x : V} {v : Value} (rx : RelV x v) (fx : gk x = true) : ∀ {xs : List V} {us : List Value}, Vals xs us -> xs.all gk = true -> ∀ u ∈ us, SeqAt.EqAt A s u v (eqU x u)
 | _, _, .nil, _ => fun u hu => by cases hu
 | y :: xs, u :: us, .cons r t, f => fun u' hu => by
  rw [List.all_cons, zBg] at f
  rcases zAv.mp hu with rfl | hu
  ·rw [tK r f.1]; exact Il r rx f.1 fx
  ·exact gg rx fx t f.2 u' hu
def inV (x : V) (xs : List V) : Bool := xs.any fun y => eqV y x
def rIn (K : PySem.W.Frag) (neg : Bool) : R2 := fun x y H Q => ∃ p xs, y = .ref p /\ (SqL K H p xs \/ SqT K H p xs) /\ gk x = true /\ xs.all gk = true /\ Q (.bl (if neg then !inV x xs else inV x xs)) H
theorem Ac : OpR X (compareOp .In) (rIn X.K false) := by
 intro pins s σ H x y v u Q I rx ry h
 obtain ⟨p, xs, rfl, hq, fx, fs, q⟩ := h
 cases ry
 rcases hq with hq | hq
 ·obtain ⟨its, r, pl, hz⟩ := I.list hq
  refine SeqAt.in_listAt (eqU x) pl.isList (fun w hw => gg rx fx r fs w (by simpa using hw)) ⟨.bl _, H, I, rfl, ?_⟩
  rw [show its.toArray.any (eqU x) = its.any (eqU x) by simp, kN r fs]
  exact q
 ·obtain ⟨its, r, pl, hz⟩ := I.tuple hq
  refine SeqAt.in_tupleAt (eqU x) pl (fun w hw => gg rx fx r fs w (by simpa using hw)) ⟨.bl _, H, I, rfl, ?_⟩
  rw [show its.toArray.any (eqU x) = its.any (eqU x) by simp, kN r fs]
  exact q
theorem rV : OpR X (compareOp .NotIn) (rIn X.K true) := by
 intro pins s σ H x y v u Q I rx ry h
 obtain ⟨p, xs, rfl, hq, fx, fs, q⟩ := h
 cases ry
 rcases hq with hq | hq
 ·obtain ⟨its, r, pl, hz⟩ := I.list hq
  refine SeqAt.notIn_listAt (eqU x) pl.isList (fun w hw => gg rx fx r fs w (by simpa using hw)) ⟨.bl _, H, I, rfl, ?_⟩
  rw [show its.toArray.any (eqU x) = its.any (eqU x) by simp, kN r fs]
  exact q
 ·obtain ⟨its, r, pl, hz⟩ := I.tuple hq
  refine SeqAt.notIn_tupleAt (eqU x) pl (fun w hw => gg rx fx r fs w (by simpa using hw)) ⟨.bl _, H, I, rfl, ?_⟩
  rw [show its.toArray.any (eqU x) = its.any (eqU x) by simp, kN r fs]
  exact q
theorem tV : bY X (.builtin "len") (fun xs H Q => ∃ p ys, xs = [.ref p] /\ (SqL X.K H p ys \/ SqT X.K H p ys) /\ Q (.int ys.length) H) := by
 intro pins s σ H xs us Q I r h
 obtain ⟨p, ys, rfl, hq, q⟩ := h
 obtain ⟨u, rfl, rx⟩ := vals1 r
 cases rx
 have hn := sv
 rcases hq with hq | hq
 ·obtain ⟨its, r', pl, hz⟩ := I.list hq
  have hlen := r'.length
  exact Calls.call_len_list pl.isList (by simp only [List.size_toArray] <;> omega) ⟨.int ys.length, H, I.tok _, ⟨s.toks + 1, by rw [List.size_toArray, hlen]⟩, q⟩
 ·obtain ⟨its, r', pl, hz⟩ := I.tuple hq
  have hlen := r'.length
  exact len_tuple pl (by simp only [List.size_toArray] <;> omega) ⟨.int ys.length, H, I.tok _, ⟨s.toks + 1, by rw [List.size_toArray, hlen]⟩, q⟩
theorem tU : bY X (.type "list") (fun xs H Q => ∃ p ys, xs = [.ref p] /\ (SqL X.K H p ys \/ SqT X.K H p ys) /\ ∀ l, H l = none -> Q (.ref l) (upd H l (.lst ys))) := by
 intro pins s σ H xs us Q I r h
 obtain ⟨p, ys, rfl, hq, q⟩ := h
 obtain ⟨u, rfl, rx⟩ := vals1 r
 cases rx
 have fin : ∀ (its : List Value), Vals ys its -> ys.length <= sizeLine -> ∀ (h' : Heap) (c' : Nat), (∀ b o', s.heap.get? b = some o' -> h'.get? b = some o') →
   h'.get? s.heap.objs.size = some { cls := .type "list", dict := none, data := .seq its.toArray c', slots := #[] } -> EP X pins σ Q (.ref s.heap.objs.size) { s with heap := h' } := fun its r' hz h' c' kp e =>
  ⟨.ref s.heap.objs.size, _, I.laid (t' := s.toks) kp (zAt _) (show cG X.prog X.w _ h' _ (.lst ys) from ⟨hz, its, c', r', e⟩), rfl, q _ (I.hok.fresh (zAt _))⟩
 rcases hq with hq | hq
 ·obtain ⟨its, r', pl, hz⟩ := I.list hq
  have hlen := r'.length
  obtain ⟨o, ho, hc, n, hd⟩ := pl.isList
  exact call_list_seq p (.inl rfl) ho hc hd (fun h' c' kp e => fin its r' hz h' c' kp e) (by simp only [List.size_toArray] <;> omega)
 ·obtain ⟨its, r', pl, hz⟩ := I.tuple hq
  have hlen := r'.length
  obtain ⟨o, ho, hc, n, hd⟩ := pl
  exact call_list_seq p (.inr rfl) ho hc hd (fun h' c' kp e => fin its r' hz h' c' kp e) (by simp only [List.size_toArray] <;> omega)
theorem qo : bY X (.type "tuple") (fun xs H Q => ∃ p ys, xs = [.ref p] /\ ((SqL X.K H p ys /\ ∀ l, H l = none -> Q (.ref l) (upd H l (.tup ys))) \/ (SqT X.K H p ys /\ Q (.ref p) H))) := by
 intro pins s σ H xs us Q I r h
 obtain ⟨p, ys, rfl, h⟩ := h
 obtain ⟨u, rfl, rx⟩ := vals1 r
 cases rx
 rcases h with ⟨hq, q⟩ | ⟨hq, q⟩
 ·obtain ⟨its, r', pl, hz⟩ := I.list hq
  have hlen := r'.length
  refine call_tuple_list pl.isList (fun h' kp => ?_) (by simp only [List.size_toArray] <;> omega)
  have I1 : Inv X pins σ H { s with heap := h' } := I.kept (t' := s.toks) kp
  have I2 : Inv X pins σ (upd H h'.objs.size (.tup ys)) { s with heap := h'.push { cls := .type "tuple", data := .seq its.toArray } } :=
   I1.laid (t' := s.toks) (fun b o e => Heap.get?_push_of_some _ e) (zAt _) (show cG X.prog X.w _ _ _ (.tup ys) from ⟨hz, its, r', IsTup.new _ _⟩)
  exact ⟨.ref h'.objs.size, _, I2, rfl, q _ (I1.hok.fresh (zAt _))⟩
 ·obtain ⟨its, r', pl, hz⟩ := I.tuple hq
  exact call_tuple_same pl ⟨.ref p, H, I, rfl, q⟩
def tyV (K : PySem.W.Frag) (T : String) (x : V) (H : Hp) : Prop := match x with
 | .str _ => T = "str"
 | .int _ => T = "int"
 | .ref p => (T = "list" /\ ∃ xs, SqL K H p xs) \/ (T = "tuple" /\ ∃ o, K.lookup p = some o /\ o.cls = .type "tuple" /\ o.dict = none) ∨
   (T = "dict" /\ ((∃ kvs, H p = some (.dK kvs)) \/ ∃ kvs, H p = some (.dT kvs))) \/ (T = "set" /\ ∃ S n, H p = some (.set S n))
 | _ => False
theorem Bb {pins : List (Addr × Obj)} {σ : St} {H : Hp} {s : Shared} {T : String} {x : V} {v : Value} (I : Inv X pins σ H s) (r : RelV x v) (ty : tyV X.K T x H) :
  s.TypeIs v T /\ ∀ a, v = .ref a -> ∃ ob, s.heap.get? a = some ob /\ ob.dict = none := by
 cases x with
 | str z =>
  obtain ⟨t, rfl⟩ := r
  cases (show T = "str" from ty)
  exact ⟨typeIs_str s z t, fun _ e => nomatch e⟩
 | int i =>
  obtain ⟨t, rfl⟩ := r
  cases (show T = "int" from ty)
  exact ⟨typeIs_int s i t, fun _ e => nomatch e⟩
 | ref p =>
  cases r
  rcases ty with ⟨rfl, xs, hq⟩ | ⟨rfl, o, hk, hc, hd⟩ | ⟨rfl, hk⟩ | ⟨rfl, S, n, hk⟩
  ·obtain ⟨its, _, pl, _⟩ := I.list hq
   refine ⟨pl.isList.typeIs, fun a e => ?_⟩
   cases e
   obtain ⟨o, n, e, c, hd, _⟩ := pl
   exact ⟨o, e, hd⟩
  ·refine ⟨⟨o, I.kIn p o hk, hc⟩, fun a e => ?_⟩
   cases e
   exact ⟨o, I.kIn _ o hk, hd⟩
  ·have z : ∃ o, s.heap.get? p = some o /\ o.ExactDict := by
    rcases hk with ⟨kvs, hk⟩ | ⟨kvs, hk⟩
    ·obtain ⟨_, _, _, _, o, _, _, e, ex, _⟩ := I.hok p _ hk
     exact ⟨o, e, ex⟩
    ·obtain ⟨_, _, _, _, o, _, _, e, ex, _⟩ := I.hok p _ hk
     exact ⟨o, e, ex⟩
   obtain ⟨o, e, ex⟩ := z
   refine ⟨⟨o, e, ex.1⟩, fun a e2 => ?_⟩
   cases e2
   exact ⟨o, e, ex.2.1⟩
  ·obtain ⟨o, _, _, _, e, ex, _⟩ := I.hok p _ hk
   refine ⟨⟨o, e, ex.1⟩, fun a e2 => ?_⟩
   cases e2
   exact ⟨o, e, ex.2.1⟩
 | _ => exact False.elim ty
def Jj (K : PySem.W.Frag) (T : String) (r : V -> List V -> Hp -> VK -> Prop) (to : TE) : TE := fun σ H Q => to σ H fun x H1 => tyV K T x H1 /\ r x [] H1 Q
def tBM (K : PySem.W.Frag) (T : String) (r : V -> List V -> Hp -> VK -> Prop) (to : TE) (t : TA) : TE := fun σ H Q => to σ H fun x H1 => tyV K T x H1 /\ t σ H1 fun xs H2 => r x xs H2 Q
variable {o e : Expr} {es : List Expr} {to : TE} {t : TA} {name : Str} {apos gn : Pos} {T id : String} {r : V -> List V -> Hp -> VK -> Prop}
theorem Ho (pa : PlainAttrs T) (slot : Slot T name id) (hty : typeOf (.builtin id) = pure (.type "method_descriptor")) (hm : MtR X id r) (ho : PE X o to)
  (oS : attributeBase o name X.env (eval o X.env) = eval o X.env := by rfl) (oQ : (apos.endLine == gn.line) = true := by rfl) : PE X (.Call (.Attribute o name apos) [] [] gn) (Jj X.K T r to) := by
 intro pins s σ H Q I h
 refine wpAny_Call_method0_late oS oQ (thn (ho pins s σ H _ I h) fun v s1 ⟨x, H1, I1, r1, ty, q1⟩ => ?_)
 obtain ⟨h1, h2⟩ := Bb I1 r1 ty
 exact ⟨T, id, pa, slot, hty, h1, h2, Calls.callWith_builtin rfl (PySem.evalArgs_none (hm pins s1 σ H1 x [] v [] Q I1 r1 .nil q1))⟩
theorem JH (pa : PlainAttrs T) (slot : Slot T name id) (hty : typeOf (.builtin id) = pure (.type "method_descriptor")) (hm : MtR X id r) (ho : PE X o to) (ha : PA X (e :: es) t)
  (oS : attributeBase o name X.env (eval o X.env) = eval o X.env := by rfl)
  (qi : ((backTo gn (starEach (e :: es) X.env)).all (fun x => !x.1) && (backToKw gn (keywordEach [] X.env)).all (fun x => x.1.isSome)
   && decide ((e :: es).length + ([] : List Keyword).length + (if ([] : List Keyword).isEmpty then 0 else 1) < 30)) = true := by rfl)
  (oQ : (apos.endLine == gn.line) = true := by rfl) (hs : starEach (e :: es) X.env = (false, eval e X.env) :: starEach es X.env := by rfl) (xT : (backTo gn (starEach es X.env)).any (·.1) = false := by rfl) :
  PE X (.Call (.Attribute o name apos) (e :: es) [] gn) (tBM X.K T r to t) := by
 intro pins s σ H Q I h
 refine wpAny_Call_method_late oS qi oQ rfl (thn (ho pins s σ H _ I h) fun v s1 ⟨x, H1, I1, r1, ty, q1⟩ => ?_)
 obtain ⟨h1, h2⟩ := Bb I1 r1 ty
 refine ⟨T, id, pa, slot, hty, h1, h2, ?_⟩
 have hA := ha gn pins s1 σ H1 _ I1 q1
 rw [hs] at hA ⊢
 refine Calls.callWith_builtin (by show (false || (backTo gn (starEach es X.env)).any (·.1)) = false; rw [xT] <;> rfl) (Calls.evalArgs_plain ?_)
 exact thn hA fun us s2 ⟨vs, H2, I2, r2, q2⟩ => hm pins s2 σ H2 x vs v us Q I2 r1 r2 q2
end
def MtM (X : Cx) (id : String) (r : V -> List V -> Hp -> VK -> Prop) : Prop :=
 ∀ (pins : List (Addr × Obj)) (s : Shared) (σ : St) (H : Hp) (x : V) (xs : List V) (v : Value) (us : List Value) (Q : VK), Inv X pins σ H s -> RelV x v -> Vals xs us -> r x xs H Q →
  wpAny (model X.prog X.w) X.A (call (.builtin id) (v :: us)) (EP X pins σ Q) X.xe s
theorem Vals.one : ∀ {x : V} {us : List Value}, Vals [x] us -> ∃ u, us = [u] /\ RelV x u
 | _, _, .cons r .nil => ⟨_, rfl, r⟩
theorem Vals.zero : ∀ {us : List Value}, Vals [] us -> us = []
 | _, .nil => rfl
theorem Vals.dropLast {xs : List V} {us : List Value} (h : Vals xs us) : Vals xs.dropLast us.dropLast := by
 induction h with
 | nil => exact .nil
 | cons r t ih =>
  cases t with
  | nil => exact .nil
  | cons q t' => exact .cons r ih
theorem Vals.eraseIdx : ∀ {xs : List V} {us : List Value} (i : Nat), Vals xs us -> Vals (xs.eraseIdx i) (us.eraseIdx i)
 | _, _, _, .nil => .nil
 | _, _, 0, .cons _ t => t
 | _, _, i + 1, .cons r t => .cons r (Vals.eraseIdx i t)
theorem xY {α : Type} (l : List α) : l.eraseIdx (l.length - 1) = l.dropLast := by
 induction l with
 | nil => rfl
 | cons a r ih =>
  cases r with
  | nil => rfl
  | cons b r =>
   have e : (a :: b :: r).length - 1 = ((b :: r).length - 1) + 1 := by
    have h1 : (a :: b :: r).length = r.length + 2 := rfl
    have h2 : (b :: r).length = r.length + 1 := rfl
    omega
   rw [e, List.eraseIdx_cons_succ, ih]
   all_goals rfl
theorem qR {α : Type} : ∀ (l : List α) (i : Nat), (l.eraseIdx i).length <= l.length
 | [], _ => zAt _
 | _ :: _, 0 => Nat.le_succ _
 | _ :: r, i + 1 => Nat.succ_le_succ (qR r i)
section
variable {X : Cx} {pins : List (Addr × Obj)} {σ : St} {H : Hp} {s : Shared} {l b : Addr} {xs ys zs : List V}
theorem Inv.Fp {its its' : List Value} {n : Nat} {f : Array Value -> Array Value} {t' : Nat} (I : Inv X pins σ H s) (hH : H l = some (.lst xs))
  (e : s.heap.get? l = some { cls := .type "list", data := .seq its.toArray n }) (hf : f its.toArray = its'.toArray) (hv : Vals ys its') (hz : ys.length <= sizeLine) :
  Inv X pins σ (upd H l (.lst ys)) { s with heap := s.heap.update l (Obj.mapSeq f), toks := t' } := by
 have q := PySem.IsL.update e f
 rw [hf] at q
 refine I.write (x := l) (e := l) (by rw [hH]; exact trivial) (.inl rfl) (fun b' u hb hu => (Heap.get?_update_other s.heap (Obj.mapSeq f) (Ne.symm hb)).trans hu) ⟨_, q⟩ ?_
 exact ⟨hz, its', _, hv, q⟩
theorem Inv.KZ {its : List Value} {t' : Nat} (I : Inv X pins σ H s) (hv : Vals ys its) (hz : ys.length <= sizeLine) :
  Inv X pins σ (upd H s.heap.objs.size (.lst ys)) { s with heap := s.heap.push { cls := .type "list", data := .seq its.toArray }, toks := t' } :=
 I.laid (fun _ _ q => Heap.get?_push_of_some _ q) (zAt _) ⟨hz, its, 0, hv, Heap.get?_push_size _ rfl⟩
theorem Inv.fresh (I : Inv X pins σ H s) : H s.heap.objs.size = none := I.hok.fresh (zAt _)
theorem Inv.xu (I : Inv X pins σ H s) (hH : H l = some (.lst xs)) : xs.length <= sizeLine /\ ∃ (its : List Value) (n : Nat), Vals xs its /\ xs.length = its.length /\ s.heap.get? l = some { cls := .type "list", data := .seq its.toArray n } := by
 obtain ⟨z, its, n, r, e⟩ := I.hok l _ hH
 exact ⟨z, its, n, r, r.length, e⟩
theorem Cy {n : Nat} (h : n <= sizeLine) : Builtin.List.listTooLong n = false := by
 unfold Builtin.List.listTooLong
 exact zBm (by omega)
end
section
variable {X : Cx}
def yC : V -> List V -> Hp -> VK -> Prop := fun x vs H Q => ∃ l xs y, x = .ref l /\ vs = [y] /\ H l = some (.lst xs) /\ xs.length < sizeLine /\ Q .non (upd H l (.lst (xs ++ [y])))
theorem bH : MtM X "list.append" yC := by
 intro pins s σ H x vs v us Q I rx rv h
 obtain ⟨l, xs, y, rfl, rfl, hH, hz, q⟩ := h
 cases rx
 obtain ⟨u, rfl, ru⟩ := rv.one
 obtain ⟨z, its, n, r, hl, e⟩ := I.xu hH
 refine call_meets F.slot_list_append ⟨_, e, rfl⟩ F.entry_list_append (F.args_list_append_2 _ _) (PySem.list_append l its.toArray n u (by rw [List.size_toArray]; omega)) ⟨e, ?_⟩
 refine ⟨.non, _, I.Fp (its' := its ++ [u]) hH e (by simp) (r.append (.cons ru .nil)) ?_, rfl, q⟩
 rw [zAi, List.length_singleton]
 omega
def yB : V -> List V -> Hp -> VK -> Prop := fun x vs H Q => ∃ l b xs zs, x = .ref l /\ vs = [.ref b] /\ H l = some (.lst xs) /\ H b = some (.lst zs) /\ xs.length + zs.length <= sizeLine /\ Q .non (upd H l (.lst (xs ++ zs)))
theorem iU : MtM X "list.extend" yB := by
 intro pins s σ H x vs v us Q I rx rv h
 obtain ⟨l, b, xs, zs, rfl, rfl, hH, hB, hz, q⟩ := h
 cases rx
 obtain ⟨u, rfl, ru⟩ := rv.one
 cases ru
 obtain ⟨z, its, n, r, hl, e⟩ := I.xu hH
 obtain ⟨z2, xS, n2, r2, hl2, e2⟩ := I.xu hB
 have hsz : its.toArray.size + xS.toArray.size <= sizeLine := by rw [List.size_toArray, List.size_toArray]; omega
 have Ka : ¬ (!its.toArray.isEmpty && Builtin.List.listTooLong (its.toArray.size + xS.toArray.size)) = true := by
  rw [Cy hsz, Bool.and_false]
  exact Bool.false_ne_true
 refine call_meets F.slot_list_extend ⟨_, e, rfl⟩ F.entry_list_extend (F.args_list_extend_2 _ _)
  (AutoSeq1.list_extend_list_list_0 l its.toArray n b xS.toArray n2 Ka (by rw [List.size_toArray]; omega) (by omega)) ⟨e, e2, ?_⟩
 refine ⟨.non, _, I.Fp (its' := its ++ xS) hH e (by simp) (r.append r2) ?_, rfl, q⟩
 rw [zAi]
 omega
def KO : V -> List V -> Hp -> VK -> Prop := fun x vs H Q => ∃ l xs y, x = .ref l /\ vs = [] /\ H l = some (.lst xs) /\ xs[xs.length - 1]? = some y /\ Q y (upd H l (.lst xs.dropLast))
theorem CD : MtM X "list.pop" KO := by
 intro pins s σ H x vs v us Q I rx rv h
 obtain ⟨l, xs, y, rfl, rfl, hH, hy, q⟩ := h
 cases rx
 have hus := rv.zero
 subst hus
 obtain ⟨z, its, n, r, hl, e⟩ := I.xu hH
 obtain ⟨u, hu, ru⟩ := r.get hy
 have hy' : its.toArray[its.toArray.size - 1]? = some u := by
  show its.toArray[its.length - 1]? = some u
  rw [← Array.getElem?_toList, ← hl]
  exact hu
 refine call_meets F.slot_list_pop ⟨_, e, rfl⟩ F.entry_list_pop (F.args_list_pop_1 _) (MeetsSeq.list_pop_last l its.toArray n u hy' (by rw [List.size_toArray]; omega)) ⟨e, ?_⟩
 refine ⟨y, _, I.Fp (its' := its.dropLast) hH e ?_ r.dropLast ?_, ru, q⟩
 ·show its.toArray.eraseIdxIfInBounds (its.toArray.size - 1) = its.dropLast.toArray
  rw [List.size_toArray, List.eraseIdxIfInBounds_toArray, xY]
 ·rw [List.length_dropLast]
  omega
def G0 : V -> List V -> Hp -> VK -> Prop := fun x vs H Q => ∃ l xs i k y, x = .ref l /\ vs = [.int i] /\ H l = some (.lst xs) /\ -(2 ^ 63) <= i /\ i < 2 ^ 63 /\ seqIndex? i xs.length = some k /\ xs[k]? = some y /\ Q y (upd H l (.lst (xs.eraseIdx k)))
theorem CC : MtM X "list.pop" G0 := by
 intro pins s σ H x vs v us Q I rx rv h
 obtain ⟨l, xs, i, k, y, rfl, rfl, hH, h1, h2, hk, hy, q⟩ := h
 cases rx
 obtain ⟨u, rfl, ru⟩ := rv.one
 obtain ⟨t, rfl⟩ := ru
 obtain ⟨z, its, n, r, hl, e⟩ := I.xu hH
 obtain ⟨w, hw, rw'⟩ := r.get hy
 refine call_meets F.slot_list_pop ⟨_, e, rfl⟩ F.entry_list_pop (F.args_list_pop_2 _ _)
  (MeetsSeq.list_pop_at l its.toArray n i t k w (fitsIndex_both h1 h2) (by rw [List.size_toArray, ← hl]; exact hk) (by rw [← Array.getElem?_toList]; exact hw) (by rw [List.size_toArray]; omega)) ⟨e, ?_⟩
 refine ⟨y, _, I.Fp (its' := its.eraseIdx k) hH e ?_ (r.eraseIdx k) ?_, rw', q⟩
 ·show its.toArray.eraseIdxIfInBounds k = (its.eraseIdx k).toArray
  rw [List.eraseIdxIfInBounds_toArray]
 ·have := qR xs k
  omega
def Jx : R2 := fun x y H Q => ∃ l b xs zs, x = .ref l /\ y = .ref b /\ H l = some (.lst xs) /\ H b = some (.lst zs) /\ xs.length + zs.length <= sizeLine /\ ∀ p, H p = none -> Q (.ref p) (upd H p (.lst (xs ++ zs)))
theorem cM : OpR X (binaryOp .Add) Jx := by
 intro pins s σ H x y v u Q I rx ry h
 obtain ⟨l, b, xs, zs, rfl, rfl, hH, hB, hz, q⟩ := h
 cases rx
 cases ry
 obtain ⟨z, its, n, r, hl, e⟩ := I.xu hH
 obtain ⟨z2, xS, n2, r2, hl2, e2⟩ := I.xu hB
 refine PySem.P.add_list e e2 ?_ (by rw [List.size_toArray, List.size_toArray]; omega)
 have ea : its.toArray ++ xS.toArray = (its ++ xS).toArray := by simp
 rw [ea]
 exact ⟨.ref _, _, I.KZ (t' := s.toks) (r.append r2) (by rw [zAi]; omega), rfl, q _ I.fresh⟩
end
section
variable {prog : Program} {w : World} {A : Around} {E : Value -> Shared -> Prop} {s : Shared}
end
section
variable {X : Cx}
end
theorem Vals.ints : ∀ {ns : List Int} {us : List Value}, Vals (ns.map V.int) us -> IntsAre us ns
 | [], us, h => by
  rw [List.map_nil] at h
  cases h
  exact IntsAre.nil
 | n :: ns, us, h => by
  rw [List.map_cons] at h
  cases h with
  | cons r t =>
   obtain ⟨k, rfl⟩ := r
   exact IntsAre.cons n k (Vals.ints t)
theorem jV : ∀ {us : List Value} {ns : List Int}, IntsAre us ns -> Vals (ns.map V.int) us
 | _, _, .nil => by rw [List.map_nil]; exact Paired.nil
 | _, _, .cons n t h => by rw [List.map_cons]; exact Paired.cons (show RelV (V.int n) (Value.int n t) from ⟨t, rfl⟩) (jV h)
theorem Vals.bls : ∀ {bs : List Bool} {us : List Value}, Vals (bs.map V.bl) us -> us = bs.map Value.bool
 | [], us, h => by
  rw [List.map_nil] at h
  cases h
  rfl
 | b :: bs, us, h => by
  rw [List.map_cons] at h
  cases h with
  | cons r t =>
   cases r
   rw [Vals.bls t, List.map_cons]
theorem Vals.rM {a : Addr} {us : List Value} (r : Vals [V.ref a] us) : us = [Value.ref a] := by
 cases r with
 | cons r t =>
  cases t
  cases r
  rfl
section
variable {prog : Program} {w : World} {A : Around} {E : Value -> Shared -> Prop} {s : Shared} {l : Addr} {its : List Value} {ns : List Int} {Q : Value -> Shared -> Prop}
theorem DZ (hh : A.handled = none) (hl : s.heap.IsList l its.toArray) (hi : IntsAre its ns)
  (h : ∀ h' tk t', (∀ b o, s.heap.get? b = some o -> h'.get? b = some o) -> Q (.int ns.sum t') { s with heap := h', toks := tk }) : wpAny (model prog w) A (call (.builtin "sum") [.ref l]) Q E s := by
 obtain ⟨xs, e⟩ := hi.allInts.items
 have hn : numsOf (intItems xs).toList = ns := by rw [← e]; exact hi.numsOf
 rw [nums_intItems] at hn
 rw [e] at hl
 refine PySem.sum_intListG hh hl fun h' tk t' hk => ?_
 have := h h' tk t' hk
 rw [preSum_eq, List.take_of_length_le (by simp), hn]; exact this
theorem Fo (hh : A.handled = none) (hl : s.heap.IsList l its.toArray) (hi : IntsAre its ns) (hne : 0 < ns.length)
  (h : ∀ h' tk M t', (∀ b o, s.heap.get? b = some o -> h'.get? b = some o) -> M ∈ ns -> (∀ a, a ∈ ns -> a <= M) -> Q (.int M t') { s with heap := h', toks := tk }) : wpAny (model prog w) A (call (.builtin "max") [.ref l]) Q E s := by
 obtain ⟨xs, e⟩ := hi.allInts.items
 have hn : numsOf (intItems xs).toList = ns := by rw [← e]; exact hi.numsOf
 rw [nums_intItems] at hn
 subst hn
 rw [e] at hl
 have hsz : 0 < xs.size := by simpa using hne
 refine PySem.max_intList hh hl hsz fun v h' tk hv hk => ?_
 obtain ⟨t, rfl⟩ := intItems_at hv
 obtain ⟨h1, h2⟩ := argBest_gt (numAt xs) (xs.size - 1)
 refine h h' tk _ t hk ?_ fun a ha => ?_
 ·rw [numAt_eq]; exact PySem.getD_mem (by rw [zAa, Array.length_toList]; omega)
 ·obtain ⟨j, hj, rfl⟩ := mem_getD ha
  rw [zAa, Array.length_toList] at hj
  rw [← numAt_eq]; exact h2 j (by omega)
theorem Fm (hh : A.handled = none) (hl : s.heap.IsList l its.toArray) (hi : IntsAre its ns) (hne : 0 < ns.length)
  (h : ∀ h' tk M t', (∀ b o, s.heap.get? b = some o -> h'.get? b = some o) -> M ∈ ns -> (∀ a, a ∈ ns -> M <= a) -> Q (.int M t') { s with heap := h', toks := tk }) : wpAny (model prog w) A (call (.builtin "min") [.ref l]) Q E s := by
 obtain ⟨xs, e⟩ := hi.allInts.items
 have hn : numsOf (intItems xs).toList = ns := by rw [← e]; exact hi.numsOf
 rw [nums_intItems] at hn
 subst hn
 rw [e] at hl
 have hsz : 0 < xs.size := by simpa using hne
 refine PySem.min_intList hh hl hsz fun v h' tk hv hk => ?_
 obtain ⟨t, rfl⟩ := intItems_at hv
 obtain ⟨h1, h2⟩ := argBest_lt (numAt xs) (xs.size - 1)
 refine h h' tk _ t hk ?_ fun a ha => ?_
 ·rw [numAt_eq]; exact PySem.getD_mem (by rw [zAa, Array.length_toList]; omega)
 ·obtain ⟨j, hj, rfl⟩ := mem_getD ha
  rw [zAa, Array.length_toList] at hj
  rw [← numAt_eq]; exact h2 j (by omega)
end
section
variable {X : Cx}
def Js (K : PySem.W.Frag) : List V -> Hp -> VK -> Prop := fun vs H Q => ∃ (a : Addr) (ns : List Int), vs = [V.ref a] /\ SqL K H a (ns.map V.int) /\ Q (.int ns.sum) H
def Jv (K : PySem.W.Frag) : List V -> Hp -> VK -> Prop := fun vs H Q => ∃ (a : Addr) (ns : List Int), vs = [V.ref a] /\ SqL K H a (ns.map V.int) /\ 0 < ns.length /\ ∀ m, m ∈ ns -> (∀ y, y ∈ ns -> y <= m) -> Q (.int m) H
def Ju (K : PySem.W.Frag) : List V -> Hp -> VK -> Prop := fun vs H Q => ∃ (a : Addr) (ns : List Int), vs = [V.ref a] /\ SqL K H a (ns.map V.int) /\ 0 < ns.length /\ ∀ m, m ∈ ns -> (∀ y, y ∈ ns -> m <= y) -> Q (.int m) H
theorem Ip (hc : X.calm = true) : bY X (.builtin "sum") (Js X.K) := by
 intro pins s σ H vs us Q I r h
 obtain ⟨a, ns, rfl, hs, q⟩ := h
 obtain ⟨its, rv, hl, _⟩ := I.list hs
 rw [Vals.rM r]
 exact DZ (I.ok.hd hc) hl.isList rv.ints fun h' tk t' hk => ⟨.int _, H, I.kept hk, ⟨_, rfl⟩, q⟩
theorem Ir (hc : X.calm = true) : bY X (.builtin "max") (Jv X.K) := by
 intro pins s σ H vs us Q I r h
 obtain ⟨a, ns, rfl, hs, hne, q⟩ := h
 obtain ⟨its, rv, hl, _⟩ := I.list hs
 rw [Vals.rM r]
 exact Fo (I.ok.hd hc) hl.isList rv.ints hne fun h' tk m t' hk h1 h2 => ⟨.int _, H, I.kept hk, ⟨_, rfl⟩, q m h1 h2⟩
theorem Iq (hc : X.calm = true) : bY X (.builtin "min") (Ju X.K) := by
 intro pins s σ H vs us Q I r h
 obtain ⟨a, ns, rfl, hs, hne, q⟩ := h
 obtain ⟨its, rv, hl, _⟩ := I.list hs
 rw [Vals.rM r]
 exact Fm (I.ok.hd hc) hl.isList rv.ints hne fun h' tk m t' hk h1 h2 => ⟨.int _, H, I.kept hk, ⟨_, rfl⟩, q m h1 h2⟩
def yA (K : PySem.W.Frag) : List V -> Hp -> VK -> Prop := fun vs H Q => ∃ (a : Addr) (ns : List Int), vs = [V.ref a] /\ SqL K H a (ns.map V.int) /\ ns.length < 64 ∧
 ∀ (ns' : List Int) (p : Addr), ns'.Perm ns -> ns'.Pairwise (· <= ·) -> H p = none -> Q (.ref p) (upd H p (.lst (ns'.map V.int)))
theorem Ek {n : Nat} (h : n < 64) : n <= sizeLine := by rw [sizeLine_eq]; omega
theorem AQ : bY X (.builtin "sorted") (yA X.K) := by
 intro pins s σ H vs us Q I r h
 obtain ⟨a, ns, rfl, hs, h64, q⟩ := h
 obtain ⟨its, rv, hl, _⟩ := I.list hs
 rw [Vals.rM r]
 have hi := rv.ints
 refine PyProof.Rows.sorted_ints hl.isList hi (by rw [hi.length]; exact h64) fun out ns' h1 h2 h3 => ?_
 obtain ⟨ep, he'⟩ := PyProof.Rows.sortedAll_at s.heap its out
 have hlen : (ns'.map V.int).length <= sizeLine := by rw [zAa, h2.length_eq]; exact Ek h64
 exact ⟨.ref _, upd H (s.heap.objs.size + 1) (.lst (ns'.map V.int)), I.laid (t' := s.toks) (fun _ _ => PyProof.Rows.sortedAll_old) (Nat.le_succ _) ⟨hlen, out.toList, ep, jV h1, he'⟩, rfl, q ns' _ h2 h3 (I.hok.fresh (Nat.le_succ _))⟩
end
section
variable {X : Cx}
def BF (K : PySem.W.Frag) : V -> List V -> Hp -> VK -> Prop := fun x xs H Q => ∃ (a : Addr) (ys : List V) (y : V) (j : Nat) (z : V), x = V.ref a /\ xs = [y] /\ SqL K H a ys /\ gk y = true /\ ys.all gk = true /\ ys[j]? = some z /\ eqV z y = true ∧
 (∀ (m : Nat) (z' : V), m < j -> ys[m]? = some z' -> eqV z' y = false) /\ Q (.int (j : Nat)) H
theorem y6 {ys : List V} (f : ys.all gk = true) {j : Nat} {z : V} (h : ys[j]? = some z) : gk z = true := zBa.mp f z (zAs h)
theorem CF : MtR X "list.index" (BF X.K) := by
 intro pins s σ H x xs v us Q I rx rxs h
 obtain ⟨a, ys, y, j, z, rfl, rfl, hs, fy, fys, hz, hzj, hno, q⟩ := h
 cases rx
 cases rxs with
 | cons ry rt =>
  rename_i uy ut
  cases rt
  obtain ⟨its, rv, ⟨⟨cls, dd, data, sl⟩, n, ho, hc, hdn, hd⟩, hlen⟩ := I.list hs
  simp only at hc hd
  subst hc hd
  obtain ⟨u, hu, ru⟩ := rv.get hz
  obtain ⟨hjl, hje⟩ := zAd.mp hu
  have hvl := rv.length
  have hj : j < its.toArray.size := by simpa using hjl
  have hsl := sizeLine_eq
  refine call_meets PySem.F.slot_list_index ⟨_, ho, rfl⟩ PySem.F.entry_list_index (PySem.F.args_list_index_2 _ _)
   (SeqAt.list_indexAt a its.toArray n dd sl uy (eqU y) j hj (by omega) ?_ ?_) ⟨ho, fun u' hu' => gg ry fy rv fys u' (by simpa using hu'), ?_⟩
  ·have e1 : its.toArray[j] = u := by simpa using hje
   rw [e1, tK ru (y6 fys hz)]
   exact hzj
  ·intro m hm hmj
   have hml : m < its.length := by simpa using hm
   have hmy : m < ys.length := by omega
   have hy' : ys[m]? = some ys[m] := zAc hmy
   obtain ⟨u2, hu2, ru2⟩ := rv.get hy'
   obtain ⟨_, hme⟩ := zAd.mp hu2
   have e1 : its.toArray[m] = u2 := by simpa using hme
   rw [e1, tK ru2 (y6 fys hy')]
   exact hno m _ hmj hy'
  ·exact ⟨.int (j : Nat), H, I.tok _, ⟨_, rfl⟩, q⟩
end
section
variable {X : Cx}
end
theorem vr {prog : Program} {w : World} {A : Around} {E : Value -> Shared -> Prop} {s : Shared} {l : Addr} {items : Array Value} {Q : Value -> Shared -> Prop} (hl : s.heap.IsList l items)
  (h : ∀ s₂ : Shared, s₂ = { s with heap := s.heap.push { cls := .type "list_iterator", data := .fields #[.ref l, .int 0 0] } } →
   (s₂.heap.IsListIter s.heap.objs.size l 0 /\ s₂.heap.IsList l items) -> l ≠ s.heap.objs.size -> Q (.ref s.heap.objs.size) s₂) : wpAny (model prog w) A (pyIter (.ref l)) Q E s := by
 have hlt : l < s.heap.objs.size := by obtain ⟨_, e, _⟩ := hl; exact Heap.lt_size e
 exact wpAny_pyIter_list hl (h _ rfl ⟨⟨_, Heap.get?_push_size _ rfl, rfl, rfl⟩, hl.push _⟩ (Nat.ne_of_lt hlt))
theorem lY {prog : Program} {w : World} {A : Around} {bs : List Bool} {its : List Value} (e : its = bs.map Value.bool) :
  TruthOf prog w A (fun i v => its.toArray[i]? = some v) (fun i => bs.getD i false) := fun i v s Q E hv hq => by
 have hv' : its[i]? = some v := by simpa using hv
 rw [e, zAh] at hv'
 obtain ⟨b, hb, rfl⟩ := Option.map_eq_some_iff.mp hv'
 have hg : bs.getD i false = b := by rw [zAb, hb] <;> rfl
 have hq' : Q (bs.getD i false) s := hq
 rw [hg] at hq'
 exact wpAny_truthy_bool hq'
theorem any_range : ∀ bs : List Bool, (List.range bs.length).any (fun i => bs.getD i false) = bs.any id
 | [] => rfl
 | b :: bs => by
  rw [zAz, List.range_succ_eq_map, List.any_cons, List.any_map, List.any_cons, ← any_range bs]
  all_goals rfl
theorem all_range : ∀ bs : List Bool, (List.range bs.length).all (fun i => bs.getD i false) = bs.all id
 | [] => rfl
 | b :: bs => by
  rw [zAz, List.range_succ_eq_map, List.all_cons, List.all_map, List.all_cons, ← all_range bs]
  all_goals rfl
section
variable {X : Cx}
def Jy (K : PySem.W.Frag) : List V -> Hp -> VK -> Prop := fun vs H Q => ∃ (a : Addr) (bs : List Bool), vs = [V.ref a] /\ SqL K H a (bs.map V.bl) /\ Q (.bl (bs.any id)) H
def Jz (K : PySem.W.Frag) : List V -> Hp -> VK -> Prop := fun vs H Q => ∃ (a : Addr) (bs : List Bool), vs = [V.ref a] /\ SqL K H a (bs.map V.bl) /\ Q (.bl (bs.all id)) H
theorem Iu (hc : X.calm = true) : bY X (.builtin "any") (Jy X.K) := by
 intro pins s σ H vs us Q I r h
 obtain ⟨a, bs, rfl, hs, q⟩ := h
 obtain ⟨its, rv, hl, _⟩ := I.list hs
 rw [Vals.rM r]
 have hb := rv.bls
 refine call_any_walk (vr hl.isList fun s₂ e2 st hne => ?_)
 subst e2
 refine ⟨_, _, _, _, _, _, _, rfl, Walks.list (A := X.A.in1) (I.ok.hd hc) _ a hne its.toArray, st, lY hb, fun h' tk hk => ?_⟩
 refine ⟨.bl _, H, I.kept fun b o eo => hk b o (fun fR => ?_) (Heap.get?_push_of_some _ eo), ?_, q⟩
 ·rcases zAv.mp fR with e1 | fR
  ·exact absurd (e1 ▸ Heap.lt_size eo) (zBr _)
  ·cases fR
 ·show Value.bool _ = Value.bool _
  rw [← any_range, hb, List.size_toArray, zAa]
theorem Iv (hc : X.calm = true) : bY X (.builtin "all") (Jz X.K) := by
 intro pins s σ H vs us Q I r h
 obtain ⟨a, bs, rfl, hs, q⟩ := h
 obtain ⟨its, rv, hl, _⟩ := I.list hs
 rw [Vals.rM r]
 have hb := rv.bls
 refine call_all_walk (vr hl.isList fun s₂ e2 st hne => ?_)
 subst e2
 refine ⟨_, _, _, _, _, _, _, rfl, Walks.list (A := X.A.in1) (I.ok.hd hc) _ a hne its.toArray, st, lY hb, fun h' tk hk => ?_⟩
 refine ⟨.bl _, H, I.kept fun b o eo => hk b o (fun fR => ?_) (Heap.get?_push_of_some _ eo), ?_, q⟩
 ·rcases zAv.mp fR with e1 | fR
  ·exact absurd (e1 ▸ Heap.lt_size eo) (zBr _)
  ·cases fR
 ·show Value.bool _ = Value.bool _
  rw [← all_range, hb, List.size_toArray, zAa]
end
mutual
inductive Dp (K : PySem.W.Frag) (H : Hp) : V -> PyData -> Prop
 | non : Dp K H .non .none
 | bl (b : Bool) : Dp K H (.bl b) (.bool b)
 | int (i : Int) : Dp K H (.int i) (.int i)
 | str (x : Str) : Dp K H (.str x) (.str x)
 | lst {a : Addr} {xs : List V} {ds : List PyData} : SqL K H a xs -> pB K H xs ds -> Dp K H (.ref a) (.list ds)
 | tup {a : Addr} {xs : List V} {ds : List PyData} : SqT K H a xs -> pB K H xs ds -> Dp K H (.ref a) (.tuple ds)
inductive pB (K : PySem.W.Frag) (H : Hp) : List V -> List PyData -> Prop
 | nil : pB K H [] []
 | cons {v : V} {vs : List V} {d : PyData} {ds : List PyData} : Dp K H v d -> pB K H vs ds -> pB K H (v :: vs) (d :: ds)
end
section
variable {X : Cx} {pins : List (Addr × Obj)} {σ : St} {H : Hp} {s : Shared}
mutual
theorem Dp.reads (I : Inv X pins σ H s) : ∀ (d : PyData) (v : V) (u : Value), Dp X.K H v d -> RelV v u -> ∃ as, Reads s.heap u d as
 | .none, _, _, h, r => by
  cases h
  cases r
  exact ⟨_, Reads.none⟩
 | .bool b, _, _, h, r => by
  cases h
  cases r
  exact ⟨_, Reads.bool b⟩
 | .int i, _, _, h, r => by
  cases h
  obtain ⟨t, rfl⟩ := r
  exact ⟨_, Reads.int i t⟩
 | .str x, _, _, h, r => by
  cases h
  obtain ⟨t, rfl⟩ := r
  exact ⟨_, Reads.str x t⟩
 | .list ds, _, _, h, r => by
  cases h with
  | lst hs ha =>
   cases r
   obtain ⟨its, rv, ⟨o, n, ho, hc, _, hd⟩, _⟩ := I.list hs
   obtain ⟨as, hr⟩ := Dp.readsAll I ds _ its ha rv
   exact ⟨_, Reads.list ho hc hd hr⟩
 | .tuple ds, _, _, h, r => by
  cases h with
  | tup hs ha =>
   cases r
   obtain ⟨its, rv, ⟨o, ho, hc, n, hd⟩, _⟩ := I.tuple hs
   obtain ⟨as, hr⟩ := Dp.readsAll I ds _ its ha rv
   exact ⟨_, Reads.tuple ho hc hd hr⟩
 | .dict _, _, _, h, _ => by cases h
theorem Dp.readsAll (I : Inv X pins σ H s) : ∀ (ds : List PyData) (vs : List V) (us : List Value), pB X.K H vs ds -> Vals vs us -> ∃ as, ReadsAll s.heap us ds as
 | [], _, _, h, r => by
  cases h
  cases r
  exact ⟨_, ReadsAll.nil⟩
 | d :: ds, _, _, h, r => by
  cases h with
  | cons h1 h2 =>
   cases r with
   | cons r1 r2 =>
    obtain ⟨as, q1⟩ := Dp.reads I d _ _ h1 r1
    obtain ⟨bs, q2⟩ := Dp.readsAll I ds _ _ h2 r2
    exact ⟨_, ReadsAll.cons q1 q2⟩
end
end
section
variable {X : Cx}
def KP (K : PySem.W.Frag) : R2 := fun x y H Q => ∃ d e, Dp K H x d /\ Dp K H y e /\ SeqAt.shaped d = true /\ SeqAt.shaped e = true /\ Q (.bl (!PyData.eqv d e)) H
theorem Hw (hu : X.A.units + 64 < cLine) : OpR X (compareOp .NotEq) (KP X.K) := by
 intro pins s σ H x y v u Q I rx ry h
 obtain ⟨d, e, hd, he, sd, se, q⟩ := h
 obtain ⟨as, r1⟩ := Dp.reads I d x v hd rx
 obtain ⟨bs, r2⟩ := Dp.reads I e y u he ry
 exact SeqAt.compareNe_shaped r1 r2 sd se hu ⟨.bl _, H, I, rfl, q⟩
end
abbrev DS (h : Heap) (c : Addr) (v : Option Value) : Prop := h.IsCell c v
def KN (scope sc : Scope) : Scope :=
 { scope with names := scope.names.map fun (n, k) => if (k == .free && sc.kind == .function && sc.names.lookup n == some .cell) then (n, .cell) else (n, k) }
def bK (cells : List (Str × Addr)) : List (Str × NameKind) -> List (Str × Addr) -> List (Str × Addr)
 | [], acc => acc
 | (n, k) :: r, acc => if k == .free then bK cells r ((n, (cells.lookup n).getD 0) :: acc) else bK cells r acc
theorem kH (env : Env) (f : Str × NameKind -> List (Str × Addr) -> Sem (ForInStep (List (Str × Addr))))
  (hf : ∀ n k c, f (n, k) c = if k == .free then (do let a ← cellOf env n; pure (.yield ((n, a) :: c))) else pure (.yield c)) :
  ∀ (names : List (Str × NameKind)) (acc : List (Str × Addr)), (∀ y ∈ names, y.2 = .free -> ∃ c, env.cells.lookup y.1 = some c) -> forIn names acc f = pure (bK env.cells names acc)
 | [], acc, _ => by rw [List.forIn_nil]; rfl
 | (n, k) :: r, acc, h => by
  rw [List.forIn_cons, hf]
  have ih := fun acc => kH env f hf r acc fun y hy => h y (zAj _ hy)
  unfold bK
  by_cases hk : (k == NameKind.free) = true
  ·rw [if_pos hk, if_pos hk]
   obtain ⟨c, hc⟩ := h (n, k) zAg (by simpa using hk)
   have e : cellOf env n = pure c := by unfold cellOf; rw [hc]
   rw [e]
   have e2 : (env.cells.lookup n).getD 0 = c := by rw [hc]; rfl
   rw [e2]
   exact ih _
  ·rw [if_neg hk, if_neg hk]
   exact ih _
theorem x6 {scope : Scope} {env : Env} (h : ∀ y ∈ scope.names, y.2 = .free -> ∃ c, env.cells.lookup y.1 = some c) : closureFor scope env = pure (bK env.cells scope.names []) := by
 simp only [closureFor]
 rw [kH env _ (fun n k c => rfl) scope.names [] h]
 rfl
theorem mem_lookup {α : Type} : ∀ {l : List (Str × α)} {n : Str} {c : α}, (n, c) ∈ l -> ∃ c', l.lookup n = some c'
 | (k, v) :: r, n, c, h => by
  rw [List.lookup_cons]
  cases hb : n == k with
  | true => exact ⟨_, rfl⟩
  | false =>
   rcases zAv.mp h with e | h
   ·cases e; simp at hb
   ·exact mem_lookup h
theorem fK {cells : List (Str × Addr)} : ∀ {names : List (Str × NameKind)} {acc : List (Str × Addr)} {n : Str} {c : Addr}, (n, c) ∈ bK cells names acc -> (n, c) ∈ acc \/ ((n, .free) ∈ names /\ c = (cells.lookup n).getD 0)
 | [], _, _, _, h => .inl h
 | (m, k) :: r, acc, n, c, h => by
  unfold bK at h
  split at h
  ·rename_i hk
   have hk : k = .free := by simpa using hk
   rcases fK h with h | ⟨h1, h2⟩
   ·rcases zAv.mp h with e | h
    ·cases e; exact .inr ⟨hk ▸ zAg, rfl⟩
    ·exact .inl h
   ·exact .inr ⟨zAj _ h1, h2⟩
  ·rcases fK h with h | ⟨h1, h2⟩
   ·exact .inl h
   ·exact .inr ⟨zAj _ h1, h2⟩
theorem iM {cells : List (Str × Addr)} : ∀ {names : List (Str × NameKind)} {acc : List (Str × Addr)} {p : Str × Addr}, p ∈ acc -> p ∈ bK cells names acc
 | [], _, _, h => h
 | (m, k) :: r, acc, p, h => by
  unfold bK
  split
  ·exact iM (zAj _ h)
  ·exact iM h
theorem iL {cells : List (Str × Addr)} : ∀ {names : List (Str × NameKind)} {acc : List (Str × Addr)} {n : Str}, (n, .free) ∈ names -> (n, (cells.lookup n).getD 0) ∈ bK cells names acc
 | (m, k) :: r, acc, n, h => by
  unfold bK
  rcases zAv.mp h with e | h
  ·cases e
   exact iM zAg
  ·split
   ·exact iL h
   ·exact iL h
theorem gq : ∀ {names : List (Str × NameKind)} {h : Heap} {acc : List (Str × Addr)} {x : Str} {c : Addr}, (x, c) ∈ cellsFrom h.objs.size names acc →
  (x, c) ∈ acc \/ ((x, .cell) ∈ names /\ h.objs.size <= c /\ DS (pushCells h names) c none)
 | [], _, _, _, _, h => .inl h
 | (n, k) :: r, h, acc, x, c, hm => by
  unfold cellsFrom at hm
  unfold pushCells
  split at hm
  ·rename_i hk
   rw [if_pos hk]
   have hk : k = .cell := by simpa using hk
   rw [← Heap.size_push h { cls := .type "cell", data := .cell none }] at hm
   rcases gq hm with hm | ⟨h1, h2, h3⟩
   ·rcases zAv.mp hm with e | hm
    ·cases e
     exact .inr ⟨hk ▸ zAg, zAt _, _, pushCells_keeps r _ _ _ (Heap.get?_push_size _ rfl), rfl⟩
    ·exact .inl hm
   ·rw [Heap.size_push] at h2
    exact .inr ⟨zAj _ h1, Nat.le_of_succ_le h2, h3⟩
  ·rename_i hk
   rw [if_neg hk]
   rcases gq hm with hm | ⟨h1, h2, h3⟩
   ·exact .inl hm
   ·exact .inr ⟨zAj _ h1, h2, h3⟩
theorem i6 : ∀ {names : List (Str × NameKind)} {n : Nat} {acc : List (Str × Addr)} {p : Str × Addr}, p ∈ acc -> p ∈ cellsFrom n names acc
 | [], _, _, _, h => h
 | (m, k) :: r, n, acc, p, h => by
  unfold cellsFrom
  split
  ·exact i6 (zAj _ h)
  ·exact i6 h
theorem lS : ∀ {names : List (Str × NameKind)} {n : Nat} {acc : List (Str × Addr)} {x : Str}, (x, .cell) ∈ names -> ∃ c, (x, c) ∈ cellsFrom n names acc
 | (m, k) :: r, n, acc, x, h => by
  unfold cellsFrom
  rcases zAv.mp h with e | h
  ·cases e
   exact ⟨n, i6 zAg⟩
  ·split
   ·exact lS h
   ·exact lS h
theorem lR : ∀ {names : List (Str × NameKind)} {h : Heap} {acc : List (Str × Addr)} {x y : Str} {c : Addr}, (∀ p ∈ acc, p.2 < h.objs.size) -> (∀ x y c, (x, c) ∈ acc -> (y, c) ∈ acc -> x = y) →
  (x, c) ∈ cellsFrom h.objs.size names acc -> (y, c) ∈ cellsFrom h.objs.size names acc -> x = y
 | [], _, _, _, _, _, _, hi, h1, h2 => hi _ _ _ h1 h2
 | (n, k) :: r, h, acc, x, y, c, hl, hi, h1, h2 => by
  unfold cellsFrom at h1 h2
  split at h1
  ·rename_i hk
   rw [if_pos hk] at h2
   rw [← Heap.size_push h { cls := .type "cell", data := .cell none }] at h1 h2
   refine lR (h := h.push _) (fun p hp => ?_) (fun x y c a b => ?_) h1 h2
   ·rw [Heap.size_push]
    rcases zAv.mp hp with rfl | hp
    ·exact zBs _
    ·exact Nat.lt_succ_of_lt (hl p hp)
   ·rcases zAv.mp a with e | a <;> rcases zAv.mp b with e' | b
    ·cases e; cases e'; rfl
    ·cases e; exact absurd (hl _ b) (zBr _)
    ·cases e'; exact absurd (hl _ a) (zBr _)
    ·exact hi _ _ _ a b
  ·rename_i hk
   rw [if_neg hk] at h2
   exact lR hl hi h1 h2
theorem ve {M : Model} {A : Around} {E : Value -> Shared -> Prop} {s : Shared} {scope : Scope} {globals : Addr} {closure : List (Str × Addr)} {qual : Str} {func : Option Addr} {code : Value} {around : Env} {builtins : Addr} {Q : Env -> Shared -> Prop}
  (h : Q (newEnv scope s.heap.objs.size globals (cellsFrom (s.heap.objs.size + 1) scope.names closure) qual func code (some around) builtins)
   { s with heap := pushCells (s.heap.push { cls := .type "dict", data := .dict #[] }) scope.names }) :
  wpAny M A (newFunctionEnv scope globals closure [] qual func code (some around) builtins) Q E s := by
 simp only [newFunctionEnv, Option.isSome_some, if_true]
 refine wpAny_bind (wpAny_alloc ?_)
 refine wpAny_bind (wpAny_layCells _ (fun n k c => rfl) scope.names closure _ _ ?_)
 rw [show ({ s with heap := s.heap.push { cls := .type "dict", data := .dict #[] } } : Shared).heap.objs.size = s.heap.objs.size + 1 from Heap.size_push ..]
 rw [List.forIn_nil]
 exact wpAny_bind (wpAny_pure (wpAny_pure h))
theorem iC {sc : Scope} : ∀ {names : List (Str × NameKind)} {x : Str} {k : NameKind},
  (names.map fun (n, k) => if (k == NameKind.free && sc.kind == .function && sc.names.lookup n == some .cell) then (n, NameKind.cell) else (n, k)).lookup x = some k →
  ∃ k', names.lookup x = some k' /\ (k = k' \/ (k' = .free /\ k = .cell))
 | [], _, _, h => by simp at h
 | (n, k₀) :: r, x, k, h => by
  have ih := @iC sc r x k
  have h' : List.lookup x ((if (k₀ == NameKind.free && sc.kind == .function && sc.names.lookup n == some .cell) = true then (n, NameKind.cell) else (n, k₀)) :: (r.map _)) = some k := h
  cases hx : x == n with
  | true =>
   simp only [List.lookup_cons, hx]
   by_cases hc : (k₀ == NameKind.free && sc.kind == .function && sc.names.lookup n == some .cell) = true
   ·rw [if_pos hc] at h'
    simp only [List.lookup_cons, hx] at h'
    cases h'
    simp only [zBg, beq_iff_eq] at hc
    exact ⟨k₀, rfl, .inr ⟨hc.1.1, rfl⟩⟩
   ·rw [if_neg hc] at h'
    simp only [List.lookup_cons, hx] at h'
    cases h'
    exact ⟨_, rfl, .inl rfl⟩
  | false =>
   simp only [List.lookup_cons, hx]
   by_cases hc : (k₀ == NameKind.free && sc.kind == .function && sc.names.lookup n == some .cell) = true
   ·rw [if_pos hc] at h'
    simp only [List.lookup_cons, hx] at h'
    exact ih h'
   ·rw [if_neg hc] at h'
    simp only [List.lookup_cons, hx] at h'
    exact ih h'
structure v8 (N : List Str) (sc scope : Scope) (own : List (Str × Nat)) : Prop where
 kind : scope.kind = .function
 uniq : ∀ y ∈ scope.names, scope.names.lookup y.1 = some y.2
 ix : ∀ p ∈ own, N[p.2]? = some p.1
 free : ∀ y ∈ scope.names, y.2 = .free -> sc.names.lookup y.1 = some .cell \/ sc.names.lookup y.1 = some .free
 own : ∀ y ∈ scope.names, y.2 = .local \/ y.2 = .cell -> y.1 ∈ own.map (·.1) \/ y.1 ∉ N
def wipe (σ : St) : List Nat -> St
 | [] => σ
 | v :: vs => (wipe σ vs).set v none
theorem hJ (σ : St) : ∀ vs : List Nat, (wipe σ vs).length = σ.length
 | [] => rfl
 | v :: vs => by unfold wipe; rw [List.length_set, hJ σ vs]
theorem kQ {σ : St} {i : Nat} {x : V} : ∀ {vs : List Nat}, (wipe σ vs)[i]? = some (some x) -> σ[i]? = some (some x) /\ i ∉ vs
 | [], h => ⟨h, by simp⟩
 | v :: vs, h => by
  unfold wipe at h
  by_cases hi : v = i
  ·subst hi
   by_cases hv : v < (wipe σ vs).length
   ·rw [zBp hv] at h; cases h
   ·rw [zCj (by simpa using hv)] at h; cases h
  ·rw [List.getElem?_set_ne hi] at h
   obtain ⟨h1, h2⟩ := kQ h
   exact ⟨h1, by simp only [zAv, not_or]; exact ⟨fun e => hi e.symm, h2⟩⟩
abbrev Cx.blk (X : Cx) (s : Shared) (H : Hp) (scope : Scope) (dr : Env) (fp : List Addr) : Cx := { X with s_0 := s, H_0 := H, env := dr, outer := X.stack, ex := fp, fn := fun x => scope.names.lookup x == some .cell, pn := [], xe := fun _ _ => False }
section
variable {X : Cx} {pins : List (Addr × Obj)} {σ : St} {H : Hp} {s : Shared}
theorem vU {scope : Scope} {own : List (Str × Nat)} {fp : List Addr} (I : Inv X pins σ H s) (ok : v8 X.N X.env.scope scope own) (hN : X.N.Nodup) (hfp : ∀ b ∈ fp, qv X pins H b /\ b < s.heap.objs.size) :
  Inv (X.blk s H scope (compEnvC scope (cellsFrom (s.heap.objs.size + 1) scope.names (bK X.env.cells scope.names [])) s.heap.objs.size X.env) fp) [] (wipe σ (own.map (·.2))) H { s with heap := pushCells (s.heap.push { cls := .type "dict", data := .dict #[] }) scope.names } := by
 have qW : ∀ y ∈ scope.names, y.2 = .free -> ∃ c, X.env.cells.lookup y.1 = some c := fun y hy e => by
  rcases ok.free y hy e with k | k
  ·exact I.ok.has _ (.inl k)
  ·exact I.ok.has _ (.inr k)
 generalize vA : compEnvC scope (cellsFrom (s.heap.objs.size + 1) scope.names (bK X.env.cells scope.names [])) s.heap.objs.size X.env = dr
 have kp : ∀ b o, s.heap.get? b = some o -> (pushCells (s.heap.push { cls := .type "dict", data := .dict #[] }) scope.names).get? b = some o := fun b o e => pushCells_keeps _ _ _ _ (Heap.get?_push_of_some _ e)
 have hL : dr.locals = s.heap.objs.size := by rw [← vA]; rfl
 have hcl : dr.cells = cellsFrom (s.heap.objs.size + 1) scope.names (bK X.env.cells scope.names []) := by rw [← vA]; rfl
 have hsc : dr.scope = KN scope X.env.scope := by rw [← vA]; rfl
 rw [← Heap.size_push s.heap { cls := .type "dict", data := .dict #[] }] at hcl
 have cm : ∀ {y c}, (y, c) ∈ bK X.env.cells scope.names [] -> X.env.cells.lookup y = some c /\ c < s.heap.objs.size := fun {y c} hm => by
  rcases fK hm with hm | ⟨h1, rfl⟩
  ·cases hm
  ·obtain ⟨c, hc⟩ := qW _ h1 rfl
   rw [hc]
   obtain ⟨w, z⟩ := I.cell _ _ hc
   exact ⟨rfl, z.lt⟩
 have mem : ∀ {y c}, dr.cells.lookup y = some c -> (X.env.cells.lookup y = some c /\ c < s.heap.objs.size) \/ (s.heap.objs.size + 1 <= c /\ DS (pushCells (s.heap.push { cls := .type "dict", data := .dict #[] }) scope.names) c none) := fun {y c} e => by
  rw [hcl] at e
  rcases gq (PySem.mem_of_lookup e) with hm | ⟨_, h2, h3⟩
  ·exact .inl (cm hm)
  ·rw [Heap.size_push] at h2; exact .inr ⟨h2, h3⟩
 have look : ∀ {y}, scope.names.lookup y = some .free -> ∃ c, dr.cells.lookup y = some c /\ X.env.cells.lookup y = some c := fun {y} hl => by
  have hy : (y, NameKind.free) ∈ scope.names := PySem.mem_of_lookup hl
  obtain ⟨c', e'⟩ := mem_lookup (i6 (names := scope.names) (n := (s.heap.push { cls := .type "dict", data := .dict #[] }).objs.size) (iL (cells := X.env.cells) (acc := []) hy))
  rw [← hcl] at e'
  refine ⟨c', e', ?_⟩
  rw [hcl] at e'
  rcases gq (PySem.mem_of_lookup e') with hm | ⟨h1, _, _⟩
  ·exact (cm hm).1
  ·have := ok.uniq _ h1
   rw [hl] at this; cases this
 have okB : (X.blk s H scope dr fp).Ok := by
  refine ⟨I.ok.mod, by show dr.scope.kind = _; rw [hsc]; exact ok.kind, by show dr.globals = _; rw [← vA]; exact I.ok.glob, by show dr.builtins = _; rw [← vA]; exact I.ok.blt, by show s.heap.objs.size <= dr.locals; rw [hL]; exact zAt _,
   fun y z c e1 e2 => ?_, fun y hy => ?_, fun y c z e => ?_, I.ok.hd, I.ok.frames, .inl rfl, fun b hb => ⟨?_, fun y c e z => ?_⟩, I.bs, zAn I.ok.bsz I.sz, fun b o e hb => ?_, fun b hb z => ?_, I.stack, I.yq⟩
  ·have e1 : dr.cells.lookup y = some c := e1
   have e2 : dr.cells.lookup z = some c := e2
   rw [hcl] at e1 e2
   refine lR (fun p hp => ?_) (fun y z c a b => I.ok.inj y z c (cm a).1 (cm b).1) (PySem.mem_of_lookup e1) (PySem.mem_of_lookup e2)
   rw [Heap.size_push]
   exact Nat.lt_succ_of_lt (cm (y := p.1) (c := p.2) hp).2
  ·show ∃ c, dr.cells.lookup y = some c
   have key : ∀ k, dr.kindOf y = some k -> (k = .cell \/ k = .free) -> ∃ c, dr.cells.lookup y = some c := fun k hk hk' => by
    unfold Env.kindOf at hk
    rw [hsc] at hk
    obtain ⟨k', e, r⟩ := iC hk
    have : k' = .cell \/ k' = .free := by
     rcases r with rfl | ⟨rfl, _⟩
     ·exact hk'
     ·exact .inr rfl
    rcases this with rfl | rfl
    ·obtain ⟨c, hm⟩ := lS (n := (s.heap.push { cls := .type "dict", data := .dict #[] }).objs.size) (acc := bK X.env.cells scope.names []) (PySem.mem_of_lookup e)
     obtain ⟨c', e'⟩ := mem_lookup hm
     exact ⟨c', by rw [hcl]; exact e'⟩
    ·obtain ⟨c, h1, _⟩ := look e
     exact ⟨c, h1⟩
   rcases hy with hy | hy
   ·exact key _ hy (.inl rfl)
   ·exact key _ hy (.inr rfl)
  ·have z : (scope.names.lookup y == some NameKind.cell) = true := z
   have z : scope.names.lookup y = some .cell := by simpa using z
   have e : dr.cells.lookup y = some c := e
   rw [hcl] at e
   rcases gq (PySem.mem_of_lookup e) with hm | ⟨_, h2, _⟩
   ·rcases fK hm with hm | ⟨h1, _⟩
    ·cases hm
    ·have q := ok.uniq _ h1
     rw [z] at q; cases q
   ·rw [Heap.size_push] at h2
    exact Nat.le_of_succ_le h2
  ·show b ≠ dr.locals
   rw [hL]; exact Nat.ne_of_lt (hfp b hb).2
  ·have e : dr.cells.lookup y = some c := e
   rcases mem e with ⟨h1, _⟩ | ⟨h1, _⟩
   ·exact (hfp b hb).1.2.2.2.2.1 y c h1 z
   ·have h2 : s.heap.objs.size + 1 <= b := by rw [← z]; exact h1
    exact absurd (zBh (hfp b hb).2 (Nat.le_of_succ_le h2)) (zBr _)
  ·rcases (hfp b hb).1.2.2.2.1 with z | z
   ·exact I.ok.CA b o e z
   ·exact absurd (zBh (Heap.lt_size e) (zAn I.ok.bsz z)) (zBr _)
  ·rcases zAv.mp (I.wq b z) with z | z
   ·exact (hfp b hb).1.2.1 z
   ·exact (hfp b hb).1.2.2.1 z
 refine ⟨okB, rfl, I.bare, Un.kept kp, ⟨fun _ => none, ?_, fun i y av e1 e2 e3 => ?_⟩, fun y c e => ?_, ?_, fun y c e => ?_, fun p hp => ?_, I.hok.kept kp, by rw [hJ]; exact I.len⟩
 ·show Heap.Ns _ dr.locals _
  rw [hL]
  exact Heap.Ns.keeps (Heap.Ns.new ..) fun b o e => pushCells_keeps _ _ _ _ e
 ·obtain ⟨e2, hne⟩ := kQ e2
  have hfr : scope.names.lookup y = some .free /\ (dr.kindOf y = some .cell \/ dr.kindOf y = some .free) := by
   have key : ∀ k, dr.scope.names.lookup y = some k -> k = .local \/ k = .cell \/ k = .free -> scope.names.lookup y = some .free /\ (dr.kindOf y = some .cell \/ dr.kindOf y = some .free) := fun k hk hk' => by
    have hk0 := hk
    rw [hsc] at hk
    obtain ⟨k', e, r⟩ := iC hk
    have no : ¬ (k' = .local \/ k' = .cell) := fun hh => by
     rcases ok.own _ (PySem.mem_of_lookup e) hh with e' | e'
     ·obtain ⟨p, hp, hpy⟩ := zAq.mp e'
      have e3 := ok.ix p hp
      have : p.1 = y := hpy
      rw [this] at e3
      exact hne (zAq.mpr ⟨p, hp, om hN e3 e1⟩)
     ·exact e' (zAs e1)
    rcases r with rfl | ⟨rfl, rfl⟩
    ·rcases hk' with rfl | rfl | rfl
     ·exact absurd (.inl rfl) no
     ·exact absurd (.inr rfl) no
     ·exact ⟨e, .inr hk0⟩
    ·exact ⟨e, .inl hk0⟩
   have e3 : Vis dr.scope y := e3
   rcases e3 with e3 | e3 | e3
   ·exact key _ e3 (.inl rfl)
   ·exact key _ e3 (.inr (.inl rfl))
   ·exact key _ e3 (.inr (.inr rfl))
  obtain ⟨m, hn, hl⟩ := I.loc
  have K4 : Vis X.env.scope y := (ok.free _ (PySem.mem_of_lookup hfr.1) rfl).elim (fun k => .inr (.inl k)) (fun k => .inr (.inr k))
  obtain ⟨w, r, q⟩ := hl i y av e1 e2 K4
  refine ⟨w, r, .inr ⟨hfr.2, ?_⟩⟩
  obtain ⟨c, h1, h2⟩ := look hfr.1
  rcases q with ⟨k, _⟩ | ⟨_, c', e', z⟩
  ·have k : X.env.scope.names.lookup y = some .local := k
   rcases ok.free _ (PySem.mem_of_lookup hfr.1) rfl with k' | k' <;> rw [show X.env.scope.names.lookup y = _ from k'] at k <;> cases k
  ·rw [h2] at e'; cases e'
   exact ⟨c, h1, z.keeps kp⟩
 ·have e : dr.cells.lookup y = some c := e
  rcases mem e with ⟨h1, _⟩ | ⟨_, z⟩
  ·obtain ⟨w, z⟩ := I.cell y c h1
   exact ⟨w, z.keeps kp⟩
  ·exact ⟨_, z⟩
 ·show H dr.locals = none
  rw [hL]; exact I.hok.fresh (zAt _)
 ·have e : dr.cells.lookup y = some c := e
  rcases mem e with ⟨h1, _⟩ | ⟨h1, _⟩
  ·exact I.iI y c h1
  ·exact I.hok.fresh (Nat.le_of_succ_le h1)
 ·exact absurd (show p ∈ ([] : List (Addr × Obj)) ++ [] from hp) (by simp)
theorem IU {E : Value -> Shared -> Prop} {D : Addr} {xs : List V} {y : V} {v : Value} {Q : Value -> Shared -> Prop} (I : Inv X pins σ H s) (hD : H D = some (.lst xs)) (hz : xs.length < sizeLine) (r : RelV y v)
  (h : ∀ s', Inv X pins σ (upd H D (.lst (xs ++ [y]))) s' -> Q .none s') : wpAny (model X.prog X.w) X.A (call (.builtin "list.append") [.ref D, v]) Q E s := by
 obtain ⟨hz', its, n, ri, e⟩ := I.hok D _ hD
 have hl := ri.length
 refine append_at (hsz := by rw [List.size_toArray]; omega) e fun h' sb ho' => ?_
 refine h { s with heap := h' } (I.write (t' := s.toks) (by rw [hD]; trivial) (.inl rfl) (fun b u hb q => (sb.2 b hb).trans q) ⟨_, ho'⟩ ⟨by rw [zAi]; exact hz, its ++ [v], n + 1, ri.append (.cons r .nil), ?_⟩)
 rw [ho']
 simp
def PTs (X : Cx) (ifs : List Expr) (t : TT) : Prop :=
 ∀ (pins : List (Addr × Obj)) (s : Shared) (σ : St) (H : Hp) (Q : Bool -> Hp -> Prop), Inv X pins σ H s -> t σ H Q →
  wpAny (model X.prog X.w) X.A (forIn ifs true fun c r => if r = true then do let ok ← isTrue c X.env (eval c X.env); pure (ForInStep.yield ok) else pure (ForInStep.yield r)) (TP X pins σ Q) X.xe s
def Jd : TT := fun _ H Q => Q true H
theorem rR : PTs X [] Jd := fun _ _ _ H _ I h => wpAny_tests_nil ⟨H, I, h⟩
theorem cn {c : Expr} {t : TT} (h : PT X c t) : PTs X [c] t := fun pins s σ H Q I hw => wpAny_tests_one (h pins s σ H Q I hw)
end
theorem zx {α : Type} {t : Sem α} {Q Q' : α -> Shared -> Prop} {M : Model} {A : Around} {E : Value -> Shared -> Prop} {s : Shared} (h : wpAny M A t Q (fun _ _ => False) s) (hQ : ∀ a s, Q a s -> Q' a s) : wpAny M A t Q' E s := wpAny_mono h hQ fun _ _ z => False.elim z
theorem tS {prog : Program} {w : World} {A : Around} {R : Result -> Shared -> Prop} {s : Shared} {elt target iter : Expr} {ifs : List Expr} {scope : Scope} {pos : Pos} {it acc : Value} {env : Env} (I : Nat -> Shared -> Prop)
  (turn : ∀ n s, I n s -> wpAny (model prog w) A (pyNext it) (fun r s₁ => match r with
   | none => R (.ok .next) s₁
   | some v => wpAny (model prog w) A (letOwnedTupleGo target it v) (fun _ s₁' => wpAny (model prog w) A (assign target env v) (fun _ s₂ =>
     wpAny (model prog w) A (forIn ifs true fun c r => if r = true then do let ok ← isTrue c env (eval c env); pure (ForInStep.yield ok) else pure (ForInStep.yield r)) (fun ok s₃ =>
      if ok = true then wpAny (model prog w) A (eval elt env) (fun x s₄ =>
       wpAny (model prog w) A (call (.builtin "list.append") [acc, x]) (fun _ s₅ => ∃ m, m < n /\ I m s₅) (notedBy (model prog w) A env fun e s' => R (.error e) s') s₄) (notedBy (model prog w) A env fun e s' => R (.error e) s') s₃
      else ∃ m, m < n /\ I m s₃) (notedBy (model prog w) A env fun e s' => R (.error e) s') s₂) (notedBy (model prog w) A env fun e s' => R (.error e) s') s₁') (notedBy (model prog w) A env fun e s' => R (.error e) s') s₁) (notedBy (model prog w) A env fun e s' => R (.error e) s') s)
  (n : Nat) (h : I n s) :
  codeAny (model prog w) A (.compLoop (.ListComp elt [⟨target, iter, ifs, 0⟩] scope pos) 0 it acc env) R s := by
 refine codeAny_loop rfl I (fun n s hI => ?_) n h
 show wpAny _ A ((compTurn (.ListComp elt [⟨target, iter, ifs, 0⟩] scope pos) 0 it acc env).onRaise (fun x => do noteFrame x env; theTreesLotGoes x)) _ _ s
 refine wpAny_noted ?_
 rw [compTurn_list]
 refine wpAny_bind (wpAny_standAt (wpAny_bind (wpAny_mono (turn n s hI) (fun r s₁ h₁ => ?_) fun _ _ h' => h')))
 cases r with
 | none => exact wpAny_pure h₁
 | some v =>
  refine wpAny_bind (wpAny_mono h₁ (fun _ s₁' h₁' => ?_) fun _ _ h' => h')
  refine wpAny_bind (wpAny_mono h₁' (fun _ s₂ h₂ => wpAny_bind (wpAny_mono h₂ (fun ok s₃ h₃ => ?_) fun _ _ h' => h')) fun _ _ h' => h')
  cases ok with
  | false => exact wpAny_pure ⟨rfl, h₃⟩
  | true =>
   exact wpAny_bind (wpAny_bind (wpAny_mono h₃ (fun x s₄ h₄ => wpAny_bind (wpAny_mono h₄ (fun _ s₅ h₅ => wpAny_pure (wpAny_pure ⟨rfl, h₅⟩)) fun _ _ h' => h')) fun _ _ h' => h'))
section
variable {X : Cx}
def tLc (wi : TI) (g : TG) (tt : TT) (te : TE) (vs : List Nat) : TE := fun σ H Q => wi σ H fun J H1 => ∀ D, H1 D = none -> ∃ W : Nat -> Nat -> Hp -> Prop, (∃ m, W 0 m (upd H1 D (.lst []))) /\ ∀ i m H, W i m H →
 (J.stop i H /\ Q (.ref D) H) \/ (J.go i H /\ ∃ Nx : Hp -> Prop, (∀ H', Nx H' -> ∃ m', m' < m /\ W (i + 1) m' H') /\ ∀ x H', J.yld i H x H' -> g x (wipe σ vs) H' fun σ2 H2 => wipe σ2 vs = wipe σ vs /\ tt σ2 H2 fun b H3 =>
  if b = true then te σ2 H3 fun y H4 => ∃ acc, H4 D = some (.lst acc) /\ acc.length < sizeLine /\ Nx (upd H4 D (.lst (acc ++ [y]))) else Nx H3)
theorem yP {pins : List (Addr × Obj)} {s : Shared} {σ : St} {H : Hp} {Q : VK} {elt tg iter : Expr} {ifs : List Expr} {scope : Scope} {own : List (Str × Nat)} {pos pos' : Pos} {wi : TI} {g : TG} {tt : TT} {te : TE} {use : Option (Value -> Sem Unit)} {Qf : Value -> Shared -> Prop}
  (hc : X.calm = true) (hN : X.N.Nodup) (I : Inv X pins σ H s) (hi : PI X tg iter wi) (ok : v8 X.N X.env.scope scope own)
  (hg : ∀ (s : Shared) (H : Hp) (C : Addr) (cl : List (Str × Addr)) (fp : List Addr), PG (X.blk s H scope (compEnvC scope cl C X.env) fp) tg g) (ht : ∀ (s : Shared) (H : Hp) (C : Addr) (cl : List (Str × Addr)) (fp : List Addr), PTs (X.blk s H scope (compEnvC scope cl C X.env) fp) ifs tt)
  (he : ∀ (s : Shared) (H : Hp) (C : Addr) (cl : List (Str × Addr)) (fp : List Addr), PE (X.blk s H scope (compEnvC scope cl C X.env) fp) elt te) (hs : ∀ x, foldedSetIterable iter X.env x = pure x)
  (h : tLc wi g tt te (own.map (·.2)) σ H Q)
  (hRR : ∀ D C s' m H', Inv X pins σ H' s' -> Q (.ref D) H' -> s'.heap.Ns C m -> qv X pins H' C -> compPost (model X.prog X.w) X.A X.xe use Qf (.ref D) C (.ok .next) s') :
  wpAny (model X.prog X.w) X.A (comprehension (.ListComp elt [⟨tg, iter, ifs, 0⟩] scope pos) scope X.env pos' (newList []) false (eval iter X.env) use) Qf X.xe s := by
 have qW : ∀ y ∈ scope.names, y.2 = .free -> ∃ c, X.env.cells.lookup y.1 = some c := fun y hy e => by
  rcases ok.free y hy e with k | k
  ·exact I.ok.has _ (.inl k)
  ·exact I.ok.has _ (.inr k)
 refine wpAny_comprehension_free (use := use) rfl hs (x6 qW) ok.kind (fun y hy e => by rw [ok.uniq y hy, e])
  (thn (hi pins s σ H _ I h) fun xv s1 hx => thn hx fun itv s2 h2 => ?_)
 obtain ⟨it, fp, tn, J, H2, e, I2, T, st2, f2, q⟩ := h2
 subst e
 refine wpAny_newObj_type (ve ?_) (by show 0 <= sizeLine; decide)
 generalize hD : s2.heap.objs.size = D
 have hDn : H2 D = none := I2.hok.fresh (Nat.le_of_eq hD)
 obtain ⟨W, ⟨m0, w0⟩, turn⟩ := q D hDn
 generalize hs3 : ({ s2 with heap := s2.heap.push { cls := .type "list", data := .seq ([] : List Value).toArray } } : Shared) = s3
 have I3 : Inv X pins σ (upd H2 D (.lst [])) s3 := by
  rw [← hs3]
  refine I2.laid (t' := s2.toks) (fun b o e => Heap.get?_push_of_some _ e) (Nat.le_of_eq hD) ⟨zBf _, [], 0, .nil, ?_⟩
  rw [← hD]
  exact Heap.get?_push_size _ rfl
 have h3 : s3.heap = s2.heap.push { cls := .type "list", data := .seq ([] : List Value).toArray } := by rw [← hs3]
 have sz : ∀ b ∈ fp, b < s2.heap.objs.size := fun b hb => by
  obtain ⟨o, e, _⟩ := T.obj _ _ st2 b hb
  exact Heap.lt_size e
 have f3 : ∀ b ∈ fp, qv X pins (upd H2 D (.lst [])) b /\ b < s3.heap.objs.size := fun b hb => by
  have hlt := sz b hb
  refine ⟨⟨?_, (f2 b hb).2⟩, by rw [h3, Heap.size_push]; exact Nat.lt_succ_of_lt hlt⟩
  rw [ag (by rw [← hD]; exact Nat.ne_of_lt hlt)]
  exact (f2 b hb).1
 have st3 : tn 0 s3.heap := T.keep _ _ _ st2 fun b _ o e => by rw [h3]; exact Heap.get?_push_of_some _ e
 have I4 := vU I3 ok hN f3
 have pg := hg s3 (upd H2 D (.lst [])) s3.heap.objs.size (cellsFrom (s3.heap.objs.size + 1) scope.names (bK X.env.cells scope.names [])) fp
 have pt := ht s3 (upd H2 D (.lst [])) s3.heap.objs.size (cellsFrom (s3.heap.objs.size + 1) scope.names (bK X.env.cells scope.names [])) fp
 have pe := he s3 (upd H2 D (.lst [])) s3.heap.objs.size (cellsFrom (s3.heap.objs.size + 1) scope.names (bK X.env.cells scope.names [])) fp
 show codeAny _ _ (.compStart (.ListComp elt [⟨tg, iter, ifs, 0⟩] scope pos) 0 (.ref it) (.ref D) (compEnvC scope (cellsFrom (s3.heap.objs.size + 1) scope.names (bK X.env.cells scope.names [])) s3.heap.objs.size X.env)) (compPost (model X.prog X.w) X.A X.xe use Qf (.ref D) s3.heap.objs.size) { s3 with heap := pushCells (s3.heap.push { cls := .type "dict", data := .dict #[] }) scope.names }
 have nfp : ∀ b ∈ fp, (upd H2 D (.lst [])) b = none := fun b hb => (f3 b hb).1.1
 generalize hce : compEnvC scope (cellsFrom (s3.heap.objs.size + 1) scope.names (bK X.env.cells scope.names [])) s3.heap.objs.size X.env = ce at I4 pg pt pe ⊢
 have cL : ce.locals = s3.heap.objs.size := by subst hce; rfl
 generalize hH3 : upd H2 D (.lst []) = H3 at I3 I4 pg pt pe w0 nfp f3
 generalize hs4 : ({ s3 with heap := pushCells (s3.heap.push { cls := .type "dict", data := .dict #[] }) scope.names } : Shared) = s4 at I4 ⊢
 have st4 : tn 0 s4.heap := T.keep _ _ _ st3 fun b _ o e => by rw [← hs4]; exact pushCells_keeps _ _ _ _ (Heap.get?_push_of_some _ e)
 have wt : ∀ {σ' : St} {H' : Hp} {s' : Shared}, Inv (X.blk s3 H3 scope ce fp) [] σ' H' s' -> (∀ b ∈ fp, H' b = none) -> ∀ b ∈ fp, qv (X.blk s3 H3 scope ce fp) [] H' b := fun {σ' H' s'} I' hn b hb =>
  ⟨hn b hb, (I'.ok.exf b hb).1, I'.ok.Dl b hb, .inl hb, fun x c e => (I'.ok.exf b hb).2 x c e, fun p hp => absurd (show p ∈ ([] : List (Addr × Obj)) ++ [] from hp) (by simp)⟩
 have loop : codeAny (model X.prog X.w) X.A (.compLoop (.ListComp elt [⟨tg, iter, ifs, 0⟩] scope pos) 0 (.ref it) (.ref D) ce) (compPost (model X.prog X.w) X.A X.xe use Qf (.ref D) s3.heap.objs.size) s4 := by
  refine tS (fun n s' => ∃ i H', Inv (X.blk s3 H3 scope ce fp) [] (wipe σ (own.map (·.2))) H' s' /\ tn i s'.heap /\ (∀ b ∈ fp, H' b = none) /\ W i n H') ?_ m0 ⟨0, H3, I4, st4, nfp, w0⟩
  rintro n s5 ⟨i, H5, I5, st5, n5, w5⟩
  rcases turn i n H5 w5 with ⟨stop, qq⟩ | ⟨go, Nx, hNx, step⟩
  ·have td := T.done (X.blk s3 H3 scope ce fp) rfl rfl rfl hc i [] s5 _ H5 (fun _ _ => False) I5 (wt I5 n5) st5 stop
   refine zx td fun r s6 ⟨hr, I6⟩ => ?_
   subst hr
   have I7 : Inv X pins σ H5 s6 := I3.Kq (ch := fp) I6.os I6.base I6.hok I6.bare fun b hb => ⟨(f3 b hb).1.2.2.2.1, (f3 b hb).1.2.1, (f3 b hb).1.2.2.2.2.1, (f3 b hb).1.2.2.2.2.2⟩
   have nC : H5 s3.heap.objs.size = none := by
    have z : H5 ce.locals = none := I6.free
    rw [cL] at z
    exact z
   obtain ⟨m, hn, _⟩ := I6.loc
   have hn : s6.heap.Ns ce.locals m := hn
   rw [cL] at hn
   exact hRR D s3.heap.objs.size s6 m H5 I7 qq hn (I3.Ik (zAt _) nC)
  ·have ti := T.item (X.blk s3 H3 scope ce fp) rfl rfl rfl hc i [] s5 _ H5 (fun _ _ => False) I5 (wt I5 n5) st5 go
   refine zx ti fun r s6 ⟨u, hr, h6⟩ => ?_
   subst hr
   refine zx h6 fun _ s7 ⟨x, H7, I7, r7, y7, st7, n7⟩ => ?_
   have I7' := I7.pinned (wt I7 n7) (T.obj _ _ st7)
   refine zx (pg _ s7 _ H7 x u _ I7' r7 (step x H7 y7)) fun _ s8 ⟨σ8, H8, I8, hw8, q8⟩ => ?_
   refine zx (pt _ s8 σ8 H8 _ I8 q8) fun b s9 ⟨H9, I9, q9⟩ => ?_
   have fin : ∀ {s' : Shared} {H' : Hp}, Inv (X.blk s3 H3 scope ce fp) ([] ++ nV fp s7.heap) σ8 H' s' -> Nx H' -> ∃ m, m < n /\ ∃ i H', Inv (X.blk s3 H3 scope ce fp) [] (wipe σ (own.map (·.2))) H' s' /\ tn i s'.heap /\ (∀ b ∈ fp, H' b = none) /\ W i m H' := fun {s' H'} I' nx => by
    obtain ⟨m', hm, w'⟩ := hNx H' nx
    have JF : ∀ b ∈ fp, ∀ o, s7.heap.get? b = some o -> s'.heap.get? b = some o /\ H' b = none := fun b hb o e =>
     let z := I'.pin (b, o) (List.mem_append_right _ (List.mem_append_right _ (jz hb e)))
     ⟨z.1, z.2.1⟩
    have hl : (wipe σ (own.map (·.2))).length = σ8.length := by rw [← hw8, hJ]
    refine ⟨m', hm, i + 1, H', (I'.jW (pins := [])).weak hl (fun j v e => ?_), T.keep _ _ _ st7 fun b hb o e => (JF b hb o e).1, fun b hb => ?_, w'⟩
    ·rw [← hw8] at e
     exact (kQ e).1
    ·obtain ⟨o, e, _⟩ := T.obj _ _ st7 b hb
     exact (JF b hb o e).2
   cases b with
   | false =>
    simp only [Bool.false_eq_true, if_false] at q9 ⊢
    exact fin I9 q9
   | true =>
    simp only [if_true] at q9 ⊢
    refine zx (pe _ s9 σ8 H9 _ I9 q9) fun z s10 ⟨yv, H10, I10, r10, acc, Lo, K2, nx⟩ => ?_
    exact IU (X := X.blk s3 H3 scope ce fp) I10 Lo K2 r10 fun s11 I11 => fin I11 nx
 exact codeAny_compStart_list loop (T.self X.A 0 _ _ _ st4 loop)
theorem JG {elt tg iter : Expr} {ifs : List Expr} {scope : Scope} {own : List (Str × Nat)} {pos : Pos} {wi : TI} {g : TG} {tt : TT} {te : TE} (hc : X.calm = true) (hN : X.N.Nodup) (hi : PI X tg iter wi) (ok : v8 X.N X.env.scope scope own)
  (hg : ∀ (s : Shared) (H : Hp) (C : Addr) (cl : List (Str × Addr)) (fp : List Addr), PG (X.blk s H scope (compEnvC scope cl C X.env) fp) tg g) (ht : ∀ (s : Shared) (H : Hp) (C : Addr) (cl : List (Str × Addr)) (fp : List Addr), PTs (X.blk s H scope (compEnvC scope cl C X.env) fp) ifs tt)
  (he : ∀ (s : Shared) (H : Hp) (C : Addr) (cl : List (Str × Addr)) (fp : List Addr), PE (X.blk s H scope (compEnvC scope cl C X.env) fp) elt te) (hs : ∀ x, foldedSetIterable iter X.env x = pure x := by intro _; rfl) :
  PE X (.ListComp elt [⟨tg, iter, ifs, 0⟩] scope pos) (tLc wi g tt te (own.map (·.2))) := by
 intro pins s σ H Q I h
 rw [eval_ListComp]
 refine yP hc hN I hi ok hg ht he hs h fun D C s' m H' I' q hn f => ⟨m, hn, fun h'' sb => ?_⟩
 obtain ⟨f0, f1, f2, f3, f4, f5⟩ := f
 exact ⟨.ref D, H', I'.turned (t' := s'.toks) (fun b o hb e => (sb.2 b hb).trans e) f0 f1 f3 f4 f5, rfl, q⟩
theorem BU {i : Nat} {y : Str} {py : Pos} {elt tg iter : Expr} {ifs : List Expr} {scope : Scope} {own : List (Str × Nat)} {pos Bj : Pos} {wi : TI} {g : TG} {tt : TT} {te : TE} (hc : X.calm = true) (hN : X.N.Nodup) (hy : X.N[i]? = some y) (hyl : X.env.scope.names.lookup y = some .local)
  (hsw : swapsWith (.ListComp elt [⟨tg, iter, ifs, 0⟩] scope pos) (some (.Name y py)) Bj.line X.env = pure true) (hi : PI X tg iter wi) (ok : v8 X.N X.env.scope scope own)
  (hg : ∀ (s : Shared) (H : Hp) (C : Addr) (cl : List (Str × Addr)) (fp : List Addr), PG (X.blk s H scope (compEnvC scope cl C X.env) fp) tg g) (ht : ∀ (s : Shared) (H : Hp) (C : Addr) (cl : List (Str × Addr)) (fp : List Addr), PTs (X.blk s H scope (compEnvC scope cl C X.env) fp) ifs tt)
  (he : ∀ (s : Shared) (H : Hp) (C : Addr) (cl : List (Str × Addr)) (fp : List Addr), PE (X.blk s H scope (compEnvC scope cl C X.env) fp) elt te) (hs : ∀ x, foldedSetIterable iter X.env x = pure x := by intro _; rfl) :
  PS X (.Assign [.Name y py] (.ListComp elt [⟨tg, iter, ifs, 0⟩] scope pos) Bj) (zz (tLc wi g tt te (own.map (·.2))) (g4 i)) := by
 intro pins s σ H D I h
 rw [exec_Assign_Name_used _ _ _ _ hsw]
 refine wpAny_bind (wpAny_standAt (wpAny_bind ?_))
 show wpAny _ X.A (do let _ ← comprehension (.ListComp elt [⟨tg, iter, ifs, 0⟩] scope pos) scope X.env (firstIterPos [⟨tg, iter, ifs, 0⟩] pos) (newList []) false (eval iter X.env) (some (assign (.Name y py) X.env))) _ _ s
 have h : tLc wi g tt te (own.map (·.2)) σ H (fun x H1 => g4 i x σ H1 D.nx) := h
 refine wpAny_bind (thn (yP (Qf := fun _ s' => SP X pins D .next s') hc hN I hi ok hg ht he hs h fun L C s' m H' I' q hn f => ?_) fun _ s' hq => wpAny_pure (wpAny_pure hq))
 show wpAny _ _ (assign (.Name y py) X.env (.ref L)) _ _ _
 refine wpAny_assign_Name (qC (v := V.ref L) I' hN hy (.inl hyl) rfl (fun s2 I2 ⟨a, sb, ha⟩ => ?_) (.inr hyl))
 obtain ⟨f0, f1, f2, f3, f4, f5⟩ := f
 have haC : C ≠ a := by
  rcases ha with z | z
  ·rw [z]; exact f1
  ·exact fun e => f4 y a z e.symm
 refine ⟨m, hn.sameBut sb haC, fun h3 sb3 => ?_⟩
 exact ⟨_, H', I2.turned (t' := s2.toks) (fun b o hb e => (sb3.2 b hb).trans e) f0 f1 f3 f4 f5, q⟩
theorem DY {elt : Expr} {gs : List Comprehension} {scope : Scope} {pos py : Pos} {y : Str} {l : Nat} {env : Env} (hk : env.scope.kind = .function) (hy : env.scope.names.lookup y = some .local) (hl : (py.line == pos.line) = true)
  (ha : (scope.names.any fun (n, k) => n == y && (k == .local || k == .cell)) = false) : swapsWith (.ListComp elt gs scope pos) (some (.Name y py)) l env = pure true := by
 have ky : env.kindOf y = some .local := hy
 have hb : env.blockKind = .function := by unfold Env.blockKind; rw [hk]; rfl
 unfold swapsWith
 simp only [hb, ky, ha, Expr.pos, hl]
 rfl
end
theorem oy {lo : Int} {n : Nat} {g : TG} {tt : TT} {te : TE} {vs : List Nat} {σ : St} {H1 : Hp} {D : Addr} {Qd : Hp -> Prop} (Pv : Nat -> Hp -> Prop) (h0 : Pv 0 (upd H1 D (.lst [])))
  (hs : ∀ i H, i < n -> Pv i H -> g (.int (lo + i)) (wipe σ vs) H fun σ2 H2 => wipe σ2 vs = wipe σ vs /\ tt σ2 H2 fun b H3 =>
   if b = true then te σ2 H3 fun y H4 => ∃ acc, H4 D = some (.lst acc) /\ acc.length < sizeLine /\ Pv (i + 1) (upd H4 D (.lst (acc ++ [y]))) else Pv (i + 1) H3) (hd : ∀ H, Pv n H -> Qd H) :
  ∃ W : Nat -> Nat -> Hp -> Prop, (∃ m, W 0 m (upd H1 D (.lst []))) /\ ∀ i m H, W i m H →
   ((Itr lo n).stop i H /\ Qd H) \/ ((Itr lo n).go i H /\ ∃ Nx : Hp -> Prop, (∀ H', Nx H' -> ∃ m', m' < m /\ W (i + 1) m' H') /\ ∀ x H', (Itr lo n).yld i H x H' -> g x (wipe σ vs) H' fun σ2 H2 => wipe σ2 vs = wipe σ vs /\ tt σ2 H2 fun b H3 =>
    if b = true then te σ2 H3 fun y H4 => ∃ acc, H4 D = some (.lst acc) /\ acc.length < sizeLine /\ Nx (upd H4 D (.lst (acc ++ [y]))) else Nx H3) := by
 refine ⟨fun i m H => m = n - i /\ i <= n /\ Pv i H, ⟨n, by simp, zBf _, h0⟩, ?_⟩
 rintro i m H ⟨rfl, hi, p⟩
 by_cases hlt : i < n
 ·refine .inr ⟨hlt, Pv (i + 1), fun H' p' => ⟨n - (i + 1), by omega, rfl, hlt, p'⟩, fun x H' y => ?_⟩
  obtain ⟨e, y⟩ := y
  subst e y
  exact hs i _ hlt p
 ·have e : i = n := by omega
  subst e
  exact .inl ⟨zAt _, hd H p⟩
theorem sy {K : PySem.W.Frag} {a : Addr} {xs : List V} {g : TG} {tt : TT} {te : TE} {vs : List Nat} {σ : St} {H1 : Hp} {D : Addr} {Qd : Hp -> Prop} (Pv : Nat -> Hp -> Prop) (h0 : Pv 0 (upd H1 D (.lst []))) (hl : ∀ i H, i <= xs.length -> Pv i H -> SqL K H a xs)
  (hs : ∀ i x H, xs[i]? = some x -> Pv i H -> g x (wipe σ vs) H fun σ2 H2 => wipe σ2 vs = wipe σ vs /\ tt σ2 H2 fun b H3 =>
   if b = true then te σ2 H3 fun y H4 => ∃ acc, H4 D = some (.lst acc) /\ acc.length < sizeLine /\ Pv (i + 1) (upd H4 D (.lst (acc ++ [y]))) else Pv (i + 1) H3) (hd : ∀ H, Pv xs.length H -> Qd H) :
  ∃ W : Nat -> Nat -> Hp -> Prop, (∃ m, W 0 m (upd H1 D (.lst []))) /\ ∀ i m H, W i m H →
   ((Itl K a).stop i H /\ Qd H) \/ ((Itl K a).go i H /\ ∃ Nx : Hp -> Prop, (∀ H', Nx H' -> ∃ m', m' < m /\ W (i + 1) m' H') /\ ∀ x H', (Itl K a).yld i H x H' -> g x (wipe σ vs) H' fun σ2 H2 => wipe σ2 vs = wipe σ vs /\ tt σ2 H2 fun b H3 =>
    if b = true then te σ2 H3 fun y H4 => ∃ acc, H4 D = some (.lst acc) /\ acc.length < sizeLine /\ Nx (upd H4 D (.lst (acc ++ [y]))) else Nx H3) := by
 refine ⟨fun i m H => m = xs.length - i /\ i <= xs.length /\ Pv i H, ⟨xs.length, by simp, zBf _, h0⟩, ?_⟩
 rintro i m H ⟨rfl, hi, p⟩
 have q := hl i H hi p
 by_cases hlt : i < xs.length
 ·refine .inr ⟨⟨xs, xs[i], q, by simp [hlt]⟩, Pv (i + 1), fun H' p' => ⟨xs.length - (i + 1), by omega, rfl, hlt, p'⟩, fun x H' y => ?_⟩
  obtain ⟨e, y⟩ := y
  subst e
  exact hs i x _ (y xs q) p
 ·have e : i = xs.length := by omega
  subst e
  exact .inl ⟨⟨xs, q, zAt _⟩, hd H p⟩
def DK (N : List Str) (sc scope : Scope) (own : List (Str × Nat)) : Bool :=
 (match scope.kind with | .function => true | _ => false) && (scope.names.all fun y => decide (scope.names.lookup y.1 = some y.2)) && (own.all fun p => decide (N[p.2]? = some p.1)) &&
  (scope.names.all fun y => match y.2 with
   | .free => (match sc.names.lookup y.1 with | some .cell => true | some .free => true | _ => false)
   | .local => decide (y.1 ∈ own.map (·.1)) || decide (y.1 ∉ N)
   | .cell => decide (y.1 ∈ own.map (·.1)) || decide (y.1 ∉ N)
   | _ => true)
theorem vV {N : List Str} {sc scope : Scope} {own : List (Str × Nat)} (h : DK N sc scope own = true) : v8 N sc scope own := by
 unfold DK at h
 simp only [zBg, zBa, decide_eq_true_eq] at h
 obtain ⟨⟨⟨h1, h2⟩, h3⟩, h4⟩ := h
 refine ⟨?_, h2, h3, fun y hy e => ?_, fun y hy e => ?_⟩
 ·split at h1
  ·assumption
  ·cases h1
 ·have q := h4 y hy
  simp only [e] at q
  split at q <;> first | exact .inl (by assumption) | exact .inr (by assumption) | cases q
 ·have q := h4 y hy
  rcases e with e | e <;> (simp only [e, Bool.or_eq_true, decide_eq_true_eq] at q; exact q)
section
variable {prog : Program} {w : World} {A : Around} {R : Result -> Shared -> Prop} {s : Shared} {elt t0 i0 t1 i1 : Expr} {LY LX : List Expr} {scope : Scope} {pos : Pos} {it acc : Value} {env : Env}
end
section
variable {X : Cx}
end
section
variable {κ : Type} [DecidableEq κ]
def fw (kvs : List (κ × V)) (k : κ) : Option V := (kvs.find? fun kv => decide (kv.1 = k)).map (·.2)
def putK (kvs : List (κ × V)) (k : κ) (v : V) : List (κ × V) :=
 if (kvs.any fun kv => decide (kv.1 = k)) = true then kvs.map (fun kv => if kv.1 = k then (kv.1, v) else kv) else kvs ++ [(k, v)]
theorem hX {p : κ × V} {r : List (κ × V)} {k : κ} (e : p.1 = k) : fw (p :: r) k = some p.2 := by simp [fw, List.find?_cons, e]
theorem h7 {p : κ × V} {r : List (κ × V)} {k : κ} (e : ¬ p.1 = k) : fw (p :: r) k = fw r k := by simp [fw, List.find?_cons, e]
theorem ng (k : κ) : ∀ kvs : List (κ × V), (kvs.any fun kv => decide (kv.1 = k)) = (fw kvs k).isSome
 | [] => rfl
 | p :: r => by
  rw [List.any_cons]
  by_cases e : p.1 = k
  ·simp only [hX e, zAf e, Bool.true_or, Option.isSome_some]
  ·rw [h7 e, zBm e, Bool.false_or]; exact ng k r
theorem iD (kvs : List (κ × V)) (k : κ) (v : V) : (putK kvs k v).length <= kvs.length + 1 := by
 unfold putK
 split
 ·rw [zAa]; omega
 ·rw [zAi, zAz, List.length_nil]; omega
theorem BR {kvs : List (κ × V)} {k : κ} (v : V) (h : fw kvs k = none) : putK kvs k v = kvs ++ [(k, v)] := by
 unfold putK
 rw [ng, h]
 exact if_neg (by decide)
theorem jb.lI {o : Option V} {u : Option Value} (r : jb o u) : o.isSome = u.isSome := by
 cases o with
 | none => cases u with
  | none => rfl
  | some _ => exact (show False from r).elim
 | some _ => cases u with
  | none => exact (show False from r).elim
  | some _ => rfl
theorem KV.val {kvs : List (κ × V)} {vs : List (κ × Value)} (r : KV kvs vs) (k : κ) : jb (fw kvs k) (valueAt vs k) := by
 unfold KV at r
 induction r with
 | nil => exact True.intro
 | @cons p q ps qs h t ih =>
  obtain ⟨h1, h2⟩ := h
  by_cases e : p.1 = k
  ·have e' : q.1 = k := h1.symm.trans e
   have b : valueAt (q :: qs) k = some q.2 := by simp [valueAt, List.find?_cons, e']
   rw [hX e, b]; exact h2
  ·have e' : ¬ q.1 = k := fun z => e (h1.trans z)
   have b : valueAt (q :: qs) k = valueAt qs k := by simp [valueAt, List.find?_cons, e']
   rw [h7 e, b]; exact ih
theorem KV.any {kvs : List (κ × V)} {vs : List (κ × Value)} (r : KV kvs vs) (k : κ) : (kvs.any fun kv => decide (kv.1 = k)) = vs.any fun kv => decide (kv.1 = k) := by
 unfold KV at r
 induction r with
 | nil => rfl
 | cons h t ih => rw [List.any_cons, List.any_cons, ih, h.1]
theorem KV.GW {kvs : List (κ × V)} {vs : List (κ × Value)} (r : KV kvs vs) (k : κ) {y : V} {u : Value} (ry : RelV y u) :
  KV (kvs.map fun kv => if kv.1 = k then (kv.1, y) else kv) (vs.map fun kv => if kv.1 = k then (kv.1, u) else kv) := by
 unfold KV at r ⊢
 induction r with
 | nil => exact .nil
 | @cons p q ps qs h t ih =>
  rw [List.map_cons, List.map_cons]
  refine .cons ?_ ih
  obtain ⟨h1, h2⟩ := h
  by_cases e : p.1 = k
  ·rw [if_pos e, if_pos (h1.symm.trans e)]; exact ⟨h1, ry⟩
  ·rw [if_neg e, if_neg (fun z => e (h1.trans z))]; exact ⟨h1, h2⟩
theorem KV.put {kvs : List (κ × V)} {vs : List (κ × Value)} (r : KV kvs vs) (k : κ) {y : V} {u : Value} (ry : RelV y u) : KV (putK kvs k y) (stored vs k u) := by
 unfold putK stored
 rw [r.any k]
 by_cases e : (vs.any fun kv => decide (kv.1 = k)) = true
 ·rw [if_pos e, if_pos e]; exact r.GW k ry
 ·rw [if_neg e, if_neg e]; exact Paired.snoc r ⟨rfl, ry⟩
theorem KV.length {kvs : List (κ × V)} {vs : List (κ × Value)} (r : KV kvs vs) : kvs.length = vs.length := Paired.length r
end
theorem vp {P : Program} {w : World} {k : Key} {u : Value} (r : RelV (kV k) u) : (cB P w).is k u = true := by
 cases k with
 | inl i => obtain ⟨t, e⟩ := (show ∃ t, u = Value.int i t from r); subst e; exact vg P w i t
 | inr x => obtain ⟨t, e⟩ := (show ∃ t, u = Value.str x t from r); subst e; exact vf P w x t
theorem qV {P : Program} {w : World} : ∀ {ks : List Key} {us : List Value}, Vals (ks.map kV) us -> ItemsAre (cB P w) ks us
 | [], _, r => by rw [List.map_nil] at r; cases r; exact .nil
 | k :: ks, _, r => by
  rw [List.map_cons] at r
  cases r with
  | cons h t => exact .cons (vp h) (qV t)
abbrev KT (H : Hp) : List (List Key × V) -> List (List Key × Addr × Value) -> Prop := Paired fun p q => p.1 = q.1 /\ H q.2.1 = some (.tup (p.1.map kV)) /\ RelV p.2 q.2.2
theorem KT.val {H : Hp} {kvs : List (List Key × V)} {xs : List (List Key × Addr × Value)} (r : KT H kvs xs) (k : List Key) : jb (fw kvs k) ((atKey xs k).map (·.2)) := by
 induction r with
 | nil => exact True.intro
 | @cons p q ps qs h t ih =>
  obtain ⟨h1, _, h2⟩ := h
  by_cases e : p.1 = k
  ·have e' : q.1 = k := h1.symm.trans e
   have b : atKey (q :: qs) k = some q.2 := by simp [atKey, List.find?_cons, e']
   rw [hX e, b]; exact h2
  ·have e' : ¬ q.1 = k := fun z => e (h1.trans z)
   have b : atKey (q :: qs) k = atKey qs k := by simp [atKey, List.find?_cons, e']
   rw [h7 e, b]; exact ih
theorem KT.GW {H : Hp} {kvs : List (List Key × V)} {xs : List (List Key × Addr × Value)} (r : KT H kvs xs) (k : List Key) {y : V} {u : Value} (ry : RelV y u) :
  KT H (kvs.map fun kv => if kv.1 = k then (kv.1, y) else kv) (xs.map (putAt k u)) := by
 induction r with
 | nil => exact .nil
 | @cons p q ps qs h t ih =>
  rw [List.map_cons, List.map_cons]
  refine .cons ?_ ih
  obtain ⟨h1, h2, h3⟩ := h
  unfold putAt
  by_cases e : p.1 = k
  ·rw [if_pos e, if_pos (h1.symm.trans e)]; exact ⟨h1, h2, ry⟩
  ·rw [if_neg e, if_neg (fun z => e (h1.trans z))]; exact ⟨h1, h2, h3⟩
theorem KT.put {H : Hp} {kvs : List (List Key × V)} {xs : List (List Key × Addr × Value)} (r : KT H kvs xs) (k : List Key) {b : Addr} {y : V} {u : Value} (hb : H b = some (.tup (k.map kV))) (ry : RelV y u) :
  KT H (putK kvs k y) (storedH xs k b u) := by
 have e : (kvs.any fun kv => decide (kv.1 = k)) = (atKey xs k).isSome := by
  rw [ng, (r.val k).lI, Option.isSome_map]
 unfold putK storedH
 rw [e]
 by_cases q : (atKey xs k).isSome = true
 ·rw [if_pos q, if_pos q]; exact r.GW k ry
 ·rw [if_neg q, if_neg q]; exact Paired.snoc r ⟨rfl, hb, ry⟩
theorem KT.keeps {H H' : Hp} {kvs : List (List Key × V)} {xs : List (List Key × Addr × Value)} (r : KT H kvs xs) (ht : ∀ b ys, H b = some (.tup ys) -> H' b = some (.tup ys)) : KT H' kvs xs :=
 Paired.HK r fun _ _ z => ⟨z.1, ht _ _ z.2.1, z.2.2⟩
section
variable {P : Program} {w : World} {H : Hp} {h : Heap} {a : Addr}
theorem Gv {u : HO} (ok : HOk P w H h) (e : Rd H a u) : cG P w H h a u := e.ok ok
theorem zc {kvs : List (Key × V)} (ok : HOk P w H h) (e : Rd H a (.dK kvs)) : kvs.length <= sizeLine /\ (a == sysModules) = false /\ ∃ vs, KV kvs vs /\ h.DictOf (cB P w) a vs :=
 show cG P w H h a (.dK kvs) from Gv ok e
theorem Dr {kvs : List (Key × V)} (ok : HOk P w H h) (e : H a = some (.dK kvs)) : kvs.length <= sizeLine /\ (a == sysModules) = false /\ ∃ vs, KV kvs vs /\ h.DictOf (cB P w) a vs := zc ok (.inl e)
theorem sC {ks : List Key} (ok : HOk P w H h) (e : H a = some (.tup (ks.map kV))) : (tupleKind (cB P w)).is h ks a := by
 obtain ⟨_, its, r, o, h1, h2, n, h3⟩ := (show cG P w H h a (.tup (ks.map kV)) from ok a _ e)
 exact ⟨o, its.toArray, n, h1, h2, h3, by simpa using qV r⟩
theorem za {kvs : List (List Key × V)} (ok : HOk P w H h) (e : Rd H a (.dT kvs)) : kvs.length <= sizeLine /\ (a == sysModules) = false ∧
  ∃ xs, KT H kvs xs /\ h.DictOfH (tupleKind (cB P w)) a xs := by
 obtain ⟨z, y, xs, r, o, es, ep, h1, h2, h3, h4, h5⟩ := (show cG P w H h a (.dT kvs) from Gv ok e)
 refine ⟨z, y, xs, r, o, es, ep, h1, h2, h3, h4, fun x hx => ?_, h5⟩
 have all : ∀ {l : List (List Key × V)} {m : List (List Key × Addr × Value)}, KT H l m -> ∀ x ∈ m, (tupleKind (cB P w)).is h x.1 x.2.1 := by
  intro l m q
  induction q with
  | nil => intro x hx; exact nomatch hx
  | @cons p q ps qs hq t ih =>
   intro x hx
   rcases zAv.mp hx with e | hx
   ·subst e
    exact sC ok (by rw [← hq.1]; exact hq.2.1)
   ·exact ih x hx
 exact all r x hx
theorem Ko {kvs : List (List Key × V)} (ok : HOk P w H h) (e : H a = some (.dT kvs)) : kvs.length <= sizeLine /\ (a == sysModules) = false ∧
  ∃ xs, KT H kvs xs /\ h.DictOfH (tupleKind (cB P w)) a xs := za ok (.inl e)
end
def lX (H : Hp) (a : Addr) (y : V) (r : Option V) : Prop :=
 (∃ kvs k, Rd H a (.dK kvs) /\ y = kV k /\ r = fw kvs k) \/ ∃ kvs k b, Rd H a (.dT kvs) /\ y = .ref b /\ H b = some (.tup (k.map kV)) /\ r = fw kvs k
def DR (H : Hp) (a : Addr) (y v : V) (H' : Hp) : Prop :=
 (∃ kvs k, H a = some (.dK kvs) /\ y = kV k /\ kvs.length < sizeLine /\ H' = upd H a (.dK (putK kvs k v))) ∨
 ∃ kvs k b, H a = some (.dT kvs) /\ y = .ref b /\ H b = some (.tup (k.map kV)) /\ kvs.length < sizeLine /\ H' = upd H a (.dT (putK kvs k v))
theorem lX.k {H : Hp} {a : Addr} {kvs : List (Key × V)} {k : Key} (e : H a = some (.dK kvs)) : lX H a (kV k) (fw kvs k) := .inl ⟨kvs, k, .inl e, rfl, rfl⟩
theorem DR.k {H : Hp} {a : Addr} {kvs : List (Key × V)} {k : Key} {v : V} (e : H a = some (.dK kvs)) (hl : kvs.length < sizeLine) : DR H a (kV k) v (upd H a (.dK (putK kvs k v))) := .inl ⟨kvs, k, e, rfl, hl, rfl⟩
section
variable {X : Cx} {pins : List (Addr × Obj)} {σ : St} {H : Hp} {s : Shared} {a : Addr} {y v : V} {u r : Value} {o : Option V} {A : Around} {E : Value -> Shared -> Prop}
theorem Inv.big (I : Inv X pins σ H s) : sysModules < s.heap.objs.size := by
 have h : mainGlobals < s.heap.objs.size := (I.mod.glob.keeps I.bk).lt
 exact Nat.lt_trans (by decide) h
theorem AO {Q : Value -> Shared -> Prop} (hu : A.units + 1 < cLine) (I : Inv X pins σ H s) (g : lX H a y (some v)) (ry : RelV y u) (h : ∀ w' s', Inv X pins σ H s' -> RelV v w' -> Q w' s') :
  wpAny (model X.prog X.w) A (getItem (.ref a) u) Q E s := by
 rcases g with ⟨kvs, k, e, ey, l⟩ | ⟨kvs, k, b, e, ey, eb, l⟩
 ·subst ey
  obtain ⟨z, hd, vs, rel, dd⟩ := zc I.hok e
  obtain ⟨w', hw, rw'⟩ := jb.some_of (v := v) (o := valueAt vs k) (by rw [l]; exact rel.val k)
  exact wpAny_getItem_of (vp ry) dd.mapOf hw (h w' _ (I.tok _) rw')
 ·subst ey
  cases (show u = Value.ref b from ry)
  obtain ⟨z, hd, xs, rel, dd⟩ := za I.hok e
  obtain ⟨w', hw, rw'⟩ := jb.some_of (v := v) (o := (atKey xs k).map (·.2)) (by rw [l]; exact rel.val k)
  obtain ⟨p, hp, hp2⟩ := Option.map_eq_some_iff.mp hw
  refine wpAny_getItem_heap (tupleKind_room_in1 hu) (sC I.hok eb) dd hp ?_
  rw [hp2]
  exact h w' _ (I.tok _) rw'
theorem FQ {Q : Value -> Shared -> Prop} (hu : A.units + 1 < cLine) (I : Inv X pins σ H s) (g : lX H a y o) (ry : RelV y u) (h : ∀ s', Inv X pins σ H s' -> Q (.bool (!o.isSome)) s') :
  wpAny (model X.prog X.w) A (compareOp .NotIn u (.ref a)) Q E s := by
 rcases g with ⟨kvs, k, e, ey, l⟩ | ⟨kvs, k, b, e, ey, eb, l⟩
 ·subst ey
  obtain ⟨z, hd, vs, rel, dd⟩ := zc I.hok e
  refine wpAny_notIn_of (vp ry) hd dd.mapOf ?_
  rw [← (rel.val k).lI, ← l]
  exact h _ (I.tok _)
 ·subst ey
  cases (show u = Value.ref b from ry)
  obtain ⟨z, hd, xs, rel, dd⟩ := za I.hok e
  refine wpAny_notIn_heap (tupleKind_room_in1 hu) (sC I.hok eb) hd dd ?_
  have q := (rel.val k).lI
  rw [Option.isSome_map] at q
  rw [← q, ← l]
  exact h _ (I.tok _)
theorem tR {h' : Heap} {t' : Nat} {ob : HO} (I : Inv X pins σ H s) (mu : Mut (H a)) (hs : Heap.SameBut a s.heap h') (he : ∃ q, h'.get? a = some q) (new : cG X.prog X.w (upd H a ob) h' a ob) :
  Inv X pins σ (upd H a ob) { s with heap := h', toks := t' } :=
 I.write (x := a) (e := a) mu (.inl rfl) (fun b q hb z => (hs.2 b hb).trans z) he new
theorem Ds {P : Program} {w : World} {H' : Hp} {h' : Heap} {kvs : List (Key × V)} {vs : List (Key × Value)} (z : kvs.length <= sizeLine) (hd : (a == sysModules) = false) (rel : KV kvs vs) (dd : h'.DictOf (cB P w) a vs) :
  cG P w H' h' a (.dK kvs) := ⟨z, hd, vs, rel, dd⟩
theorem AN {H' : Hp} {Q : Unit -> Shared -> Prop} (hu : A.units + 1 < cLine) (I : Inv X pins σ H s) (g : DR H a y v H') (ry : RelV y u) (rv : RelV v r) (h : ∀ s', Inv X pins σ H' s' -> Q () s') :
  wpAny (model X.prog X.w) A (setItem (.ref a) u r) Q E s := by
 rcases g with ⟨kvs, k, e, ey, l, eH⟩ | ⟨kvs, k, b, e, ey, eb, l, eH⟩
 ·subst ey eH
  obtain ⟨z, hd, vs, rel, dd⟩ := Dr I.hok e
  have hz : vs.length <= sizeLine := by rw [← rel.length]; exact z
  have hl : (putK kvs k v).length <= sizeLine := by have := iD kvs k v; omega
  refine wpAny_setItem_pairs (hsz := hz) (vp ry) dd fun h' dd' hs => h _ ?_
  have he : ∃ q, h'.get? a = some q := let ⟨q, _, _, hq, _⟩ := dd'; ⟨q, hq⟩
  exact tR I (by rw [e]; exact True.intro) hs he (Ds hl hd (rel.put k rv) dd')
 ·subst ey eH
  cases (show u = Value.ref b from ry)
  obtain ⟨z, hd, xs, rel, dd⟩ := Ko I.hok e
  have hz : xs.length <= sizeLine := by rw [← Paired.length rel]; exact z
  have hl : (putK kvs k v).length <= sizeLine := by have := iD kvs k v; omega
  refine wpAny_setItem_heap (hsz := hz) (tupleKind_room_in1 hu) (sC I.hok eb) dd fun h' dd' hs => h _ ?_
  obtain ⟨q, es, ep, hq, h2, h3, h4, _, h5⟩ := dd'
  refine tR I (by rw [e]; exact True.intro) hs ⟨q, hq⟩ ⟨hl, hd, _, (rel.put k eb rv).keeps fun c ys ec => ?_, q, es, ep, hq, h2, h3, h4, h5⟩
  rw [ag (cU ec e (fun z => nomatch z))]
  exact ec
end
section
variable {X : Cx} {pins : List (Addr × Obj)} {σ : St} {H : Hp} {s : Shared} {a : Addr} {kvs : List (Key × V)} {k : Key} {u : Value} {A : Around} {E : Value -> Shared -> Prop}
end
def KD (i : Expr) : Prop := ∀ ov iv, subscripted i false ov iv = operate [ov, iv] (getItem ov iv)
theorem D1 {prog : Program} {w : World} {A : Around} {E : Value -> Shared -> Prop} {s : Shared} {env : Env} {value slice : Expr} {pos : Pos} {T id : String} {Q : Value -> Shared -> Prop}
  (hl : typeLookup (.type T) "__getitem__" = pure (some (.builtin id))) (hs : KD slice)
  (h : wpAny (model prog w) A (eval value env) (fun o s₁ => wpAny (model prog w) A (eval slice env) (fun i s₂ => s₂.TypeIs o T /\ wpAny (model prog w) A (getItem o i) Q E s₂) E s₁) E s) :
  wpAny (model prog w) A (eval (.Subscript value slice pos) env) Q E s := by
 refine Subscript_ (wpAny_mono h (fun o s₁ h₁ => wpAny_mono h₁ (fun i s₂ h₂ => ?_) fun _ _ x => x) fun _ _ x => x)
 obtain ⟨hT, h₂⟩ := h₂
 unfold subscriptTail
 refine wpAny_bind ?_
 rw [getitemInPython_of_ne hT.not_modules]
 refine wpAny_bind (wpAny_specialOf hT hl ?_)
 have fin : wpAny (model prog w) A (subscripted slice false o i) (fun r s₃ => wpAny (model prog w) A (letTemporaryGo value o r >>= fun _ => pure r) Q E s₃) E s₂ := by
  rw [hs o i]
  exact wpAny_operating (wpAny_mono h₂ (fun r s₃ h₃ => wpAny_bind (wpAny_letTemporaryGo (wpAny_pure h₃))) fun _ _ x => x)
 first
  | exact wpAny_pure (wpAny_bind fin)
  | exact wpAny_bind (wpAny_pure (wpAny_bind fin))
  | exact wpAny_bind fin
theorem vI {X : Cx} {pins : List (Addr × Obj)} {σ : St} {H : Hp} {s : Shared} {a : Addr} {y : V} {o : Option V} (I : Inv X pins σ H s) (g : lX H a y o) : s.TypeIs (.ref a) "dict" := by
 rcases g with ⟨kvs, k, e, _, _⟩ | ⟨kvs, k, b, e, _, _, _⟩
 ·obtain ⟨_, _, vs, _, dd⟩ := zc I.hok e
  exact dd.typeIs
 ·obtain ⟨_, _, xs, _, dd⟩ := za I.hok e
  exact dd.typeIs
def Ji (td ty : TE) : TE := fun σ H Q => td σ H fun x H1 => ty σ H1 fun y H2 => ∃ a v, x = .ref a /\ lX H2 a y (some v) /\ Q v H2
def DX (ty td : TE) : TE := fun σ H Q => ty σ H fun y H1 => td σ H1 fun x H2 => ∃ a o, x = .ref a /\ lX H2 a y o /\ Q (.bl (!o.isSome)) H2
def Jo (td ty tv : TE) : TS := fun D σ H => tv σ H fun v H1 => td σ H1 fun x H2 => ty σ H2 fun y H3 => ∃ a H4, x = .ref a /\ DR H3 a y v H4 /\ D.nx σ H4
section
variable {X : Cx} {o i e value : Expr} {pos pos' Jb : Pos} {td ty tv : TE}
theorem yJ (hu : X.A.units + 1 < cLine) (ho : PE X o td) (hi : PE X i ty) (hs : KD i) : PE X (.Subscript o i pos) (Ji td ty) := by
 intro pins s σ H Q I h
 refine D1 PySem.F.slot_dict_getitem.lookup hs (thn (ho pins s σ H _ I h) fun u s1 ⟨x, H1, I1, rx, q1⟩ => thn (hi pins s1 σ H1 _ I1 q1) fun iv s2 ⟨y, H2, I2, ry, a, v, ex, g, q2⟩ => ?_)
 subst ex
 obtain rfl : u = Value.ref a := rx
 exact ⟨vI I2 g, AO hu I2 g ry fun w' s3 I3 rw' => ⟨v, H2, I3, rw', q2⟩⟩
theorem qN (hu : X.A.units + 1 < cLine) (hi : PE X i ty) (ho : PE X o td) : PC X .NotIn i o (DX ty td) := by
 intro pins s σ H Q I h
 refine thn (hi pins s σ H _ I h) fun iv s1 ⟨y, H1, I1, ry, q1⟩ => thn (ho pins s1 σ H1 _ I1 q1) fun u s2 ⟨x, H2, I2, rx, a, ov, ex, g, q2⟩ => ?_
 subst ex
 obtain rfl : u = Value.ref a := rx
 exact FQ hu I2 g ry fun s3 I3 => ⟨.bl (!ov.isSome), H2, I3, rfl, q2⟩
theorem EH (hu : X.A.units + 1 < cLine) (ho : PE X o td) (hi : PE X i ty) (hv : PE X value tv) (hs : swapsWith value (some (.Subscript o i pos')) pos.line X.env = pure false) :
  PS X (.Assign [.Subscript o i pos'] value pos) (Jo td ty tv) := by
 intro pins s σ H D I h
 refine wpAny_Assign_Subscript (thn (hv pins s σ H _ I h) fun r s1 ⟨v, H1, I1, rv, q1⟩ => thn (ho pins s1 σ H1 _ I1 q1) fun u s2 ⟨x, H2, I2, rx, q2⟩ => thn (hi pins s2 σ H2 _ I2 q2) fun iv s3 ⟨y, H3, I3, ry, a, H4, ex, g, q3⟩ => ?_) hs
 subst ex
 obtain rfl : u = Value.ref a := rx
 exact AN hu I3 g ry rv fun s4 I4 => ⟨σ, H4, I4, q3⟩
end
theorem Dt {P : Program} {w : World} {H : Hp} (h : Heap) (hb : sysModules < h.objs.size) : cG P w H (h.push { cls := .type "dict", data := .dict #[] }) h.objs.size (.dK []) :=
 ⟨zBf _, beq_eq_false_iff_ne.mpr (Ne.symm (Nat.ne_of_lt hb)), [], .nil, Heap.DictOf.new h⟩
section
variable {X : Cx} {pos : Pos}
end
def wm : List (TE × TE) -> St -> Hp -> (List (V × V) -> Hp -> Prop) -> Prop
 | [], _, H, Q => Q [] H
 | (tk, tv) :: r, σ, H, Q => tk σ H fun x H1 => tv σ H1 fun y H2 => wm r σ H2 fun ps H3 => Q ((x, y) :: ps) H3
abbrev VV : List (V × V) -> List (Value × Value) -> Prop := Paired fun p q => RelV p.1 q.1 /\ RelV p.2 q.2
def PPs (X : Cx) (pos : Pos) (keys : List (Option Expr)) (values : List Expr) (trs : List (TE × TE)) : Prop :=
 ∀ (pins : List (Addr × Obj)) (s : Shared) (σ : St) (H : Hp) (Q : List (V × V) -> Hp -> Prop), Inv X pins σ H s -> wm trs σ H Q →
  wpAny (model X.prog X.w) X.A (evalPairs (pairTrees keys values X.env pos)) (fun vs s' => ∃ ps H', Inv X pins σ H' s' /\ VV ps vs /\ Q ps H') X.xe s
theorem EI {X : Cx} {pos : Pos} : PPs X pos [] [] [] := fun pins s σ H Q I h => pairTrees_nil_walk ⟨[], H, I, .nil, h⟩
theorem BW {X : Cx} {pos : Pos} {k v : Expr} {ks : List (Option Expr)} {vs : List Expr} {tk tv : TE} {trs : List (TE × TE)} (hk : PE X k tk) (hv : PE X v tv) (hr : PPs X pos ks vs trs) :
  PPs X pos (some k :: ks) (v :: vs) ((tk, tv) :: trs) := fun pins s σ H Q I h =>
 pairTrees_cons_walk (thn (hk pins s σ H _ I h) fun u s1 ⟨x, H1, I1, rx, q1⟩ => thn (hv pins s1 σ H1 _ I1 q1) fun w2 s2 ⟨y, H2, I2, ry, q2⟩ =>
  thn (hr pins s2 σ H2 _ I2 q2) fun ws s3 ⟨ps, H3, I3, rel, q3⟩ => ⟨(x, y) :: ps, H3, I3, .cons ⟨rx, ry⟩ rel, q3⟩)
def lz (kvs more : List (Key × V)) : List (Key × V) := more.foldl (fun acc kv => putK acc kv.1 kv.2) kvs
theorem KV.merge : ∀ {more : List (Key × V)} {rs : List (Key × Value)} {kvs : List (Key × V)} {vs : List (Key × Value)}, KV more rs -> KV kvs vs -> KV (lz kvs more) (merged vs rs) := by
 intro more rs kvs vs r
 unfold KV at r
 induction r generalizing kvs vs with
 | nil => intro q; exact q
 | @cons p q ps qs h t ih =>
  intro r0
  have e : KV (putK kvs p.1 p.2) (stored vs q.1 q.2) := by
   have := r0.put p.1 h.2
   rw [← h.1]; exact this
  exact ih e
theorem jh : ∀ (more kvs : List (Key × V)), (lz kvs more).length <= kvs.length + more.length
 | [], kvs => by show kvs.length <= kvs.length + 0; omega
 | p :: r, kvs => by
  have h1 := jh r (putK kvs p.1 p.2)
  have h2 := iD kvs p.1 p.2
  show (lz (putK kvs p.1 p.2) r).length <= _
  rw [zAz]; omega
theorem pj {P : Program} {w : World} : ∀ {kvs : List (Key × V)} {ws : List (Value × Value)}, VV (kvs.map fun kv => (kV kv.1, kv.2)) ws -> ∃ rs, Carries (cB P w) ws rs /\ KV kvs rs
 | [], _, r => by rw [List.map_nil] at r; cases r; exact ⟨[], True.intro, .nil⟩
 | p :: kvs, _, r => by
  rw [List.map_cons] at r
  cases r with
  | @cons a b as bs h t =>
   obtain ⟨rs, c, q⟩ := pj (P := P) (w := w) t
   obtain ⟨b1, b2⟩ := b
   exact ⟨(p.1, b2) :: rs, ⟨vp h.1, rfl, c⟩, .cons ⟨rfl, h.2⟩ q⟩
def Jh (trs : List (TE × TE)) : TE := fun σ H Q => ∀ p, H p = none -> wm trs σ (upd H p (.dK [])) fun ps H2 => H2 p = some (.dK []) /\ ∃ kvs : List (Key × V), ps = kvs.map (fun kv => (kV kv.1, kv.2)) /\ kvs.length <= 15 /\ Q (.ref p) (upd H2 p (.dK (lz [] kvs)))
theorem EN {X : Cx} {pos : Pos} {keys : List (Option Expr)} {values : List Expr} {trs : List (TE × TE)} (h : PPs X pos keys values trs) (gI : keys.all (·.isSome) = true) (hl : keys.length = values.length) (h0 : keys ≠ [])
  (h15 : keys.length <= 15) : PE X (.Dict keys values pos) (Jh trs) := by
 intro pins s σ H Q I q
 have hn := I.hok.fresh (zAt s.heap.objs.size)
 have I1 := I.laid (a := s.heap.objs.size) (o := .dK []) (h' := s.heap.push { cls := .type "dict", data := .dict #[] }) (t' := s.toks) (fun _ _ q => Heap.get?_push_of_some _ q) (zAt _) (Dt s.heap I.big)
 refine wpAny_Dict_walk (knd := cB X.prog X.w) gI hl h0 h15 (thn (h pins _ σ _ _ I1 (q _ hn)) fun ws s2 ⟨ps, H2, I2, rel, e, kvs, ep, lk, q2⟩ => ?_)
 subst ep
 obtain ⟨rs, c, rk⟩ := pj (P := X.prog) (w := X.w) rel
 obtain ⟨z, hd, vs0, r0, dd⟩ := Dr I2.hok e
 cases r0
 refine ⟨rs, c, dd, fun h' dd' hs => ⟨.ref s.heap.objs.size, _, ?_, rfl, q2⟩⟩
 have hz : (lz [] kvs).length <= sizeLine := by
  have h1 := jh kvs []
  rw [List.length_nil] at h1
  rw [sizeLine_eq]; omega
 have he : ∃ q, h'.get? s.heap.objs.size = some q := let ⟨q, _, _, hq, _⟩ := dd'; ⟨q, hq⟩
 exact tR I2 (by rw [e]; exact True.intro) hs he (Ds hz hd (rk.merge .nil) dd')
section
variable {X : Cx} {pins : List (Addr × Obj)} {σ : St} {H : Hp} {s : Shared} {a : Addr} {y d : V} {u r : Value} {o : Option V} {A : Around} {E : Value -> Shared -> Prop}
end
section
variable {X : Cx} {o e f : Expr} {apos gn : Pos} {td ty tx : TE}
end
section
variable {X : Cx} {pins : List (Addr × Obj)} {σ : St} {H : Hp} {s : Shared} {a : Addr} {kvs : List (Key × V)} {A : Around} {E : Value -> Shared -> Prop}
end
section
variable {X : Cx} {pins : List (Addr × Obj)} {σ : St} {H : Hp} {s : Shared} {a : Addr} {y : V} {u : Value} {A : Around} {E : Value -> Shared -> Prop}
end
section
variable {prog : Program} {w : World} {A : Around} {E : Value -> Shared -> Prop}
end
section
variable {X : Cx}
end
section
variable {X : Cx} {pins : List (Addr × Obj)} {σ : St} {H : Hp} {s : Shared} {h' : Heap}
end
section
variable {X : Cx}
end
section
variable {X : Cx} {tg : Expr}
end
section
variable {X : Cx} {tg : Expr}
end
section
variable {prog : Program} {w : World} {A : Around} {E : Value -> Shared -> Prop} {s : Shared}
end
section
variable {X : Cx} {pins : List (Addr × Obj)} {σ : St} {H : Hp} {s : Shared} {d : Addr} {o : Obj}
end
section
variable {P : Program} {w : World} {K : PySem.W.Frag} {tg : Expr} {d : Addr} {o : Obj} {es : Array DictEntry} {ep : Nat}
end
section
variable {X : Cx} {tg e : Expr} {td : TE} {apos gn : Pos}
end
end L2
section
namespace Bits
open PySem PyProof.Rows
end Bits
end
section
namespace TL
open PySem PySem.Builtin PySem.Builtin.Str PySem.StrLaws
end TL
end
namespace L2
open PySem PySem.Spec PyProof.Rows
section
variable {X : Cx} {pins : List (Addr × Obj)} {σ : St} {H : Hp} {s : Shared} {Q : VK}
end
section
variable {X : Cx}
end
section
variable {X : Cx} {o e : Expr} {to te : TE}
end
section
variable {X : Cx}
end
end L2
namespace Att
open PySem PySem.W PySem.Calls PyProof.Rows
section
variable {prog : Program} {w : World} {A : Around} {E : Value -> Shared -> Prop} {s : Shared} {K : Frag}
end
end Att
namespace L2
open PySem PySem.Spec PyProof.Rows
def inClass (s : Stmt) (j : Nat) : Stmt := match s with
 | .ClassDef _ _ _ body _ _ _ _ _ _ _ => body.getD j (.Pass ⟨0, 0, 0, 0⟩)
 | _ => .Pass ⟨0, 0, 0, 0⟩
def eQ (s : Stmt) : Arguments := match s with
 | .FunctionDef _ a _ _ _ _ _ _ _ _ => a
 | _ => { posonlyargs := [], args := [], vararg := none, kwonlyargs := [], kw_defaults := [], kwarg := none, defaults := [] }
def dD (s : Stmt) : List Stmt := match s with
 | .FunctionDef _ _ b _ _ _ _ _ _ _ => b
 | _ => []
def bF (s : Stmt) : Scope := match s with
 | .FunctionDef _ _ _ _ _ _ sc _ _ _ => sc
 | _ => { kind := .function, names := [], isGenerator := false, isCoroutine := false }
abbrev CX0 : CXT := fun _ _ _ _ _ _ => False
abbrev E0 : XK := fun _ _ _ => False
theorem yL {X : Cx} : Passes CX0 X E0 := fun _ _ _ _ _ _ _ h => h.elim
structure Fun (K : PySem.W.Frag) (x qual : Str) (st : Stmt) (f : Addr) (fd : FuncData) : Prop where
 ex : ∃ (oc : Value) (od : Option Addr) (kV doc pm : Value) (an : Option Addr) (cdv ct : Value) (osl : Array (Option Value)),
  fd = PySem.W.fnOf x qual (eQ st) (dD st) (bF st) .none kV doc pm an cdv ct /\ K.lookup f = some ⟨oc, od, .func fd, osl⟩ /\ PySem.W.codeIn K cdv qual = true
 kp : PySem.W.keepIn K (.ref f) = true
section
variable {P : Program} {w : World} {K : PySem.W.Frag} {mg : Str -> Option Value} {base : Heap}
theorem Fun.ok {x qual : Str} {st : Stmt} {f : Addr} {fd : FuncData} {N ps : List Str} {k : Nat} {sp : Sp} (F : Fun K x qual st f fd) (S : gY N ps (bF st)) (len : ∀ vs H Q E, sp vs H Q E -> vs.length = ps.length)
  (C5 : ∀ (cdv : Value) (A : Around) (outer : List Env) (s : Shared) (H : Hp) (vs : List V) (Q : VK) (E : XK), dj k (A.deeper (envOfC qual (bF st) s.heap.objs.size f cdv)) -> sp vs H Q E →
   ∃ t, PSs (x3 CX0 P w K mg base N qual (bF st) f cdv A outer s H E).nox (dD st) t /\ t { nx := fun _ H' => Q .non H', rt := Q } (start N vs) H) : jc P w K mg base CX0 (k + 1) f fd ps sp := by
 obtain ⟨oc, od, kV, doc, pm, an, cdv, ct, osl, rfl, lk, hcd⟩ := F.ex
 refine Kj lk hcd S len fun A outer s H vs Q E hr hsp => ?_
 obtain ⟨t, h, q⟩ := C5 cdv A outer s H vs Q E hr hsp
 exact ⟨t, h.nox, q⟩
theorem Fun.binds {x qual : Str} {st : Stmt} {f : Addr} {fd : FuncData} {ps : List Str} (F : Fun K x qual st f fd)
  (h : ∀ (kV doc pm : Value) (an : Option Addr) (cdv ct : Value) (us : List Value), us.length = ps.length -> bindArgs (PySem.W.fnOf x qual (eQ st) (dD st) (bF st) .none kV doc pm an cdv ct) ⟨us, []⟩ = pure (ps.zip us)) : Binds K fd ps [] := by
 obtain ⟨oc, od, kV, doc, pm, an, cdv, ct, osl, rfl, lk, hcd⟩ := F.ex
 exact .all (h kV doc pm an cdv ct)
theorem xV {x qual : Str} {st : Stmt} {f : Addr} {oc : Value} {od an : Option Addr} {osl : Array (Option Value)} {kV doc pm cdv ct : Value} (l : K.lookup f = some ⟨oc, od, .func (PySem.W.fnOf x qual (eQ st) (dD st) (bF st) .none kV doc pm an cdv ct), osl⟩)
  (c : PySem.W.codeIn K cdv qual = true) (k : PySem.W.keepIn K (.ref f) = true) : Fun K x qual st f (PySem.W.fnOf x qual (eQ st) (dD st) (bF st) .none kV doc pm an cdv ct) := ⟨⟨oc, od, kV, doc, pm, an, cdv, ct, osl, rfl, l, c⟩, k⟩
end
theorem vw {A : Around} {k : Nat} (hr : dj k A) : A.units + 1 < cLine := zBi (Nat.add_le_add_left (by decide : 1 <= 64) _) hr.units
section
variable {X : Cx}
theorem pv (i : Nat) {x : Str} {pos : Pos} (hN : X.N[i]? = some x := by rfl) (hv : Vis X.env.scope x := by first | exact Or.inl rfl | exact Or.inr (Or.inl rfl) | exact Or.inr (Or.inr rfl)) (hd : (x == ("__debug__" : Str)) = false := by decide)
  (hcd : (x == ("__classdict__" : Str)) = false := by decide) : PE X (.Name x pos) (dS i) := Hi hN hv hd hcd
end
theorem jL {A B : Prop} (h : B) : if false = true then A else B := by
 rw [if_neg Bool.false_ne_true]
 exact h
theorem g7 {A B : Prop} (h : A) : if true = true then A else B := by
 rw [if_pos rfl]
 exact h
theorem aJ {c A B : Prop} [Decidable c] (h1 : c -> A) (h2 : ¬ c -> B) : if c then A else B := by
 by_cases h : c
 ·rw [if_pos h]
  exact h1 h
 ·rw [if_neg h]
  exact h2 h
def az (H H' : Hp) : Prop := ∀ b o, H b = some o -> H' b = some o
theorem az.refl (H : Hp) : az H H := fun _ _ h => h
theorem az.trans {H H1 H2 : Hp} (a : az H H1) (b : az H1 H2) : az H H2 := fun c o h => b c o (a c o h)
theorem az.free {H H' : Hp} (e : az H H') {l : Addr} (h : H' l = Option.none) : H l = Option.none := by
 cases q : H l with
 | none => rfl
 | some o =>
  rw [e l o q] at h
  cases h
theorem az.seq {K : PySem.W.Frag} {H H' : Hp} {a : Addr} {xs : List V} (e : az H H') (h : SqL K H a xs) : SqL K H' a xs := by
 rcases h with (h | ⟨o, h⟩) | h
 ·exact .inl (.inl (e _ _ h))
 ·exact .inl (.inr ⟨o, e _ _ h⟩)
 ·exact .inr h
section
variable {κ : Type} [DecidableEq κ]
end
end L2
end
section
section
namespace L2
open PySem PySem.Spec PyProof.Rows
open PySem.W (WData Codec OpenSpec Well WellAll ReadsW ReadsAllW)
mutual
inductive Dw (K : PySem.W.Frag) (H : Hp) : V -> WData -> Prop
 | non : Dw K H .non .none
 | bl (b : Bool) : Dw K H (.bl b) (.bool b)
 | int (i : Int) : Dw K H (.int i) (.int i)
 | str (x : Str) : Dw K H (.str x) (.str x)
 | byt (b : Array UInt8) : Dw K H (.byt b) (.bytes b.toList)
 | lst {a : Addr} {xs : List V} {ds : List WData} : SqL K H a xs -> g5 K H xs ds -> Dw K H (.ref a) (.list ds)
 | tup {a : Addr} {xs : List V} {ds : List WData} : SqT K H a xs -> g5 K H xs ds -> Dw K H (.ref a) (.tuple ds)
inductive g5 (K : PySem.W.Frag) (H : Hp) : List V -> List WData -> Prop
 | nil : g5 K H [] []
 | cons {v : V} {vs : List V} {d : WData} {ds : List WData} : Dw K H v d -> g5 K H vs ds -> g5 K H (v :: vs) (d :: ds)
end
theorem y9 {K : PySem.W.Frag} {H : Hp} : ∀ ns : List Int, g5 K H (ns.map V.int) (ns.map WData.int)
 | [] => .nil
 | n :: r => .cons (.int n) (y9 r)
theorem yY {K : PySem.W.Frag} {H : Hp} : ∀ (ns : List Int) (xs : List V), g5 K H xs (ns.map WData.int) -> xs = ns.map V.int
 | [], xs, h => by
  cases h
  rfl
 | n :: r, xs, h => by
  cases h with
  | cons h1 h2 =>
   cases h1
   rw [yY r _ h2] <;> rfl
section
variable {P : Program} {w : World} {K : PySem.W.Frag} {H : Hp} {h : Heap} {R : PySem.W.WRecords} {cl : Str -> Option Addr}
theorem GP {a : Addr} {xs : List V} (hok : HOk P w H h) (KX : K.In h) (q : SqL K H a xs) : ∃ (its : List Value) (o : Obj) (n : Nat), Vals xs its /\ h.get? a = some o /\ o.cls = .type "list" /\ o.data = .seq its.toArray n := by
 rcases q with q | ⟨o, its, n, e, hc, _, hd, _, hv⟩
 ·obtain ⟨_, its, n, hv, e⟩ := (show cG P w H h a (.lst xs) from q.ok hok)
  exact ⟨its, _, n, hv, e, rfl, rfl⟩
 ·exact ⟨its.toList, o, n, hv, KX _ _ e, hc, by simp [hd]⟩
theorem GO {a : Addr} {xs : List V} (hok : HOk P w H h) (KX : K.In h) (q : SqT K H a xs) : ∃ (its : List Value) (o : Obj) (n : Nat), Vals xs its /\ h.get? a = some o /\ o.cls = .type "tuple" /\ o.data = .seq its.toArray n := by
 rcases q with q | ⟨o, its, n, e, hc, hd, _, hv⟩
 ·obtain ⟨_, its, hv, o, e, hc, n, hd⟩ := (show cG P w H h a (.tup xs) from q.ok hok)
  exact ⟨its, o, n, hv, e, hc, hd⟩
 ·exact ⟨its.toList, o, n, hv, KX _ _ e, hc, by simp [hd]⟩
mutual
theorem Dw.reads (hok : HOk P w H h) (KX : K.In h) : ∀ (d : WData) (v : V) (u : Value), Dw K H v d -> RelV v u -> ∃ as, ReadsW R cl h u d as
 | .none, _, _, x, r => by
  cases x
  cases r
  exact ⟨_, ReadsW.none⟩
 | .bool b, _, _, x, r => by
  cases x
  cases r
  exact ⟨_, ReadsW.bool b⟩
 | .int i, _, _, x, r => by
  cases x
  obtain ⟨t, rfl⟩ := r
  exact ⟨_, ReadsW.int i t⟩
 | .str s, _, _, x, r => by
  cases x
  obtain ⟨t, rfl⟩ := r
  exact ⟨_, ReadsW.str s t⟩
 | .bytes b, _, _, x, r => by
  cases x
  obtain ⟨t, rfl⟩ := r
  exact ⟨_, ReadsW.bytes _ t⟩
 | .list ds, _, _, x, r => by
  cases x with
  | lst hs ha =>
   cases r
   obtain ⟨its, o, n, rv, ho, hc, hd⟩ := GP hok KX hs
   obtain ⟨as, hr⟩ := Dw.readsAll hok KX ds _ its ha rv
   exact ⟨_, ReadsW.list ho hc hd hr⟩
 | .tuple ds, _, _, x, r => by
  cases x with
  | tup hs ha =>
   cases r
   obtain ⟨its, o, n, rv, ho, hc, hd⟩ := GO hok KX hs
   obtain ⟨as, hr⟩ := Dw.readsAll hok KX ds _ its ha rv
   exact ⟨_, ReadsW.tuple ho hc hd hr⟩
 | .float _, _, _, x, _ => by cases x
 | .dict _, _, _, x, _ => by cases x
 | .bytearray _, _, _, x, _ => by cases x
 | .set _, _, _, x, _ => by cases x
 | .frozenset _, _, _, x, _ => by cases x
 | .obj _ _, _, _, x, _ => by cases x
theorem Dw.readsAll (hok : HOk P w H h) (KX : K.In h) : ∀ (ds : List WData) (vs : List V) (us : List Value), g5 K H vs ds -> Vals vs us -> ∃ as, ReadsAllW R cl h us ds as
 | [], _, _, x, r => by
  cases x
  cases r
  exact ⟨_, ReadsAllW.nil⟩
 | d :: ds, _, _, x, r => by
  cases x with
  | cons h1 h2 =>
   cases r with
   | cons r1 r2 =>
    obtain ⟨as, q1⟩ := Dw.reads hok KX d _ _ h1 r1
    obtain ⟨bs, q2⟩ := Dw.readsAll hok KX ds _ _ h2 r2
    exact ⟨_, ReadsAllW.cons q1 q2⟩
end
end
mutual
def plW : WData -> Bool
 | .none => true
 | .bool _ => true
 | .int _ => true
 | .str _ => true
 | .bytes _ => true
 | .list xs => mG xs
 | .tuple xs => mG xs
 | _ => false
def mG : List WData -> Bool
 | [] => true
 | x :: r => plW x && mG r
end
theorem uM {α : Type} {f : α -> WData} (h : ∀ a, plW (f a) = true) : ∀ l : List α, mG (l.map f) = true
 | [] => rfl
 | x :: r => by
  show (plW (f x) && mG (r.map f)) = true
  rw [h x, uM h r] <;> rfl
theorem iw : ∀ (c : Codec) (a : c.denote), plW (c.enc a) = true
 | .unit, _ => rfl
 | .bool, _ => rfl
 | .int _ _, _ => rfl
 | .nat _ _, _ => rfl
 | .u8, _ => rfl
 | .bytes _ _, _ => rfl
 | .text _ _ _ _, _ => rfl
 | .list _ _ c, a => uM (fun x => iw c x) a
 | .pair c d, a => by
  show (plW (c.enc a.1) && (plW (d.enc a.2) && true)) = true
  rw [iw c a.1, iw d a.2] <;> rfl
 | .triple c d e, a => by
  show (plW (c.enc a.1) && (plW (d.enc a.2.1) && (plW (e.enc a.2.2) && true))) = true
  rw [iw c a.1, iw d a.2.1, iw e a.2.2] <;> rfl
 | .option c, none => rfl
 | .option c, some x => iw c x
theorem qK : ∀ (cs : List Codec) (a : Codec.denoteAll cs), mG (Codec.encAll cs a) = true
 | [], _ => rfl
 | c :: cs, a => by
  show (plW (c.enc a.1) && mG (Codec.encAll cs a.2)) = true
  rw [iw c a.1, qK cs a.2] <;> rfl
theorem jm : ∀ {xs : List WData} {d : WData}, d ∈ xs -> d.weight <= WData.weightAll xs
 | [], d, h => absurd h (by simp)
 | x :: r, d, h => by
  show d.weight <= x.weight + 1 + WData.weightAll r
  rcases zAv.mp h with e | m
  ·rw [e]
   omega
  ·have z := jm m
   omega
def toV : Value -> V
 | .none => .non
 | .bool b => .bl b
 | .int i _ => .int i
 | .str x _ => .str x
 | .bytes b _ => .byt b
 | .ref a => .ref a
 | _ => .non
def OkU (A : List Addr) : Value -> Prop
 | .none => True
 | .bool _ => True
 | .int _ _ => True
 | .str _ _ => True
 | .bytes _ _ => True
 | .ref a => a ∈ A
 | _ => False
theorem OkU.mono {A B : List Addr} (h : ∀ a ∈ A, a ∈ B) : ∀ {u : Value}, OkU A u -> OkU B u := fun {u} x => by
 cases u with
 | ref a => exact h a x
 | none => trivial
 | bool b => trivial
 | int i t => trivial
 | str s t => trivial
 | bytes b t => trivial
 | _ => exact False.elim x
theorem BE {A : List Addr} {u : Value} (x : OkU A u) : RelV (toV u) u := by
 cases u with
 | ref a => rfl
 | none => rfl
 | bool b => rfl
 | int i t => exact ⟨t, rfl⟩
 | str s t => exact ⟨t, rfl⟩
 | bytes b t => exact ⟨t, rfl⟩
 | _ => exact False.elim x
theorem fW {A : List Addr} : ∀ {vs : List Value}, (∀ u ∈ vs, OkU A u) -> Vals (vs.map toV) vs
 | [], _ => .nil
 | u :: r, h => .cons (BE (h u (zAg ..))) (fW fun x hx => h x (zAj _ hx))
def g6 (h : Heap) (A : List Addr) (a : Addr) : Prop := ∃ vs : List Value, vs.length <= sizeLine /\ (∀ u ∈ vs, OkU A u) ∧
 (h.get? a = some { cls := .type "list", data := .seq vs.toArray } \/ h.get? a = some { cls := .type "tuple", data := .seq vs.toArray })
theorem g6.mono {h : Heap} {A B : List Addr} {a : Addr} (k : ∀ a ∈ A, a ∈ B) (x : g6 h A a) : g6 h B a := by
 obtain ⟨vs, h1, h2, h3⟩ := x
 exact ⟨vs, h1, fun u hu => (h2 u hu).mono k, h3⟩
theorem fA {P : Params} {h : Heap} : ∀ {vs : List Value} {ds : List WData}, WellAll P h vs ds -> vs.length = ds.length
 | _, _, .nil => rfl
 | _, _, .cons _ b => by
  show _ + 1 = _ + 1
  rw [fA b]
theorem qx {P : Params} {h : Heap} {v : Value} {ds : List WData} (x : Well P h v (.list ds)) : ∃ (a : Addr) (vs : List Value), v = .ref a /\ h.get? a = some { cls := .type "list", data := .seq vs.toArray } /\ WellAll P h vs ds := by
 cases x with
 | list ho gI => exact ⟨_, _, rfl, ho, gI⟩
theorem m9 {P : Params} {h : Heap} {v : Value} {ds : List WData} (x : Well P h v (.tuple ds)) : ∃ (a : Addr) (vs : List Value), v = .ref a /\ h.get? a = some { cls := .type "tuple", data := .seq vs.toArray } /\ WellAll P h vs ds := by
 cases x with
 | tuple ho gI => exact ⟨_, _, rfl, ho, gI⟩
theorem qy {P : Params} {h : Heap} {us : List Value} {d : WData} {ds : List WData} (x : WellAll P h us (d :: ds)) : ∃ (v : Value) (vs : List Value), us = v :: vs /\ Well P h v d /\ WellAll P h vs ds := by
 cases x with
 | cons a b => exact ⟨_, _, rfl, a, b⟩
theorem yO {n : Nat} (h : n <= 1048576) : n <= sizeLine := zAn h (by decide)
section
variable {P : Params} {h : Heap}
mutual
theorem DO : ∀ (d : WData) (v : Value), Well P h v d -> plW d = true -> d.weight <= 1048576 -> ∃ A : List Addr, OkU A v /\ ∀ a ∈ A, g6 h A a
 | .none, _, x, _, _ => by
  cases x
  exact ⟨[], trivial, fun a m => absurd m (by simp)⟩
 | .bool b, _, x, _, _ => by
  cases x
  exact ⟨[], trivial, fun a m => absurd m (by simp)⟩
 | .int i, _, x, _, _ => by
  cases x
  exact ⟨[], trivial, fun a m => absurd m (by simp)⟩
 | .str s, _, x, _, _ => by
  cases x
  exact ⟨[], trivial, fun a m => absurd m (by simp)⟩
 | .bytes b, _, x, _, _ => by
  cases x
  exact ⟨[], trivial, fun a m => absurd m (by simp)⟩
 | .list ds, _, x, p, z => by
  obtain ⟨a, vs, rfl, ho, gI⟩ := qx x
  have z2 : WData.weightAll ds <= 1048576 := z
  obtain ⟨A, h1, h2⟩ := kM ds _ gI p fun d hd => zAn (jm hd) z2
  have k : ∀ b ∈ A, b ∈ a :: A := fun b hb => zAj _ hb
  refine ⟨a :: A, zAg .., fun b hb => ?_⟩
  rcases zAv.mp hb with e | m
  ·rw [e]
   exact ⟨vs, yO (by rw [fA gI]; exact zAn (PySem.W.length_le_weightAllW ds) z2), fun u hu => (h1 u hu).mono k, .inl ho⟩
  ·exact (h2 b m).mono k
 | .tuple ds, _, x, p, z => by
  obtain ⟨a, vs, rfl, ho, gI⟩ := m9 x
  have z2 : WData.weightAll ds <= 1048576 := z
  obtain ⟨A, h1, h2⟩ := kM ds _ gI p fun d hd => zAn (jm hd) z2
  have k : ∀ b ∈ A, b ∈ a :: A := fun b hb => zAj _ hb
  refine ⟨a :: A, zAg .., fun b hb => ?_⟩
  rcases zAv.mp hb with e | m
  ·rw [e]
   exact ⟨vs, yO (by rw [fA gI]; exact zAn (PySem.W.length_le_weightAllW ds) z2), fun u hu => (h1 u hu).mono k, .inr ho⟩
  ·exact (h2 b m).mono k
 | .float _, _, _, p, _ => Bool.noConfusion (show false = true from p)
 | .dict _, _, _, p, _ => Bool.noConfusion (show false = true from p)
 | .bytearray _, _, _, p, _ => Bool.noConfusion (show false = true from p)
 | .set _, _, _, p, _ => Bool.noConfusion (show false = true from p)
 | .frozenset _, _, _, p, _ => Bool.noConfusion (show false = true from p)
 | .obj _ _, _, _, p, _ => Bool.noConfusion (show false = true from p)
theorem kM : ∀ (ds : List WData) (vs : List Value), WellAll P h vs ds -> mG ds = true -> (∀ d ∈ ds, d.weight <= 1048576) -> ∃ A : List Addr, (∀ u ∈ vs, OkU A u) /\ ∀ a ∈ A, g6 h A a
 | [], _, x, _, _ => by
  cases x
  exact ⟨[], fun u m => absurd m (by simp), fun a m => absurd m (by simp)⟩
 | d :: ds, _, x, p, z => by
  obtain ⟨v, vs, rfl, x1, x2⟩ := qy x
  have q : plW d = true /\ mG ds = true := Bool.and_eq_true_iff.mp p
  obtain ⟨A, a1, a2⟩ := DO d v x1 q.1 (z d (zAg ..))
  obtain ⟨B, b1, b2⟩ := kM ds vs x2 q.2 fun e he => z e (zAj _ he)
  have kA : ∀ b ∈ A, b ∈ A ++ B := fun b hb => zBx.mpr (.inl hb)
  have kB : ∀ b ∈ B, b ∈ A ++ B := fun b hb => zBx.mpr (.inr hb)
  refine ⟨A ++ B, fun u hu => ?_, fun b hb => ?_⟩
  ·rcases zAv.mp hu with e | m
   ·rw [e]
    exact a1.mono kA
   ·exact (b1 u m).mono kB
  ·rcases zBx.mp hb with m | m
   ·exact (a2 b m).mono kA
   ·exact (b2 b m).mono kB
end
end
def FE (o : Obj) : Option HO := match o.data with
 | .seq vs _ => if (o.cls == Value.type "list") = true then some (.frz o (.lst (vs.toList.map toV))) else some (.frz o (.tup (vs.toList.map toV)))
 | _ => none
def gX (K : PySem.W.Frag) (h : Heap) (A : List Addr) : Hp := fun b => if b ∈ A then (if (K.lookup b).isNone = true then (h.get? b).bind FE else none) else none
def vZ (H : Hp) : Prop := ∀ b, H b = none \/ ∃ o u, H b = some (.frz o u)
theorem vy (vs : List Value) : FE { cls := .type "list", data := .seq vs.toArray } = some (.frz { cls := .type "list", data := .seq vs.toArray } (.lst (vs.map toV))) := by
 show (if (Value.type "list" == Value.type "list") = true then some (HO.frz { cls := .type "list", data := .seq vs.toArray } (.lst (vs.toArray.toList.map toV))) else some (HO.frz { cls := .type "list", data := .seq vs.toArray } (.tup (vs.toArray.toList.map toV)))) = _
 rw [if_pos (beq_self_eq_true _)]
theorem vx (vs : List Value) : FE { cls := .type "tuple", data := .seq vs.toArray } = some (.frz { cls := .type "tuple", data := .seq vs.toArray } (.tup (vs.map toV))) := by
 show (if (Value.type "tuple" == Value.type "list") = true then some (HO.frz { cls := .type "tuple", data := .seq vs.toArray } (.lst (vs.toArray.toList.map toV))) else some (HO.frz { cls := .type "tuple", data := .seq vs.toArray } (.tup (vs.toArray.toList.map toV)))) = _
 rw [if_neg (by decide)]
section
variable {P : Program} {w : World} {K : PySem.W.Frag} {h : Heap} {A : List Addr}
theorem m5 {b : Addr} {o : Obj} (hb : b ∈ A) (hk : K.lookup b = none) (e : h.get? b = some o) : gX K h A b = FE o := by
 unfold gX
 rw [if_pos hb, hk, if_pos (show (none : Option Obj).isNone = true from rfl), e] <;> rfl
theorem Ff {b : Addr} {u : HO} (q : gX K h A b = some u) : b ∈ A /\ K.lookup b = none := by
 unfold gX at q
 by_cases hb : b ∈ A
 ·rw [if_pos hb] at q
  cases hk : K.lookup b with
  | none => exact ⟨hb, rfl⟩
  | some o =>
   rw [hk, if_neg (by simp)] at q
   cases q
 ·rw [if_neg hb] at q
  cases q
theorem m4 (ar : ∀ a ∈ A, g6 h A a) {b : Addr} {u : HO} (q : gX K h A b = some u) : K.lookup b = none /\ ∃ vs : List Value, vs.length <= sizeLine /\ (∀ u ∈ vs, OkU A u) ∧
    ((h.get? b = some { cls := .type "list", data := .seq vs.toArray } /\ u = .frz { cls := .type "list", data := .seq vs.toArray } (.lst (vs.map toV))) ∨
     (h.get? b = some { cls := .type "tuple", data := .seq vs.toArray } /\ u = .frz { cls := .type "tuple", data := .seq vs.toArray } (.tup (vs.map toV)))) := by
  obtain ⟨hb, hk⟩ := Ff q
  obtain ⟨vs, h1, h2, h3⟩ := ar b hb
  refine ⟨hk, vs, h1, h2, ?_⟩
  rcases h3 with e | e
  · rw [m5 hb hk e, vy] at q
    exact .inl ⟨e, (zBl q).symm⟩
  · rw [m5 hb hk e, vx] at q
    exact .inr ⟨e, (zBl q).symm⟩
theorem A7 (ar : ∀ a ∈ A, g6 h A a) : vZ (gX K h A) := fun b => by
 cases q : gX K h A b with
 | none => exact .inl rfl
 | some u =>
  obtain ⟨_, vs, _, _, ⟨_, e⟩ | ⟨_, e⟩⟩ := m4 ar q
  ·exact .inr ⟨_, _, by rw [e]⟩
  ·exact .inr ⟨_, _, by rw [e]⟩
theorem Gp (ar : ∀ a ∈ A, g6 h A a) : HOk P w (gX K h A) h := fun b u q => by
 obtain ⟨_, vs, h1, h2, ⟨e, rfl⟩ | ⟨e, rfl⟩⟩ := m4 ar q
 ·exact ⟨e, by rw [zAa]; exact h1, vs, _, fW h2, e⟩
 ·exact ⟨e, by rw [zAa]; exact h1, vs, fW h2, _, e, rfl, _, rfl⟩
theorem mV {c c' : Value} {vs us : List Value} (e : (some { cls := c, data := .seq vs.toArray } : Option Obj) = some { cls := c', data := .seq us.toArray }) : c = c' /\ vs = us := by
 have e1 := zBl e
 have e2 : c = c' := congrArg Obj.cls e1
 have e3 : Data.seq vs.toArray = Data.seq us.toArray := congrArg Obj.data e1
 injection e3 with e4
 refine ⟨e2, ?_⟩
 have e5 := congrArg Array.toList e4
 simpa using e5
theorem Lu (KX : K.In h) (ar : ∀ a ∈ A, g6 h A a) {a : Addr} {vs : List Value} (ha : a ∈ A) (e : h.get? a = some { cls := .type "list", data := .seq vs.toArray }) : (∀ u ∈ vs, OkU A u) /\ SqL K (gX K h A) a (vs.map toV) := by
 obtain ⟨us, h1, h2, h3⟩ := ar a ha
 have hu : us = vs := by
  rcases h3 with q | q
  ·rw [e] at q
   exact (mV q).2.symm
  ·rw [e] at q
   exact absurd (Value.type.inj (mV q).1) (by decide)
 subst hu
 refine ⟨h2, ?_⟩
 cases hk : K.lookup a with
 | none => exact .inl (.inr ⟨_, by rw [m5 ha hk e, vy]⟩)
 | some o =>
  have e2 := KX a o hk
  rw [e] at e2
  obtain rfl := zBl e2
  exact .inr ⟨_, us.toArray, _, hk, rfl, rfl, rfl, by rw [List.size_toArray]; exact h1, by simpa using fW h2⟩
theorem Ls (KX : K.In h) (ar : ∀ a ∈ A, g6 h A a) {a : Addr} {vs : List Value} (ha : a ∈ A) (e : h.get? a = some { cls := .type "tuple", data := .seq vs.toArray }) : (∀ u ∈ vs, OkU A u) /\ SqT K (gX K h A) a (vs.map toV) := by
 obtain ⟨us, h1, h2, h3⟩ := ar a ha
 have hu : us = vs := by
  rcases h3 with q | q
  ·rw [e] at q
   exact absurd (Value.type.inj (mV q).1) (by decide)
  ·rw [e] at q
   exact (mV q).2.symm
 subst hu
 refine ⟨h2, ?_⟩
 cases hk : K.lookup a with
 | none => exact .inl (.inr ⟨_, by rw [m5 ha hk e, vx]⟩)
 | some o =>
  have e2 := KX a o hk
  rw [e] at e2
  obtain rfl := zBl e2
  exact .inr ⟨_, us.toArray, _, hk, rfl, rfl, by rw [List.size_toArray]; exact h1, by simpa using fW h2⟩
mutual
theorem Im {Pm : Params} (KX : K.In h) (ar : ∀ a ∈ A, g6 h A a) : ∀ (d : WData) (v : Value), Well Pm h v d -> plW d = true -> OkU A v -> Dw K (gX K h A) (toV v) d
 | .none, _, x, _, _ => by
  cases x
  exact .non
 | .bool b, _, x, _, _ => by
  cases x
  exact .bl b
 | .int i, _, x, _, _ => by
  cases x
  exact .int i
 | .str s, _, x, _, _ => by
  cases x
  exact .str s
 | .bytes b, _, x, _, _ => by
  cases x
  have z := Dw.byt (K := K) (H := gX K h A) b.toArray
  exact z
 | .list ds, _, x, p, hu => by
  obtain ⟨a, vs, rfl, ho, gI⟩ := qx x
  obtain ⟨h2, hs⟩ := Lu KX ar hu ho
  exact .lst hs (tL KX ar ds _ gI p h2)
 | .tuple ds, _, x, p, hu => by
  obtain ⟨a, vs, rfl, ho, gI⟩ := m9 x
  obtain ⟨h2, hs⟩ := Ls KX ar hu ho
  exact .tup hs (tL KX ar ds _ gI p h2)
 | .float _, _, _, p, _ => Bool.noConfusion (show false = true from p)
 | .dict _, _, _, p, _ => Bool.noConfusion (show false = true from p)
 | .bytearray _, _, _, p, _ => Bool.noConfusion (show false = true from p)
 | .set _, _, _, p, _ => Bool.noConfusion (show false = true from p)
 | .frozenset _, _, _, p, _ => Bool.noConfusion (show false = true from p)
 | .obj _ _, _, _, p, _ => Bool.noConfusion (show false = true from p)
theorem tL {Pm : Params} (KX : K.In h) (ar : ∀ a ∈ A, g6 h A a) : ∀ (ds : List WData) (vs : List Value), WellAll Pm h vs ds -> mG ds = true -> (∀ u ∈ vs, OkU A u) -> g5 K (gX K h A) (vs.map toV) ds
 | [], _, x, _, _ => by
  cases x
  exact .nil
 | d :: ds, _, x, p, hu => by
  obtain ⟨v, vs, rfl, x1, x2⟩ := qy x
  have q : plW d = true /\ mG ds = true := Bool.and_eq_true_iff.mp p
  exact .cons (Im KX ar d v x1 q.1 (hu _ (zAg ..))) (tL KX ar ds vs x2 q.2 fun u m => hu u (zAj _ m))
end
end
theorem zA {P : Program} {w : World} {K : PySem.W.Frag} {mg mb : Str -> Option Value} {CX : CXT} {k : Nat} {fa : Addr} {fd : FuncData} {ps : List Str} {sp : Sp} {s₁ : Shared} {vals : List Value} {ds : List WData} {R : PySem.W.WRecords} {cl : Str -> Option Addr} {d0 : WData}
  (KX : K.In s₁.heap) (hns : s₁.heap.Ns mainGlobals mg) (hb : s₁.heap.Ns builtinsNs mb) (hbb : ∀ x : Str, x ≠ "__name__" -> mb x = bootBuiltins x) (Le : s₁.heap.NoLimit) (hg : s₁.gens = #[])
  (hwl : WellAll w.params s₁.heap vals ds) (hpl : mG ds = true) (hwt : ∀ d ∈ ds, d.weight <= 1048576) (hr : dj k callerA)
  (F : ∀ base : Heap, K.In base -> base.Ns mainGlobals mg -> jc P w K mg base CX k fa fd ps sp) (Ke : ∀ (s : Shared) (us : List Value), us.length = ps.length -> BindsTo s fd ⟨us, []⟩ (ps.zip us)) (hlen : ds.length = ps.length)
  (hsp : ∀ (H : Hp) (xs : List V), vZ H -> g5 K H xs ds -> sp xs H (fun v H' => Dw K H' v d0) fun _ _ _ => False)
  (hCX : ∀ H e s', CX [] H s₁ (fun _ _ _ => False) e s' -> False) :
  codeAny (model P w) callerA (.call (.ref fa) ⟨vals, []⟩) (fun r s' => ∃ u as, r = .ok (.ret u) /\ ReadsW R cl s'.heap u d0 as /\ OldK s₁.heap s'.heap /\ s'.os = s₁.os /\ AllBare s'.gens) s₁ := by
 obtain ⟨A, ho, ar⟩ := kM ds vals hwl hpl hwt
 have hO : vZ (gX K s₁.heap A) := A7 ar
 have hok : HOk P w (gX K s₁.heap A) s₁.heap := Gp ar
 have hS := tL KX ar ds vals hwl hpl ho
 have hV := fW ho
 have hK : ∀ b u, gX K s₁.heap A b = some u -> K.lookup b = none := fun b u q => (m4 ar q).1
 have noA : ∀ {b : Addr} {o : Obj} {es : Array DictEntry} {ep : Nat}, s₁.heap.get? b = some o -> o.data = .dict es ep -> gX K s₁.heap A b = none := fun {b o es ep} e d => by
  cases q : gX K s₁.heap A b with
  | none => rfl
  | some u =>
   obtain ⟨_, vs, _, _, ⟨e2, _⟩ | ⟨e2, _⟩⟩ := m4 ar q
   ·rw [e2] at e
    cases e
    have d' : Data.seq vs.toArray _ = Data.dict es ep := d
    cases d'
   ·rw [e2] at e
    cases e
    have d' : Data.seq vs.toArray _ = Data.dict es ep := d
    cases d'
 generalize gX K s₁.heap A = H at hO hok hS hK noA
 have zg : ∀ {b : Addr} {o : Obj}, s₁.heap.get? b = some o -> H b = none -> (tm s₁.heap H).get? b = some o := fun e n => C0 e n
 have nsK : ∀ {b : Addr} {m : Str -> Option Value}, s₁.heap.Ns b m -> (tm s₁.heap H).Ns b m := fun {b m} ⟨o, es, ep, e, d, r⟩ => ⟨o, es, ep, zg e (noA e d), d, r⟩
 have nK : ∀ b o, K.lookup b = some o -> H b = none := fun b o e => by
  cases q : H b with
  | none => rfl
  | some u =>
   rw [hK b u q] at e
   cases e
 have hKb : K.In (tm s₁.heap H) := fun b o e => zg (KX b o e) (nK b o e)
 have hM : Mod K mg (tm s₁.heap H) := ⟨hKb, nsK hns, ⟨mb, nsK hb, hbb⟩, let ⟨mc, h1, h2⟩ := Le; ⟨mc, nsK h1, h2⟩⟩
 have e0 : yp P w K mg (tm s₁.heap H) callerA [] s₁ H := ⟨rfl, hM, fun b o e => Fe e, Nat.le_of_eq (AE _ _), trivial, fun b hb => absurd (show b ∈ ([] : List Addr) from hb) (by simp), hok, .of_eq hg⟩
 have hl : vals.length = ps.length := by rw [fA hwl]; exact hlen
 refine codeAny_mono ((F _ hKb (nsK hns)).run callerA [] s₁ H ⟨vals, []⟩ vals (vals.map toV) _ _ hr e0 (Ke s₁ vals hl) hV (hsp H _ hO hS)) fun r s' x => ?_
 cases r with
 | error e => exact (hCX H e s' x).elim
 | ok fl =>
  cases fl with
  | next => exact False.elim x
  | brk => exact False.elim x
  | cont => exact False.elim x
  | ret u =>
   obtain ⟨v, H', os, bare, un, J7, r', q⟩ := x
   have kept : ∀ b o, s₁.heap.get? b = some o -> s'.heap.get? b = some o := fun b o e => by
    cases q2 : H b with
    | none => exact un.keep b o e q2 (by intro z; exact absurd (show b ∈ ([] : List Addr) from z) (by simp)) (by simp)
    | some u2 =>
     rcases hO b with z | ⟨ob, u3, z⟩
     ·rw [q2] at z
      cases z
     ·have z2 := un.tG b ob _ z
      obtain ⟨e1, _⟩ := hok b _ z
      obtain ⟨e2, _⟩ := J7 b _ z2
      rw [e] at e1
      cases e1
      exact e2
   have KX' : K.In s'.heap := fun b o e => kept b o (KX b o e)
   obtain ⟨as, hrd⟩ := Dw.reads (R := R) (cl := cl) J7 KX' d0 v u q r'
   exact ⟨u, as, rfl, hrd, OldK.of_keep kept, os, bare⟩
theorem oz {ds : List WData} (h : WData.layableAll ds = true) : ∀ d ∈ ds, d.weight <= 1048576 := fun d hd =>
 (PySem.W.layableW_iff.mp (zBa.mp h d hd)).2.2
theorem o8 : ∀ (cs : List Codec) (a : Codec.denoteAll cs), (Codec.encAll cs a).length = cs.length
 | [], _ => rfl
 | c :: cs, a => by
  show (Codec.encAll cs a.2).length + 1 = cs.length + 1
  rw [o8 cs a.2]
theorem zt {r : OpenSpec} {k : Nat} {q : Program} {loose : List Str} {XP : (Str -> Option Value) -> Heap -> Prop} {YP : World -> Heap -> Prop} {d : DefRec} {K : Params -> PySem.W.Frag} {CX : World -> CXT} {ps : List Str} {sp : World -> Sp}
  (CU : r.wellSaid = true) (hdf : d.params.defaults = []) (hlen : r.args.length = ps.length) (hr : dj k callerA)
  (hY : ∀ (w : World) (h : Heap), YP w h -> (K w.params).In h)
  (F : ∀ (w : World) (mg : Str -> Option Value) (fa : Addr) (h : Heap), YP w h -> (K w.params).In h -> h.Ns mainGlobals mg -> mg d.name = some (.ref fa) →
   ∃ fd : FuncData, (∀ (s : Shared) (us : List Value), us.length = ps.length -> BindsTo s fd ⟨us, []⟩ (ps.zip us)) ∧
    ∀ base : Heap, (K w.params).In base -> base.Ns mainGlobals mg -> jc r.prog w (K w.params) mg base (CX w) k fa fd ps (sp w))
  (hsp : ∀ (w : World) (H : Hp) (xs : List V) (a : Codec.denoteAll r.args), vZ H -> Codec.withinAll r.args a = true -> Codec.app r.args r.asked a = true -> g5 (K w.params) H xs (Codec.encAll r.args a) →
   sp w xs H (fun v H' => Dw (K w.params) H' v (r.ret.enc (Codec.app r.args r.f a))) fun _ _ _ => False)
  (hCX : ∀ (w : World) (H : Hp) (s : Shared) (e : Value) (s' : Shared), CX w [] H s (fun _ _ _ => False) e s' -> False) :
  PySem.W.WalkOS q loose XP YP r d [] (fun f vs => PySem.call f vs) := by
 intro w s_0 s₁ mg mb G Y fa o pm cd doc dV kV ho hd hcd hD hmg hg args vals as K9 Lf hrd hwl hlo
 obtain ⟨a, e1, e2⟩ := PySem.W.os_pre_some K9
 obtain ⟨e3, hwi⟩ := Codec.encAll_of_decAll r.args args a e1
 subst e3
 have KX := hY w _ Y
 obtain ⟨fd, hb, hF⟩ := F w mg fa _ Y KX G.T.g hmg
 refine PySem.W.enter_call (codeAny_mono (zA (R := []) (cl := classAt s_0.heap) (d0 := r.ret.enc (Codec.app r.args r.f a)) KX G.T.g G.T.b G.T.builtins G.T.nolimit hg hwl (qK _ _) (oz Lf) hr hF hb (by rw [o8]; exact hlen)
  (fun H xs hO hS => hsp w H xs a hO hwi e2 hS) fun H e s' => hCX w H s₁ e s') fun r' s' hq => ?_)
 obtain ⟨u, as', rfl, h1, h2, h3, h4⟩ := hq
 exact ⟨.inl ⟨u, _, as', rfl, fun _ => rfl, h1, (OpenSpec.post_iff CU hwi _ _).mpr rfl, fun z => Bool.noConfusion (show false = true from z)⟩, h2, h3, h4⟩
theorem wc {r : OpenSpec} {k : Nat} {q : Program} {loose : List Str} {XP : (Str -> Option Value) -> Heap -> Prop} {YP : World -> Heap -> Prop} {d : DefRec} {K : Params -> PySem.W.Frag} {CX : CXT} {ps : List Str} {sp : PySem.W.Frag -> Sp}
  (CU : r.wellSaid = true) (hdf : d.params.defaults = []) (hlen : r.args.length = ps.length) (hr : dj k callerA)
  (hY : ∀ (w : World) (h : Heap), YP w h -> (K w.params).In h)
  (F : ∀ (w : World) (mg : Str -> Option Value) (fa : Addr) (h : Heap), YP w h -> (K w.params).In h -> h.Ns mainGlobals mg -> mg d.name = some (.ref fa) →
   ∃ fd : FuncData, (∀ (s : Shared) (us : List Value), us.length = ps.length -> BindsTo s fd ⟨us, []⟩ (ps.zip us)) ∧
    ∀ base : Heap, (K w.params).In base -> base.Ns mainGlobals mg -> jc r.prog w (K w.params) mg base CX k fa fd ps (sp (K w.params)))
  (hsp : ∀ (K : PySem.W.Frag) (H : Hp) (xs : List V) (a : Codec.denoteAll r.args), vZ H -> Codec.withinAll r.args a = true -> Codec.app r.args r.asked a = true -> g5 K H xs (Codec.encAll r.args a) →
   sp K xs H (fun v H' => Dw K H' v (r.ret.enc (Codec.app r.args r.f a))) fun _ _ _ => False)
  (hCX : ∀ (H : Hp) (s : Shared) (e : Value) (s' : Shared), CX [] H s (fun _ _ _ => False) e s' -> False) :
  PySem.W.WalkOS q loose XP YP r d [] (fun f vs => PySem.call f vs) :=
 zt (K := K) (CX := fun _ => CX) (sp := fun w => sp (K w.params)) CU hdf hlen hr hY F (fun w H xs a h1 h2 h3 h4 => hsp (K w.params) H xs a h1 h2 h3 h4) fun _ H s e s' => hCX H s e s'
end L2
end
end
namespace TW
open PySem PySem.Spec PyProof.Rows L2
def top (i : Nat) : Stmt := PySem.Challenge.pw_watchtowers_s01_answers.main.body.getD i (.Pass ⟨0, 0, 0, 0⟩)
def Cal (P : Program) (w : World) (K : PySem.W.Frag) (mg : Str -> Option Value) (base : Heap) (x : Str) (k : Nat) (ps : List Str) (sp : Sp) : Prop :=
 ∃ f fd, jc P w K mg base CX0 k f fd ps sp /\ mg x = some (.ref f) /\ PySem.W.keepIn K (.ref f) = true /\ Binds K fd ps []
theorem au {X : Cx} {x : Str} {j k : Nat} {ps : List Str} {sp : Sp} {p pos : Pos} {e : Expr} {es : List Expr} {t : TA} (C : Cal X.prog X.w X.K X.mg X.base x k ps sp) (hr : dj j X.A) (hg : Gl X x) (ha : PA X (e :: es) t) (hkj : k <= j := by decide)
  (hdb : (x == ("__debug__" : Str)) = false := by decide) (he : starEach (e :: es) X.env = (false, eval e X.env) :: starEach es X.env := by rfl) (hpl : (backTo pos (starEach es X.env)).any (·.1) = false := by rfl) :
  PE X (.Call (.Name x p) (e :: es) [] pos) (Bh sp [] E0 t) := by
 obtain ⟨f, fd, F, hm, kp, b⟩ := C
 exact ER F (hr.mono hkj) hg hm kp b .nil yL ha hdb he hpl
abbrev nv (n : Nat) : V := .int (n : Int)
end TW
namespace TW
open PySem PySem.Spec PyProof.Rows L2
theorem pw (i j : Nat) : Builtin.bitAnd (i : Int) (j : Int) = ((i &&& j : Nat) : Int) := by
 cases i <;> cases j <;> rfl
theorem ju : ∀ (i j : Nat), i ||| j = (i ^^^ j) + (i &&& j) := by
 intro i
 induction i using Nat.strongRecOn with
 | _ i ih =>
  intro j
  by_cases h : i = 0
  ·subst h; simp
  ·have h1 := ih (i / 2) (by omega) (j / 2)
   rw [← Nat.or_div_two, ← Nat.xor_div_two, ← Nat.and_div_two] at h1
   have a1 := @Nat.or_mod_two_eq_one i j
   have a2 := @Nat.xor_mod_two_eq_one i j
   have a3 := @Nat.and_mod_two_eq_one i j
   generalize i ||| j = A at *
   generalize i ^^^ j = B at *
   generalize i &&& j = C at *
   have b1 := Nat.mod_two_eq_zero_or_one i
   have b2 := Nat.mod_two_eq_zero_or_one j
   clear ih
   rcases b1 with b1 | b1 <;> rcases b2 with b2 | b2 <;> rw [b1, b2] at a1 a2 a3 <;> simp at a1 a2 a3 <;> omega
theorem rf (i j : Nat) : Builtin.bitOr (i : Int) (j : Int) = ((i ||| j : Nat) : Int) := by
 unfold Builtin.bitOr
 have h1 : decide (0 <= Builtin.bitNot (i : Int)) = false := by unfold Builtin.bitNot; apply zBm; omega
 have h2 : decide (0 <= Builtin.bitNot (j : Int)) = false := by unfold Builtin.bitNot; apply zBm; omega
 unfold Builtin.bitAnd
 rw [h1, h2]
 have e1 : (Builtin.bitNot (Builtin.bitNot (i : Int))).toNat = i := by unfold Builtin.bitNot; omega
 have e2 : (Builtin.bitNot (Builtin.bitNot (j : Int))).toNat = j := by unfold Builtin.bitNot; omega
 show Builtin.bitNot (Builtin.bitNot (((Builtin.bitNot (Builtin.bitNot (i : Int))).toNat ||| (Builtin.bitNot (Builtin.bitNot (j : Int))).toNat : Nat) : Int)) = _
 rw [e1, e2]
 unfold Builtin.bitNot
 omega
theorem yi (i j : Nat) : Builtin.bitXor (i : Int) (j : Int) = ((i ^^^ j : Nat) : Int) := by
 unfold Builtin.bitXor
 rw [rf, pw, ju]
 generalize i ^^^ j = A
 generalize i &&& j = B
 omega
def rN (C : Nat -> Nat -> Prop) (g : Nat -> Nat -> V) : R2 := fun x y H Q => ∃ i j : Nat, x = nv i /\ y = nv j /\ C i j /\ Q (g i j) H
def rN0 (g : Nat -> Nat -> V) : R2 := fun x y H Q => ∃ i j : Nat, x = nv i /\ y = nv j /\ Q (g i j) H
section
variable {X : Cx} {a b : Expr} {ta tb : TE} {pos : Pos}
theorem ai (n : Nat) {j pos} : PE X (.Constant (.int (n : Int)) j pos) (tC (nv n)) := Hl
theorem uS {f : Value -> Value -> Sem Value} {g : Int -> Int -> V} {h : Nat -> Nat -> V} (o : OpR X f (rI0 g)) (e : ∀ i j : Nat, g i j = h i j) : OpR X f (rN0 h) := by
 intro pins s σ H x y v u Q I rx ry q
 obtain ⟨i, j, rfl, rfl, q⟩ := q
 exact o pins s σ H _ _ v u Q I rx ry ⟨_, _, rfl, rfl, by rw [e]; exact q⟩
theorem opN {f : Value -> Value -> Sem Value} {C : Int -> Int -> Prop} {g : Int -> Int -> V} {C' : Nat -> Nat -> Prop} {h : Nat -> Nat -> V} (o : OpR X f (rI C g)) (c : ∀ i j : Nat, C' i j -> C i j) (e : ∀ i j : Nat, C' i j -> g i j = h i j) : OpR X f (rN C' h) := by
 intro pins s σ H x y v u Q I rx ry q
 obtain ⟨i, j, rfl, rfl, hc, q⟩ := q
 exact o pins s σ H _ _ v u Q I rx ry ⟨_, _, rfl, rfl, c i j hc, by rw [e i j hc]; exact q⟩
theorem nZ : OpR X (binaryOp .Add) (rN0 fun i j => nv (i + j)) := uS Hz fun i j => by simp
theorem rX : OpR X (binaryOp .Sub) (rN (fun i j => j <= i) fun i j => nv (i - j)) := by
 intro pins s σ H x y v u Q I rx ry q
 obtain ⟨i, j, rfl, rfl, hc, q⟩ := q
 exact Ht pins s σ H _ _ v u Q I rx ry ⟨_, _, rfl, rfl, (congrArg (fun z => Q (V.int z) H) (show ((i : Int) - (j : Int)) = ((i - j : Nat) : Int) by omega)).mpr q⟩
theorem ll : OpR X (binaryOp .BitAnd) (rN0 fun i j => nv (i &&& j)) := uS Hy fun i j => by rw [pw]
theorem uU : OpR X (binaryOp .BitOr) (rN0 fun i j => nv (i ||| j)) := uS JJ fun i j => by rw [rf]
theorem wY : OpR X (binaryOp .BitXor) (rN0 fun i j => nv (i ^^^ j)) := uS Hs fun i j => by rw [yi]
theorem wZ : OpR X (binaryOp .RShift) (rN0 fun i j => nv (i / 2 ^ j)) := by
 intro pins s σ H x y v u Q I rx ry q
 obtain ⟨i, j, rfl, rfl, q⟩ := q
 refine Hu pins s σ H _ _ v u Q I rx ry ⟨_, _, rfl, rfl, by omega, ?_⟩
 have e : ((i : Int) / 2 ^ ((j : Int)).toNat) = ((i / 2 ^ j : Nat) : Int) := by simp
 exact (congrArg (fun z => Q (V.int z) H) e).mpr q
theorem kl : OpR X (binaryOp .LShift) (fun x y H Q => ∃ j : Nat, x = nv 1 /\ y = nv j /\ j <= 1000000 /\ Q (nv (2 ^ j)) H) := by
 intro pins s σ H x y v u Q I rx ry q
 obtain ⟨j, rfl, rfl, hc, q⟩ := q
 refine Hv pins s σ H _ _ v u Q I rx ry ⟨_, _, rfl, rfl, ⟨by omega, by omega, by decide⟩, ?_⟩
 have e : (((1 : Nat) : Int) * 2 ^ ((j : Int)).toNat) = ((2 ^ j : Nat) : Int) := by simp
 exact (congrArg (fun z => Q (V.int z) H) e).mpr q
theorem Cb : OpR X (binaryOp .Mod) (rN (fun _ j => 0 < j) fun i j => nv (i % j)) := opN Hx (fun i j h => by show (0 : Int) < j; omega) fun i j _ => by simp
theorem dq : OpR X (compareOp .Eq) (rN0 fun i j => .bl (decide (i = j))) := by
 intro pins s σ H x y v u Q I rx ry q
 obtain ⟨i, j, rfl, rfl, q⟩ := q
 refine bt pins s σ H _ _ v u Q I rx ry ⟨rfl, ?_⟩
 have e : decide (nv i = nv j) = decide (i = j) := by
  apply decide_eq_decide.mpr; constructor
  ·intro h; exact Int.ofNat.inj (V.int.inj h)
  ·intro h; rw [h]
 rw [e]; exact q
theorem qQ : OpR X (compareOp .NotEq) (rN0 fun i j => .bl (!decide (i = j))) := by
 intro pins s σ H x y v u Q I rx ry q
 obtain ⟨i, j, rfl, rfl, q⟩ := q
 refine Gz pins s σ H _ _ v u Q I rx ry ⟨rfl, ?_⟩
 have e : decide (nv i = nv j) = decide (i = j) := by
  apply decide_eq_decide.mpr; constructor
  ·intro h; exact Int.ofNat.inj (V.int.inj h)
  ·intro h; rw [h]
 rw [e]; exact q
theorem nY : OpR X (compareOp .Lt) (rN0 fun i j => .bl (decide (i < j))) := uS B7 fun i j => by congr 1; apply decide_eq_decide.mpr; omega
theorem mj : OpR X (compareOp .LtE) (rN0 fun i j => .bl (decide (i <= j))) := uS JK fun i j => by congr 1; apply decide_eq_decide.mpr; omega
theorem gb : OpR X (compareOp .Gt) (rN0 fun i j => .bl (decide (j < i))) := uS JL fun i j => by congr 1; apply decide_eq_decide.mpr; omega
theorem yN : OpR X (compareOp .GtE) (rN0 fun i j => .bl (decide (j <= i))) := uS GA fun i j => by congr 1; apply decide_eq_decide.mpr; omega
theorem JO : OpR X (compareOp .Eq) (fun x y H Q => ∃ i j : Bool, x = .bl i /\ y = .bl j /\ Q (.bl (i == j)) H) := by
 intro pins s σ H x y v u Q I rx ry q
 obtain ⟨i, j, rfl, rfl, q⟩ := q
 exact bt pins s σ H _ _ v u Q I rx ry ⟨rfl, by rw [tQ]; exact q⟩
theorem JN : OpR X (compareOp .NotEq) (fun x y H Q => ∃ i j : Bool, x = .bl i /\ y = .bl j /\ Q (.bl (i != j)) H) := by
 intro pins s σ H x y v u Q I rx ry q
 obtain ⟨i, j, rfl, rfl, q⟩ := q
 exact Gz pins s σ H _ _ v u Q I rx ry ⟨rfl, by rw [tQ]; exact q⟩
end
end TW
namespace TW
open PySem PySem.Spec PyProof.Rows L2
theorem IQ : bootBuiltins "sum" = some (.builtin "sum") := by decide +kernel
theorem pq : bootBuiltins "min" = some (.builtin "min") := by decide +kernel
theorem t4 : bootBuiltins "max" = some (.builtin "max") := by decide +kernel
theorem IS : bootBuiltins "len" = some (.builtin "len") := by decide +kernel
theorem gu : bootBuiltins "sorted" = some (.builtin "sorted") := by decide +kernel
theorem DJ : bootBuiltins "any" = some (.builtin "any") := by decide +kernel
theorem t5 : bootBuiltins "all" = some (.builtin "all") := by decide +kernel
theorem gW : bootBuiltins "list" = some (.type "list") := by decide +kernel
theorem yh : bootBuiltins "set" = some (.type "set") := by decide +kernel
theorem vT : bootBuiltins "tuple" = some (.type "tuple") := by decide +kernel
def gc : List Str := (["start", "rule", "like", "against", "both", "either", "always", "flag", "hold", "free", "order", "step", "pass_on", "act", "settle", "rule_of", "seen", "round_of", "rounds", "before", "gardens", "basin", "kinds", "even", "odd", "layers", "rests", "sweeps", "best", "brings", "moves", "reach", "far", "traps", "may", "cut", "cut_even", "fewest", "comes", "rises", "least", "greatest", "join", "meet", "back", "again", "sums", "state"] : List String).map Str.ofString
def rK : List Nat := [1, 2, 2, 2, 3, 3, 2, 2, 1, 1, 0, 1, 1, 1, 1, 1, 0, 0, 0, 0, 0, 0, 0, 0, 0, 0, 0, 0, 0, 0, 0, 0, 1, 0, 0, 0, 0, 0, 2, 0, 0, 0, 2, 2, 0, 0, 0, 0]
def Gn (mg : Str -> Option Value) (x : Str) (v : V) : Prop := ∃ u, mg x = some u /\ RelV v u
theorem aK {X : Cx} {x : Str} {v : V} {pos : Pos} (hg : Gl X x) (h : Gn X.mg x v) (hd : (x == ("__debug__" : Str)) = false := by decide) : PE X (.Name x pos) (tC v) := by
 obtain ⟨u, h1, h2⟩ := h
 exact EM hg h1 h2 hd
section
variable {X : Cx} (K : PySem.W.Frag)
theorem K1 (h : X.K = K := by rfl) : IxR X (Eo K) := h ▸ Fz
theorem eB (h : X.K = K := by rfl) : IxR X (Jw K) := h ▸ HS
theorem vo (h : X.K = K := by rfl) : OpR X (compareOp .In) (rIn K false) := h ▸ Ac
theorem yU (h : X.K = K := by rfl) : OpR X (compareOp .NotIn) (rIn K true) := h ▸ rV
theorem J0 (h : X.K = K := by rfl) : bY X (.builtin "len") (fun xs H Q => ∃ p ys, xs = [.ref p] /\ (SqL K H p ys \/ SqT K H p ys) /\ Q (.int ys.length) H) := h ▸ tV
theorem JX (h : X.K = K := by rfl) (hc : X.calm = true := by rfl) : bY X (.builtin "sum") (Js K) := h ▸ Ip hc
theorem JY (h : X.K = K := by rfl) (hc : X.calm = true := by rfl) : bY X (.builtin "min") (Ju K) := h ▸ Iq hc
theorem JZ (h : X.K = K := by rfl) (hc : X.calm = true := by rfl) : bY X (.builtin "max") (Jv K) := h ▸ Ir hc
theorem GD (h : X.K = K := by rfl) (hc : X.calm = true := by rfl) : bY X (.builtin "any") (Jy K) := h ▸ Iu hc
theorem yW (h : X.K = K := by rfl) (hc : X.calm = true := by rfl) : bY X (.builtin "all") (Jz K) := h ▸ Iv hc
theorem CL (h : X.K = K := by rfl) : bY X (.builtin "sorted") (yA K) := h ▸ AQ
theorem sP (h : X.K = K := by rfl) : bY X (.type "list") (fun xs H Q => ∃ p ys, xs = [.ref p] /\ (SqL K H p ys \/ SqT K H p ys) /\ ∀ l, H l = none -> Q (.ref l) (upd H l (.lst ys))) := h ▸ tU
theorem yS (h : X.K = K := by rfl) : bY X (.type "tuple") (fun xs H Q => ∃ p ys, xs = [.ref p] /\ ((SqL K H p ys /\ ∀ l, H l = none -> Q (.ref l) (upd H l (.tup ys))) \/ (SqT K H p ys /\ Q (.ref p) H))) := h ▸ qo
theorem yV (h : X.K = K := by rfl) : MtR X "list.index" (BF K) := h ▸ CF
theorem yT (h : X.K = K := by rfl) : SlR X (GZ K) := h ▸ El
theorem pf {e : Expr} {f : Str} {ta : TE} {pos : Pos} (he : PE X e ta) (h : X.K = K := by rfl) (hb : attributeBase e f X.env (eval e X.env) = eval e X.env := by rfl) : PE X (.Attribute e f pos) (Jg K ta f) := h ▸ Hm he hb
theorem pbm {o e : Expr} {es : List Expr} {to : TE} {t : TA} {name : Str} {apos gn : Pos} {id : String} {r : V -> List V -> Hp -> VK -> Prop} (slot : Slot "list" name id) (hty : typeOf (.builtin id) = pure (.type "method_descriptor")) (hm : MtR X id r) (ho : PE X o to) (ha : PA X (e :: es) t) (h : X.K = K := by rfl)
  (oS : attributeBase o name X.env (eval o X.env) = eval o X.env := by rfl)
  (qi : ((backTo gn (starEach (e :: es) X.env)).all (fun x => !x.1) && (backToKw gn (keywordEach [] X.env)).all (fun x => x.1.isSome)
   && decide ((e :: es).length + ([] : List Keyword).length + (if ([] : List Keyword).isEmpty then 0 else 1) < 30)) = true := by rfl)
  (oQ : (apos.endLine == gn.line) = true := by rfl) (hs : starEach (e :: es) X.env = (false, eval e X.env) :: starEach es X.env := by rfl) (xT : (backTo gn (starEach es X.env)).any (·.1) = false := by rfl) :
  PE X (.Call (.Attribute o name apos) (e :: es) [] gn) (tBM K "list" r to t) := h ▸ JH PySem.F.plainAttrs_list slot hty hm ho ha oS qi oQ hs xT
theorem sS (h : X.K = K := by rfl) : MtR X "list.count" (fun x xs H Q => ∃ (a : Addr) (l : List Nat) (z : Nat), x = .ref a /\ xs = [nv z] /\ SqL K H a (l.map nv) /\ Q (nv (l.count z)) H) := by
 subst h
 intro pins s σ H x xs v us Q I rx rxs q
 obtain ⟨a, l, z, rfl, rfl, hs, q⟩ := q
 cases rx
 obtain ⟨u, rfl, ru⟩ := Vals.one rxs
 obtain ⟨t, rfl⟩ := ru
 obtain ⟨its, rv, hl, _⟩ := I.list hs
 have e : l.map nv = (l.map fun x : Nat => (x : Int)).map V.int := by rw [zAw]; rfl
 rw [e] at rv
 refine count_list_ints hl.isList (intsAre_of rv) ?_
 have e2 : (l.map fun x : Nat => (x : Int)).count (z : Int) = l.count z := by
  rw [List.count_eq_countP, List.countP_map, List.count_eq_countP]
  congr 1
  funext y
  show ((y : Int) == (z : Int)) = (y == z)
  rw [zCo, beq_iff_eq, beq_iff_eq]
  omega
 rw [e2]; exact ⟨nv (l.count z), H, I.tok _, ⟨_, rfl⟩, q⟩
end
structure Txt (K : PySem.W.Frag) (mg : Str -> Option Value) (C : Addr) : Prop where
 cl : Cls K C
 n_n : cJ K C "n"
 ba : cJ K C "state"
 dI : cJ K C "held"
 gz : cJ K C "rules"
 gB : cJ K C "order"
 kr : cJ K C "steps"
 iB : cJ K C "passes"
 ly : cJ K C "acts"
 kq : cJ K C "turns"
 gA : cJ K C "past"
 fg : cJ K C "undone"
 i7 : mg "range" = none
 Ky : mg "len" = none
 Kx : mg "sum" = none
 vW : mg "min" = none
 zi : mg "max" = none
 iQ : mg "sorted" = none
 jS : mg "list" = none
 zh : mg "tuple" = none
 DM : mg "set" = none
 GN : mg "any" = none
 zj : mg "all" = none
 FI : Gn mg "START" (nv 0)
 vC : Gn mg "LAST_TOLD" (nv 10)
 qk : Gn mg "LAST_CHANGE" (nv 14)
 lN : Gn mg "LAST_OF_ROUNDS" (nv 21)
 jM : Gn mg "LAST_OF_WATCHING" (nv 25)
 oW : Gn mg "LAST_OF_REST" (nv 29)
 mN : Gn mg "LAST_OF_MOVES" (nv 34)
 oX : Gn mg "LAST_OF_HELD" (nv 38)
 lO : Gn mg "LAST_OF_RISING" (nv 43)
 mM : Gn mg "REST_FROM_ALL" (nv 2)
 lL : Gn mg "REST_FROM_HERE" (nv 1)
 AI : Gn mg "NO_REST" (nv 0)
 mr : Gn mg "NO_CHANGE" (.int (-6))
 gK : Gn mg "NOT_RISING" (.int (-16))
 FJ : Gn mg "ORDER" (nv 10)
 gL : ∃ a, Gn mg "NAMES" (.ref a) /\ ∀ H, SqT K H a (gc.map V.str)
 tE : ∃ a, Gn mg "SIZES" (.ref a) /\ ∀ H, SqT K H a (rK.map nv)
 bW : Gn mg "NO_TOWER" (.int (-2))
 gJ : Gn mg "SO_ALREADY" (.int (-17))
 bb : Gn mg "WRONG_NUMBER" (.int (-22))
 bT : Gn mg "THERE_IS_NONE" (.int (-33))
 iH : Gn mg "MOST_ACTS" (nv 100)
 qj : Gn mg "MOST_TOWERS" (nv 4)
 oY : Gn mg "CHANGES_KEPT" (nv 20)
 c8 : Gn mg "NOT_WATCHED" (nv 0)
 Dc : Gn mg "LIFTED" (nv 1)
 lM : Gn mg "LOWERED" (nv 2)
 d6 : Gn mg "LIFTED_AND_LOWERED" (nv 3)
def mS (P : Program) (w : World) (K : PySem.W.Frag) (mg : Str -> Option Value) (base : Heap) (C : Addr) (m : Str) (k : Nat) (ps : List Str) (sp : Sp) : Prop :=
 ∃ f fd, jc P w K mg base CX0 k f fd ps sp /\ Meth K C m f /\ Binds K fd ps []
section
variable {X : Cx} {C : Addr} {m x : Str} {j k : Nat} {ps : List Str} {sp : Sp} {p pos apos : Pos} {o e : Expr} {es : List Expr} {ta : TE} {t : TA} {pl : Sem Bool}
theorem dY (cl : Cls X.K C) (c : mS X.prog X.w X.K X.mg X.base C m k ps sp) (hr : dj j X.A) (he : PE X o ta) (ha : PA X (e :: es) t) (hkj : k <= j := by decide)
  (hst : starEach (e :: es) X.env = (false, eval e X.env) :: starEach es X.env := by rfl) (hpl : (backTo pos (starEach es X.env)).any (·.1) = false := by rfl)
  (ht : eval (.Call (.Attribute o m apos) (e :: es) [] pos) X.env = (do
   let ov ← eval o X.env
   standAt apos.atName
   let (f, first) ← holding [ov] (getMethod ov m pl)
   callWith pos f first (backTo pos (starEach (e :: es) X.env)) (backToKw pos (keywordEach [] X.env))) := by rfl) :
  PE X (.Call (.Attribute o m apos) (e :: es) [] pos) (qA C m sp [] E0 ta t) := by
 obtain ⟨f, fd, F, hm, b⟩ := c
 exact EL (pl := pl) he cl hm F (hr.mono hkj) b .nil yL ha hst hpl ht
theorem bD (cl : Cls X.K C) (c : mS X.prog X.w X.K X.mg X.base C m k ps sp) (hr : dj j X.A) (he : PE X o ta) (hkj : k <= j := by decide)
  (ht : eval (.Call (.Attribute o m apos) [] [] pos) X.env = (do
   let ov ← eval o X.env
   standAt apos.atName
   let (f, first) ← holding [ov] (getMethod ov m pl)
   callWith pos f first (backTo pos (starEach [] X.env)) (backToKw pos (keywordEach [] X.env))) := by rfl) :
  PE X (.Call (.Attribute o m apos) [] [] pos) (qA C m sp [] E0 ta fL) := by
 obtain ⟨f, fd, F, hm, b⟩ := c
 exact B0 (pl := pl) he cl hm F (hr.mono hkj) b .nil yL ht
def Mak (P : Program) (w : World) (K : PySem.W.Frag) (mg : Str -> Option Value) (base : Heap) (C : Addr) (x : Str) (k : Nat) (sp : Sp) : Prop :=
 ∃ f fd, jc P w K mg base CX0 k f fd ["self"] sp /\ Mk K C f /\ mg x = some (.ref C) /\ Binds K fd ["self"] []
theorem Hk {X : Cx} {C : Addr} {x : Str} {j k : Nat} {sp : Sp} {p pos : Pos} (c : Mak X.prog X.w X.K X.mg X.base C x k sp) (hr : dj j X.A) (hg : Gl X x) (hkj : k + 1 <= j := by decide) (hdb : (x == ("__debug__" : Str)) = false := by decide) :
  PE X (.Call (.Name x p) [] [] pos) (Gu C sp [] E0 fL) := by
 obtain ⟨f, fd, F, M, hm, b⟩ := c
 exact B1 M F (hr.mono hkj) hg hm b .nil yL hdb
def ipN (f : Nat -> Nat -> Nat) : TIp := fun x y H Q => ∃ i j : Nat, x = nv i /\ y = nv j /\ Q (nv (f i j)) H
theorem fJ : PIp X .Add (ipN fun i j => i + j) := by
 intro pins s σ H x y v u Q I r1 r2 h
 obtain ⟨i, j, rfl, rfl, q⟩ := h
 exact HV pins s σ H _ _ v u Q I r1 r2 ⟨_, _, rfl, rfl, (congrArg (fun z => Q (V.int z) H) (show ((i : Int) + (j : Int)) = ((i + j : Nat) : Int) by omega)).mpr q⟩
def Gw : V -> V -> Hp -> VK -> Prop := fun x y H Q => ∃ i j : Nat, x = nv i /\ y = nv j /\ Q (nv (i + j)) H
theorem kC : IY X .Add Gw := by
 rintro pins s σ H x y u v Q I rx ry ⟨i, j, rfl, rfl, q⟩
 exact HW pins s σ H _ _ u v Q I rx ry ⟨_, _, rfl, rfl, (congrArg (fun z => Q (V.int z) H) (show ((i : Int) + (j : Int)) = ((i + j : Nat) : Int) by omega)).mpr q⟩
end
theorem ak {H H' : Hp} {D : Addr} {o : HO} (s : az H H') (h : H D = none) : az H (upd H' D o) := fun b u e => by
 rw [ag (ax e h)]; exact s b u e
theorem aq {H : Hp} {D : Addr} {o : HO} (h : H D = none) : az H (upd H D o) := ak (az.refl H) h
theorem bj (i : Nat) : (V.int ((0 : Int) + (i : Int))) = nv i := by rw [Int.zero_add]
theorem jt (p : Nat -> Bool) (f : Nat -> V) (i : Nat) : (((List.range (i + 1)).filter p).map f) = if p i = true then ((List.range i).filter p).map f ++ [f i] else ((List.range i).filter p).map f := by
 rw [List.range_succ, zCc, zAp]
 by_cases h : p i = true
 ·simp [h]
 ·simp [h]
theorem bR {n : Nat} {g : TG} {tt : TT} {te : TE} {vs : List Nat} {σ : L2.St} {H1 : Hp} {D : Addr} {Qd : Hp -> Prop} (p : Nat -> Bool) (f : Nat -> V) (hD : H1 D = none) (hn : n <= 1000000)
  (hs : ∀ i H, i < n -> az H1 H -> ∀ (R : V -> Hp -> Prop) (R' : Hp -> Prop), (p i = true -> ∀ H4, az H H4 -> R (f i) H4) -> (p i = false -> ∀ H3, az H H3 -> R' H3) →
   g (nv i) (wipe σ vs) H fun σ2 H2 => wipe σ2 vs = wipe σ vs /\ tt σ2 H2 fun b H3 => if b = true then te σ2 H3 R else R' H3)
  (hd : ∀ H, az H1 H -> H D = some (.lst (((List.range n).filter p).map f)) -> Qd H) :
  ∃ W : Nat -> Nat -> Hp -> Prop, (∃ m, W 0 m (upd H1 D (.lst []))) /\ ∀ i m H, W i m H →
   ((Itr 0 n).stop i H /\ Qd H) \/ ((Itr 0 n).go i H /\ ∃ Nx : Hp -> Prop, (∀ H', Nx H' -> ∃ m', m' < m /\ W (i + 1) m' H') /\ ∀ x H', (Itr 0 n).yld i H x H' -> g x (wipe σ vs) H' fun σ2 H2 => wipe σ2 vs = wipe σ vs /\ tt σ2 H2 fun b H3 =>
    if b = true then te σ2 H3 fun y H4 => ∃ acc, H4 D = some (.lst acc) /\ acc.length < sizeLine /\ Nx (upd H4 D (.lst (acc ++ [y]))) else Nx H3) := by
 refine oy (fun i H => az H1 H /\ H D = some (.lst (((List.range i).filter p).map f))) ⟨aq hD, ae⟩ (fun i H hi ⟨s1, hH⟩ => ?_) (fun H ⟨s1, hH⟩ => hd H s1 hH)
 rw [bj]
 refine hs i H hi s1 _ _ (fun hp H4 s4 => ?_) (fun hp H3 s3 => ?_)
 ·refine ⟨_, s4 _ _ hH, ?_, ?_, ?_⟩
  ·rw [zAa]
   refine zBi (zAn (zAm _ _) (by rw [zAr]; exact zCf (zBh hi hn))) ?_
   rw [sizeLine_eq]; decide
  ·exact ak (s1.trans s4) hD
  ·rw [ae, jt, if_pos hp]
 ·refine ⟨s1.trans s3, ?_⟩
  rw [jt, if_neg (by rw [hp]; decide)]
  exact s3 _ _ hH
theorem aQ {rs : List Nat} {j : Nat} (h : j < rs.length) : atI (rs.map nv) (j : Int) = some (nv (rs.getD j 0)) := by
 refine cq ?_
 rw [zAh, zAc h, zAb, zAc h]
 rfl
theorem gC (l : List Nat) : l.map nv = (l.map fun x : Nat => (x : Int)).map V.int := by rw [zAw]; rfl
theorem a8 (n : Nat) : -(2 ^ 62) <= (n : Int) := Int.le_trans (by decide) (Int.natCast_nonneg n)
theorem a9 {n : Nat} (h : n <= 1000000) : (n : Int) < 2 ^ 62 := Int.lt_of_le_of_lt (Int.ofNat_le.mpr h) (by decide)
theorem filter_all {α : Type} (l : List α) : l.filter (fun _ => true) = l := List.filter_eq_self.mpr fun _ _ => rfl
def LL (H : Hp) (a : Addr) (xss : List (List Nat)) : Prop := ∃ as : List Addr, H a = some (.lst (as.map V.ref)) /\ as.length = xss.length /\ ∀ j x, as[j]? = some x -> H x = some (.lst ((xss.getD j []).map nv))
theorem LL.same {H H' : Hp} {a : Addr} {xss : List (List Nat)} (h : LL H a xss) (s : az H H') : LL H' a xss := by
 obtain ⟨as, h1, h2, h3⟩ := h
 exact ⟨as, s _ _ h1, h2, fun j x e => s _ _ (h3 j x e)⟩
theorem LL.nil {H : Hp} {a : Addr} (h : H a = some (.lst [])) : LL H a [] := ⟨[], h, rfl, fun j x e => by simp at e⟩
theorem LL.row {K : PySem.W.Frag} {H : Hp} {a : Addr} {xss : List (List Nat)} {j : Nat} (h : LL H a xss) (hj : j < xss.length) :
  ∃ (ys : List V) (x : Addr), SqL K H a ys /\ ys[j]? = some (.ref x) /\ atI ys (j : Int) = some (.ref x) /\ H x = some (.lst ((xss.getD j []).map nv)) := by
 obtain ⟨as, h1, h2, h3⟩ := h
 have e : as[j]? = some as[j] := zAc (by omega)
 have e2 : (as.map V.ref)[j]? = some (.ref as[j]) := by rw [zAh, e]; rfl
 exact ⟨_, as[j], .inl (.inl h1), e2, cq e2, h3 _ _ e⟩
theorem LL.snoc {H : Hp} {a x : Addr} {xss : List (List Nat)} {r : List Nat} {ys : List V} (h : LL H a xss) (hy : H a = some (.lst ys)) (hx : H x = some (.lst (r.map nv))) (hne : x ≠ a) : LL (upd H a (.lst (ys ++ [.ref x]))) a (xss ++ [r]) := by
 obtain ⟨as, h1, h2, h3⟩ := h
 have ey : ys = as.map V.ref := by
  rw [hy] at h1
  exact HO.lst.inj (zBl h1)
 subst ey
 refine ⟨as ++ [x], by rw [ae, zAp]; rfl, by rw [zAi, zAi, h2]; rfl, fun j y e => ?_⟩
 by_cases hj : j < as.length
 ·rw [zAy hj] at e
  have AD := h3 j y e
  have ne : y ≠ a := by
   rintro rfl
   have q0 := h1.symm.trans AD
   have q := HO.lst.inj (zBl q0)
   cases as with
   | nil => simp at hj
   | cons b as =>
    cases hh : (xss.getD j []) with
    | nil => rw [hh] at q; simp at q
    | cons c r' => rw [hh] at q; simp at q
  rw [ag ne, AD, zAb, zAb, zAy (by omega)]
 ·have hj2 : j = as.length := by
   have := (zAd.mp e).1
   rw [zAi] at this
   simp at this
   omega
  subst hj2
  rw [zAx (zAt _), zBt] at e
  have e : x = y := zBl e
  subst e
  rw [ag hne, hx, zAb, zAx (by omega), h2, zBt]
  rfl
abbrev NL (K : PySem.W.Frag) (H : Hp) (a : Addr) (l : List Nat) : Prop := SqL K H a (l.map nv)
end TW
namespace TW
open PySem PySem.Spec PyProof.Rows L2
section
variable {X : Cx} {K : PySem.W.Frag} {mg : Str -> Option Value} {C : Addr} {e e1 e2 e3 a b : Expr} {te t1 t2 t3 ta tb : TE} {p pos : Pos} {x : Str}
theorem a1 (h : PE X e te) (hs : starEach [e] X.env = (false, eval e X.env) :: starEach [] X.env := by rfl) : PA X [e] (cT te fL) := aL h bC hs
theorem a2 (h : PE X e te) (h1 : PE X e1 t1) (hs : starEach [e, e1] X.env = (false, eval e X.env) :: starEach [e1] X.env := by rfl) (hs1 : starEach [e1] X.env = (false, eval e1 X.env) :: starEach [] X.env := by rfl) : PA X [e, e1] (cT te (cT t1 fL)) := aL h (a1 h1 hs1) hs
theorem a3 (h : PE X e te) (h1 : PE X e1 t1) (h2 : PE X e2 t2) (hs : starEach [e, e1, e2] X.env = (false, eval e X.env) :: starEach [e1, e2] X.env := by rfl) (hs1 : starEach [e1, e2] X.env = (false, eval e1 X.env) :: starEach [e2] X.env := by rfl) (hs2 : starEach [e2] X.env = (false, eval e2 X.env) :: starEach [] X.env := by rfl) : PA X [e, e1, e2] (cT te (cT t1 (cT t2 fL))) := aL h (a2 h1 h2 hs1 hs2) hs
theorem st (i : Nat) {pos' : Pos} (hN : X.N.Nodup) (he : PE X e te) (hi : X.N[i]? = some x := by rfl) (hx : Loc X.env.scope x := by first | exact .inl rfl | exact .inr rfl) (hs : swapsWith e (some (.Name x pos')) pos.line X.env = pure false := by rfl)
  (hf : X.fn x = true \/ X.env.scope.names.lookup x = some .local := by first | exact .inl rfl | exact .inr rfl) : PS X (.Assign [.Name x pos'] e pos) (zz te (g4 i)) := Hg hN hi hx he hs hf
theorem fo (i : Nat) {px : Pos} {iter : Expr} {body : List Stmt} {wi : TI} {tb : TS} (hN : X.N.Nodup) (hi : PI X (.Name x px) iter wi) (hb : PSs X body tb) (hp : PassesOwn (model X.prog X.w) X.A X.env X.xe := by exact PassesOwn.never) (hc : X.calm = true := by rfl) (hj : X.N[i]? = some x := by rfl)
  (hx : Loc X.env.scope x := by first | exact .inl rfl | exact .inr rfl) (hf : X.fn x = true \/ X.env.scope.names.lookup x = some .local := by first | exact .inl rfl | exact .inr rfl) (hs : ∀ z, foldedSetIterable iter X.env z = pure z := by intro _; rfl) : PS X (.For (.Name x px) iter body [] pos) (Jf wi (g4 i) tb) :=
 Hh hp hc hi (yH hN hj hx hf) hb hs
theorem r1 {tg : Expr} (T : Txt K X.mg C) (ha : PE X a ta) (hg : Gl X "range" := by rfl) (hs : starEach [a] X.env = [(false, eval a X.env)] := by rfl) : PI X tg (.Call (.Name "range" p) [a] [] pos) (GG (cT ta fL)) := zY hg T.i7 (a1 ha hs) hs
theorem Kw {v : Nat} {px : Pos} {scope : Scope} {s : Shared} {H : Hp} {A : Addr} {cl : List (Str × Addr)} {fp : List Addr} (hN : X.N.Nodup) (hv : X.N[v]? = some x) (hx : Loc (relabel scope X.env) x) (hf : (scope.names.lookup x == some .cell) = true \/ (relabel scope X.env).names.lookup x = some .local) : PG (X.blk s H scope (compEnvC scope cl A X.env) fp) (.Name x px) (g4 v) := yH hN hv hx hf
theorem lf (v : Nat) {px : Pos} {elt iter : Expr} {ifs : List Expr} {scope : Scope} {wi : TI} {tt : TT} (hN : X.N.Nodup) (hi : PI X (.Name x px) iter wi) (ht : ∀ {s : Shared} {H : Hp} {A : Addr} {cl : List (Str × Addr)} {fp : List Addr}, PTs (X.blk s H scope (compEnvC scope cl A X.env) fp) ifs tt)
  (he : ∀ {s : Shared} {H : Hp} {A : Addr} {cl : List (Str × Addr)} {fp : List Addr}, PE (X.blk s H scope (compEnvC scope cl A X.env) fp) elt te) (ok : DK X.N X.env.scope scope [(x, v)] = true := by rfl) (hv : X.N[v]? = some x := by rfl) (hx : Loc (relabel scope X.env) x := by first | exact .inl rfl | exact .inr rfl)
  (hf : (scope.names.lookup x == some .cell) = true \/ (relabel scope X.env).names.lookup x = some .local := by first | exact .inl rfl | exact .inr rfl) (hc : X.calm = true := by rfl) (hs : ∀ z, foldedSetIterable iter X.env z = pure z := by intro _; rfl) : PE X (.ListComp elt [⟨.Name x px, iter, ifs, 0⟩] scope pos) (tLc wi (g4 v) tt te ([(x, v)].map (·.2))) :=
 JG hc hN hi (vV ok) (fun _ _ _ _ _ => Kw hN hv hx hf) (fun _ _ _ _ _ => ht) (fun _ _ _ _ _ => he) hs
theorem lc (v : Nat) {px : Pos} {elt iter : Expr} {scope : Scope} {wi : TI} (hN : X.N.Nodup) (hi : PI X (.Name x px) iter wi) (he : ∀ {s : Shared} {H : Hp} {A : Addr} {cl : List (Str × Addr)} {fp : List Addr}, PE (X.blk s H scope (compEnvC scope cl A X.env) fp) elt te) (ok : DK X.N X.env.scope scope [(x, v)] = true := by rfl) (hv : X.N[v]? = some x := by rfl)
  (hx : Loc (relabel scope X.env) x := by first | exact .inl rfl | exact .inr rfl) (hf : (scope.names.lookup x == some .cell) = true \/ (relabel scope X.env).names.lookup x = some .local := by first | exact .inl rfl | exact .inr rfl) (hc : X.calm = true := by rfl) (hs : ∀ z, foldedSetIterable iter X.env z = pure z := by intro _; rfl) : PE X (.ListComp elt [⟨.Name x px, iter, [], 0⟩] scope pos) (tLc wi (g4 v) Jd te ([(x, v)].map (·.2))) := lf v hN hi rR he ok hv hx hf hc hs
theorem sf (i v : Nat) {y : Str} {px py Bj : Pos} {elt iter : Expr} {ifs : List Expr} {scope : Scope} {wi : TI} {tt : TT} (hN : X.N.Nodup) (hi : PI X (.Name x px) iter wi) (ht : ∀ {s : Shared} {H : Hp} {A : Addr} {cl : List (Str × Addr)} {fp : List Addr}, PTs (X.blk s H scope (compEnvC scope cl A X.env) fp) ifs tt)
  (he : ∀ {s : Shared} {H : Hp} {A : Addr} {cl : List (Str × Addr)} {fp : List Addr}, PE (X.blk s H scope (compEnvC scope cl A X.env) fp) elt te) (hsw : swapsWith (.ListComp elt [⟨.Name x px, iter, ifs, 0⟩] scope pos) (some (.Name y py)) Bj.line X.env = pure true := by exact DY rfl rfl rfl rfl) (hy : X.N[i]? = some y := by rfl) (hyl : X.env.scope.names.lookup y = some .local := by rfl)
  (ok : DK X.N X.env.scope scope [(x, v)] = true := by rfl) (hv : X.N[v]? = some x := by rfl) (hx : Loc (relabel scope X.env) x := by first | exact .inl rfl | exact .inr rfl) (hf : (scope.names.lookup x == some .cell) = true \/ (relabel scope X.env).names.lookup x = some .local := by first | exact .inl rfl | exact .inr rfl) (hc : X.calm = true := by rfl)
  (hs : ∀ z, foldedSetIterable iter X.env z = pure z := by intro _; rfl) : PS X (.Assign [.Name y py] (.ListComp elt [⟨.Name x px, iter, ifs, 0⟩] scope pos) Bj) (zz (tLc wi (g4 v) tt te ([(x, v)].map (·.2))) (g4 i)) := BU (i := i) (own := [(x, v)]) hc hN hy hyl hsw hi (vV ok) (fun _ _ _ _ _ => Kw hN hv hx hf) (fun _ _ _ _ _ => ht) (fun _ _ _ _ _ => he) hs
theorem cb {id : String} {r : List V -> Hp -> VK -> Prop} (hc : bY X (.builtin id) r) (hm : X.mg x = none) (hv : bootBuiltins x = some (.builtin id)) (h : PE X e te) (hg : Gl X x := by rfl) (hn : x ≠ "__name__" := by decide) (hdb : (x == ("__debug__" : Str)) = false := by decide)
  (he : starEach [e] X.env = (false, eval e X.env) :: starEach [] X.env := by rfl) (hpl : (backTo pos (starEach [] X.env)).any (·.1) = false := by rfl) : PE X (.Call (.Name x p) [e] [] pos) (tCB r (cT te fL)) := uO hc hg hm hv (a1 h he) hn hdb he hpl
theorem ln (T : Txt K X.mg C) (h : PE X e te) (hK : X.K = K := by rfl) (hg : Gl X "len" := by rfl) (he : starEach [e] X.env = (false, eval e X.env) :: starEach [] X.env := by rfl) (hpl : (backTo pos (starEach [] X.env)).any (·.1) = false := by rfl) : PE X (.Call (.Name "len" p) [e] [] pos) (tCB (fun xs H Q => ∃ p ys, xs = [.ref p] /\ (SqL K H p ys \/ SqT K H p ys) /\ Q (.int ys.length) H) (cT te fL)) := cb (pos := pos) (p := p) (J0 K hK) T.Ky IS h hg (by decide) (by decide) he hpl
theorem ix (K : PySem.W.Frag) (ha : PE X a ta) (hb : PE X b tb) (h : X.K = K := by rfl) (hs : zo b := by exact fun _ _ => rfl) : PE X (.Subscript a b pos) (tOp (Eo K) ta tb) := dZ (K1 K h) ha hb hs
theorem tc {op : CmpOp} {r : R2} (ho : OpR X (compareOp op) r) (ha : PE X a ta) (hb : PE X b tb) (hm : behindInMarks op b = false := by first | exact Cz _ | rfl) : PT X (.Compare a [op] [b] pos) (Be (tOp r ta tb)) := EG ho ha hb hm
theorem ec {op : CmpOp} {r : R2} (ho : OpR X (compareOp op) r) (ha : PE X a ta) (hb : PE X b tb) (hm : behindInMarks op b = false := by first | exact Cz _ | rfl) : PE X (.Compare a [op] [b] pos) (tOp r ta tb) := EO ho ha hb hm
end
abbrev KK := Program -> World -> PySem.W.Frag -> (Str -> Option Value) -> Heap -> Addr -> Prop
def Fa (K : PySem.W.Frag) (mg : Str -> Option Value) (x : Str) (st : Stmt) : Prop := ∃ f fd, Fun K x x st f fd /\ mg x = some (.ref f)
def FaM (K : PySem.W.Frag) (C : Addr) (x q : Str) (st : Stmt) : Prop := ∃ f fd, Fun K x q st f fd /\ Meth K C x f
def FaI (K : PySem.W.Frag) (C : Addr) (q : Str) (st : Stmt) : Prop := ∃ f fd, Fun K "__init__" q st f fd /\ Mk K C f
section
variable {P : Program} {w : World} {K : PySem.W.Frag} {mg : Str -> Option Value} {base : Heap} {C : Addr} {x q : Str} {st : Stmt} {ps : List Str} {k : Nat} {sp : Sp}
abbrev Bd (x q : Str) (st : Stmt) (ps : List Str) : Prop := ∀ (kV doc pm : Value) (an : Option Addr) (cdv ct : Value) (us : List Value), us.length = ps.length -> bindArgs (PySem.W.fnOf x q (eQ st) (dD st) (bF st) .none kV doc pm an cdv ct) ⟨us, []⟩ = pure (ps.zip us)
abbrev Body (P : Program) (w : World) (K : PySem.W.Frag) (mg : Str -> Option Value) (base : Heap) (N : List Str) (q : Str) (st : Stmt) (k : Nat) (sp : Sp) : Prop :=
 N.Nodup -> ∀ (f : Addr) (cdv : Value) (A : Around) (outer : List Env) (s : Shared) (H : Hp) (vs : List V) (Q : VK) (E : XK), dj k (A.deeper (envOfC q (bF st) s.heap.objs.size f cdv)) -> sp vs H Q E →
   ∃ t, PSs (x3 CX0 P w K mg base N q (bF st) f cdv A outer s H E).nox (dD st) t /\ t { nx := fun _ H' => Q .non H', rt := Q } (start N vs) H
theorem us0 {p : List Value -> Prop} (h : p []) : ∀ us, us.length = 0 -> p us | [], _ => h
theorem us1 {p : List Value -> Prop} (h : ∀ a, p [a]) : ∀ us, us.length = 1 -> p us | [a], _ => h a
theorem us2 {p : List Value -> Prop} (h : ∀ a b, p [a, b]) : ∀ us, us.length = 2 -> p us | [a, b], _ => h a b
theorem us3 {p : List Value -> Prop} (h : ∀ a b c, p [a, b, c]) : ∀ us, us.length = 3 -> p us | [a, b, c], _ => h a b c
theorem us4 {p : List Value -> Prop} (h : ∀ a b c d, p [a, b, c, d]) : ∀ us, us.length = 4 -> p us | [a, b, c, d], _ => h a b c d
theorem okF (N : List Str) (F : Fa K mg x st) (hb : Body P w K mg base N x st k sp) (S : gY N ps (bF st) := by exact ⟨rfl, rfl, rfl, by decide +kernel, rfl, by decide +kernel, by decide +kernel⟩) (len : ∀ vs H Q E, sp vs H Q E -> vs.length = ps.length := by exact fun _ _ _ _ h => h.1)
  (b : Bd x x st ps := by intro _ _ _ _ _ _; first | exact us1 fun _ => rfl | exact us2 fun _ _ => rfl | exact us3 fun _ _ _ => rfl | exact us4 fun _ _ _ _ => rfl | exact us0 rfl) : Cal P w K mg base x (k + 1) ps sp := by
 obtain ⟨f, fd, F, hm⟩ := F
 exact ⟨f, fd, F.ok S len (hb S.nd f), hm, F.kp, F.binds b⟩
theorem okM (N : List Str) (F : FaM K C x q st) (hb : Body P w K mg base N q st k sp) (S : gY N ps (bF st) := by exact ⟨rfl, rfl, rfl, by decide +kernel, rfl, by decide +kernel, by decide +kernel⟩) (len : ∀ vs H Q E, sp vs H Q E -> vs.length = ps.length := by exact fun _ _ _ _ h => h.1)
  (b : Bd x q st ps := by intro _ _ _ _ _ _; first | exact us1 fun _ => rfl | exact us2 fun _ _ => rfl | exact us3 fun _ _ _ => rfl | exact us4 fun _ _ _ _ => rfl) : mS P w K mg base C x (k + 1) ps sp := by
 obtain ⟨f, fd, F, hm⟩ := F
 exact ⟨f, fd, F.ok S len (hb S.nd f), hm, F.binds b⟩
theorem okI (N : List Str) (F : FaI K C q st) (hm : mg x = some (.ref C)) (hb : Body P w K mg base N q st k sp) (S : gY N ["self"] (bF st) := by exact ⟨rfl, rfl, rfl, by decide +kernel, rfl, by decide +kernel, by decide +kernel⟩) (len : ∀ vs H Q E, sp vs H Q E -> vs.length = 1 := by exact fun _ _ _ _ h => h.1)
  (b : Bd "__init__" q st ["self"] := by exact fun _ _ _ _ _ _ => us1 fun _ => rfl) : Mak P w K mg base C x (k + 1) sp := by
 obtain ⟨f, fd, F, M⟩ := F
 exact ⟨f, fd, F.ok S len (hb S.nd f), M, hm, F.binds b⟩
variable {h : Heap} {f : Addr} {oc kV dc pm cd ct : Value} {od an : Option Addr} {sl : Array (Option Value)}
theorem Km (X : K.In h) (G : h.Ns mainGlobals mg) (a : PySem.W.nsIn K mainGlobals x = some (some (.ref f))) (l : K.lookup f = some ⟨oc, od, .func (PySem.W.fnOf x x (eQ st) (dD st) (bF st) .none kV dc pm an cd ct), sl⟩) (c : PySem.W.codeIn K cd x = true) (k : PySem.W.keepIn K (.ref f) = true) : Fa K mg x st := ⟨f, _, xV l c k, PySem.W.mg_of X G a⟩
theorem Kk (a : PySem.W.findIn K (.ref C) x = some (some (.ref f))) (i : PySem.W.isFn K (.ref f) = true) (l : K.lookup f = some ⟨oc, od, .func (PySem.W.fnOf x q (eQ st) (dD st) (bF st) .none kV dc pm an cd ct), sl⟩) (c : PySem.W.codeIn K cd q = true) (k : PySem.W.keepIn K (.ref f) = true) : FaM K C x q st := ⟨f, _, xV l c k, a, i, k⟩
theorem Kl (a : PySem.W.findIn K (.ref C) "__init__" = some (some (.ref f))) (i : PySem.W.isFn K (.ref f) = true) (l : K.lookup f = some ⟨oc, od, .func (PySem.W.fnOf "__init__" q (eQ st) (dD st) (bF st) .none kV dc pm an cd ct), sl⟩) (c : PySem.W.codeIn K cd q = true) (k : PySem.W.keepIn K (.ref f) = true) (m : PySem.W.makesIn K C = true) (kc : PySem.W.keepIn K (.ref C) = true) : FaI K C q st := ⟨f, _, xV l c k, m, a, i, kc⟩
end
end TW
namespace TS
open PySem PySem.SetTable
def Ri (xs : Array Nat) : Prop := ∀ (i j a b : Nat), i < j -> xs[i]? = some a -> xs[j]? = some b -> a < b
theorem pz (xs : Array Nat) (r : Ri xs) (j : Nat) : ∀ (fuel lo hi : Nat), hi - lo <= fuel -> lo <= hi -> hi <= xs.size -> (∀ (i a : Nat), i < lo -> xs[i]? = some a -> a < j) -> (∀ (i a : Nat), hi <= i -> xs[i]? = some a -> j <= a) →
  (below.go xs j fuel lo hi <= xs.size /\ (∀ (i a : Nat), i < below.go xs j fuel lo hi -> xs[i]? = some a -> a < j) /\ ∀ (i a : Nat), below.go xs j fuel lo hi <= i -> xs[i]? = some a -> j <= a)
 | 0, lo, hi, h, h1, h2, h3, h4 => by
  have e : lo = hi := by omega
  subst e
  exact ⟨h2, h3, h4⟩
 | fuel + 1, lo, hi, h, h1, h2, h3, h4 => by
  unfold below.go
  by_cases c : lo < hi
  ·rw [if_pos c]
   have hm : (lo + hi) / 2 < xs.size := by omega
   have em : xs[(lo + hi) / 2]? = some xs[(lo + hi) / 2] := zBb hm
   have ed : xs.getD ((lo + hi) / 2) j = xs[(lo + hi) / 2] := by rw [Array.getD_eq_getD_getElem?, em]; rfl
   by_cases c2 : xs.getD ((lo + hi) / 2) j < j
   ·rw [if_pos c2]
    refine pz xs r j fuel _ _ (by omega) (by omega) h2 (fun i a hi' e => ?_) h4
    by_cases e2 : i = (lo + hi) / 2
    ·subst e2; rw [em] at e; rw [← zBl e, ← ed]; exact c2
    ·have := r i ((lo + hi) / 2) a _ (by omega) e em
     rw [ed] at c2; omega
   ·rw [if_neg c2]
    refine pz xs r j fuel _ _ (by omega) (by omega) (by omega) h3 (fun i a hi' e => ?_)
    by_cases e2 : i = (lo + hi) / 2
    ·subst e2; rw [em] at e; rw [← zBl e, ← ed]; omega
    ·have := r ((lo + hi) / 2) i _ a (by omega) em e
     rw [ed] at c2; omega
  ·rw [if_neg c]
   have e : lo = hi := by omega
   subst e
   exact ⟨h2, h3, h4⟩
theorem iP {xs : Array Nat} (r : Ri xs) (j : Nat) : below xs j <= xs.size /\ (∀ (i a : Nat), i < below xs j -> xs[i]? = some a -> a < j) /\ ∀ (i a : Nat), below xs j <= i -> xs[i]? = some a -> j <= a :=
 pz xs r j xs.size 0 xs.size (by omega) (zBf _) (zAt _) (fun i a h => absurd h (zBq _)) fun i a h e => by
  rw [Array.getElem?_eq_none h] at e; cases e
theorem below_at {xs : Array Nat} (r : Ri xs) {i a : Nat} (e : xs[i]? = some a) : below xs a = i := by
 obtain ⟨h1, h2, h3⟩ := iP r a
 have hi : i < xs.size := by
  apply zAo
  intro h
  rw [Array.getElem?_eq_none (by omega)] at e; cases e
 by_cases c : i < below xs a
 ·have := h2 i a c e; omega
 ·apply zAo
  intro hne
  have hlt : below xs a < i := by omega
  have := r _ _ _ _ hlt (zBb (by omega)) e
  have := h3 _ _ (zAt _) (zBb (by omega : below xs a < xs.size))
  omega
theorem yk {xs : Array Nat} (r : Ri xs) {i a : Nat} (e : xs[i]? = some a) : below xs (a + 1) = i + 1 := by
 obtain ⟨h1, h2, h3⟩ := iP r (a + 1)
 have hi : i < xs.size := by
  apply zAo
  intro h
  rw [Array.getElem?_eq_none (by omega)] at e; cases e
 by_cases c : below xs (a + 1) <= i
 ·have := h3 i a c e; omega
 ·apply zAo
  intro hne
  have hlt : i + 1 < below xs (a + 1) := by omega
  have q := r i (i + 1) _ _ (by omega) e (zBb (by omega))
  have := h2 (i + 1) _ hlt (zBb (by omega))
  omega
theorem yj {xs : Array Nat} (r : Ri xs) : below xs 0 = 0 := by
 obtain ⟨h1, h2, h3⟩ := iP r 0
 apply zAo
 intro hne
 have := h2 0 _ (by omega) (zBb (by omega))
 omega
theorem lJ {α : Type} (xs : Array α) (p : Nat) (x : α) (hp : p <= xs.size) (i : Nat) : (insertAt xs p x)[i]? = if i < p then xs[i]? else if i = p then some x else xs[i - 1]? := by
 unfold insertAt
 have hs : ((xs.extract 0 p).push x).size = p + 1 := by rw [Array.size_push, Array.size_extract]; omega
 by_cases h : i < p + 1
 ·rw [Array.getElem?_append_left (by rw [hs]; exact h), Array.getElem?_push, Array.size_extract]
  by_cases h2 : i < p
  ·rw [if_pos h2, if_neg (by omega), Array.getElem?_extract, Nat.zero_add, if_pos (by omega)]
  ·have e : i = p := by omega
   rw [if_neg h2, if_pos e, if_pos (by omega)]
 ·rw [Array.getElem?_append_right (by rw [hs]; omega), hs, if_neg (by omega), if_neg (by omega), Array.getElem?_extract]
  by_cases h3 : i - (p + 1) < min xs.size xs.size - p
  ·rw [if_pos h3]; congr 1; omega
  ·rw [if_neg h3, Array.getElem?_eq_none (by omega)]
theorem mn {α : Type} (xs : Array α) (p : Nat) (x : α) (hp : p <= xs.size) : (insertAt xs p x).size = xs.size + 1 := by
 unfold insertAt
 rw [Array.size_append, Array.size_push, Array.size_extract, Array.size_extract]; omega
theorem AB {xs : Array Nat} (r : Ri xs) {j : Nat} (hn : ∀ i : Nat, xs[i]? ≠ some j) : Ri (insertAt xs (below xs j) j) := by
 obtain ⟨h1, h2, h3⟩ := iP r j
 intro i k a b hik ea eb
 rw [lJ xs _ j h1] at ea eb
 by_cases c1 : i < below xs j
 ·rw [if_pos c1] at ea
  have ha := h2 i a c1 ea
  by_cases c2 : k < below xs j
  ·rw [if_pos c2] at eb
   exact r i k a b hik ea eb
  ·rw [if_neg c2] at eb
   by_cases c3 : k = below xs j
   ·rw [if_pos c3] at eb
    rw [← zBl eb]; exact ha
   ·rw [if_neg c3] at eb
    have := h3 (k - 1) b (by omega) eb
    omega
 ·rw [if_neg c1] at ea
  rw [if_neg (by omega), if_neg (by omega)] at eb
  have hb := h3 (k - 1) b (by omega) eb
  by_cases c3 : i = below xs j
  ·rw [if_pos c3] at ea
   rw [← zBl ea]
   have : b ≠ j := fun e => hn (k - 1) (by rw [eb, e])
   omega
  ·rw [if_neg c3] at ea
   exact r (i - 1) (k - 1) a b (by omega) ea eb
end TS
namespace TS
open PySem PySem.SetTable
theorem y3 (j : Nat) : has #[] j = false := rfl
theorem yt {t : SetTable} (hd : t.dummies = #[]) (j : Nat) : t.slot j = if t.place[below t.place j]? == some j then .live (below t.place j) else .empty := by
 unfold SetTable.slot
 rw [hd, y3]; rfl
theorem qE {t : SetTable} (hd : t.dummies = #[]) {j : Nat} (h : t.slot j ≠ .empty) : t.slot j = .live (below t.place j) /\ ∃ i : Nat, t.place[i]? = some j := by
 rw [yt hd] at h ⊢
 by_cases c : (t.place[below t.place j]? == some j) = true
 ·rw [if_pos c]; exact ⟨rfl, _, by simpa using c⟩
 ·rw [if_neg c] at h; exact absurd rfl h
theorem nG {t : SetTable} (hd : t.dummies = #[]) (r : Ri t.place) {j : Nat} : t.slot j = .empty <-> ∀ i : Nat, t.place[i]? ≠ some j := by
 rw [yt hd]
 by_cases c : (t.place[below t.place j]? == some j) = true
 ·rw [if_pos c]
  constructor
  ·intro h; cases h
  ·intro h; exact absurd (by simpa using c) (h (below t.place j))
 ·rw [if_neg c]
  refine ⟨fun _ i e => c ?_, fun _ => rfl⟩
  rw [below_at r e, e]; simp
def hop (j : Nat) : Nat := (j * 5 + 1) % 8
def Ib : Nat -> Nat -> Nat
 | 0, j => j
 | k + 1, j => Ib k (hop j)
theorem CW : ∀ a < 8, ∀ b < 8, ∃ k < 8, Ib k a = b := by decide
theorem go7 {t : SetTable} (hd : t.dummies = #[]) (hm : t.mask = 7) (h : Int) {b : Nat} (hb : t.slot b = .empty) :
  ∀ (k fuel : Nat) (p : Probe), k < fuel -> p.more = 0 -> p.j = p.i -> p.perturb < 32 -> p.dummy = none -> p.i < 8 -> Ib k p.i = b -> ∃ j, j < 8 /\ t.slot j = .empty /\ probe.go t (fun _ => h + 1) h fuel p = some (.empty j none)
 | k, 0, p, hf, _, _, _, _, _, _ => absurd hf (zBq _)
 | k, fuel + 1, p, hf, hmo, hji, hpe, hdu, hi, hk => by
  unfold probe.go
  by_cases c : t.slot p.j = .empty
  ·rw [c, hdu]; exact ⟨p.j, by omega, c, rfl⟩
  ·obtain ⟨c1, _⟩ := qE hd c
   rw [c1]
   show ∃ j, j < 8 /\ t.slot j = .empty /\ (if (h + 1 == h) = true then _ else _) = _
   rw [if_neg (by simp; omega)]
   have ea : t.advance p = ⟨hop p.i, 0, hop p.i, 0, none⟩ := by
    have e0 : p.perturb / 32 = 0 := by omega
    unfold SetTable.advance leap runEnd
    rw [hmo, hm, e0, hdu]
    show (Probe.mk ((p.i * 5 + 1 + 0) % (7 + 1)) ((if (p.i * 5 + 1 + 0) % (7 + 1) + 9 <= 7 then _ else (p.i * 5 + 1 + 0) % (7 + 1)) - (p.i * 5 + 1 + 0) % (7 + 1)) ((p.i * 5 + 1 + 0) % (7 + 1)) 0 none) = _
    rw [if_neg (by omega), zBt]; rfl
   rw [ea]
   have hlt : hop p.i < 8 := Nat.mod_lt _ (by decide)
   cases k with
   | zero =>
    have hk : p.i = b := hk
    rw [hji, hk] at c
    exact absurd hb c
   | succ k => exact go7 hd hm h hb k fuel _ (by omega) rfl rfl (by decide : (0 : Nat) < 32) rfl hlt hk
theorem sub_len : ∀ (l r : List Nat), l.Nodup -> (∀ x ∈ l, x ∈ r) -> l.length <= r.length
 | [], _, _, _ => zBf _
 | x :: l, r, hd, h => by
  obtain ⟨h1, h2⟩ := zBv.mp hd
  have hx := h x zAg
  have := sub_len l (r.erase x) h2 fun y hy => (List.mem_erase_of_ne (show y ≠ x from fun e => h1 (e ▸ hy))).mpr (h y (zAj _ hy))
  rw [List.length_erase_of_mem hx] at this
  have := List.length_pos_of_mem hx
  rw [zAz]; omega
theorem Ki {t : SetTable} (hd : t.dummies = #[]) (hm : t.mask = 7) (hs : t.place.size <= 7) {h : Int} (h0 : 0 <= h) (h16 : h < 16) : ∃ j, j < 8 /\ t.slot j = .empty /\ t.freeSlot h = some (j, false) := by
 have hb : ∃ b, b < 8 /\ t.slot b = .empty := by
  apply zAo
  intro hno
  have := sub_len (List.range 8) t.place.toList List.nodup_range fun x hx => by
   obtain ⟨_, i, e⟩ := qE hd (j := x) fun z => hno ⟨x, zAk.mp hx, z⟩
   rw [← Array.getElem?_toList] at e
   exact zAs e
  rw [zAr, Array.length_toList] at this
  omega
 obtain ⟨b, hb8, hb⟩ := hb
 have e1 : SetTable.bits h = h.toNat := by unfold SetTable.bits; omega
 obtain ⟨k, hk8, hk⟩ := CW (SetTable.bits h % 8) (Nat.mod_lt _ (by decide)) b hb8
 have hps : t.probeStart h = ⟨SetTable.bits h % 8, 0, SetTable.bits h % 8, SetTable.bits h, none⟩ := by
  unfold SetTable.probeStart runEnd
  rw [hm]
  show (Probe.mk (SetTable.bits h % (7 + 1)) ((if SetTable.bits h % (7 + 1) + 9 <= 7 then _ else SetTable.bits h % (7 + 1)) - SetTable.bits h % (7 + 1)) _ _ none) = _
  rw [if_neg (by omega), zBt]
 obtain ⟨j, j8, je, jg⟩ := go7 hd hm h hb k (10 * turns t.mask) (t.probeStart h) (by rw [hm]; show k < 220; omega) (by rw [hps]) (by rw [hps]) (by rw [hps]; show SetTable.bits h < 32; omega) (by rw [hps]) (by rw [hps]; exact Nat.mod_lt _ (by decide)) (by rw [hps]; exact hk)
 refine ⟨j, j8, je, ?_⟩
 unfold SetTable.freeSlot SetTable.probe
 rw [jg]; rfl
theorem Ij {t : SetTable} (hm : t.mask = 31) {h : Int} (h0 : 0 <= h) (h16 : h < 16) (he : t.slot h.toNat = .empty) : t.freeSlot h = some (h.toNat, false) := by
 have e1 : SetTable.bits h % (t.mask + 1) = h.toNat := by rw [hm]; unfold SetTable.bits; omega
 have ej : (t.probeStart h).j = h.toNat := e1
 have ed : (t.probeStart h).dummy = none := rfl
 unfold SetTable.freeSlot SetTable.probe
 have ef : 10 * turns t.mask = 459 + 1 := by rw [hm]; rfl
 rw [ef]
 unfold probe.go
 rw [ej, he, ed]; rfl
structure Good (es : Array (Int × Value)) (t : SetTable) : Prop where
 du : t.dummies = #[]
 pl : t.plain = true
 ri : Ri t.place
 sz : t.place.size = es.size
 ma : (t.mask = 7 /\ es.size <= 5) \/ (t.mask = 31 /\ ∀ i : Nat, t.place[i]? = (es[i]?).map fun e => e.1.toNat)
structure Few (es : Array (Int × Value)) : Prop where
 lo : ∀ e ∈ es.toList, 0 <= e.1 /\ e.1 < 16
 nd : (es.toList.map (·.1)).Nodup
theorem Few.le {es : Array (Int × Value)} (f : Few es) : es.size <= 16 := by
 have := sub_len (es.toList.map fun e => e.1.toNat) (List.range 16) ?_ fun x hx => ?_
 ·rw [zAa, Array.length_toList, zAr] at this; exact this
 ·have e : (es.toList.map fun e => e.1.toNat) = (es.toList.map (·.1)).map Int.toNat := by rw [zAw]; rfl
  rw [e]
  refine List.pairwise_map.mpr (List.Pairwise.imp_of_mem (fun {a b} ha hb hab => ?_) f.nd)
  obtain ⟨x, hx, rfl⟩ := zAq.mp ha
  obtain ⟨y, hy, rfl⟩ := zAq.mp hb
  have h1 := f.lo x hx
  have h2 := f.lo y hy
  intro z
  apply hab
  omega
 ·obtain ⟨e, he, rfl⟩ := zAq.mp hx
  have := f.lo e he
  exact zAk.mpr (by omega)
theorem CK {es : Array (Int × Value)} {t : SetTable} {h : Int} {x : Value} (g : Good es t) (f : Few es) (h5 : t.mask = 7 -> es.size <= 4) (h0 : 0 <= h) (h16 : h < 16) (hn : ∀ e ∈ es.toList, e.1 ≠ h) :
  Good (layNew t es h x).1 (layNew t es h x).2.1 /\ (layNew t es h x).2.2.1 = false /\ (layNew t es h x).2.1.led = t.led := by
 have Mb := f.le
 have key : ∀ j, t.slot j = .empty -> t.freeSlot h = some (j, false) -> ((t.mask = 7) \/ (t.mask = 31 /\ j = h.toNat /\ ∀ i : Nat, t.place[i]? = (es[i]?).map fun e => e.1.toNat)) →
   Good (layNew t es h x).1 (layNew t es h x).2.1 /\ (layNew t es h x).2.2.1 = false /\ (layNew t es h x).2.1.led = t.led := by
  intro j hj hfs hm
  have hsz := g.sz
  have hnj := (nG g.du g.ri).mp hj
  obtain ⟨b1, b2, b3⟩ := iP g.ri j
  have K8 : t.put j = ({ t with place := insertAt t.place (below t.place j) j }, below t.place j) := by
   show ((⟨t.mask, insertAt t.place (below t.place j) j, if has t.dummies j = true then _ else t.dummies, t.finger, t.led, t.moves, t.plain⟩ : SetTable), below t.place j) = _
   rw [g.du, y3, if_neg (by decide)]
  have es1 : (insertAt es (below t.place j) (h, x)).size = es.size + 1 := mn _ _ _ (by omega)
  have ps1 : (insertAt t.place (below t.place j) j).size = es.size + 1 := by rw [mn _ _ _ (by omega), hsz]
  have Lj : ({ t with place := insertAt t.place (below t.place j) j } : SetTable).fits (insertAt es (below t.place j) (h, x)).size = true := by
   unfold SetTable.fits SetTable.fill
   rw [es1]
   show ((insertAt t.place (below t.place j) j).size == es.size + 1 && decide ((insertAt t.place (below t.place j) j).size + t.dummies.size <= t.mask)) = true
   rw [ps1, g.du]
   have : es.size + 1 <= t.mask := by
    rcases hm with q | q
    ·have := h5 q; omega
    ·omega
   simp [this]
  have eL : layNew t es h x = (insertAt es (below t.place j) (h, x), { t with place := insertAt t.place (below t.place j) j }, false, false) := by
   unfold layNew
   rw [hfs]
   show (let (t', p) := t.put j; let es' := insertAt es p (h, x); (es', t'.orStandIn es'.size, false, !t'.fits es'.size)) = _
   rw [K8]
   show (insertAt es (below t.place j) (h, x), SetTable.orStandIn _ _, false, !SetTable.fits _ _) = _
   unfold SetTable.orStandIn
   rw [Lj, if_pos rfl]; rfl
  rw [eL]
  refine ⟨⟨g.du, g.pl, AB g.ri hnj, by rw [es1]; exact ps1, ?_⟩, rfl, rfl⟩
  rcases hm with q | ⟨q1, q2, q3⟩
  ·exact .inl ⟨q, by rw [es1]; have := h5 q; omega⟩
  ·refine .inr ⟨q1, fun i => ?_⟩
   show (insertAt t.place (below t.place j) j)[i]? = ((insertAt es (below t.place j) (h, x))[i]?).map _
   rw [lJ _ _ _ (by omega), lJ _ _ _ (by omega)]
   split
   ·exact q3 i
   ·split
    ·rw [q2]; rfl
    ·exact q3 (i - 1)
 rcases g.ma with ⟨m1, m2⟩ | ⟨m1, m2⟩
 ·obtain ⟨j, _, je, jf⟩ := Ki g.du m1 (by rw [g.sz]; have := h5 m1; omega) h0 h16
  exact key j je jf (.inl m1)
 ·have he : t.slot h.toNat = .empty := (nG g.du g.ri).mpr fun i e => by
   rw [m2 i] at e
   cases q : es[i]? with
   | none => rw [q] at e; cases e
   | some v =>
    rw [q] at e
    have e : v.1.toNat = h.toNat := zBl e
    have hv : v ∈ es.toList := by rw [← Array.getElem?_toList] at q; exact zAs q
    have := f.lo v hv
    exact hn v hv (by omega)
  exact key _ he (Ij m1 h0 h16 he) (.inr ⟨m1, rfl, m2⟩)
end TS
namespace TS
open PySem PySem.SetTable
def Own (owner : Array (Option Nat)) (pre : List Int) : Prop := owner.size = 32 /\ ∀ (j m : Nat), j < 32 -> (owner[j]? = some (some m) <-> pre[m]? = some (j : Int))
theorem FK {owner : Array (Option Nat)} {pre : List Int} (o : Own owner pre) {h : Int} (h0 : 0 <= h) (h16 : h < 16) (hn : h ∉ pre) : layClean.free 31 owner (turns 31) (bits h % (31 + 1)) (bits h) = some h.toNat := by
 have e1 : bits h % (31 + 1) = h.toNat := by unfold SetTable.bits; omega
 have e2 : runEnd 31 h.toNat = h.toNat + 9 := by unfold runEnd; rw [if_pos (by omega)]
 have e3 : owner[h.toNat]? = some none := by
  have hs : h.toNat < owner.size := by rw [o.1]; omega
  rw [zBb hs]
  cases q : owner[h.toNat] with
  | none => rfl
  | some m =>
   have := (o.2 h.toNat m (by omega)).mp (by rw [zBb hs, q])
   rw [show ((h.toNat : Nat) : Int) = h by omega] at this
   exact absurd (zAs this) hn
 rw [e1]
 show layClean.free 31 owner (45 + 1) h.toNat (bits h) = _
 unfold layClean.free
 rw [e2, show h.toNat + 9 + 1 - h.toNat = 9 + 1 by omega, List.range_succ_eq_map, List.find?_cons]
 have e4 : (owner.getD (h.toNat + 0) (some 0)).isNone = true := by rw [Array.getD_eq_getD_getElem?, Nat.add_zero, e3]; rfl
 rw [e4]; rfl
theorem ET {owner : Array (Option Nat)} {pre : List Int} (o : Own owner pre) {h : Int} (h0 : 0 <= h) (h16 : h < 16) (hn : h ∉ pre) : Own (owner.setIfInBounds h.toNat (some pre.length)) (pre ++ [h]) := by
 refine ⟨by rw [Array.size_setIfInBounds]; exact o.1, fun j m hj => ?_⟩
 rw [Array.getElem?_setIfInBounds]
 by_cases c : h.toNat = j
 ·rw [if_pos c, if_pos (by rw [o.1]; omega)]
  constructor
  ·intro e
   have e : pre.length = m := zBl (zBl e)
   rw [← e, zAx (zAt _), zBt]
   show some h = some (j : Int)
   rw [show h = (j : Int) by omega]
  ·intro e
   by_cases cm : m < pre.length
   ·rw [zAy cm] at e
    have := zAs e
    rw [show (j : Int) = h by omega] at this
    exact absurd this hn
   ·have : m < (pre ++ [h]).length := (zAd.mp e).1
    rw [zAi] at this
    simp at this
    rw [show pre.length = m by omega]
 ·rw [if_neg c, o.2 j m hj]
  constructor
  ·intro e
   rw [zAy (zAd.mp e).1]; exact e
  ·intro e
   by_cases cm : m < pre.length
   ·rw [zAy cm] at e; exact e
   ·rw [zAx (by omega)] at e
    have hl : m - pre.length < [h].length := (zAd.mp e).1
    rw [show m - pre.length = 0 by simp at hl; omega] at e
    have e : h = (j : Int) := zBl e
    omega
theorem vk : ∀ (l pre : List Int) (owner : Array (Option Nat)), Own owner pre -> (∀ h ∈ l, 0 <= h /\ h < 16) -> (pre ++ l).Nodup →
  ∃ B4, Own B4 (pre ++ l) /\ l.foldl (fun (acc : Option (Array (Option Nat) × Nat)) h => do
   let (owner, k) ← acc
   let j ← layClean.free 31 owner (turns 31) (bits h % (31 + 1)) (bits h)
   pure (owner.setIfInBounds j (some k), k + 1)) (some (owner, pre.length)) = some (B4, (pre ++ l).length)
 | [], pre, owner, o, _, _ => ⟨owner, by rw [zBz]; exact o, by rw [zBz]; rfl⟩
 | h :: l, pre, owner, o, hb, nd => by
  obtain ⟨h0, h16⟩ := hb h zAg
  have hn : h ∉ pre := fun z => by
   rw [List.nodup_append] at nd
   exact nd.2.2 h z h zAg rfl
  rw [zCb]
  have e : (do
   let (owner, k) ← (some (owner, pre.length) : Option (Array (Option Nat) × Nat))
   let j ← layClean.free 31 owner (turns 31) (bits h % (31 + 1)) (bits h)
   pure (owner.setIfInBounds j (some k), k + 1)) = some (owner.setIfInBounds h.toNat (some pre.length), (pre ++ [h]).length) := by
   show (layClean.free 31 owner (turns 31) (bits h % (31 + 1)) (bits h)).bind _ = _
   rw [FK o h0 h16 hn, zAi]; rfl
  rw [e]
  obtain ⟨o', q1, q2⟩ := vk l (pre ++ [h]) _ (ET o h0 h16 hn) (fun x hx => hb x (zAj _ hx)) (by rw [zBy]; exact nd)
  rw [zBy] at q1 q2
  exact ⟨o', q1, q2⟩
theorem Dx {hs : Array Int} (hb : ∀ h ∈ hs.toList, 0 <= h /\ h < 16) (nd : hs.toList.Nodup) : ∃ owner, layClean 31 hs = some owner /\ Own owner hs.toList := by
 obtain ⟨o, h1, h2⟩ := vk hs.toList [] (Array.replicate 32 none) ⟨by simp, fun j m hj => by simp [hj]⟩ hb (by simpa using nd)
 refine ⟨o, ?_, by simpa using h1⟩
 unfold layClean
 rw [← Array.foldl_toList]
 have h2 : hs.toList.foldl _ (some (Array.replicate (31 + 1) none, 0)) = some (o, hs.toList.length) := h2
 rw [h2]; rfl
theorem Fv {hs : Array Int} (hb : ∀ h ∈ hs.toList, 0 <= h /\ h < 16) (nd : hs.toList.Nodup) (fi mo : Nat) (le pl : Bool) :
  ∃ live : List (Nat × Nat), laid 31 fi mo le pl hs = some ({ mask := 31, place := (live.map (·.1)).toArray, dummies := #[], finger := fi, led := le, moves := mo, plain := pl }, (live.map (·.2)).toArray) ∧
   live.Pairwise (fun a b => a.1 < b.1) /\ (∀ x, x ∈ live <-> hs.toList[x.2]? = some (x.1 : Int)) := by
 obtain ⟨owner, h1, h2⟩ := Dx hb nd
 refine ⟨(List.range 32).filterMap fun j => (owner.getD j none).map (j, ·), ?_, ?_, ?_⟩
 ·unfold laid
  rw [h1]; rfl
 ·refine List.pairwise_filterMap.mpr ((List.pairwise_lt_range (n := 32)).imp fun {a b} hab x hx y hy => ?_)
  have ex : x.1 = a := by
   cases q : owner.getD a none with
   | none => rw [q] at hx; cases hx
   | some m => rw [q] at hx; rw [← zBl hx]
  have ey : y.1 = b := by
   cases q : owner.getD b none with
   | none => rw [q] at hy; cases hy
   | some m => rw [q] at hy; rw [← zBl hy]
  omega
 ·rintro ⟨j, m⟩
  rw [List.mem_filterMap]
  constructor
  ·rintro ⟨a, ha, e⟩
   have ha := zAk.mp ha
   cases q : owner.getD a none with
   | none => rw [q] at e; cases e
   | some k =>
    rw [q] at e
    obtain ⟨rfl, rfl⟩ := Prod.mk.inj (zBl e)
    refine (h2.2 a k ha).mp ?_
    rw [Array.getD_eq_getD_getElem?] at q
    cases z : owner[a]? with
    | none => rw [z] at q; cases q
    | some v => rw [z] at q; rw [show v = some k from q]
  ·intro e
   have hj : j < 32 := by
    have := hb _ (zAs e)
    omega
   refine ⟨j, zAk.mpr hj, ?_⟩
   rw [Array.getD_eq_getD_getElem?, (h2.2 j m hj).mpr e]; rfl
theorem EK {l r : List Nat} (h1 : l.Nodup) (h2 : r.Nodup) (h : ∀ x, x ∈ l <-> x ∈ r) : l.Perm r := by
 rw [List.perm_iff_count]
 intro a
 rw [h1.count, h2.count]
 by_cases c : a ∈ l
 ·rw [if_pos c, if_pos ((h a).mp c)]
 ·rw [if_neg c, if_neg (fun z => c ((h a).mpr z))]
theorem yF {es : Array (Int × Value)} : ∀ live : List (Nat × Nat), (∀ x ∈ live, ∃ e, es[x.2]? = some e /\ e.1 = (x.1 : Int)) -> ((live.map (·.2)).filterMap (es[·]?)).map (fun e => e.1.toNat) = live.map (·.1)
 | [], _ => rfl
 | x :: l, h => by
  obtain ⟨e, e1, e2⟩ := h x zAg
  rw [List.map_cons, List.filterMap_cons_some e1, List.map_cons, List.map_cons, yF l fun y hy => h y (zAj _ hy), e2]; rfl
theorem wK {es : Array (Int × Value)} {t : SetTable} (f : Few es) (hpl : t.plain = true) (h5 : es.size = 5) : Good (relayAll t es (grown es.size)).1 (relayAll t es (grown es.size)).2.1 /\ (relayAll t es (grown es.size)).2.1.led = t.led /\ (relayAll t es (grown es.size)).2.1.mask = 31 := by
 have ehs : (es.map (·.1)).toList = es.toList.map (·.1) := Array.toList_map
 obtain ⟨live, l1, l2, l3⟩ := Fv (hs := es.map (·.1)) (fun h hh => by
  rw [ehs] at hh
  obtain ⟨e, he, rfl⟩ := zAq.mp hh
  exact f.lo e he) (by rw [ehs]; exact f.nd) t.finger (t.movedTo 31) t.led t.plain
 have er0 : t.relaid (es.map fun e => e.1) (grown es.size) = laid 31 t.finger (t.movedTo 31) t.led t.plain (es.map fun e => e.1) := by rw [h5]; rfl
 have er := er0.trans l1
 have hat : ∀ x ∈ live, ∃ e, es[x.2]? = some e /\ e.1 = (x.1 : Int) := fun x hx => by
  have := (l3 x).mp hx
  rw [ehs, zAh] at this
  cases q : es.toList[x.2]? with
  | none => rw [q] at this; cases this
  | some e => rw [q] at this; exact ⟨e, by rw [← Array.getElem?_toList]; exact q, zBl this⟩
 have hnd : (live.map (·.2)).Nodup := by
  refine List.pairwise_map.mpr (List.Pairwise.imp_of_mem (fun {a b} ha hb hab e => ?_) l2)
  have h1 := (l3 a).mp ha
  have h2 := (l3 b).mp hb
  have e : a.2 = b.2 := e
  rw [e, h2] at h1
  have := zBl h1
  omega
 have fR : ∀ m, m ∈ live.map (·.2) <-> m ∈ List.range es.size := fun m => by
  rw [zAk]
  constructor
  ·intro hm
   obtain ⟨x, hx, rfl⟩ := zAq.mp hm
   obtain ⟨e, e1, _⟩ := hat x hx
   rw [← Array.getElem?_toList] at e1
   have := (zAd.mp e1).1
   rw [Array.length_toList] at this; exact this
  ·intro hm
   have e1 : es.toList[m]? = some es.toList[m] := zAc (by rw [Array.length_toList]; exact hm)
   have hl := f.lo _ (zAs e1)
   refine zAq.mpr ⟨((es.toList[m]).1.toNat, m), (l3 _).mpr ?_, rfl⟩
   rw [ehs, zAh, e1]
   have hz : (((es.toList[m]).1.toNat : Nat) : Int) = (es.toList[m]).1 := by omega
   show some (es.toList[m]).1 = some (((es.toList[m]).1.toNat : Nat) : Int)
   rw [hz]
 have hp : (live.map (·.2)).Perm (List.range es.size) := EK hnd List.nodup_range fR
 have hlen : live.length = 5 := by have := hp.length_eq; rw [zAa, zAr, h5] at this; exact this
 have GJ := yF live hat
 have e5 : ((live.map (·.2)).filterMap (es[·]?)).length = 5 := by
  have := congrArg List.length GJ
  rw [zAa, zAa, hlen] at this; exact this
 have J2 : ((live.map (·.2)).toArray.filterMap (es[·]?)).size = 5 := by
  rw [← Array.length_toList, Array.toList_filterMap]; exact e5
 have eR : relayAll t es (grown es.size) = (((live.map (·.2)).toArray.filterMap (es[·]?)), { mask := 31, place := (live.map (·.1)).toArray, dummies := #[], finger := t.finger, led := t.led, moves := t.movedTo 31, plain := t.plain }, false) := by
  unfold relayAll
  rw [er]
  show (if (coversAll (live.map (·.2)).toArray es.size && SetTable.fits _ _) = true then _ else _) = _
  rw [if_pos]
  rw [zBg]
  refine ⟨?_, ?_⟩
  ·unfold coversAll
   exact List.isPerm_iff.mpr hp
  ·unfold SetTable.fits SetTable.fill
   rw [J2]
   simp [hlen]
 rw [eR]
 refine ⟨⟨rfl, hpl, ?_, ?_, .inr ⟨rfl, fun i => ?_⟩⟩, rfl, rfl⟩
 ·intro i j a b hij ea eb
  rw [List.getElem?_toArray, zAh] at ea eb
  cases qa : live[i]? with
  | none => rw [qa] at ea; cases ea
  | some x =>
   cases qb : live[j]? with
   | none => rw [qb] at eb; cases eb
   | some y =>
    rw [qa] at ea
    rw [qb] at eb
    obtain ⟨hi, rfl⟩ := zAd.mp qa
    obtain ⟨hj, rfl⟩ := zAd.mp qb
    have := List.pairwise_iff_getElem.mp l2 i j hi hj hij
    rw [← zBl ea, ← zBl eb]; exact this
 ·show (live.map (·.1)).toArray.size = ((live.map (·.2)).toArray.filterMap (es[·]?)).size
  rw [J2, List.size_toArray, zAa, hlen]
 ·rw [List.getElem?_toArray, ← GJ, zAh, ← Array.getElem?_toList, Array.toList_filterMap]
end TS
namespace TS
open PySem PySem.SetTable
theorem C6 : ∀ k : Fin 16, hashInt ((k.val : Nat) : Int) = ((k.val : Nat) : Int) := by decide +kernel
theorem tq {k : Int} (h0 : 0 <= k) (h16 : k < 16) : hashInt k = k := by
 have := C6 ⟨k.toNat, by omega⟩
 rw [show ((k.toNat : Nat) : Int) = k by omega] at this
 exact this
section
variable (w : World)
def fu (h : Heap) (a : Addr) (l : List Int) : Prop := ∃ o es ep t, h.get? a = some o /\ o.ExactSet /\ o.data = .set es ep t /\ (∀ e ∈ es.toList, ∃ tok, e.2 = .int e.1 tok) /\ (∀ k, k ∈ l <-> k ∈ es.toList.map (·.1)) ∧
 t.fits es.size = true /\ Good es t /\ Few es /\ (t.mask = 7 -> es.size <= 4) /\ t.led = !(w.params.followText "set-order")
end
variable {prog : Program} {w : World} {A : Around} {E : Value -> Shared -> Prop} {s : Shared}
theorem fu.at {h h' : Heap} {a : Addr} {l : List Int} (x : fu w h a l) (e : ∀ o, h.get? a = some o -> h'.get? a = some o) : fu w h' a l := by
 obtain ⟨o, es, ep, t, h1, r⟩ := x
 exact ⟨o, es, ep, t, e _ h1, r⟩
theorem isInt_iff {k z : Int} {tok : Tok} : Value.isInt k (.int z tok) = true <-> k = z := by
 unfold Value.isInt
 constructor
 ·intro h; have h := eq_of_beq h; omega
 ·rintro rfl; exact beq_self_eq_true _
theorem Dn {es : Array (Int × Value)} (f : Few es) (hv : ∀ e ∈ es.toList, ∃ tok, e.2 = .int e.1 tok) : ElemsOf (intKind prog w) es.toList := fun e he => by
 obtain ⟨tok, q⟩ := hv e he
 have hl := f.lo e he
 refine ⟨⟨e.1, ?_, (tq hl.1 hl.2).symm⟩, by rw [q]; rfl⟩
 show Value.isInt e.1 e.2 = true
 rw [q]; exact (isInt_iff (tok := tok)).mpr rfl
theorem me {n : Nat} (h : n <= 17) : n < scanBound := zBi h (by decide)
theorem nF {n : Nat} (h : n <= 17) : n <= sizeLine := fits_of_scanBound (me h)
theorem BQ {h : Heap} {a : Addr} {o : Obj} {es es' : Array (Int × Value)} {ep : Nat} {t t' : SetTable} (ho : h.get? a = some o) (hd : o.data = .set es ep t) : (h.update a (Obj.putSet es' t')).get? a = some { o with data := .set es' (ep + 1) t' } := by
 have := Heap.get?_update_self (Obj.putSet es' t') ho (by rw [putSet_of es' t' hd]; rfl)
 rwa [putSet_of es' t' hd] at this
theorem Dg {es es' : Array (Int × Value)} (f : Few es) (p : es'.toList.Perm es.toList) : Few es' :=
 ⟨fun e he => f.lo e (p.mem_iff.mp he), (p.map _).nodup_iff.mpr f.nd⟩
theorem Dd {t : SetTable} (hd : t.dummies = #[]) : t.tooFull = decide (t.mask * 3 <= t.place.size * 5) := by
 unfold SetTable.tooFull SetTable.fill
 rw [hd]; rfl
theorem IW {a : Addr} {l : List Int} {k : Int} {tok : Tok} {Q : Bool -> Shared -> Prop} (h0 : 0 <= k) (h16 : k < 16) (hS : fu w s.heap a l)
  (h : ∀ h' b, Heap.SameBut a s.heap h' -> fu w h' a (l ++ [k]) -> Q b { s with heap := h' }) : wpAny (model prog w) A (setAddHashed a (.int k tok) k) Q E s := by
 obtain ⟨o, es, ep, t, ho, hex, hd, hv, fR, hf, hg, qi, h5, Ie⟩ := hS
 have hes := qi.le
 have hb : es.size < scanBound := me (by omega)
 have hel : ElemsOf (intKind prog w) es.toList := Dn qi hv
 have hhk : (intKind prog w).hash k = k := tq h0 h16
 have hx : (intKind prog w).is k (.int k tok) = true := (isInt_iff (tok := tok)).mpr rfl
 unfold setAddHashed setAddHashedIn
 refine wpAny_holding (wpAny_bind (wpAny_setState_of ho hd hf ?_))
 dsimp only
 rw [byScan_of (knd := intKind prog w) (x := .int k tok) rfl hb hel, if_pos rfl]
 unfold setAddByScan
 refine wpAny_bind (wpAny_bind (wpAny_rule (wpAny_bind ?_)))
 have hsc : ∀ {Q : ScanMet -> Shared -> Prop}, Q _ s -> wpAny (model prog w) A (setScan a (.int k tok) ((intKind prog w).hash k) true es) Q E s := fun q => wpAny_setScan_of hx ho hd hf hel q
 rw [hhk] at hsc
 refine hsc ?_
 cases hr : List.findIdx? (fun e => (intKind prog w).is k e.2) es.toList with
 | some j =>
  dsimp only
  obtain ⟨hj, hpj, _⟩ := List.findIdx?_eq_some_iff_getElem.mp hr
  refine wpAny_pure (wpAny_pure ?_)
  have hkl : k ∈ es.toList.map (·.1) := by
   obtain ⟨tk, q⟩ := hv _ (zCi hj)
   rw [q] at hpj
   exact zAq.mpr ⟨_, zCi hj, ((isInt_iff (tok := tk)).mp hpj).symm⟩
  have := h s.heap false (Heap.SameBut.refl a s.heap) ⟨o, es, ep, t, ho, hex, hd, hv, fun k' => ?_, hf, hg, qi, h5, Ie⟩
  ·cases s; exact this
  ·rw [zBx, zBw, fR k']
   exact ⟨fun z => z.elim id fun e => e ▸ hkl, .inl⟩
 | none =>
  dsimp only
  have hnh : ∀ e ∈ es.toList, e.1 ≠ k := fun e he z => by
   obtain ⟨tk, q⟩ := hv e he
   have := List.findIdx?_eq_none_iff.mp hr e he
   rw [q] at this
   have h2 : (intKind prog w).is k (Value.int e.1 tk) = true := (isInt_iff (tok := tk)).mpr z.symm
   rw [h2] at this; cases this
  obtain ⟨g1, wd, ld⟩ := CK (x := .int k tok) hg qi h5 h0 h16 hnh
  have oP := layNew_perm t es k (.int k tok)
  have C2 := layNew_fits t es k (.int k tok)
  generalize layNew t es k (.int k tok) = L at g1 wd ld oP C2 ⊢
  obtain ⟨es1, t1, IZ, Lq⟩ := L
  dsimp only at g1 wd ld oP C2 ⊢
  subst wd
  rw [Array.toList_push] at oP
  have FN : Few es1 := by
   refine ⟨fun e he => ?_, ?_⟩
   ·rcases zBx.mp (oP.mem_iff.mp he) with z | z
    ·exact qi.lo e z
    ·rw [zBw.mp z]; exact ⟨h0, h16⟩
   ·rw [(oP.map (·.1)).nodup_iff, zAp, List.nodup_append]
    refine ⟨qi.nd, by simp, fun u hu v hv2 e => ?_⟩
    obtain ⟨y, hy, rfl⟩ := zAq.mp hu
    have : v = k := by simpa using hv2
    exact hnh y hy (e.trans this)
  have hv1 : ∀ e ∈ es1.toList, ∃ tok, e.2 = .int e.1 tok := fun e he => by
   rcases zBx.mp (oP.mem_iff.mp he) with z | z
   ·exact hv e z
   ·rw [zBw.mp z]; exact ⟨tok, rfl⟩
  have hm1 : ∀ k', k' ∈ l ++ [k] <-> k' ∈ es1.toList.map (·.1) := fun k' => by
   rw [(oP.map (·.1)).mem_iff, zAp, zBx, zBx, fR k']; rfl
  have L8 := FN.le
  have hw : ∀ (b : Bool) {s₁ : Shared} {Q' : Unit -> Shared -> Prop}, Q' () s₁ -> wpAny (model prog w) A (match b with | true => rule "set.scan.the-table-gave-way" | false => pure ()) Q' E s₁ := fun b s₁ Q' hq => by
   cases b
   ·exact wpAny_pure hq
   ·exact wpAny_rule hq
  refine wpAny_bind (hw Lq ?_)
  rw [g1.pl, if_pos rfl, hashByValue_scannable 8 (show (Value.int k tok).scannable = true from rfl)]
  refine wpAny_bind (wpAny_pure ?_)
  have epk : (if plainKind (Value.int k tok) = true then t1 else { t1 with plain := false }) = t1 := if_pos rfl
  rw [epk]
  refine wpAny_bind (wpAny_storeSet_of ho hd ?_ (nF (by omega)))
  have ho1 := BQ (es' := es1) (t' := t1) ho hd
  have J3 := Heap.SameBut.update s.heap a (Obj.putSet es1 t1)
  show wpAny _ _ (if (!false && t1.tooFull) = true then _ else _) _ _ _
  rw [Bool.not_false, Bool.true_and, Dd g1.du, g1.sz]
  by_cases c : t1.mask * 3 <= es1.size * 5
  ·rw [if_pos (zAf c)]
   have h55 : es1.size = 5 := by
    rcases g1.ma with ⟨m1, m2⟩ | ⟨m1, _⟩
    ·omega
    ·omega
   obtain ⟨g2, ld2, mk2⟩ := wK FN g1.pl h55
   have hp2 := relayAll_perm t1 es1 (grown es1.size)
   have hf2 := relayAll_fits t1 es1 (grown es1.size)
   have FL := Dg FN hp2
   generalize relayAll t1 es1 (grown es1.size) = R at g2 ld2 mk2 hp2 hf2 FL ⊢
   obtain ⟨es2, t2, Kh⟩ := R
   dsimp only at g2 ld2 mk2 hp2 hf2 FL ⊢
   have L7 := FL.le
   have L1 : es2.size = 5 := by rw [← Array.length_toList, hp2.length_eq, Array.length_toList, h55]
   refine wpAny_bind (hw Kh ?_)
   refine wpAny_bind (wpAny_storeSet_of ho1 rfl ?_ (nF (by omega)))
   have ho2 := BQ (es' := es2) (t' := t2) ho1 rfl
   refine wpAny_pure (wpAny_pure (h _ _ (J3.trans (Heap.SameBut.update _ a _)) ⟨_, es2, _, t2, ho2, hex, rfl, fun e he => hv1 e (hp2.mem_iff.mp he), fun k' => ?_, hf2, g2, FL, fun m => ?_, ?_⟩))
   ·rw [hm1 k', (hp2.map (·.1)).mem_iff]
   ·omega
   ·rw [ld2, ld]; exact Ie
  ·rw [if_neg (fun z => c (zAe z))]
   refine wpAny_pure (wpAny_pure (h _ _ J3 ⟨_, es1, _, t1, ho1, hex, rfl, hv1, hm1, C2, g1, FN, fun m => by omega, by rw [ld]; exact Ie⟩))
end TS
namespace TS
open PySem PySem.SetTable PyProof.Rows
section
variable {prog : Program} {w : World} {A : Around} {R : Result -> Shared -> Prop} {I : Addr} {fp wr : List Addr} {G : Array GenState -> Array GenState -> Prop} {n : Nat} {P : Nat -> Value -> Prop} {St : Nat -> Shared -> Prop}
theorem Fq (W : WalksS prog w A.in1 I fp wr G n P St) (S : Addr) (hSf : S ∉ fp) (val : Nat -> Int) (HY : ∀ i v, P i v -> ∃ t, v = .int (val i) t) (hr : ∀ i, i < n -> 0 <= val i /\ val i < 16) :
  ∀ (k i : Nat) (s : Shared) (l : List Int), n - i = k -> i <= n -> St i s -> fu w s.heap S l -> (∀ s', Moved (S :: wr) G s s' -> fu w s'.heap S (l ++ (List.range' i k).map val) -> R (.ok (.ret .none)) s') →
   codeAny (model prog w) A (.builtin "set.update.loop" ⟨[.ref S, .ref I], []⟩) R s := by
 have hSw : S ∉ wr := fun h => hSf (W.sub _ h)
 have up : ∀ b ∈ wr, b ∈ S :: wr := fun b hb => zAj _ hb
 intro k
 induction k with
 | zero =>
  intro i s l hk hi hst hS hR
  obtain rfl : i = n := by omega
  refine codeAny_builtin F.entry_set_update_loop (Around.under_plainId F.plain_set_update_loop _ ▸ ?_)
  refine (wpAny_bind (W.done s _ _ hst fun s' hm => ?_) : wpAny _ A.in1 (pyNext (.ref I) >>= _) _ _ s)
  show wpAny (model prog w) A.in1 (ret Value.none) _ _ s'
  refine wpAny_pure (hR s' (hm.mono up) ?_)
  simp only [List.range'_zero, List.map_nil, zBz]
  exact hS.at fun o e => hm.heap S o hSw e
 | succ k ih =>
  intro i s l hk hi hst hS hR
  have hlt : i < n := by omega
  refine codeAny_builtin F.entry_set_update_loop (Around.under_plainId F.plain_set_update_loop _ ▸ ?_)
  refine (wpAny_bind (W.item i s _ _ hlt hst fun v s' hP K6 hm => ?_) : wpAny _ A.in1 (pyNext (.ref I) >>= _) _ _ s)
  obtain ⟨t, rfl⟩ := HY i v hP
  obtain ⟨v0, v16⟩ := hr i hlt
  have hS1 : fu w s'.heap S l := hS.at fun o e => hm.heap S o hSw e
  refine (wpAny_bind (wpAny_holding (wpAny_holding (wpAny_bind ((intKind prog w).pyHash (k := val i) ((isInt_iff (tok := t)).mpr rfl) ?_)))) : wpAny _ A.in1 (holding [Value.int (val i) t] (setAdd S (.int (val i) t)) >>= _) _ _ s')
  rw [show (intKind prog w).hash (val i) = val i from tq v0 v16]
  refine IW (s := { s' with toks := s'.toks + 1 }) v0 v16 hS1 fun h' b hsb hS2 => ?_
  refine wpAny_pure ⟨plainId_quiet F.plain_set_update_loop _, ih (i + 1) _ _ (by omega) hlt (W.frame _ s' _ _ K6 (Nat.le_succ _) fun b hb o e => ?_) hS2 fun s2 hm2 hS3 => ?_⟩
  ·exact (hsb.2 b fun z => hSf (z ▸ hb)).trans e
  ·refine hR s2 (Moved.trans W.gtrans ((hm.mono up).then_heap (Nat.le_succ _) fun b o hb e => ?_) hm2) ?_
   ·exact (hsb.2 b fun z => hb (z ▸ zAg)).trans e
   ·rw [List.range'_succ, List.map_cons]
    rw [zBy] at hS3; exact hS3
end
section
variable {prog : Program} {w : World} {A : Around} {E : Value -> Shared -> Prop} {s : Shared}
def bV (w : World) : Obj := { cls := .type "set", dict := none, data := .set #[] 0 (.fresh 0 0 (!(w.params.followText "set-order"))) }
theorem Fj (a : Value) {Q₁ : Value -> Shared -> Prop} (h : Q₁ (.ref s.heap.objs.size) { s with heap := s.heap.push (bV w) }) :
  codeAny (model prog w) A (.call (.builtin "set.__new__") ⟨[.type "set", a], []⟩) (wants Q₁ E) s := by
 refine codeAny_of_tree ?_
 show wpAny (model prog w) A.in1 (do checkBuiltinCall "set.__new__" ⟨[.type "set", a], []⟩; again (.builtin "set.__new__" ⟨[.type "set", a], []⟩)) _ _ s
 refine wpAny_bind (wpAny_of_eq (F.newCall_set_1 a) (wpAny_pure ⟨plainId_quiet F.plain_set_new _, codeAny_builtin F.entry_set_new ?_⟩))
 rw [Around.under_plainId F.plain_set_new _]
 unfold Builtin.«set.__new__» Builtin.Frozenset.newClass
 have FC := sub_set_self
 obtain ⟨hp, g, d, tk, os⟩ := s
 dsimp only; wp_walk
 refine wpAny_askSetting (wpAny_pure ?_)
 dsimp only; simp only [newObj]
 exact wpAny_bind (wpAny_alloc (wpAny_pure (wpAny_pure h)))
theorem HI (h : Heap) : fu w (h.push (bV w)) h.objs.size [] :=
 ⟨_, #[], 0, _, Heap.get?_push_size _ rfl, ⟨rfl, rfl, rfl⟩, rfl, fun e he => by simp at he, fun k => by simp, rfl, ⟨rfl, rfl, fun i j a b _ e => by simp [SetTable.fresh] at e, rfl, .inl ⟨rfl, by decide⟩⟩, ⟨fun e he => by simp at he, by simp⟩, fun _ => by decide, rfl⟩
theorem Dz {l : Addr} {items : Array Value} {ns : List Int} {Q : Value -> Shared -> Prop} (hh : A.handled = none) (hl : s.heap.IsList l items) (hi : IntsAre items.toList ns) (hr : ∀ z ∈ ns, 0 <= z /\ z < 16)
  (h : ∀ (h' : Heap) (tk : Nat), fu w h' s.heap.objs.size ns -> (∀ b o, s.heap.get? b = some o -> h'.get? b = some o) -> Q (.ref s.heap.objs.size) { s with heap := h', toks := tk }) :
  wpAny (model prog w) A (call (.type "set") [.ref l]) Q E s := by
 obtain ⟨c, tl, L6⟩ := F.called_set.mro
 have LU := F.called_set.made; have FC := F.called_set.sub
 refine wpAny_call (codeAny_of_tree ?_)
 show wpAny _ _ (callAny (.type "set") _) _ _ _
 refine wpAny_pure ⟨Code.quiet_builtin _ (by decide +kernel), codeAny_builtin F.entry_type_call ?_⟩
 rw [Around.under_plain (weight_type_call_type "set" [.ref l] []) rfl]
 have h1 := F.called_set.notType; have h2 := F.called_set.canCreate; have hct := F.typeCall_set_1 (.ref l)
 (repeat (any_goals (first | assumption | wp_step)))
 refine codeAny_mono (Fj (.ref l) (E := E) (Q₁ := fun obj s₁ => obj = .ref s.heap.objs.size /\ s₁ = { s with heap := s.heap.push (bV w) }) ⟨rfl, rfl⟩) fun r s₁ hr1 => ?_
 cases r with
 | error e => exact hr1
 | ok fl =>
  cases fl with
  | ret obj =>
   obtain ⟨rfl, rfl⟩ := hr1
   have hS : (s.heap.push (bV w)).get? s.heap.objs.size = some (bV w) := Heap.get?_push_size _ rfl
   have hT : Shared.TypeIs { s with heap := s.heap.push (bV w) } (.ref s.heap.objs.size) "set" := ⟨_, hS, rfl⟩
   have hli := F.called_set.init.lookup; have hbi := F.called_set.init.bind (.ref s.heap.objs.size)
   (repeat (any_goals (first | assumption | wp_step)))
   refine codeAny_mono (codeAny_call_builtin (R := wants (fun r s₂ => r = .none /\ ∃ h' tk, s₂ = { s with heap := h', toks := tk } /\ fu w h' s.heap.objs.size ns /\ (∀ b o, s.heap.get? b = some o -> h'.get? b = some o)) E) F.called_set.init.plain F.entry_set_init (check_set_init_1 hT ?_)) fun r₂ s₂ hr₂ => ?_
   ·obtain ⟨ol, hol, hcl, nl, hdl⟩ := hl
    obtain ⟨LV, JM, LR, Hq⟩ := ol
    simp only at hcl hdl; subst hcl; subst hdl
    have J6 : (s.heap.push (bV w)).get? l = some { cls := .type "list", dict := JM, data := .seq items nl, slots := Hq } := Heap.get?_push_of_some _ hol
    have L3 := F.sub_list_set; have L4 := F.sub_list_frozenset
    have hne : (Value.type "list" == Value.type "dict") = false := by decide
    have hl1 : (s.heap.push (bV w)).IsList l items := ⟨_, J6, rfl, nl, rfl⟩
    unfold bV at hS hT J6 hl1 ⊢
    unfold Builtin.«set.__init__» noKeywords Builtin.Frozenset.updateFrom
    generalize hPI : pyIter = PI
    wp_walk; subst hPI
    refine wpAny_pyIter_list hl1 (wpAny_bind (wpAny_runValue ?_))
    have hlS : l < s.heap.objs.size := Heap.lt_size hol
    have hsz : (s.heap.push (bV w)).objs.size = s.heap.objs.size + 1 := Heap.size_push _ _
    have hh3 : A.in1.in1.in1.handled = none := by simp [hh]
    have hlen : items.size = ns.length := by have := hi.length; rw [← Array.length_toList]; exact this
    have hnI : l ≠ (s.heap.push (bV w)).objs.size := by rw [hsz]; exact Nat.ne_of_lt (Nat.lt_succ_of_lt hlS)
    have hSI : s.heap.objs.size ∉ [(s.heap.push (bV w)).objs.size, l] := by
     rw [hsz]
     simp only [zAv, List.not_mem_nil, or_false, not_or]
     exact ⟨Nat.ne_of_lt (zBs _), Nat.ne_of_gt hlS⟩
    have hS2 : fu w ((s.heap.push (bV w)).push { cls := .type "list_iterator", data := .fields #[.ref l, .int 0 0] }) s.heap.objs.size [] := (HI s.heap).at fun o e => Heap.get?_push_of_some _ e
    refine Fq ((Walks.list hh3 _ l hnI items).toS) s.heap.objs.size hSI (fun i => ns.getD i 0) (fun i v hv => IntsAre.int_at hi i v (by rw [Array.getElem?_toList]; exact hv))
     (fun i hi' => hr _ (by rw [hlen] at hi'; rw [zAb, zAc hi']; exact zCi hi')) items.size 0 _ [] rfl (zBf _) ⟨⟨_, Heap.get?_push_size _ rfl, rfl, rfl⟩, (hl1.push _)⟩ hS2 ?_
    intro s' hm hS'
    obtain ⟨h', g', d', tk', os'⟩ := s'
    obtain rfl : g' = s.gens := hm.gens
    obtain rfl : d' = s.drawn := hm.drawn
    obtain rfl : os' = s.os := hm.os
    have ens : (List.range' 0 items.size).map (fun i => ns.getD i 0) = ns := by
     rw [hlen, ← List.range_eq_range']
     apply List.ext_getElem (by simp)
     intro i h1 h2
     simp at h1
     simp [h1]
    rw [List.nil_append, ens] at hS'
    show wpAny (model prog w) _ _ _ _ _
    refine wpAny_pure ?_
    show wpAny (model prog w) _ (ret Value.none) _ _ _
    refine wpAny_pure ⟨rfl, h', tk', rfl, hS', fun b o e => ?_⟩
    have hb := Heap.lt_size e
    refine hm.heap b o ?_ (Heap.get?_push_of_some _ (Heap.get?_push_of_some _ e))
    simp only [zAv, List.not_mem_nil, or_false, not_or]
    exact ⟨Nat.ne_of_lt hb, fun z => absurd (show b = s.heap.objs.size + 1 from z.trans hsz) (Nat.ne_of_lt (Nat.lt_succ_of_lt hb))⟩
   ·cases r₂ with
    | error e => exact hr₂
    | ok fl₂ =>
     cases fl₂ with
     | ret r =>
      obtain ⟨rfl, h', tk, rfl, hS', hk'⟩ := hr₂
      (repeat (any_goals (first | assumption | wp_step)))
      exact h _ _ hS' hk'
     | next => exact hr₂
     | brk => exact hr₂
     | cont => exact hr₂
  | next => exact hr1
  | brk => exact hr1
  | cont => exact hr1
end
end TS
namespace TS
open PySem PySem.SetTable
theorem oZ {α : Type} : ∀ (l : List α) (i : Nat) (h : i < l.length), (l[i] :: l.eraseIdx i).Perm l
 | [], i, h => absurd h (zBq _)
 | x :: l, 0, h => .rfl
 | x :: l, i + 1, h => by
  have hi : i < l.length := by simpa using h
  have ih := oZ l i hi
  show (l[i] :: x :: l.eraseIdx i).Perm (x :: l)
  exact (List.Perm.swap _ _ _).trans (ih.cons x)
theorem yG {α : Type} (next : Nat -> Nat) : ∀ (fuel k : Nat) (left : List α) (out : Array α), left.length = fuel -> (pickOrder.go next fuel k left out).toList.Perm (out.toList ++ left)
 | 0, k, left, out, h => by
  rw [zAu.mp h, zBz]; exact .rfl
 | fuel + 1, k, left, out, h => by
  unfold pickOrder.go
  have hm : next k % left.length < left.length := Nat.mod_lt _ (by omega)
  rw [zAc hm]
  dsimp only
  refine (yG next fuel (k + 1) _ _ (by rw [List.length_eraseIdx]; simp [hm]; omega)).trans ?_
  rw [Array.toList_push, zBy]
  exact (oZ left _ hm).append_left _
theorem zX {α : Type} (next : Nat -> Nat) (xs : Array α) : (pickOrder next xs).toList.Perm xs.toList := yG next xs.size 0 xs.toList #[] Array.length_toList
def walk (w : World) (a : Addr) (ep : Nat) (es : Array (Int × Value)) : Array (Int × Value) := if w.params.followText "set-order" = true then pickOrder (w.params.setOrder a ep) es else es
theorem qz (w : World) (a : Addr) (ep : Nat) (es : Array (Int × Value)) : (walk w a ep es).toList.Perm es.toList := by
 unfold walk
 split
 ·exact zX _ _
 ·exact .rfl
theorem kS (w : World) (a : Addr) (ep : Nat) (es : Array (Int × Value)) : (walk w a ep es).size = es.size := by
 rw [← Array.length_toList, (qz w a ep es).length_eq, Array.length_toList]
section
variable {prog : Program} {w : World} {A : Around} {E : Value -> Shared -> Prop} {s : Shared} {a it : Addr} {es : Array (Int × Value)} {ep : Nat} {t : SetTable} {o : Obj}
structure SX (w : World) (h : Heap) (a : Addr) (es : Array (Int × Value)) (ep : Nat) (t : SetTable) : Prop where
 ob : ∃ o, h.get? a = some o /\ o.ExactSet /\ o.data = .set es ep t
 fit : t.fits es.size = true
 good : Good es t
 led : t.led = !(w.params.followText "set-order")
theorem SX.at {h h' : Heap} (x : SX w h a es ep t) (e : ∀ o, h.get? a = some o -> h'.get? a = some o) : SX w h' a es ep t := by
 obtain ⟨o, h1, r⟩ := x.ob
 exact ⟨⟨o, e _ h1, r⟩, x.fit, x.good, x.led⟩
def DQ (w : World) (t : SetTable) (i slot : Nat) : Prop := w.params.followText "set-order" = true \/ below t.place slot = i
theorem Fi {Q : Option (Value × Nat) -> Shared -> Prop} {i slot : Nat} (x : SX w s.heap a es ep t) (hs : DQ w t i slot)
  (h1 : ∀ e next, (walk w a ep es)[i]? = some e -> DQ w t (i + 1) next -> Q (some (e.2, next)) s) (h2 : (walk w a ep es)[i]? = none -> Q none s) : wpAny (model prog w) A (setNext a slot i ep) Q E s := by
 obtain ⟨o, ho, hex, hd⟩ := x.ob
 unfold setNext
 refine wpAny_bind (wpAny_setState_of ho hd x.fit ?_)
 dsimp only
 unfold setsByText
 refine wpAny_bind (wpAny_bind (wpAny_askSetting (wpAny_pure ?_)))
 dsimp only
 unfold walk at h1 h2
 cases hb : w.params.followText "set-order" with
 | true =>
  rw [hb, if_pos rfl] at h1 h2
  rw [if_pos (show (model prog w).w.params.followText "set-order" = true from hb)]
  rw [if_neg (by simp)]
  unfold setWalk
  refine wpAny_bind (wpAny_bind (wpAny_setState_of ho hd x.fit ?_))
  dsimp only
  unfold setsByText
  refine wpAny_bind (wpAny_bind (wpAny_askSetting (wpAny_pure ?_)))
  dsimp only
  rw [if_pos (show (model prog w).w.params.followText "set-order" = true from hb)]
  refine wpAny_bind (wpAny_askSetting (wpAny_pure (wpAny_pure ?_)))
  show Q (((pickOrder (w.params.setOrder a ep) es)[i]?).map fun e => (e.2, slot)) s
  cases q : (pickOrder (w.params.setOrder a ep) es)[i]? with
  | none => exact h2 q
  | some e => exact h1 e slot q (.inl hb)
 | false =>
  rw [hb, if_neg (by decide)] at h1 h2
  rw [if_neg (show ¬ (model prog w).w.params.followText "set-order" = true from by show ¬ w.params.followText "set-order" = true; rw [hb]; decide)]
  have hl : t.led = true := by rw [x.led, hb]; rfl
  have hp := x.good.pl
  have Lm : below t.place slot = i := by
   rcases hs with z | z
   ·rw [hb] at z; cases z
   ·exact z
  show wpAny (model prog w) A (if (!t.plain && decide (es.size > 1)) = true then _ else _) _ _ _
  rw [hp, if_neg (by simp)]
  show wpAny (model prog w) A ((if (!t.led && !es.isEmpty) = true then _ else _) >>= _) _ _ _
  rw [hl, if_neg (by simp)]
  refine wpAny_bind (wpAny_pure (wpAny_pure ?_))
  rw [Lm]
  have hsz := x.good.sz
  by_cases c : i < es.size
  ·have e1 : es[i]? = some es[i] := zBb c
   have e2 : t.place[i]? = some (t.place[i]'(by omega)) := zBb (by omega)
   rw [e1, e2]
   exact h1 es[i] _ e1 (.inr (yk x.good.ri e2))
  ·have e1 : es[i]? = none := Array.getElem?_eq_none (by omega)
   rw [e1]
   exact h2 e1
end
end TS
namespace TS
open PySem PySem.SetTable
theorem B5 : Manifest.owners.lookup (String.ofList ['r', 'o', 't', 'a', 'r', 'e', 't', 'i', '_', 't', 'e', 's'].reverse) = some Manifest.sig_set_iterator := by kernel_rfl
theorem eD : Slot "set_iterator" "__next__" "set_iterator.__next__" := .of (owner := "set_iterator") (n := "__next__") (by rw [typeLookup_type, builtinLookup_eq_fast]; kernel_rfl) (by decide +kernel) (by decide +kernel) (by decide +kernel) (by first | exact .inl (by decide +kernel) | exact .inr (by decide +kernel)) (by rw [isSubtype_type]; kernel_rfl)
theorem ql : entryFor table "set_iterator.__next__" = some Builtin.«set_iterator.__next__» := entryFor_of_tree (by kernel_rfl)
theorem t7 (a : Value) : argsOk "set_iterator.__next__" ⟨[a], []⟩ := by unfold argsOk; rw [signature?_of (id := "set_iterator.__next__") (n := ['_', '_', 't', 'x', 'e', 'n', '_', '_']) (o := ['r', 'o', 't', 'a', 'r', 'e', 't', 'i', '_', 't', 'e', 's']) (by kernel_rfl) B5]; kernel_rfl
theorem j0 : Slot "set_iterator" "__iter__" "set_iterator.__iter__" := .of (owner := "set_iterator") (n := "__iter__") (by rw [typeLookup_type, builtinLookup_eq_fast]; kernel_rfl) (by decide +kernel) (by decide +kernel) (by decide +kernel) (by first | exact .inl (by decide +kernel) | exact .inr (by decide +kernel)) (by rw [isSubtype_type]; kernel_rfl)
theorem qm : entryFor table "set_iterator.__iter__" = some Builtin.«dict_keyiterator.__iter__» := entryFor_alias (id' := "dict_keyiterator.__iter__") (by kernel_rfl) rfl (by decide +kernel) (by kernel_rfl)
theorem t8 (a : Value) : argsOk "set_iterator.__iter__" ⟨[a], []⟩ := by unfold argsOk; rw [signature?_of (id := "set_iterator.__iter__") (n := ['_', '_', 'r', 'e', 't', 'i', '_', '_']) (o := ['r', 'o', 't', 'a', 'r', 'e', 't', 'i', '_', 't', 'e', 's']) (by kernel_rfl) B5]; kernel_rfl
theorem o3 : entryFor table "set.__iter__" = some Builtin.«frozenset.__iter__» := entryFor_alias (id' := "frozenset.__iter__") (by kernel_rfl) rfl (by decide +kernel) (by kernel_rfl)
section
variable {prog : Program} {w : World} {A : Around} {E : Value -> Shared -> Prop} {s : Shared} {a it : Addr} {es : Array (Int × Value)} {ep : Nat} {t : SetTable}
def SIt (w : World) (h : Heap) (it a : Addr) (i n ep : Nat) (t : SetTable) : Prop := ∃ o slot, h.get? it = some o /\ o.cls = .type "set_iterator" /\ o.data = .fields #[.int ((slot : Nat) : Int) 0, .int (i : Int) 0, .ref a, .int (n : Int) 0, .int (ep : Int) 0] /\ DQ w t i slot
theorem SIt.type {i n : Nat} (x : SIt w s.heap it a i n ep t) : s.TypeIs (.ref it) "set_iterator" := by
 obtain ⟨o, slot, h1, h2, _⟩ := x
 exact ⟨o, h1, h2⟩
theorem SIt.at {h h' : Heap} {i n : Nat} (x : SIt w h it a i n ep t) (e : ∀ o, h.get? it = some o -> h'.get? it = some o) : SIt w h' it a i n ep t := by
 obtain ⟨o, slot, h1, r⟩ := x
 exact ⟨o, slot, e _ h1, r⟩
def GF (a : Addr) (n ep : Nat) : Obj := { cls := .type "set_iterator", data := .fields #[.int 0 0, .int 0 0, .ref a, .int (n : Int) 0, .int (ep : Int) 0] }
theorem HU (h : Heap) (x : SX w h a es ep t) : SIt w (h.push (GF a es.size ep)) h.objs.size a 0 es.size ep t :=
 ⟨_, 0, Heap.get?_push_size _ rfl, rfl, rfl, .inr (yj x.good.ri)⟩
theorem FA {Q : Value -> Shared -> Prop} (x : SX w s.heap a es ep t) (hQ : Q (.ref s.heap.objs.size) { s with heap := s.heap.push (GF a es.size ep) }) : wpAny (model prog w) A (pyIter (.ref a)) Q E s := by
 obtain ⟨o, ho, hex, hd⟩ := x.ob
 have hT : s.TypeIs (.ref a) "set" := ⟨o, ho, hex.1⟩
 refine wpAny_pyIter_slot hT F.slot_set_iter (wpAny_call_entry F.slot_set_iter hT o3 ?_ (F.args_set_iter_1 _))
 unfold Builtin.«frozenset.__iter__»
 refine wpAny_bind (m := Builtin.Frozenset.slot0 "__iter__" ⟨[.ref a], []⟩) ?_
 show wpAny (model prog w) _ (pure a) _ _ s
 refine wpAny_pure (wpAny_bind ?_)
 unfold Builtin.Frozenset.sizeOf
 refine wpAny_bind (wpAny_setEntries_of ho hd x.fit (wpAny_pure ?_))
 refine wpAny_bind ?_
 unfold setDrawn setsByText
 refine wpAny_bind (wpAny_setState_of ho hd x.fit ?_)
 refine wpAny_bind (wpAny_bind (wpAny_askSetting (wpAny_pure (wpAny_pure ?_))))
 show wpAny (model prog w) _ (if (!(w.params.followText "set-order") && (!t.plain && decide (es.size > 1))) = true then _ else _) _ _ s
 rw [x.good.pl, if_neg (by simp)]
 refine wpAny_bind (wpAny_pure ?_)
 refine wpAny_bind (wpAny_setEpoch_of ho hd x.fit ?_)
 unfold newFields
 refine wpAny_bind (wpAny_newObj_type (wpAny_pure ⟨_, rfl, "set_iterator", _, ⟨_, Heap.get?_push_size _ rfl, rfl⟩, eD.lookup, ?_⟩))
 exact hQ
theorem En {Q : Value -> Shared -> Prop} {i n : Nat} (hit : SIt w s.heap it a i n ep t) (h : Q (.ref it) s) : wpAny (model prog w) A (pyIter (.ref it)) Q E s := by
 refine wpAny_pyIter_slot hit.type j0 (wpAny_call_entry j0 hit.type qm ?_ (t8 _))
 show wpAny (model prog w) _ (ret (.ref it)) _ _ s
 exact wpAny_pure ⟨_, rfl, "set_iterator", _, hit.type, eD.lookup, h⟩
theorem yr {Q : Option Value -> Shared -> Prop} {i : Nat} (hh : A.handled = none) (hit : SIt w s.heap it a i es.size ep t) (x : SX w s.heap a es ep t)
  (h1 : ∀ e h', (walk w a ep es)[i]? = some e -> SIt w h' it a (i + 1) es.size ep t -> (∀ b o, b ≠ it -> s.heap.get? b = some o -> h'.get? b = some o) -> Q (some e.2) { s with heap := h' })
  (h2 : ∀ h', (walk w a ep es)[i]? = none -> (∀ b o, b ≠ it -> s.heap.get? b = some o -> h'.get? b = some o) -> Q none { s with heap := h' }) : wpAny (model prog w) A (pyNext (.ref it)) Q E s := by
 obtain ⟨o, slot, ho, hc, C4, hst⟩ := id hit
 obtain ⟨os, hos, hex, hd⟩ := x.ob
 unfold pyNext
 refine wpAny_bind (wpAny_attempt (wpAny_callSpecial?_slot (name := Str.ofString "__next__") hit.type eD (wpAny_call_entry eD hit.type ql ?_ (t7 _))))
 unfold Builtin.«set_iterator.__next__»
 refine wpAny_bind (m := slotArgs "__next__" 0 ⟨[.ref it], []⟩) (wpAny_pure ?_)
 refine wpAny_bind (wpAny_fieldsOf ho C4 ?_)
 refine wpAny_bind (m := setEntries a) (wpAny_setEntries_of hos hd x.fit ?_)
 show wpAny (model prog w) _ (if (((es.size : Nat) : Int) != ((es.size : Nat) : Int)) = true then _ else _) _ _ s
 rw [if_neg (by simp)]
 show wpAny (model prog w) _ (setNext a ((slot : Nat) : Int).toNat ((i : Nat) : Int).toNat ((ep : Nat) : Int).toNat >>= _) _ _ s
 rw [zAl, zAl, zAl]
 refine wpAny_bind (Fi x hst (fun e next q sd => ?_) (fun q => ?_))
 ·show wpAny (model prog w) _ (setField (.ref it) 0 (rawInt next) >>= fun _ => setField (.ref it) 1 (rawInt ((i : Int) + 1)) >>= fun _ => ret e.2) _ _ s
  refine wpAny_bind (wpAny_setField ho C4 (by simp) ?_)
  have ho1 := Heap.get?_update_self (Obj.mapFields (·.setIfInBounds 0 (rawInt next))) ho (Obj.isFreed_of_fields (Obj.data_mapFields C4 _))
  have hd1 := Obj.data_mapFields C4 (·.setIfInBounds 0 (rawInt next))
  refine wpAny_bind (wpAny_setField ho1 hd1 (by simp) ?_)
  refine wpAny_pure ⟨_, rfl, wpAny_pure (h1 e _ q ⟨_, next, Heap.get?_update_self _ ho1 (Obj.isFreed_of_fields (Obj.data_mapFields hd1 _)), ?_, ?_, sd⟩ ?_)⟩
  ·exact (Obj.cls_mapFields ..).trans ((Obj.cls_mapFields ..).trans hc)
  ·rw [Obj.data_mapFields hd1]; simp [rawInt]
  ·intro b u hb e
   exact ((Heap.SameBut.update ..).trans (Heap.SameBut.update ..)).extBut b u hb e
 ·show wpAny (model prog w) _ (setField (.ref it) 2 .none >>= fun _ => newExc (.type "StopIteration") [] >>= fun e => raiseNew e) _ _ s
  refine wpAny_bind (wpAny_setField ho C4 (by simp) ?_)
  refine wpAny_bind ?_
  simp only [newExc, newTuple]
  refine wpAny_bind (wpAny_newObj_type ?_ (by size_fits))
  refine wpAny_bind (m := firstArgMember _ _) (wpAny_of_eq (a := Value.none) (by first | rfl | (simp only [firstArgMember]; rfl)) ?_)
  refine wpAny_newObj_type ?_ (by size_fits)
  simp only [raiseNew]
  refine wpAny_bind (wpAny_handled ?_)
  rw [show A.in1.handled = none from hh]
  refine wpAny_bind (wpAny_pure (wpAny_throw ?_))
  refine wpAny_bind (wpAny_isInstance (T := "StopIteration") (b := true) ⟨_, Heap.get?_push_size _ rfl, rfl⟩ isSubtype_stop ?_)
  exact wpAny_pure (h2 _ q fun b u hb e => (((Heap.SameBut.update ..).extBut.push _).push _) b u hb e)
theorem zr (hh : A.handled = none) (it a : Addr) (hne : a ≠ it) (es : Array (Int × Value)) (ep : Nat) (t : SetTable) :
  Walks prog w A it [it, a] [it] es.size (fun i v => ∃ e, (walk w a ep es)[i]? = some e /\ v = e.2) (fun i h => SIt w h it a i es.size ep t /\ SX w h a es ep t) where
 sub := fun b hb => by simp at hb; simp [hb]
 frame := fun _ _ _ st hk => ⟨st.1.at fun o e => hk it (by simp) o e, st.2.at fun o e => hk a (by simp) o e⟩
 item := fun i s Q E hi st hQ => by
  refine yr hh st.1 st.2 (fun e h' q si hk => ?_) (fun h' q _ => ?_)
  ·exact hQ e.2 h' s.toks ⟨e, q, rfl⟩ ⟨si, st.2.at fun o z => hk a o hne z⟩ fun b o hb z => hk b o (fun h => hb (by simp [h])) z
  ·rw [zBb (by rw [kS]; exact hi)] at q; cases q
 done := fun s Q E st hQ => by
  refine yr hh st.1 st.2 (fun e h' q si hk => ?_) (fun h' q hk => ?_)
  ·rw [Array.getElem?_eq_none (by rw [kS]; exact zAt _)] at q; cases q
  ·exact hQ h' s.toks fun b o hb z => hk b o (fun h => hb (by simp [h])) z
 self := fun i s Q E st hQ => En st.1 hQ
end
end TS
namespace TS
open PySem PySem.SetTable PyProof.Rows PySem.W PySem.Calls
theorem Fs : typeLookup (.type "set") "__len__" = pure (some (.builtin "set.__len__")) := by rw [typeLookup_type, builtinLookup_eq_fast]; kernel_rfl
section
variable {prog : Program} {w : World} {A : Around} {E : Value -> Shared -> Prop} {s : Shared}
theorem CZ {r : Addr} {Q : Bool -> Shared -> Prop} (hT : s.TypeIs (.ref r) "set") (h : Q false s) : wpAny (model prog w) A (Builtin.List.listLengthHint (.ref r)) Q E s := by
 unfold Builtin.List.listLengthHint
 refine wpAny_bind (wpAny_specialOf hT Fs ?_)
 generalize hid : ("set.__len__" : String) = id0
 wp_delta
 rw [show splitId id0 = some ("set", "__len__") from by subst hid; decide +kernel]
 subst hid
 refine wpAny_bind (wpAny_isInstance (T := "set") (b := true) hT sub_set_self ?_)
 refine wpAny_ite_split (fun hab => absurd hab (by decide)) (fun _ => wpAny_ite_split (fun _ => ?_) (fun hab => absurd (by decide +kernel) hab))
 exact wpAny_bind (wpAny_typeOf hT (wpAny_pure h))
theorem D3 {a : Addr} {es : Array (Int × Value)} {ep : Nat} {t : SetTable} : KdlSrc prog w "set" a a es.size (fun i v => ∃ e, (walk w a ep es)[i]? = some e /\ v = e.2) (fun h => SX w h a es ep t) where
 type := fun _ hm => let ⟨o, h1, h2, _⟩ := hm.ob; ⟨o, h1, h2.1⟩
 there := fun _ hm => let ⟨o, h1, _⟩ := hm.ob; ⟨Heap.lt_size h1, Heap.lt_size h1⟩
 keep := fun _ _ hm hk => hm.at fun o e => hk a (.inl rfl) o e
 notList := by decide
 notTuple := by decide
 hint := fun _ _ _ _ hm hq => CZ (let ⟨o, h1, h2, _⟩ := hm.ob; ⟨o, h1, h2.1⟩) hq
 iter := fun A s hh hm => ⟨_, _, (fun _ _ hq => FA hm hq), zr hh _ a (let ⟨o, h1, _⟩ := hm.ob; Nat.ne_of_lt (Heap.lt_size h1)) es ep t, ⟨HU s.heap hm, hm.at fun o e => Heap.get?_push_of_some _ e⟩⟩
theorem yZ (val : Nat -> Int) : ∀ (l : List Value) (k : Nat), (∀ j v, l[j]? = some v -> ∃ tk, v = Value.int (val (k + j)) tk) -> IntsAre l ((List.range' k l.length).map val)
 | [], k, _ => .nil
 | v :: l, k, h => by
  obtain ⟨tk, rfl⟩ := h 0 v rfl
  rw [zAz, List.range'_succ, List.map_cons]
  exact .cons _ _ (yZ val l (k + 1) fun j v e => by
   have := h (j + 1) v e
   rwa [show k + (j + 1) = k + 1 + j by omega] at this)
theorem x5 {T : String} {r d : Addr} {n : Nat} {P : Nat -> Value -> Prop} {OK : Heap -> Prop} {R : List Value -> Shared -> Prop} (K : KdlSrc prog w T r d n P OK) (hh : A.handled = none) (hok : OK s.heap) (hn : n <= sizeLine)
  (h : ∀ (h' : Heap) (tk : Nat) (acc : Array Value), (∀ b o, s.heap.get? b = some o -> h'.get? b = some o) -> s.heap.objs.size <= h'.objs.size -> ItemsOf P acc n -> R acc.toList { s with heap := h', toks := tk }) : wpAny (model prog w) A (collect (.ref r)) R E s := by
 have hlt := K.there _ hok
 unfold collect
 refine wpAny_bind (wpAny_runValue (codeAny_builtin entry_proto_collect' (Around.under_plainId PySem.F.plain_proto_collect _ ▸ ?_)))
 show wpAny (model prog w) A.in1 (newList [] >>= fun l => again (.builtin "list.__iadd__" ⟨[l, .ref r], []⟩)) _ _ s
 refine wpAny_bind (wpAny_newObj_type (wpAny_pure ⟨plainId_quiet PySem.F.plain_list_iadd _, codeAny_builtin entry_list_iadd' (Around.under_plainId PySem.F.plain_list_iadd _ ▸ ?_)⟩))
 have hS : (s.heap.push { cls := .type "list", data := .seq ([] : List Value).toArray }).get? s.heap.objs.size = some { cls := .type "list", data := .seq #[] } := Heap.get?_push_size _ rfl
 show wpAny (model prog w) A.in1 (Builtin.List.listExtendWith (.ref s.heap.objs.size) (.ref r) (.ref s.heap.objs.size)) _ _ _
 refine wpAny_mono (kdl_extend (A := A) (s := { s with heap := s.heap.push { cls := .type "list", data := .seq ([] : List Value).toArray } })
  (R := fun (q : Result) (s' : Shared) => ∃ (h' : Heap) (tk : Nat) (qu : Array Value) (c' : Nat), q = .ok (.ret (.ref s.heap.objs.size)) /\ s' = { s with heap := h', toks := tk } /\ (∀ b o, s.heap.get? b = some o -> h'.get? b = some o) /\ h'.get? s.heap.objs.size = some { cls := .type "list", dict := none, data := .seq qu c', slots := #[] } /\ ItemsOf P qu n)
  K hh (K.keep _ _ hok fun b _ o e => Heap.get?_push_of_some _ e) s.heap.objs.size (Nat.ne_of_gt hlt.1) (Nat.ne_of_gt hlt.2) (.ref s.heap.objs.size) 0 hS
  (fun h' tk qu c' hk hS' oT => ⟨h', tk, qu, c', rfl, rfl, fun b o e => hk b o (Nat.ne_of_lt (Heap.lt_size e)) (Heap.get?_push_of_some _ e), hS', oT⟩) hn) (fun fin s' x => ?_) fun e s' x => ?_
 ·cases fin with
  | done f =>
   obtain ⟨h', tk, qu, c', e, rfl, hk, hS', oT⟩ := x
   cases e
   show wpAny (model prog w) A (load s.heap.objs.size >>= _) _ _ _
   exact wpAny_bind (wpAny_load hS' (wpAny_pure (h h' tk qu hk (zCf (Heap.lt_size hS')) oT)))
  | again c₁ =>
   refine ⟨x.1, codeAny_mono x.2 fun q s₂ y => ?_⟩
   obtain ⟨h', tk, qu, c', rfl, rfl, hk, hS', oT⟩ := y
   show wpAny (model prog w) A (load s.heap.objs.size >>= _) _ _ _
   exact wpAny_bind (wpAny_load hS' (wpAny_pure (h h' tk qu hk (zCf (Heap.lt_size hS')) oT)))
 ·obtain ⟨_, _, _, _, e', _⟩ := x
  cases e'
theorem nB {T : String} {r d : Addr} {n : Nat} {P : Nat -> Value -> Prop} {OK : Heap -> Prop} {Q : Value -> Shared -> Prop} (K : KdlSrc prog w T r d n P OK) (hh : A.handled = none) (hok : OK s.heap) (hn : n < 64) (val : Nat -> Int) (HY : ∀ i v, P i v -> ∃ tk, v = .int (val i) tk)
  (h : ∀ (h' : Heap) (tk : Nat) (D : Addr) (ns : List Int) (its : List Value) (c : Nat), (∀ b o, s.heap.get? b = some o -> h'.get? b = some o) -> s.heap.objs.size <= D -> IntsAre its ns -> h'.get? D = some { cls := .type "list", data := .seq its.toArray c } →
   ns.Perm ((List.range n).map val) -> ns.Pairwise (· <= ·) -> Q (.ref D) { s with heap := h', toks := tk }) : wpAny (model prog w) A (call (.builtin "sorted") [.ref r]) Q E s := by
 have hl : n <= sizeLine := by rw [sizeLine_eq]; omega
 refine call_function_entry kind_sorted plain_sorted entry_sorted (args_sorted1 _) ?_
 unfold Builtin.«sorted»
 refine wpAny_bind (m := checkCount "sorted" 1 1 _) (wpAny_pure (wpAny_bind (x5 (A := A.in1) K hh hok hl fun h' tk acc hk hgr oT => ?_)))
 have hal : acc.toList.length = n := by rw [Array.length_toList]; exact oT.1
 refine wpAny_bind (wpAny_newList ?_ (by rw [hal]; exact hl))
 have hints : IntsAre acc.toList ((List.range n).map val) := by
  rw [List.range_eq_range', ← hal]
  exact yZ val acc.toList 0 fun j v e => HY _ v (by rw [Nat.zero_add]; exact oT.2 j v (by rw [← Array.getElem?_toList]; exact e))
 have ho : (h'.push { cls := .type "list", data := .seq acc.toList.toArray }).get? h'.objs.size = some { cls := .type "list", data := .seq acc.toList.toArray } := Heap.get?_push_size _ rfl
 refine wpAny_bind (wpAny_holding ?_)
 refine wpAny_call_entry slot_list_sort ⟨_, ho, rfl⟩ entry_list_sort (list_sort_tree ho hints (by rw [hal]; exact hn) fun out ns' h1 h2 h3 => ⟨.none, rfl, ?_⟩) (args_list_sort _)
 obtain ⟨c, hc⟩ := sortedHeap_at (vs := acc.toList) (out := out) ho
 refine wpAny_pure ⟨_, rfl, h _ _ _ ns' out.toList c (fun b o e => ?_) ?_ h1 hc h2 h3⟩
 ·have hb := hk b o e
  have hlt := Heap.lt_size hb
  rw [sortedHeap_old (Nat.ne_of_lt hlt) (Nat.lt_trans hlt (by rw [Heap.size_push]; exact zBs _))]
  exact Heap.get?_push_of_some _ hb
 ·exact hgr
end
end TS
namespace TM
def it (f : Nat -> Nat) : Nat -> Nat -> Nat
 | 0, s => s
 | k + 1, s => f (it f k s)
theorem ez (f : Nat -> Nat) (s : Nat) (a : Nat) : ∀ b, it f (a + b) s = it f b (it f a s)
 | 0 => rfl
 | b + 1 => by show f (it f (a + b) s) = f (it f b (it f a s)); rw [ez f s a b]
theorem cZ {f : Nat -> Nat} {N : Nat} (hf : ∀ x, x < N -> f x < N) {s : Nat} (hs : s < N) : ∀ k, it f k s < N
 | 0 => hs
 | k + 1 => hf _ (cZ hf hs k)
theorem gy : ∀ (N : Nat) (l : List Nat), l.Nodup -> (∀ x ∈ l, x < N) -> l.length <= N
 | 0, l, _, h => by
  cases l with
  | nil => exact zAt _
  | cons a l => exact absurd (h a zAg) (zBq _)
 | N + 1, l, hd, h => by
  have h2 : (l.filter fun x => x != N).length <= N := gy N _ (hd.sublist List.filter_sublist) fun x hx => by
   have h3 := zBe.mp hx
   have := h x h3.1
   have h4 : x ≠ N := by simpa using h3.2
   omega
  have h5 : l.length <= (l.filter fun x => x != N).length + 1 := by
   clear h h2
   induction l with
   | nil => simp
   | cons a l ih =>
    have hd' := zBv.mp hd
    by_cases e : a = N
    ·subst e
     have : (l.filter fun x => x != a) = l := List.filter_eq_self.mpr fun x hx => by
      have : x ≠ a := fun e => hd'.1 (e ▸ hx)
      simpa using this
     rw [zBd, if_neg (by simp), this]; simp
    ·rw [zBd, if_pos (by simpa using e)]
     have := ih hd'.2
     simp only [zAz]; omega
  omega
structure Orb (f : Nat -> Nat) (s i m : Nat) : Prop where
 lt : i < m
 back : it f m s = it f i s
 diff : ∀ a b, a < m -> b < m -> it f a s = it f b s -> a = b
theorem Orb.per {f : Nat -> Nat} {s i m : Nat} (o : Orb f s i m) (k : Nat) (h : i <= k) : it f (k + (m - i)) s = it f k s := by
 have e : k + (m - i) = m + (k - i) := by have := o.lt; omega
 rw [e, ez, o.back, ← ez]
 congr 1; omega
theorem Orb.inside {f : Nat -> Nat} {s i m : Nat} (o : Orb f s i m) : ∀ k, i <= k -> ∃ j, i <= j /\ j < m /\ it f k s = it f j s := by
 intro k
 induction k using Nat.strongRecOn with
 | _ k ih =>
  intro h
  by_cases hk : k < m
  ·exact ⟨k, h, hk, rfl⟩
  ·have hl := o.lt
   obtain ⟨j, h1, h2, h3⟩ := ih (k - (m - i)) (by omega) (by omega)
   refine ⟨j, h1, h2, ?_⟩
   rw [← h3, ← o.per (k - (m - i)) (by omega)]
   congr 1; omega
theorem CT {f : Nat -> Nat} {x c : Nat} (h : it f c x = x) : ∀ q, it f (c * q) x = x
 | 0 => rfl
 | q + 1 => by rw [Nat.mul_succ, ez, CT h q, h]
theorem Orb.ahead {f : Nat -> Nat} {s i m : Nat} (o : Orb f s i m) {k c : Nat} (hk : k < i) (hc : 0 < c) : it f (k + c) s ≠ it f k s := by
 intro h
 rw [ez] at h
 have h1 := CT h i
 rw [← ez] at h1
 have h2 : i <= k + c * i := by
  have : i <= c * i := Nat.le_mul_of_pos_left i hc
  omega
 obtain ⟨j, h3, h4, h5⟩ := o.inside _ h2
 rw [h5] at h1
 have := o.diff j k h4 (by have := o.lt; omega) h1
 omega
theorem Orb.first {f : Nat -> Nat} {s i m : Nat} (o : Orb f s i m) {c : Nat} (hc : 0 < c) (hc2 : c < m - i) : it f (i + c) s ≠ it f i s := by
 intro h
 have hl := o.lt
 have := o.diff (i + c) i (by omega) hl h
 omega
theorem bg (n : Nat) (t : List Nat) (s : Nat) : ∀ k, Kzk1.after n t k s = it (Kzk1.next n t) k s
 | 0 => rfl
 | k + 1 => by
  have := bg n t s k
  unfold Kzk1.after at this ⊢
  rw [List.range_succ, zCa, this]
  rfl
theorem fj {p : Nat -> Bool} {n a : Nat} (ha : a < n) (hp : p a = true) (hn : ∀ b, b < a -> p b = false) : (List.range n).find? p = some a := by
 induction n with
 | zero => omega
 | succ n ih =>
  rw [List.range_succ, List.find?_append]
  by_cases h : a < n
  ·rw [ih h]; rfl
  ·have e : a = n := by omega
   subst e
   have : (List.range a).find? p = none := List.find?_eq_none.mpr fun x hx => by
    rw [hn x (zAk.mp hx)]; decide
   rw [this]; simp [hp]
theorem Orb.le {f : Nat -> Nat} {s i m N : Nat} (o : Orb f s i m) (hf : ∀ x, x < N -> f x < N) (hs : s < N) : m <= N := by
 have h := gy N ((List.range m).map fun k => it f k s) ?_ ?_
 ·simpa using h
 ·rw [List.Nodup, List.pairwise_map]
  refine List.Pairwise.imp_of_mem (R := fun a b => a ≠ b) (fun {a b} ha hb hne e => hne (o.diff a b (zAk.mp ha) (zAk.mp hb) e)) List.nodup_range
 ·intro x hx
  obtain ⟨k, _, rfl⟩ := zAq.mp hx
  exact cZ hf hs k
theorem qB : ∀ (l : List Nat) (a : Nat), l.foldl (· + ·) a = a + l.sum
 | [], a => by simp
 | x :: l, a => by rw [zCb, qB l, List.sum_cons, Nat.add_assoc]
theorem fH (p : Nat -> Bool) : ∀ i, Kzk1.make i p < 2 ^ i
 | 0 => by unfold Kzk1.make; exact Nat.zero_lt_one
 | i + 1 => by
  have h := fH p i
  unfold Kzk1.make Kzk1.sum at h ⊢
  rw [qB] at h ⊢
  rw [List.range_succ, zAp, List.sum_append, Nat.pow_succ]
  simp only [List.map_cons, List.map_nil, List.sum_cons, List.sum_nil]
  split <;> omega
theorem aS (n : Nat) (t : List Nat) (s : Nat) : Kzk1.next n t s < 2 ^ n := fH _ n
section
variable {n : Nat} {t : List Nat} {s i m : Nat}
theorem iz {x : Nat} : Kzk1.onRound n t x = true <-> ∃ k, k < 2 ^ n /\ it (Kzk1.next n t) (k + 1) x = x := by
 unfold Kzk1.onRound Kzk1.states
 rw [zCh]
 constructor
 ·rintro ⟨k, h1, h2⟩
  exact ⟨k, zAk.mp h1, by rw [← bg]; simpa using h2⟩
 ·rintro ⟨k, h1, h2⟩
  exact ⟨k, zAk.mpr h1, by rw [bg]; simpa using h2⟩
theorem nX (o : Orb (Kzk1.next n t) s i m) (hs : s < 2 ^ n) : Kzk1.tail n t s = i := by
 have hm := o.le (N := 2 ^ n) (fun x _ => aS n t x) hs
 have hl := o.lt
 unfold Kzk1.tail
 rw [fj (a := i) (by omega)]
 ·rfl
 ·rw [iz]
  refine ⟨m - i - 1, by omega, ?_⟩
  rw [bg, ← ez]
  have := o.per i (zAt _)
  rw [← this]; congr 1; omega
 ·intro b hb
  cases h : Kzk1.onRound n t (Kzk1.after n t b s)
  ·rfl
  ·obtain ⟨k, _, h2⟩ := iz.mp h
   rw [bg, ← ez] at h2
   exact absurd h2 (o.ahead hb (Nat.succ_pos k))
theorem uR (o : Orb (Kzk1.next n t) s i m) (hs : s < 2 ^ n) : Kzk1.long n t (it (Kzk1.next n t) i s) = m - i := by
 have hm := o.le (N := 2 ^ n) (fun x _ => aS n t x) hs
 have hl := o.lt
 unfold Kzk1.long Kzk1.states
 rw [fj (a := m - i - 1) (by omega)]
 ·show m - i - 1 + 1 = m - i; omega
 ·rw [bg, ← ez]
  have := o.per i (zAt _)
  have e : i + (m - i - 1 + 1) = i + (m - i) := by omega
  rw [e, this]; simp
 ·intro b hb
  rw [bg, ← ez]
  have := o.first (c := b + 1) (by omega) (by omega)
  simpa using this
theorem iT (o : Orb (Kzk1.next n t) s i m) (hs : s < 2 ^ n) : Kzk1.round n t s = ((List.range m).map fun k => it (Kzk1.next n t) k s).drop i := by
 unfold Kzk1.round
 simp only []
 rw [nX o hs, bg, uR o hs]
 have hl := o.lt
 apply List.ext_getElem?
 intro k
 rw [zAh, List.getElem?_drop, zAh]
 by_cases h : k < m - i
 ·rw [zAc (by simpa using h), zAc (by simp; omega)]
  simp [bg, ← ez]
 ·rw [zCj (by simpa using h), zCj (by simp; omega)]
  rfl
end
theorem tO {f : Nat -> Nat} {s m N : Nat} (d : ∀ a b, a < m -> b < m -> it f a s = it f b s -> a = b) (hf : ∀ x, x < N -> f x < N) (hs : s < N) : m <= N := by
 have h := gy N ((List.range m).map fun k => it f k s) ?_ ?_
 ·simpa using h
 ·rw [List.Nodup, List.pairwise_map]
  refine List.Pairwise.imp_of_mem (R := fun a b => a ≠ b) (fun {a b} ha hb hne e => hne (d a b (zAk.mp ha) (zAk.mp hb) e)) List.nodup_range
 ·intro x hx
  obtain ⟨k, _, rfl⟩ := zAq.mp hx
  exact cZ hf hs k
theorem kE : ∀ (l : List Nat) (a : Nat), l.foldl min a <= a /\ ∀ x ∈ l, l.foldl min a <= x
 | [], a => ⟨zAt _, fun x h => absurd h (by simp)⟩
 | y :: l, a => by
  have h := kE l (min a y)
  refine ⟨zAn h.1 (Nat.min_le_left _ _), fun x hx => ?_⟩
  rcases zAv.mp hx with rfl | hx
  ·exact zAn h.1 (Nat.min_le_right _ _)
  ·exact h.2 x hx
theorem jj : ∀ (l : List Nat) (a : Nat), l.foldl min a = a \/ l.foldl min a ∈ l
 | [], a => .inl rfl
 | y :: l, a => by
  rcases jj l (min a y) with h | h
  ·show l.foldl min (min a y) = a \/ l.foldl min (min a y) ∈ y :: l
   rw [h]
   rcases Nat.le_total a y with z | z
   ·rw [Nat.min_eq_left z]; exact .inl rfl
   ·rw [Nat.min_eq_right z]; exact .inr zAg
  ·exact .inr (zAj _ h)
theorem least_le {l : List Nat} {x : Nat} (h : x ∈ l) : Kzk1.least l <= x := (kE l _).2 x h
theorem iW {l : List Nat} (h : l ≠ []) : Kzk1.least l ∈ l := by
 cases l with
 | nil => exact absurd rfl h
 | cons a l =>
  rcases jj (a :: l) ((a :: l).headD 0) with e | e
  ·unfold Kzk1.least; rw [e]; exact zAg
  ·exact e
theorem vi {l : List Nat} {m : Nat} (h1 : m ∈ l) (h2 : ∀ y ∈ l, m <= y) : m = Kzk1.least l :=
 Nat.le_antisymm (h2 _ (iW (by intro e; rw [e] at h1; simp at h1))) (least_le h1)
theorem rT {f : Nat -> Nat} {s N : Nat} (hf : ∀ x, x < N -> f x < N) (hs : s < N) : ∃ i m, Orb f s i m := by
 have key : ∀ c m, c + m = N + 1 -> (∀ a b, a < m -> b < m -> it f a s = it f b s -> a = b) -> ∃ i m, Orb f s i m := by
  intro c
  induction c with
  | zero =>
   intro m hm d
   have := tO d hf hs
   omega
  | succ c ih =>
   intro m hm d
   by_cases h : ∃ i, i < m /\ it f m s = it f i s
   ·obtain ⟨i, h1, h2⟩ := h
    exact ⟨i, m, h1, h2, d⟩
   ·refine ih (m + 1) (by omega) fun a b ha hb e => ?_
    by_cases h1 : a = m
    ·by_cases h2 : b = m
     ·omega
     ·subst h1; exact absurd ⟨b, by omega, e⟩ h
    ·by_cases h2 : b = m
     ·subst h2; exact absurd ⟨a, by omega, e.symm⟩ h
     ·exact d a b (by omega) (by omega) e
 exact key (N + 1) 0 rfl fun a b ha => absurd ha (zBq _)
section
variable {n : Nat} {t : List Nat} {s : Nat}
theorem ig (hs : s < 2 ^ n) : Kzk1.round n t s ≠ [] := by
 obtain ⟨i, m, o⟩ := rT (fun x _ => aS n t x) hs
 rw [iT o hs]
 intro e
 have := congrArg List.length e
 have hl := o.lt
 simp at this
 omega
theorem nL (hs : s < 2 ^ n) (h : s ∈ Kzk1.round n t s) : Kzk1.onRound n t s = true /\ (Kzk1.round n t s).length = Kzk1.long n t s := by
 obtain ⟨i, m, o⟩ := rT (fun x _ => aS n t x) hs
 have hl := o.lt
 have hm := o.le (N := 2 ^ n) (fun x _ => aS n t x) hs
 rw [iT o hs] at h ⊢
 obtain ⟨k, hk, e⟩ := List.getElem_of_mem h
 rw [List.getElem_drop, List.getElem_map, List.getElem_range] at e
 have hk2 : i + k < m := by simp at hk; omega
 have e2 := o.diff (i + k) 0 hk2 (by omega) e
 have i0 : i = 0 := by omega
 subst i0
 refine ⟨iz.mpr ⟨m - 1, by omega, ?_⟩, ?_⟩
 ·have e3 : m - 1 + 1 = m := by omega
  rw [e3]; exact o.back
 ·have := uR o hs
  rw [show it (Kzk1.next n t) 0 s = s from rfl] at this
  rw [this]; simp
theorem zO : Kzk1.rounds n t = (Kzk1.states n).filter fun s => Kzk1.least (Kzk1.round n t s) == s := by
 unfold Kzk1.rounds
 apply List.filter_congr
 intro s hs
 have hs : s < 2 ^ n := zAk.mp hs
 cases h : Kzk1.least (Kzk1.round n t s) == s
 ·simp
 ·have e : Kzk1.least (Kzk1.round n t s) = s := by simpa using h
  have := iW (ig (t := t) hs)
  rw [e] at this
  rw [(nL hs this).1]; rfl
end
end TM
namespace TM
open Kzk2
def ext (n : Nat) (l : List Nat) : List (List Nat) := ((List.range n).filter fun i => !l.contains i).map fun i => l ++ [i]
theorem dU (n : Nat) : ∀ (f : Nat) (p : List Nat), rowsOn n (f + 1) p = (rowsOn n f p).flatMap (ext n)
 | 0, p => by
  show ((List.range n).filter fun i => !p.contains i).flatMap (fun i => [p ++ [i]]) = [p].flatMap (ext n)
  rw [List.flatMap_singleton, ext]
  generalize ((List.range n).filter fun i => !p.contains i) = L
  induction L with
  | nil => rfl
  | cons a L ih => rw [List.flatMap_cons, ih, List.map_cons]; rfl
 | f + 1, p => by
  have h : ∀ i, rowsOn n (f + 1) (p ++ [i]) = (rowsOn n f (p ++ [i])).flatMap (ext n) := fun i => dU n f (p ++ [i])
  show ((List.range n).filter fun i => !p.contains i).flatMap (fun i => rowsOn n (f + 1) (p ++ [i])) = (((List.range n).filter fun i => !p.contains i).flatMap fun i => rowsOn n f (p ++ [i])).flatMap (ext n)
  rw [List.flatMap_assoc]
  congr 1
  funext i
  exact h i
theorem dG (n : Nat) : ∀ (f : Nat) (p : List Nat) (l : List Nat), l ∈ rowsOn n f p -> l.length = p.length + f
 | 0, p, l, h => by
  have : l = p := zBw.mp h
  rw [this]; rfl
 | f + 1, p, l, h => by
  obtain ⟨i, _, hi⟩ := List.mem_flatMap.mp h
  have := dG n f (p ++ [i]) l hi
  rw [this, zAi]; simp; omega
theorem k4 (n : Nat) : ∀ (f : Nat) (p : List Nat) (l : List Nat), (∀ x ∈ p, x < n) -> p.Nodup -> l ∈ rowsOn n f p -> (∀ x ∈ l, x < n) /\ l.Nodup
 | 0, p, l, hp, hd, h => by
  have : l = p := zBw.mp h
  rw [this]; exact ⟨hp, hd⟩
 | f + 1, p, l, hp, hd, h => by
  obtain ⟨i, h1, hi⟩ := List.mem_flatMap.mp h
  obtain ⟨h2, h3⟩ := zBe.mp h1
  have h3 : i ∉ p := by simpa using h3
  refine k4 n f (p ++ [i]) l ?_ ?_ hi
  ·intro x hx
   rcases zBx.mp hx with z | z
   ·exact hp x z
   ·rw [zBw.mp z]; exact zAk.mp h2
  ·rw [List.nodup_append]
   refine ⟨hd, by simp, fun a ha b hb e => ?_⟩
   rw [zBw.mp hb] at e
   exact h3 (e ▸ ha)
def link (k : List (List Nat)) (l : List Nat) : Bool := (List.range (l.length - 1)).all fun a => at_ k (l.getD a 0) (l.getD (a + 1) 0) != 0
def g8 (k : List (List Nat)) (l : List Nat) : Bool := l.all (fun i => decide (l.headD 0 <= i)) && link k l
def last (l : List Nat) : Nat := l.getD (l.length - 1) 0
def grow (n : Nat) (k : List (List Nat)) (c : List Nat) : List (List Nat) :=
 ((List.range' (c.headD 0 + 1) (n - (c.headD 0 + 1))).filter fun j => !c.contains j && at_ k (last c) j != 0).map fun j => c ++ [j]
def bM (n : Nat) (k : List (List Nat)) : Nat -> List (List Nat)
 | 0 => (List.range n).map fun j => [j]
 | m + 1 => (bM n k m).flatMap (grow n k)
theorem dM {l r : List Nat} {a : Nat} (h : a < l.length) : (l ++ r).getD a 0 = l.getD a 0 := by
 rw [zAb, zAb, zAy h]
theorem getD_snoc {l : List Nat} {i : Nat} : (l ++ [i]).getD l.length 0 = i := by
 rw [zAb, zAx (zAt _), zBt]; rfl
theorem As {k : List (List Nat)} {l : List Nat} {i : Nat} (h : l ≠ []) : link k (l ++ [i]) = (link k l && at_ k (last l) i != 0) := by
 obtain ⟨m, hm⟩ : ∃ m, l.length = m + 1 := ⟨l.length - 1, by have := zBc.mpr h; omega⟩
 unfold link last
 rw [zAi, hm]
 show (List.range (m + 1)).all _ = ((List.range m).all _ && _)
 rw [List.range_succ, List.all_append]
 congr 1
 ·apply zCo.mpr
  rw [zBa, zBa]
  refine forall_congr' fun a => forall_congr' fun ha => ?_
  have ha := zAk.mp ha
  rw [dM (by omega), dM (by omega)]
 ·simp only [List.all_cons, List.all_nil, Bool.and_true]
  rw [dM (by omega), ← hm, getD_snoc, hm]
  rfl
theorem AG {l : List Nat} {i : Nat} (h : l ≠ []) : (l ++ [i]).headD 0 = l.headD 0 := by
 cases l with
 | nil => exact absurd rfl h
 | cons a l => rfl
theorem rb {k : List (List Nat)} {l : List Nat} {i : Nat} (h : l ≠ []) : g8 k (l ++ [i]) = (g8 k l && (decide (l.headD 0 <= i) && at_ k (last l) i != 0)) := by
 unfold g8
 rw [AG h, As h, List.all_append]
 simp only [List.all_cons, List.all_nil, Bool.and_true]
 cases l.all (fun i => decide (l.headD 0 <= i)) <;> cases decide (l.headD 0 <= i) <;> cases link k l <;> cases (at_ k (last l) i != 0) <;> rfl
theorem mC (n h : Nat) (p : Nat -> Bool) : ((List.range n).filter fun i => decide (h < i) && p i) = (List.range' (h + 1) (n - (h + 1))).filter p := by
 by_cases hn : h + 1 <= n
 ·have e : List.range n = List.range' 0 (h + 1) ++ List.range' (h + 1) (n - (h + 1)) := by
   have := List.range'_append_1 (s := 0) (m := h + 1) (n := n - (h + 1))
   rw [Nat.zero_add, show h + 1 + (n - (h + 1)) = n by omega] at this
   rw [List.range_eq_range', this]
  rw [e, zCc]
  have e1 : ((List.range' 0 (h + 1)).filter fun i => decide (h < i) && p i) = [] := zCg.mpr fun a ha => by
   have := List.mem_range'_1.mp ha
   have : ¬ h < a := by omega
   simp [this]
  rw [e1, List.nil_append]
  apply List.filter_congr
  intro a ha
  have := List.mem_range'_1.mp ha
  have : h < a := by omega
  simp [this]
 ·have e : n - (h + 1) = 0 := by omega
  rw [e]
  show _ = []
  refine zCg.mpr fun a ha => ?_
  have := zAk.mp ha
  have : ¬ h < a := by omega
  simp [this]
theorem Dk {n : Nat} {k : List (List Nat)} {l : List Nat} (h : l ≠ []) : (ext n l).filter (g8 k) = if g8 k l = true then grow n k l else [] := by
 unfold ext grow
 rw [List.filter_map]
 by_cases hf : g8 k l = true
 ·rw [if_pos hf, ← mC, List.filter_filter]
  congr 1
  apply List.filter_congr
  intro i _
  show (g8 k (l ++ [i]) && !l.contains i) = (decide (l.headD 0 < i) && (!l.contains i && at_ k (last l) i != 0))
  rw [rb h, hf]
  by_cases hc : i ∈ l
  ·simp [hc]
  ·have hne : l.headD 0 ≠ i := by
    intro e
    cases l with
    | nil => exact h rfl
    | cons a l => exact hc (by rw [← e]; exact zAg)
   have e2 : decide (l.headD 0 <= i) = decide (l.headD 0 < i) := by apply decide_eq_decide.mpr; omega
   rw [e2]
   simp [hc]
 ·rw [if_neg hf, List.filter_filter]
  rw [List.map_eq_nil_iff]
  refine zCg.mpr fun i _ => ?_
  show ¬ ((g8 k (l ++ [i]) && _) = true)
  rw [rb h]
  have : g8 k l = false := by simpa using hf
  rw [this]
  simp
theorem i5 (n : Nat) (k : List (List Nat)) : ∀ m, bM n k m = (rowsOn n (m + 1) []).filter (g8 k)
 | 0 => by
  rw [dU]
  show (List.range n).map (fun j => [j]) = ([[]].flatMap (ext n)).filter (g8 k)
  rw [List.flatMap_singleton, ext, List.filter_map]
  have e1 : ((List.range n).filter fun i => !([] : List Nat).contains i) = List.range n := List.filter_eq_self.mpr fun _ _ => rfl
  rw [e1]
  have e2 : (List.range n).filter (g8 k ∘ fun i => [] ++ [i]) = List.range n := List.filter_eq_self.mpr fun i _ => by
   show g8 k [i] = true
   unfold g8 link
   simp
  rw [e2]; rfl
 | m + 1 => by
  rw [dU, List.filter_flatMap]
  show (bM n k m).flatMap (grow n k) = _
  rw [i5 n k m]
  have hne : ∀ l ∈ rowsOn n (m + 1) [], l ≠ [] := fun l hl e => by
   have := dG n (m + 1) [] l hl
   rw [e] at this
   simp at this
  revert hne
  generalize rowsOn n (m + 1) [] = L
  intro hne
  induction L with
  | nil => rfl
  | cons l L ih =>
   rw [List.flatMap_cons, zBd, Dk (hne l zAg)]
   have ih := ih fun l hl => hne l (zAj _ hl)
   by_cases hf : g8 k l = true
   ·rw [if_pos hf, if_pos hf, List.flatMap_cons, ih]
   ·rw [if_neg hf, if_neg hf, ih]; rfl
def closed (k : List (List Nat)) (l : List Nat) : Bool := at_ k (last l) (l.headD 0) != 0
theorem qD {k : List (List Nat)} {l : List Nat} (h : l ≠ []) : ((steps k l).all fun w => w != 0) = (link k l && closed k l) := by
 obtain ⟨m, hm⟩ : ∃ m, l.length = m + 1 := ⟨l.length - 1, by have := zBc.mpr h; omega⟩
 unfold steps link closed last
 rw [List.all_map, hm]
 show (List.range (m + 1)).all _ = ((List.range m).all _ && _)
 rw [List.range_succ, List.all_append]
 congr 1
 ·apply zCo.mpr
  rw [zBa, zBa]
  refine forall_congr' fun a => forall_congr' fun ha => ?_
  have ha := zAk.mp ha
  show (at_ k (l.getD a 0) (l.getD ((a + 1) % (m + 1)) 0) != 0) = true <-> _
  rw [Nat.mod_eq_of_lt (by omega)]
 ·simp only [List.all_cons, List.all_nil, Bool.and_true]
  show (at_ k (l.getD m 0) (l.getD ((m + 1) % (m + 1)) 0) != 0) = _
  rw [Nat.mod_self]
  have : l.getD 0 0 = l.headD 0 := by cases l <;> rfl
  rw [this]; rfl
theorem BD (n m : Nat) (k : List (List Nat)) : rings n (m + 1) k = (bM n k m).filter (closed k) := by
 unfold rings
 rw [i5, List.filter_filter]
 apply List.filter_congr
 intro l hl
 have hne : l ≠ [] := fun e => by
  have := dG n (m + 1) [] l hl
  rw [e] at this
  simp at this
 rw [qD hne]
 unfold g8
 cases l.all (fun i => decide (l.headD 0 <= i)) <;> cases link k l <;> cases closed k l <;> rfl
theorem gp {n m : Nat} {k : List (List Nat)} {l : List Nat} (h : l ∈ bM n k m) : l.length = m + 1 /\ (∀ x ∈ l, x < n) /\ l.Nodup := by
 rw [i5] at h
 have h := (zBe.mp h).1
 have h1 := dG n (m + 1) [] l h
 have h2 := k4 n (m + 1) [] l (fun _ z => absurd z (by simp)) List.nodup_nil h
 refine ⟨by rw [h1]; simp, h2⟩
theorem jQ (n : Nat) (k : List (List Nat)) : bM n k n = [] := by
 rw [List.eq_nil_iff_forall_not_mem]
 intro l h
 obtain ⟨h1, h2, h3⟩ := gp h
 have := gy n l h3 h2
 omega
theorem pd {n : Nat} {k : List (List Nat)} {m : Nat} (h : bM n k m = []) : ∀ j, bM n k (m + j) = []
 | 0 => h
 | j + 1 => by show (bM n k (m + j)).flatMap (grow n k) = []; rw [pd h j]; rfl
def found (n : Nat) (k : List (List Nat)) (m : Nat) : List (List Nat) := (List.range m).flatMap fun a => (bM n k a).filter (closed k)
theorem jN (n : Nat) (k : List (List Nat)) (m : Nat) : found n k (m + 1) = found n k m ++ (bM n k m).filter (closed k) := by
 unfold found
 rw [List.range_succ, List.flatMap_append, List.flatMap_singleton]
theorem lP {n m : Nat} {k : List (List Nat)} (hm : m <= n) (h : bM n k m = []) : found n k m = all n k := by
 have e : all n k = found n k n := by
  unfold all found
  congr 1
  funext a
  exact BD n a k
 rw [e]
 obtain ⟨j, rfl⟩ : ∃ j, n = m + j := ⟨n - m, by omega⟩
 have : ∀ i, found (m + j) k (m + i) = found (m + j) k m := by
  intro i
  induction i with
  | zero => rfl
  | succ i ih => rw [← Nat.add_assoc, jN, ih, pd h i]; simp
 exact (this j).symm
theorem pV {a b : List Nat} (h : a.Perm b) (x : Nat) : a.contains x = b.contains x := by
 rw [zCo]
 simp [h.mem_iff]
def par (v : List Nat) : Bool × Bool := if v.contains 3 then (true, true) else (v.count 2 % 2 == 0, v.count 2 % 2 == 1)
theorem fF : ∀ (v : List Nat) (p : Bool × Bool), (∀ x ∈ v, x = 1 \/ x = 2 \/ x = 3) -> (p.1 || p.2) = true →
  v.foldl (fun p w => ((p.1 && w % 2 == 1) || (p.2 && decide (2 <= w)), (p.2 && w % 2 == 1) || (p.1 && decide (2 <= w)))) p = if v.contains 3 then (true, true) else if v.count 2 % 2 = 0 then p else (p.2, p.1)
 | [], p, _, _ => by simp
 | x :: v, p, h, hp => by
  have h' : ∀ y ∈ v, y = 1 \/ y = 2 \/ y = 3 := fun y hy => h y (zAj _ hy)
  rw [zCb]
  obtain ⟨p1, p2⟩ := p
  rcases h x zAg with rfl | rfl | rfl
  ·rw [fF v _ h' (by simpa using hp)]
   simp
  ·rw [fF v _ h' (by simpa [Bool.or_comm] using hp)]
   have e : (List.count 2 (2 :: v)) = v.count 2 + 1 := by simp
   have c : (2 :: v : List Nat).contains 3 = v.contains 3 := by simp
   rw [e, c]
   by_cases h3 : v.contains 3 = true
   ·rw [if_pos h3, if_pos h3]
   ·rw [if_neg h3, if_neg h3]
    by_cases h2 : v.count 2 % 2 = 0
    ·rw [if_pos h2, if_neg (by omega)]; simp
    ·rw [if_neg h2, if_pos (by omega)]; simp
  ·rw [fF v _ h' (by cases p1 <;> cases p2 <;> simp at hp ⊢)]
   have hp' : (p1 || p2) = true := hp
   have c : (3 :: v : List Nat).contains 3 = true := by simp
   rw [c, if_pos rfl]
   by_cases h3 : v.contains 3 = true
   ·rw [if_pos h3]
   ·rw [if_neg h3]
    cases p1 <;> cases p2 <;> simp at hp ⊢
theorem Ab {v : List Nat} (h : ∀ x ∈ v, x = 1 \/ x = 2 \/ x = 3) : parity v = par v := by
 unfold parity par
 rw [fF v _ h rfl]
 by_cases h3 : v.contains 3 = true
 ·rw [if_pos h3, if_pos h3]
 ·rw [if_neg h3, if_neg h3]
  by_cases h2 : v.count 2 % 2 = 0
  ·rw [if_pos h2, h2]; rfl
  ·have : v.count 2 % 2 = 1 := by omega
   rw [if_neg h2, this]; rfl
theorem B3 {a b : List Nat} (h : a.Perm b) : par a = par b := by
 unfold par
 rw [pV h, h.count_eq]
def taken (k : List (List Nat)) (l : List Nat) : List Nat := at_ k (last l) (l.headD 0) :: (List.range (l.length - 1)).map fun a => at_ k (l.getD a 0) (l.getD (a + 1) 0)
theorem wj {k : List (List Nat)} {l : List Nat} (h : l ≠ []) : (taken k l).Perm (steps k l) := by
 obtain ⟨m, hm⟩ : ∃ m, l.length = m + 1 := ⟨l.length - 1, by have := zBc.mpr h; omega⟩
 unfold taken steps last
 rw [hm, List.range_succ, zAp]
 have e1 : ((List.range m).map fun a => at_ k (l.getD a 0) (l.getD ((a + 1) % (m + 1)) 0)) = (List.range m).map fun a => at_ k (l.getD a 0) (l.getD (a + 1) 0) := by
  apply List.map_congr_left
  intro a ha
  have ha := zAk.mp ha
  rw [Nat.mod_eq_of_lt (by omega)]
 rw [e1]
 have e2 : ([m].map fun a => at_ k (l.getD a 0) (l.getD ((a + 1) % (m + 1)) 0)) = [at_ k (l.getD m 0) (l.headD 0)] := by
  simp only [List.map_cons, List.map_nil, Nat.mod_self]
  have : l.getD 0 0 = l.headD 0 := by cases l <;> rfl
  rw [this]
 rw [e2]
 exact (List.perm_append_singleton _ _).symm
end TM
namespace TM
open Kzk1 (bit next after)
theorem d7 (s j : Nat) : bit s j = s.testBit j := by
 unfold Kzk1.bit
 rw [Nat.testBit_eq_decide_div_mod_eq]
 cases h : decide (s / 2 ^ j % 2 = 1)
 ·simpa using h
 ·simpa using h
def Un (n x y : Nat) : Prop := ∀ j, j < n -> bit x j = true -> bit y j = true
theorem fX {n x y : Nat} : Kzk6.under n x y = true <-> Un n x y := by
 unfold Kzk6.under Un
 rw [zBa]
 constructor
 ·intro h j hj hx
  have := h j (zAk.mpr hj)
  rw [hx] at this
  simpa using this
 ·intro h j hj
  have := h j (zAk.mp hj)
  cases hb : bit x j
  ·simp
  ·rw [this hb]; simp
theorem Un.refl (n x : Nat) : Un n x x := fun _ _ h => h
theorem Un.trans {n x y z : Nat} (a : Un n x y) (b : Un n y z) : Un n x z := fun j hj h => b j hj (a j hj h)
theorem t6 {n x y : Nat} (hx : x < 2 ^ n) (hy : y < 2 ^ n) (h : ∀ j, j < n -> bit x j = bit y j) : x = y := by
 apply zCm
 intro j
 by_cases hj : j < n
 ·rw [← d7, ← d7]; exact h j hj
 ·have e : 2 ^ n <= 2 ^ j := zCp (by decide) (by omega)
  rw [zCn (zBh hx e), zCn (zBh hy e)]
theorem y8 {α : Type} {p q : α -> Bool} : ∀ {l : List α}, (∀ x ∈ l, p x = true -> q x = true) -> (l.filter p).length <= (l.filter q).length
 | [], _ => zAt _
 | x :: l, h => by
  have ih := y8 (l := l) fun y hy => h y (zAj _ hy)
  rw [zBd, zBd]
  by_cases hp : p x = true
  ·rw [if_pos hp, if_pos (h x zAg hp)]; simp; exact ih
  ·rw [if_neg hp]
   split
   ·simp; omega
   ·exact ih
theorem tI {α : Type} {p q : α -> Bool} : ∀ {l : List α}, (∀ x ∈ l, p x = true -> q x = true) -> (∃ x ∈ l, p x = false /\ q x = true) -> (l.filter p).length < (l.filter q).length
 | [], _, ⟨x, hx, _⟩ => absurd hx (by simp)
 | x :: l, h, ⟨y, hy, h1, h2⟩ => by
  have hl := y8 (l := l) fun y hy => h y (zAj _ hy)
  rw [zBd, zBd]
  rcases zAv.mp hy with e | hy
  ·subst e
   rw [if_neg (by rw [h1]; decide), if_pos h2]; simp; omega
  ·have ih := tI (l := l) (fun y hy => h y (zAj _ hy)) ⟨y, hy, h1, h2⟩
   by_cases hp : p x = true
   ·rw [if_pos hp, if_pos (h x zAg hp)]; simp; exact ih
   ·rw [if_neg hp]
    split
    ·simp; omega
    ·exact ih
theorem yu {n x y : Nat} (hx : x < 2 ^ n) (hy : y < 2 ^ n) (a : Un n x y) (ne : x ≠ y) : Kzk6.size n x < Kzk6.size n y := by
 unfold Kzk6.size
 refine tI (fun j hj => a j (zAk.mp hj)) ?_
 apply zAo
 intro hno
 apply ne
 refine t6 hx hy fun j hj => ?_
 cases h1 : bit x j <;> cases h2 : bit y j
 ·rfl
 ·exact absurd ⟨j, zAk.mpr hj, h1, h2⟩ hno
 ·rw [a j hj h1] at h2; cases h2
 ·rfl
theorem size_le (n x : Nat) : Kzk6.size n x <= n := by
 unfold Kzk6.size
 exact zAn (zAm _ _) (by simp)
def Ris (n : Nat) (t : List Nat) : Prop := ∀ x y, x < 2 ^ n -> y < 2 ^ n -> Un n x y -> Un n (next n t x) (next n t y)
theorem fZ {n : Nat} {t : List Nat} : Kzk6.rises n t = true <-> Ris n t := by
 unfold Kzk6.rises Kzk1.states Ris
 rw [zBa]
 constructor
 ·intro h x y hx hy hu
  have h1 := zBa.mp (h x (zAk.mpr hx)) y (zAk.mpr hy)
  rw [fX.mpr hu] at h1
  exact fX.mp (by simpa using h1)
 ·intro h x hx
  rw [zBa]
  intro y hy
  cases hu : Kzk6.under n x y
  ·rfl
  ·rw [fX.mpr (h x y (zAk.mp hx) (zAk.mp hy) (fX.mp hu))]; rfl
section
variable {n : Nat} {t : List Nat} {s : Nat}
theorem nh (r : Ris n t) (hs : s < 2 ^ n) (h : Un n s (next n t s)) : ∀ k, Un n (it (next n t) k s) (it (next n t) (k + 1) s)
 | 0 => h
 | k + 1 => r _ _ (cZ (fun x _ => aS n t x) hs k) (cZ (fun x _ => aS n t x) hs (k + 1)) (nh r hs h k)
theorem jP (r : Ris n t) (hs : s < 2 ^ n) (h : Un n (next n t s) s) : ∀ k, Un n (it (next n t) (k + 1) s) (it (next n t) k s)
 | 0 => h
 | k + 1 => r _ _ (cZ (fun x _ => aS n t x) hs (k + 1)) (cZ (fun x _ => aS n t x) hs k) (jP r hs h k)
theorem nM {f : Nat -> Nat} {x : Nat} (h : f x = x) : ∀ k, it f k x = x
 | 0 => rfl
 | k + 1 => by show f (it f k x) = x; rw [nM h k, h]
theorem uc (r : Ris n t) (hs : s < 2 ^ n) (h : Un n s (next n t s)) : ∃ k, k <= n /\ next n t (it (next n t) k s) = it (next n t) k s := by
 apply zAo
 intro hno
 have key : ∀ k, k <= n + 1 -> k <= Kzk6.size n (it (next n t) k s) := by
  intro k
  induction k with
  | zero => intro _; exact zBf _
  | succ k ih =>
   intro hk
   have := yu (cZ (fun x _ => aS n t x) hs k) (cZ (fun x _ => aS n t x) hs (k + 1)) (nh r hs h k) fun e => hno ⟨k, by omega, e.symm⟩
   have := ih (by omega)
   omega
 have h1 := key (n + 1) (zAt _)
 have h2 := size_le n (it (next n t) (n + 1) s)
 omega
theorem o9 (r : Ris n t) (hs : s < 2 ^ n) (h : Un n (next n t s) s) : ∃ k, k <= n /\ next n t (it (next n t) k s) = it (next n t) k s := by
 apply zAo
 intro hno
 have key : ∀ k, k <= n + 1 -> Kzk6.size n (it (next n t) k s) + k <= n := by
  intro k
  induction k with
  | zero => intro _; exact size_le _ _
  | succ k ih =>
   intro hk
   have := yu (cZ (fun x _ => aS n t x) hs (k + 1)) (cZ (fun x _ => aS n t x) hs k) (jP r hs h k) fun e => hno ⟨k, by omega, e⟩
   have := ih (by omega)
   omega
 have h1 := key (n + 1) (zAt _)
 omega
theorem jO {k : Nat} (hk : k <= n) (h : next n t (it (next n t) k s) = it (next n t) k s) (hno : ∀ j, j < k -> next n t (it (next n t) j s) ≠ it (next n t) j s) : after n t n s = it (next n t) k s /\ Kzk6.climb n t s = some k := by
 refine ⟨?_, ?_⟩
 ·rw [bg]
  obtain ⟨m, rfl⟩ : ∃ m, n = k + m := ⟨n - k, by omega⟩
  rw [ez]
  exact nM h m
 ·unfold Kzk6.climb
  refine fj (by omega) (by rw [bg]; simpa using h) fun j hj => ?_
  rw [bg]
  simpa using hno j hj
theorem v9 (n x : Nat) : Un n 0 x := fun j _ h => by
 rw [d7] at h
 simp at h
theorem AJ {n x : Nat} : Un n x (Kzk6.full n) := fun j hj _ => by
 rw [d7]
 unfold Kzk6.full
 rw [Nat.testBit_two_pow_sub_one]
 simpa using hj
theorem y4 (n : Nat) : Kzk6.full n < 2 ^ n := by
 unfold Kzk6.full
 have := zCe n
 omega
theorem below (r : Ris n t) {x : Nat} (hs : s < 2 ^ n) (hx : x < 2 ^ n) (hr : next n t x = x) (h : Un n s x) : ∀ k, Un n (it (next n t) k s) x
 | 0 => h
 | k + 1 => by
  have := r _ _ (cZ (fun y _ => aS n t y) hs k) hx (below r hs hx hr h k)
  rw [hr] at this
  exact this
theorem above (r : Ris n t) {x : Nat} (hs : s < 2 ^ n) (hx : x < 2 ^ n) (hr : next n t x = x) (h : Un n x s) : ∀ k, Un n x (it (next n t) k s)
 | 0 => h
 | k + 1 => by
  have := r _ _ hx (cZ (fun y _ => aS n t y) hs k) (above r hs hx hr h k)
  rw [hr] at this
  exact this
end
end TM
namespace TM
def cI : List Nat := [1, 2, 2, 2, 3, 3, 2, 2, 1, 1, 0, 1, 1, 1, 1, 1, 0, 0, 0, 0, 0, 0, 0, 0, 0, 0, 0, 0, 0, 0, 0, 0, 1, 0, 0, 0, 0, 0, 2, 0, 0, 0, 2, 2, 0, 0, 0, 0]
def ci (l : List Nat) : List Int := l.map fun x : Nat => (x : Int)
abbrev kO := Nat × List Nat
def encC (c : kO) : List (List Int) := if c.1 = 10 then [[10], ci c.2] else [(c.1 : Int) :: ci c.2]
def jk (c : kO) : List Nat := if c.1 = 10 then 10 :: c.2.length :: c.2 else c.1 :: c.2
def okC (c : kO) : Prop := c.1 < 48 /\ (c.1 ≠ 10 -> c.2.length = cI.getD c.1 0)
theorem zN : ∀ n, n < 48 -> PyKzk.shape ((n : Nat) : Int) = some (cI.getD n 0, if n = 10 then 1 else 0) := by decide
theorem zM {p : Int} (h : ¬ (0 <= p /\ p < 48)) : PyKzk.shape p = none := by
 unfold PyKzk.shape
 repeat rw [if_neg (by omega)]
theorem BB {p : Int} {u v : Nat} (h : PyKzk.shape p = some (u, v)) : ∃ n : Nat, n < 48 /\ p = (n : Int) /\ u = cI.getD n 0 /\ v = if n = 10 then 1 else 0 := by
 by_cases hp : 0 <= p /\ p < 48
 ·have e : p = ((p.toNat : Nat) : Int) := by omega
  have hn : p.toNat < 48 := by omega
  rw [e, zN _ hn] at h
  have h := Prod.mk.inj (zBl h)
  exact ⟨p.toNat, hn, e, h.1.symm, h.2.symm⟩
 ·rw [zM hp] at h
  cases h
theorem vL {l : List Int} (h : ∀ x ∈ l, 0 <= x) : l = ci (l.map Int.toNat) := by
 unfold ci
 rw [zAw]
 have : l.map ((fun x : Nat => (x : Int)) ∘ Int.toNat) = l.map id := List.map_congr_left fun x hx => by
  have := h x hx
  show ((x.toNat : Nat) : Int) = x
  omega
 rw [this, List.map_id]
theorem AR (a b : List Nat) : ci (a ++ b) = ci a ++ ci b := zAp
theorem Dy : ∀ {a b : List Nat}, ci a = ci b -> a = b
 | [], [], _ => rfl
 | [], _ :: _, h => by cases h
 | _ :: _, [], h => by cases h
 | x :: a, y :: b, h => by
  have h : (x : Int) :: ci a = (y : Int) :: ci b := h
  obtain ⟨h1, h2⟩ := List.cons.inj h
  rw [Dy h2, show x = y by omega]
theorem Ca {c : List (List Int)} (h : PyFlat.okCall PyKzk.shape c) (hn : ∀ x ∈ PyFlat.put1 c, 0 <= x) : ∃ d : kO, okC d /\ c = encC d /\ PyFlat.put1 c = ci (jk d) := by
 obtain ⟨p, a, xs, rfl, hs⟩ := h
 obtain ⟨n, CY, rfl, hu, hv⟩ := BB hs
 by_cases h10 : n = 10
 ·subst h10
  have ha : a = [] := zAu.mp hu
  subst ha
  obtain ⟨x, rfl⟩ : ∃ x, xs = [x] := by
   cases xs with
   | nil => simp at hv
   | cons x r =>
    cases r with
    | nil => exact ⟨x, rfl⟩
    | cons => simp at hv
  have e1 : PyFlat.put1 [[(10 : Int)], x] = (10 : Int) :: (x.length : Int) :: x := by
   show [(10 : Int)] ++ (((x.length : Int) :: x) ++ []) = _
   rw [zBz]; rfl
  have hx : ∀ y ∈ x, 0 <= y := fun y hy => hn y (by
   show y ∈ PyFlat.put1 [[(10 : Int)], x]
   rw [e1]; exact zAj _ (zAj _ hy))
  refine ⟨(10, x.map Int.toNat), ⟨by show 10 < 48; decide, fun z => absurd rfl z⟩, ?_, ?_⟩
  ·show [[(10 : Int)], x] = [[10], ci (x.map Int.toNat)]
   rw [← vL hx]
  ·show PyFlat.put1 [[(10 : Int)], x] = ci (10 :: (x.map Int.toNat).length :: x.map Int.toNat)
   rw [e1, zAa]
   show (10 : Int) :: (x.length : Int) :: x = ((10 : Nat) : Int) :: ((x.length : Nat) : Int) :: ci (x.map Int.toNat)
   rw [← vL hx]; rfl
 ·rw [if_neg h10] at hv
  have hx : xs = [] := zAu.mp hv
  subst hx
  have e1 : PyFlat.put1 [(n : Int) :: a] = (n : Int) :: a := by
   show ((n : Int) :: a) ++ [] = _
   rw [zBz]
  have ha : ∀ y ∈ a, 0 <= y := fun y hy => hn y (by rw [e1]; exact zAj _ hy)
  refine ⟨(n, a.map Int.toNat), ⟨CY, fun _ => by rw [zAa]; exact hu⟩, ?_, ?_⟩
  ·show _ = if n = 10 then _ else [(n : Int) :: ci (a.map Int.toNat)]
   rw [if_neg h10, ← vL ha]
  ·rw [e1]
   show _ = ci (if n = 10 then _ else n :: a.map Int.toNat)
   rw [if_neg h10]
   show _ = (n : Int) :: ci (a.map Int.toNat)
   rw [← vL ha]
theorem rn : ∀ (cs : List (List (List Int))), (∀ c ∈ cs, PyFlat.okCall PyKzk.shape c) -> (∀ x ∈ PyFlat.put cs, 0 <= x) -> ∃ ds : List kO, (∀ d ∈ ds, okC d) /\ cs = ds.map encC /\ PyFlat.put cs = ci (ds.flatMap jk)
 | [], _, _ => ⟨[], fun d h => absurd h (by simp), rfl, rfl⟩
 | c :: cs, h, hn => by
  have hn : ∀ x ∈ PyFlat.put1 c ++ PyFlat.put cs, 0 <= x := hn
  obtain ⟨d, d1, d2, d3⟩ := Ca (h c zAg) fun x hx => hn x (List.mem_append_left _ hx)
  obtain ⟨ds, e1, e2, e3⟩ := rn cs (fun c hc => h c (zAj _ hc)) fun x hx => hn x (List.mem_append_right _ hx)
  refine ⟨d :: ds, fun x hx => ?_, by rw [d2, e2]; rfl, ?_⟩
  ·rcases zAv.mp hx with rfl | z
   ·exact d1
   ·exact e1 x z
  ·show PyFlat.put1 c ++ PyFlat.put cs = _
   rw [d3, e3, List.flatMap_cons, AR]
theorem len0 {g : List Nat} (h : g.length = 0) : g = [] := zAu.mp h
theorem cV {g : List Nat} (h : g.length = 1) : ∃ x, g = [x] := by
 match g, h with
 | [x], _ => exact ⟨x, rfl⟩
theorem cN {g : List Nat} (h : g.length = 2) : ∃ x y, g = [x, y] := by
 match g, h with
 | [x, y], _ => exact ⟨x, y, rfl⟩
theorem vh {g : List Nat} (h : g.length = 3) : ∃ x y z, g = [x, y, z] := by
 match g, h with
 | [x, y, z], _ => exact ⟨x, y, z, rfl⟩
theorem zq : ∀ (n : Nat) (g : List Nat), n < 48 -> (n ≠ 10 -> g.length = cI.getD n 0) -> PyKzk.whole (encC (n, g)) = encC (n, g)
 | 0, g, _, h => by obtain ⟨x, rfl⟩ := cV (h (by decide)); rfl
 | 1, g, _, h => by obtain ⟨x, y, rfl⟩ := cN (h (by decide)); rfl
 | 2, g, _, h => by obtain ⟨x, y, rfl⟩ := cN (h (by decide)); rfl
 | 3, g, _, h => by obtain ⟨x, y, rfl⟩ := cN (h (by decide)); rfl
 | 4, g, _, h => by obtain ⟨x, y, z, rfl⟩ := vh (h (by decide)); rfl
 | 5, g, _, h => by obtain ⟨x, y, z, rfl⟩ := vh (h (by decide)); rfl
 | 6, g, _, h => by obtain ⟨x, y, rfl⟩ := cN (h (by decide)); rfl
 | 7, g, _, h => by obtain ⟨x, y, rfl⟩ := cN (h (by decide)); rfl
 | 8, g, _, h => by obtain ⟨x, rfl⟩ := cV (h (by decide)); rfl
 | 9, g, _, h => by obtain ⟨x, rfl⟩ := cV (h (by decide)); rfl
 | 10, g, _, _ => rfl
 | 11, g, _, h => by obtain ⟨x, rfl⟩ := cV (h (by decide)); rfl
 | 12, g, _, h => by obtain ⟨x, rfl⟩ := cV (h (by decide)); rfl
 | 13, g, _, h => by obtain ⟨x, rfl⟩ := cV (h (by decide)); rfl
 | 14, g, _, h => by obtain ⟨x, rfl⟩ := cV (h (by decide)); rfl
 | 15, g, _, h => by obtain ⟨x, rfl⟩ := cV (h (by decide)); rfl
 | 16, g, _, h => by rw [len0 (h (by decide))]; rfl
 | 17, g, _, h => by rw [len0 (h (by decide))]; rfl
 | 18, g, _, h => by rw [len0 (h (by decide))]; rfl
 | 19, g, _, h => by rw [len0 (h (by decide))]; rfl
 | 20, g, _, h => by rw [len0 (h (by decide))]; rfl
 | 21, g, _, h => by rw [len0 (h (by decide))]; rfl
 | 22, g, _, h => by rw [len0 (h (by decide))]; rfl
 | 23, g, _, h => by rw [len0 (h (by decide))]; rfl
 | 24, g, _, h => by rw [len0 (h (by decide))]; rfl
 | 25, g, _, h => by rw [len0 (h (by decide))]; rfl
 | 26, g, _, h => by rw [len0 (h (by decide))]; rfl
 | 27, g, _, h => by rw [len0 (h (by decide))]; rfl
 | 28, g, _, h => by rw [len0 (h (by decide))]; rfl
 | 29, g, _, h => by rw [len0 (h (by decide))]; rfl
 | 30, g, _, h => by rw [len0 (h (by decide))]; rfl
 | 31, g, _, h => by rw [len0 (h (by decide))]; rfl
 | 32, g, _, h => by obtain ⟨x, rfl⟩ := cV (h (by decide)); rfl
 | 33, g, _, h => by rw [len0 (h (by decide))]; rfl
 | 34, g, _, h => by rw [len0 (h (by decide))]; rfl
 | 35, g, _, h => by rw [len0 (h (by decide))]; rfl
 | 36, g, _, h => by rw [len0 (h (by decide))]; rfl
 | 37, g, _, h => by rw [len0 (h (by decide))]; rfl
 | 38, g, _, h => by obtain ⟨x, y, rfl⟩ := cN (h (by decide)); rfl
 | 39, g, _, h => by rw [len0 (h (by decide))]; rfl
 | 40, g, _, h => by rw [len0 (h (by decide))]; rfl
 | 41, g, _, h => by rw [len0 (h (by decide))]; rfl
 | 42, g, _, h => by obtain ⟨x, y, rfl⟩ := cN (h (by decide)); rfl
 | 43, g, _, h => by obtain ⟨x, y, rfl⟩ := cN (h (by decide)); rfl
 | 44, g, _, h => by rw [len0 (h (by decide))]; rfl
 | 45, g, _, h => by rw [len0 (h (by decide))]; rfl
 | 46, g, _, h => by rw [len0 (h (by decide))]; rfl
 | 47, g, _, h => by rw [len0 (h (by decide))]; rfl
 | n + 48, g, h, _ => by omega
structure DT (l : List Nat) (ds : List kO) : Prop where
 flat : l = ds.flatMap jk
 ok : ∀ d ∈ ds, okC d
 may : KzkNeutral.may none (ds.map encC) = true
 row : ∀ d ∈ ds, d.1 = 10 -> d.2.length <= 8
 ans : PyKzk.answers (ci l) = PyFlat.told (PyFlat.played KzkNeutral.step none (ds.map encC))
 short : (PyKzk.answers (ci l)).length <= 10000000
theorem DN {l : List Nat} (h : PyKzk.answers_asked (ci l) = true) : ∃ ds, DT l ds := by
 unfold PyKzk.answers_asked at h
 cases hc : PyFlat.calls PyKzk.shape (ci l).length (ci l) with
 | none => rw [hc] at h; cases h
 | some raw =>
  rw [hc] at h
  simp only [zBg] at h
  obtain ⟨⟨⟨⟨_, _⟩, _⟩, bu⟩, tj⟩ := h
  obtain ⟨e1, e2⟩ := PyFlat.put_calls _ _ _ hc
  have hn : ∀ x ∈ PyFlat.put raw, 0 <= x := by
   rw [← e1]
   intro x hx
   obtain ⟨y, _, rfl⟩ := zAq.mp hx
   omega
  obtain ⟨ds, d1, d2, d3⟩ := rn raw e2 hn
  have hw : raw.map PyKzk.whole = raw := by
   have : raw.map PyKzk.whole = raw.map id := List.map_congr_left fun c hc => by
    rw [d2] at hc
    obtain ⟨d, hd, rfl⟩ := zAq.mp hc
    exact zq d.1 d.2 (d1 d hd).1 (d1 d hd).2
   rw [this, List.map_id]
  rw [hw] at bu
  unfold KzkNeutral.asked at bu
  simp only [zBg] at bu
  obtain ⟨⟨_, gI⟩, mL⟩ := bu
  have ts : PyKzk.answers (ci l) = PyFlat.told (PyFlat.played KzkNeutral.step none (ds.map encC)) := by
   unfold PyKzk.answers PyKzk.calls
   rw [hc]
   show PyFlat.told (PyFlat.played KzkNeutral.step KzkNeutral.start (raw.map PyKzk.whole)) = _
   rw [hw, d2]; rfl
  refine ⟨ds, ⟨Dy (by rw [e1, d3]), d1, by rw [← d2]; exact mL, fun d hd h10 => ?_, ts, ?_⟩⟩
  ·have := zBa.mp gI (encC d) (by rw [d2]; exact zAq.mpr ⟨d, hd, rfl⟩)
   unfold encC at this
   rw [if_pos h10] at this
   have this : KzkNeutral.row (ci d.2) = true := this
   unfold KzkNeutral.row at this
   rw [zBg] at this
   have h8 := zAe this.2
   unfold ci at h8
   rw [zAa] at h8
   exact h8
  ·unfold PyFlat.short at tj
   exact zAe tj
end TM
namespace TM
open Kzk (Board Hall Call)
def Sign (b : Board) (r : Option Board × Kzk1.Ans) : Prop := (r.1 = none /\ r.2.value < 0) \/ ∃ t, r.1 = some t /\ 0 <= r.2.value /\ t.n = b.n
theorem bQ (b : Board) {v : Int} (h : v < 0) : Sign b (none, Kzk1.say v) := .inl ⟨rfl, h⟩
theorem eS (b : Board) (j r : Nat) : Sign b (Kzk.setRule b j r) := .inr ⟨_, rfl, Int.natCast_nonneg _, rfl⟩
theorem iN (b : Board) : ∀ c : Call, Kzk.isChange c = true -> Sign b (Kzk.change b c)
 | .rule j r, _ => by
  show Sign b (if _ then _ else if _ then _ else _)
  split
  ·exact bQ b (by decide)
  ·split
   ·exact bQ b (by decide)
   ·exact eS b _ _
 | .like j i, _ => by
  show Sign b (if _ then _ else _)
  split
  ·exact bQ b (by decide)
  ·exact eS b _ _
 | .against j i, _ => by
  show Sign b (if _ then _ else _)
  split
  ·exact bQ b (by decide)
  ·exact eS b _ _
 | .both j i k, _ => by
  show Sign b (if _ then _ else _)
  split
  ·exact bQ b (by decide)
  ·exact eS b _ _
 | .either j i k, _ => by
  show Sign b (if _ then _ else _)
  split
  ·exact bQ b (by decide)
  ·exact eS b _ _
 | .always j v, _ => by
  show Sign b (if _ then _ else if _ then _ else _)
  split
  ·exact bQ b (by decide)
  ·split
   ·exact bQ b (by decide)
   ·exact eS b _ _
 | .flag j v, _ => by
  show Sign b (if _ then _ else if _ then _ else if _ then _ else _)
  split
  ·exact bQ b (by decide)
  ·split
   ·exact bQ b (by decide)
   ·split
    ·exact bQ b (by decide)
    ·exact .inr ⟨_, rfl, Int.natCast_nonneg _, rfl⟩
 | .hold j, _ => by
  show Sign b (if _ then _ else if _ then _ else _)
  split
  ·exact bQ b (by decide)
  ·split
   ·exact bQ b (by decide)
   ·exact .inr ⟨_, rfl, Int.natCast_nonneg _, rfl⟩
 | .free j, _ => by
  show Sign b (if _ then _ else if _ then _ else _)
  split
  ·exact bQ b (by decide)
  ·split
   ·exact bQ b (by decide)
   ·exact .inr ⟨_, rfl, Int.natCast_nonneg _, rfl⟩
 | .order l, _ => by
  show Sign b (if _ then _ else _)
  split
  ·exact bQ b (by decide)
  ·exact .inr ⟨_, rfl, Int.le_refl _, rfl⟩
 | .step k, _ => by
  show Sign b (if _ then _ else _)
  split
  ·exact bQ b (by decide)
  ·exact .inr ⟨_, rfl, Int.natCast_nonneg _, rfl⟩
 | .pass k, _ => by
  show Sign b (if _ then _ else _)
  split
  ·exact bQ b (by decide)
  ·exact .inr ⟨_, rfl, Int.natCast_nonneg _, rfl⟩
 | .act j, _ => by
  show Sign b (if _ then _ else _)
  split
  ·exact bQ b (by decide)
  ·exact .inr ⟨_, rfl, Int.natCast_nonneg _, rfl⟩
 | .settle k, _ => by
  show Sign b (if _ then _ else _)
  split
  ·exact bQ b (by decide)
  ·exact .inr ⟨_, rfl, Int.natCast_nonneg _, rfl⟩
theorem vH (h : Hall) (c : Call) (hc : Kzk.isChange c = true) : Kzk.does h c = match Kzk.change h.now c with
  | (none, a) => (h, a)
  | (some t, a) => (⟨t, (h.now :: h.past).take 20, []⟩, a) := by
 cases c <;> first | rfl | (exact absurd hc Bool.false_ne_true)
theorem zb (h : Hall) (c : Call) (hc : Kzk.isChange c = true) : Kzk.does h c = (if 0 <= (Kzk.change h.now c).2.value then ⟨(Kzk.change h.now c).1.getD h.now, (h.now :: h.past).take 20, []⟩ else ⟨(Kzk.change h.now c).1.getD h.now, h.past, h.ahead⟩, (Kzk.change h.now c).2) := by
 rw [vH h c hc]
 rcases iN h.now c hc with ⟨h1, h2⟩ | ⟨t, h1, h2, _⟩
 ·generalize Kzk.change h.now c = r at *
  obtain ⟨r1, r2⟩ := r
  have h1 : r1 = none := h1
  subst h1
  rw [if_neg (by show ¬ 0 <= r2.value; have h2 : r2.value < 0 := h2; omega)]; rfl
 ·generalize Kzk.change h.now c = r at *
  obtain ⟨r1, r2⟩ := r
  have h1 : r1 = some t := h1
  subst h1
  rw [if_pos h2]; rfl
theorem Fl (l : List Nat) : KzkNeutral.natsOf (ci l) = l := by
 unfold KzkNeutral.natsOf ci
 rw [zAw]
 have : l.map (Int.toNat ∘ fun x : Nat => (x : Int)) = l.map id := List.map_congr_left fun x _ => by simp
 rw [this, List.map_id]
end TM
namespace TW
open PySem PySem.Spec PyProof.Rows L2
theorem zf (s j : Nat) : decide ((s / 2 ^ j) &&& 1 = 1) = Kzk1.bit s j := by
 unfold Kzk1.bit
 rw [Nat.and_one_is_mod, zCo]
 simp
theorem ft (s j : Nat) : Kzk1.bit s j = s.testBit j := by
 unfold Kzk1.bit
 rw [Nat.testBit_eq_decide_div_mod_eq]
 cases h : decide (s / 2 ^ j % 2 = 1)
 ·simpa using h
 ·simpa using h
def ones (s : Nat) : Nat := if h : s = 0 then 0 else s % 2 + ones (s / 2)
termination_by s
decreasing_by omega
theorem qP (s : Nat) (h : ¬ s = 0) : ones s = s % 2 + ones (s / 2) := by
 rw [ones, dif_neg h]
section
variable {P : Program} {w : World} {K : PySem.W.Frag} {mg : Str -> Option Value} {base : Heap} {C : Addr}
def nk (K : PySem.W.Frag) (C : Addr) : Sp := fun vs H Q _ => vs.length = 1 /\ ∃ n : Nat, vs = [nv n] /\ n <= 1000 /\ Q (nv (2 ^ n)) H
abbrev aP : KK := fun P w K mg b C => Cal P w K mg b "state_count" 1 ["n"] (nk K C)
theorem n0 (F : Fa K mg "state_count" (top 7)) (T : Txt K mg C) : aP P w K mg base C := by
 refine okF ["n"] F fun nd f cdv A outer s0 H vs Q E hr h => ?_
 obtain ⟨_, n, rfl, hn, k⟩ := h
 refine ⟨_, (ab (af (aZ kl (ai 1) (pv 0)))), ?_⟩
 exact ⟨_, rfl, _, rfl, rfl, zAn hn (by decide), k⟩
def Bv (K : PySem.W.Frag) (C : Addr) : Sp := fun vs H Q _ => vs.length = 2 /\ ∃ s j : Nat, vs = [nv s, nv j] /\ Q (.bl (Kzk1.bit s j)) H
abbrev dQ : KK := fun P w K mg b C => Cal P w K mg b "is_up" 1 ["state", "j"] (Bv K C)
theorem Cq (F : Fa K mg "is_up" (top 8)) (T : Txt K mg C) : dQ P w K mg base C := by
 refine okF ["state", "j"] F fun nd f cdv A outer s0 H vs Q E hr h => ?_
 obtain ⟨_, s, j, rfl, k⟩ := h
 refine ⟨_, (ab (af (ec dq (aZ ll (aZ wZ (pv 0) (pv 1)) (ai 1)) (ai 1)))), ?_⟩
 refine ⟨_, rfl, _, rfl, _, _, rfl, rfl, _, _, rfl, rfl, _, _, rfl, rfl, ?_⟩
 rw [← zf] at k
 exact k
def wu (K : PySem.W.Frag) (C : Addr) : Sp := fun vs H Q _ => vs.length = 2 /\ ∃ s j : Nat, vs = [nv s, nv j] /\ j <= 1000 /\ Q (nv (s ||| 2 ^ j)) H
abbrev iY : KK := fun P w K mg b C => Cal P w K mg b "with_up" 1 ["state", "j"] (wu K C)
theorem w8 (F : Fa K mg "with_up" (top 9)) (T : Txt K mg C) : iY P w K mg base C := by
 refine okF ["state", "j"] F fun nd f cdv A outer s0 H vs Q E hr h => ?_
 obtain ⟨_, s, j, rfl, hj, k⟩ := h
 refine ⟨_, (ab (af (aZ uU (pv 0) (aZ kl (ai 1) (pv 1))))), ?_⟩
 exact ⟨_, rfl, _, rfl, _, rfl, rfl, zAn hj (by decide), _, _, rfl, rfl, k⟩
def zB (K : PySem.W.Frag) (C : Addr) : Sp := fun vs H Q _ => vs.length = 2 /\ ∃ s j : Nat, vs = [nv s, nv j] /\ j <= 1000 /\ Q (nv (s ^^^ 2 ^ j)) H
abbrev d5 : KK := fun P w K mg b C => Cal P w K mg b "turned" 1 ["state", "j"] (zB K C)
theorem Ae (F : Fa K mg "turned" (top 10)) (T : Txt K mg C) : d5 P w K mg base C := by
 refine okF ["state", "j"] F fun nd f cdv A outer s0 H vs Q E hr h => ?_
 obtain ⟨_, s, j, rfl, hj, k⟩ := h
 refine ⟨_, (ab (af (aZ wY (pv 0) (aZ kl (ai 1) (pv 1))))), ?_⟩
 exact ⟨_, rfl, _, rfl, _, rfl, rfl, zAn hj (by decide), _, _, rfl, rfl, k⟩
def ui (K : PySem.W.Frag) (C : Addr) : Sp := fun vs H Q _ => vs.length = 1 /\ ∃ s : Nat, vs = [nv s] /\ Q (nv (ones s)) H
abbrev dg : KK := fun P w K mg b C => Cal P w K mg b "up_count" 1 ["state"] (ui K C)
theorem uV (F : Fa K mg "up_count" (top 11)) (T : Txt K mg C) : dg P w K mg base C := by
 refine okF ["state", "rest", "found"] F fun nd f cdv A outer s0 H vs Q E hr h => ?_
 obtain ⟨_, s, rfl, k⟩ := h
 refine ⟨_, (aa (st 1 nd (pv 0))
   (aa (st 2 nd (ai 0))
   (aa (dX PassesOwn.never (tc gb (pv 1) (ai 0)) (aa (iu (i := 2) nd rfl (Or.inl rfl) (aZ ll (pv 1) (ai 1)) fJ)
   (ab (st 1 nd (aZ wZ (pv 1) (ai 1))))))
   (ab (af (pv 2)))))), ?_⟩
 refine ⟨_, rfl, ?_⟩
 refine t9 (fun σ H' => H' = H /\ ∃ r f : Nat, σ = [some (nv s), some (nv r), some (nv f)] /\ f + ones r = ones s) (fun σ _ => match σ with | [_, some (.int r), _] => r.toNat | _ => 0) ⟨rfl, s, 0, rfl, Nat.zero_add _⟩ ?_ ?_
 ·rintro σ H' ⟨rfl, r, f, rfl, e⟩
  refine ⟨_, rfl, _, _, rfl, rfl, _, rfl, aJ (fun hc => ?_) (fun hc => ?_)⟩
  ·have hc : 0 < r := zAe hc
   refine ⟨_, rfl, _, rfl, _, _, rfl, rfl, _, _, rfl, rfl, _, rfl, _, _, rfl, rfl, ⟨rfl, _, _, rfl, ?_⟩, ?_⟩
   ·show f + (r &&& 1) + ones (r / 2 ^ 1) = ones s
    rw [← e, qP r (by omega), Nat.and_one_is_mod, Nat.pow_one]; omega
   ·show ((r / 2 ^ 1 : Nat) : Int).toNat < ((r : Nat) : Int).toNat
    rw [Nat.pow_one]; omega
  ·have hc : ¬ 0 < r := fun z => hc (zAf z)
   have e0 : r = 0 := by omega
   subst e0
   refine ⟨_, rfl, ?_⟩
   have : f = ones s := by rw [← e, ones, dif_pos rfl]; rfl
   rw [this]; exact k
 ·intro σ H' Q1 Q2 hm q
  obtain ⟨v, e1, i, j, e2, e3, c, e4, q⟩ := q
  exact ⟨v, e1, i, j, e2, e3, c, e4, hm _ _ q⟩
def pG (K : PySem.W.Frag) (C : Addr) : Sp := fun vs H Q _ => vs.length = 1 /\ ∃ n : Nat, vs = [nv n] /\ n <= 4 /\ Q (nv (2 ^ 2 ^ n)) H
theorem aT {n : Nat} (h : n <= 4) : 2 ^ n <= 16 := zCp (by decide) h
abbrev eI : KK := fun P w K mg b C => Cal P w K mg b "rule_count" 2 ["n"] (pG K C)
theorem pY (F : Fa K mg "rule_count" (top 12)) (T : Txt K mg C) (aD : aP P w K mg base C) : eI P w K mg base C := by
 refine okF ["n"] F fun nd f cdv A outer s0 H vs Q E hr h => ?_
 obtain ⟨_, n, rfl, hn, k⟩ := h
 refine ⟨_, (ab (af (aZ kl (ai 1) (au aD hr rfl (a1 (pv 0)))))), ?_⟩
 exact ⟨_, rfl, rfl, _, rfl, zAn hn (by decide), _, rfl, rfl, zAn (aT hn) (by decide), k⟩
def nz (K : PySem.W.Frag) (C : Addr) : Sp := fun vs H Q _ => vs.length = 2 /\ ∃ n v : Nat, vs = [nv n, nv v] /\ n <= 4 /\ Q (nv (if v = 1 then 2 ^ 2 ^ n - 1 else 0)) H
abbrev cY : KK := fun P w K mg b C => Cal P w K mg b "always_rule" 3 ["n", "v"] (nz K C)
theorem oi (F : Fa K mg "always_rule" (top 13)) (T : Txt K mg C) (gN : eI P w K mg base C) : cY P w K mg base C := by
 refine okF ["n", "v"] F fun nd f cdv A outer s0 H vs Q E hr h => ?_
 obtain ⟨_, n, v, rfl, hn, k⟩ := h
 refine ⟨_, (aa (aA (tc dq (pv 1) (ai 1)) (ab (af (aZ rX (au gN hr rfl (a1 (pv 0))) (ai 1)))) aj)
   (ab (af (ai 0)))), ?_⟩
 refine ⟨_, rfl, _, _, rfl, rfl, _, rfl, aJ (fun hc => ?_) (fun hc => ?_)⟩
 ·rw [if_pos (zAe hc)] at k
  exact ⟨_, rfl, rfl, _, rfl, hn, _, _, rfl, rfl, Nat.one_le_two_pow, k⟩
 ·rw [if_neg (fun z => hc (zAf z))] at k
  exact k
theorem foldl_add : ∀ (l : List Nat) (a : Nat), l.foldl (· + ·) a = a + l.sum
 | [], a => by simp
 | x :: l, a => by rw [zCb, foldl_add l, List.sum_cons, Nat.add_assoc]
theorem wo (l : List Nat) : Kzk1.sum l = l.sum := by unfold Kzk1.sum; rw [foldl_add, Nat.zero_add]
theorem sum_filter (p : Nat -> Bool) (f : Nat -> Nat) : ∀ l : List Nat, (((l.filter p).map f).map (fun x : Nat => (x : Int))).sum = (((l.map fun s => if p s then f s else 0).sum : Nat) : Int)
 | [] => rfl
 | x :: l => by
  have ih := sum_filter p f l
  rw [List.map_cons, List.sum_cons, zBd]
  by_cases h : p x = true
  ·rw [if_pos h, if_pos h, List.map_cons, List.map_cons, List.sum_cons, ih]; omega
  ·rw [if_neg h, if_neg h, ih]; omega
def rE (K : PySem.W.Frag) (C : Addr) : Sp := fun vs H Q _ => vs.length = 2 /\ ∃ n i : Nat, vs = [nv n, nv i] /\ n <= 4 /\ ∀ H', az H H' -> Q (nv (Kzk.keeps n i)) H'
abbrev cP : KK := fun P w K mg b C => Cal P w K mg b "like_rule" 2 ["n", "i"] (rE K C)
theorem sk (F : Fa K mg "like_rule" (top 14)) (T : Txt K mg C) (aD : aP P w K mg base C) (cp : dQ P w K mg base C) : cP P w K mg base C := by
 refine okF ["n", "i", "state"] F fun nd f cdv A outer s0 H vs Q E hr h => ?_
 obtain ⟨_, n, i, rfl, hn, k⟩ := h
 have h16 := aT hn
 refine ⟨_, (ab (af (cb (JX K) T.Kx IQ (lf 2 nd (r1 T (au aD hr rfl (a1 (pv 0)))) (cn (aM (au cp hr rfl (a2 (pv 2) (pv 1))))) (aZ kl (ai 1) (pv 2)))))), ?_⟩
 refine ⟨_, rfl, rfl, _, rfl, zAn hn (by decide), _, rfl, a8 _, a9 (zAn h16 (by decide)), fun D hD => ?_⟩
 rw [zAl]
 refine bR (fun s => Kzk1.bit s i) (fun s => nv (2 ^ s)) hD (zAn h16 (by decide)) (fun s H2 hs s2 R R' h1 h2 => ?_) (fun H2 s2 hH => ?_)
 ·refine ⟨rfl, _, rfl, _, rfl, rfl, _, _, rfl, _, rfl, aJ (fun hc => ?_) (fun hc => ?_)⟩
  ·exact ⟨_, rfl, _, rfl, rfl, by omega, h1 hc _ (az.refl _)⟩
  ·exact h2 (by simpa using hc) _ (az.refl _)
 ·have e : (((List.range (2 ^ n)).filter (fun s => Kzk1.bit s i)).map fun s => nv (2 ^ s)) = ((((List.range (2 ^ n)).filter (fun s => Kzk1.bit s i)).map fun s => 2 ^ s).map fun x : Nat => (x : Int)).map V.int := by
   rw [zAw, zAw]; rfl
  refine ⟨D, _, rfl, .inl (.inl (hH.trans (congrArg (fun z => some (HO.lst z)) e))), ?_⟩
  rw [sum_filter]
  have := k H2 s2
  unfold Kzk.keeps Kzk1.states at this
  rw [wo] at this
  exact this
def wy (K : PySem.W.Frag) (C : Addr) : Sp := fun vs H Q _ => vs.length = 2 /\ ∃ s j : Nat, vs = [nv s, nv j] /\ Q (.bl (Kzk1.bit s j)) H
abbrev gh : KK := fun P w K mg b C => Cal P w K mg b "says_up" 1 ["rule", "state"] (wy K C)
theorem w9 (F : Fa K mg "says_up" (top 15)) (T : Txt K mg C) : gh P w K mg base C := by
 refine okF ["rule", "state"] F fun nd f cdv A outer s0 H vs Q E hr h => ?_
 obtain ⟨_, s, j, rfl, k⟩ := h
 refine ⟨_, (ab (af (ec dq (aZ ll (aZ wZ (pv 0) (pv 1)) (ai 1)) (ai 1)))), ?_⟩
 refine ⟨_, rfl, _, rfl, _, _, rfl, rfl, _, _, rfl, rfl, _, _, rfl, rfl, ?_⟩
 rw [← zf] at k
 exact k
def mx (K : PySem.W.Frag) (C : Addr) : Sp := fun vs H Q _ => vs.length = 3 /\ ∃ (a : Addr) (rs : List Nat) (s j : Nat), vs = [.ref a, nv s, nv j] /\ NL K H a rs /\ j < rs.length /\ Q (.bl (Kzk1.isUp rs j s != Kzk1.bit s j)) H
abbrev dv : KK := fun P w K mg b C => Cal P w K mg b "would_change" 2 ["rules", "state", "j"] (mx K C)
theorem mH (F : Fa K mg "would_change" (top 18)) (T : Txt K mg C) (eY : gh P w K mg base C) (cp : dQ P w K mg base C) : dv P w K mg base C := by
 refine okF ["rules", "state", "j"] F fun nd f cdv A outer s0 H vs Q E hr h => ?_
 obtain ⟨_, a, rs, s, j, rfl, hS, hj, k⟩ := h
 refine ⟨_, (ab (af (ec JN (au eY hr rfl (a2 (ix K (pv 0) (pv 2)) (pv 1))) (au cp hr rfl (a2 (pv 1) (pv 2)))))), ?_⟩
 exact ⟨_, rfl, _, rfl, _, _, _, _, rfl, rfl, hS, aQ hj, _, rfl, rfl, _, _, rfl, _, rfl, _, rfl, rfl, _, _, rfl, _, _, rfl, rfl, k⟩
theorem ym : ∀ (i j : Nat), i + j = (i ||| j) + (i &&& j) := by
 intro i
 induction i using Nat.strongRecOn with
 | _ i ih =>
  intro j
  by_cases h : i = 0
  ·subst h; simp
  ·have h1 := ih (i / 2) (by omega) (j / 2)
   rw [← Nat.or_div_two, ← Nat.and_div_two] at h1
   have a1 := @Nat.or_mod_two_eq_one i j
   have a3 := @Nat.and_mod_two_eq_one i j
   generalize i ||| j = A at *
   generalize i &&& j = C at *
   have b1 := Nat.mod_two_eq_zero_or_one i
   have b2 := Nat.mod_two_eq_zero_or_one j
   clear ih
   rcases b1 with b1 | b1 <;> rcases b2 with b2 | b2 <;> rw [b1, b2] at a1 a3 <;> simp at a1 a3 <;> omega
theorem zm (s j : Nat) : s &&& 2 ^ j = if s.testBit j = true then 2 ^ j else 0 := by
 apply zCm
 intro i
 rw [zCk, Nat.testBit_two_pow]
 by_cases h : j = i
 ·subst h
  cases h2 : s.testBit j <;> simp
 ·cases h2 : s.testBit j <;> simp [h, Nat.testBit_two_pow]
theorem iR (s j : Nat) : s ^^^ 2 ^ j = if Kzk1.bit s j then s - 2 ^ j else s + 2 ^ j := by
 have h1 := ju s (2 ^ j)
 have h2 := ym s (2 ^ j)
 have h3 := zm s j
 rw [ft]
 cases h : s.testBit j
 ·rw [h] at h3; simp at h3 ⊢; omega
 ·rw [h] at h3; simp at h3 ⊢; omega
theorem rW (t : List Nat) (s j : Nat) : Kzk3.one t s j = if (Kzk1.isUp t j s != Kzk1.bit s j) = true then s ^^^ 2 ^ j else s := by
 unfold Kzk3.one
 rw [iR]
 cases Kzk1.isUp t j s <;> cases Kzk1.bit s j <;> simp
def pO (K : PySem.W.Frag) (C : Addr) : Sp := fun vs H Q _ => vs.length = 3 /\ ∃ (a : Addr) (rs : List Nat) (s j : Nat), vs = [.ref a, nv s, nv j] /\ NL K H a rs /\ j < rs.length /\ rs.length <= 4 /\ Q (nv (Kzk3.one rs s j)) H
abbrev eO : KK := fun P w K mg b C => Cal P w K mg b "behind_act" 3 ["rules", "state", "j"] (pO K C)
theorem qf (F : Fa K mg "behind_act" (top 19)) (T : Txt K mg C) (fk : dv P w K mg base C) (cQ : d5 P w K mg base C) : eO P w K mg base C := by
 refine okF ["rules", "state", "j"] F fun nd f cdv A outer s0 H vs Q E hr h => ?_
 obtain ⟨_, a, rs, s, j, rfl, hS, hj, hl, k⟩ := h
 refine ⟨_, (aa (aA (aM (au fk hr rfl (a3 (pv 0) (pv 1) (pv 2)))) (ab (af (au cQ hr rfl (a2 (pv 1) (pv 2))))) aj)
   (ab (af (pv 1)))), ?_⟩
 rw [rW] at k
 refine ⟨_, rfl, _, rfl, _, rfl, rfl, _, _, _, _, rfl, hS, hj, _, rfl, aJ (fun hc => ?_) (fun hc => ?_)⟩
 ·rw [if_pos hc] at k
  exact ⟨_, rfl, _, rfl, rfl, _, _, rfl, by omega, k⟩
 ·rw [if_neg hc] at k
  exact ⟨_, rfl, k⟩
theorem take_snoc {α : Type} {l : List α} {i : Nat} {x : α} (h : l[i]? = some x) : l.take (i + 1) = l.take i ++ [x] := by
 obtain ⟨h1, h2⟩ := zAd.mp h
 rw [List.take_succ, h]; rfl
theorem tu {l : List Nat} {i : Nat} {y : V} (h : (l.map nv)[i]? = some y) : ∃ z, l[i]? = some z /\ y = nv z := by
 rw [zAh] at h
 cases e : l[i]? with
 | none => rw [e] at h; cases h
 | some z => rw [e] at h; exact ⟨z, rfl, (zBl h).symm⟩
def nu (K : PySem.W.Frag) (C : Addr) : Sp := fun vs H Q _ => vs.length = 3 /\ ∃ (a b : Addr) (rs os : List Nat) (s : Nat), vs = [.ref a, nv s, .ref b] /\ NL K H a rs /\ NL K H b os /\ (∀ j ∈ os, j < rs.length) /\ rs.length <= 4 /\ Q (nv (Kzk3.pass rs os s)) H
abbrev cH : KK := fun P w K mg b C => Cal P w K mg b "behind_pass" 4 ["rules", "state", "order"] (nu K C)
theorem oh (F : Fa K mg "behind_pass" (top 20)) (T : Txt K mg C) (gU : eO P w K mg base C) : cH P w K mg base C := by
 refine okF ["rules", "state", "order", "now", "j"] F fun nd f cdv A outer s0 H vs Q E hr h => ?_
 obtain ⟨_, a, b, rs, os, s, rfl, hS, hO, hj, hl, k⟩ := h
 refine ⟨_, (aa (st 3 nd (pv 1))
   (aa (fo 4 nd (bz (pv 2)) (ab (st 3 nd (au gU hr rfl (a3 (pv 0) (pv 3) (pv 4))))))
   (ab (af (pv 3))))), ?_⟩
 refine ⟨_, rfl, _, rfl, b, rfl, ⟨_, hO⟩, fh (K := K) (a := b) (xs := os.map nv) (fun i σ H' => H' = H /\ ∃ v, σ = [some (.ref a), some (nv s), some (.ref b), some (nv (Kzk3.pass rs (os.take i) s)), v]) ⟨rfl, none, rfl⟩ (fun i σ H' _ ⟨e, _⟩ => by rw [e]; exact hO) ?_ ?_⟩
 ·rintro i y σ H' hi ⟨rfl, v, rfl⟩
  obtain ⟨z, hz, rfl⟩ := tu hi
  refine ⟨_, rfl, _, rfl, _, rfl, rfl, _, _, _, _, rfl, hS, hj z (zAs hz), hl, rfl, some (nv z), ?_⟩
  show [_, _, _, some (nv (Kzk3.one rs (Kzk3.pass rs (os.take i) s) z)), _] = _
  rw [take_snoc hz]
  unfold Kzk3.pass
  rw [zCa]
  rfl
 ·rintro σ H' ⟨rfl, v, rfl⟩
  rw [zAa, List.take_length]
  exact ⟨_, rfl, k⟩
theorem B6 {a j : Nat} (h : a < 2 ^ j) : a ||| 2 ^ j = a + 2 ^ j := by
 have := Nat.two_pow_add_eq_or_of_lt h 1
 rw [Nat.mul_one] at this
 rw [Nat.or_comm, ← this, Nat.add_comm]
theorem iV (p : Nat -> Bool) (i : Nat) : Kzk1.make (i + 1) p = Kzk1.make i p + if p i then 2 ^ i else 0 := by
 unfold Kzk1.make
 rw [wo, wo, List.range_succ, zAp, List.sum_append]
 simp
theorem fH (p : Nat -> Bool) : ∀ i, Kzk1.make i p < 2 ^ i
 | 0 => by unfold Kzk1.make; exact Nat.zero_lt_one
 | i + 1 => by
  have := fH p i
  rw [iV, Nat.pow_succ]
  split <;> omega
def nt (K : PySem.W.Frag) (C : Addr) : Sp := fun vs H Q _ => vs.length = 2 /\ ∃ (a : Addr) (rs : List Nat) (s : Nat), vs = [.ref a, nv s] /\ NL K H a rs /\ rs.length <= 4 /\ Q (nv (Kzk1.next rs.length rs s)) H
abbrev cX : KK := fun P w K mg b C => Cal P w K mg b "behind_step" 2 ["rules", "state"] (nt K C)
theorem og (F : Fa K mg "behind_step" (top 21)) (T : Txt K mg C) (eY : gh P w K mg base C) (lT : iY P w K mg base C) : cX P w K mg base C := by
 refine okF ["rules", "state", "now", "j"] F fun nd f cdv A outer s0 H vs Q E hr h => ?_
 obtain ⟨_, a, rs, s, rfl, hS, hl, k⟩ := h
 refine ⟨_, (aa (st 2 nd (ai 0))
   (aa (fo 3 nd (r1 T (ln T (pv 0))) (ab (aA (aM (au eY hr rfl (a2 (ix K (pv 0) (pv 3)) (pv 1)))) (ab (st 2 nd (au lT hr rfl (a2 (pv 2) (pv 3))))) aj)))
   (ab (af (pv 2))))), ?_⟩
 refine ⟨_, rfl, _, _, rfl, .inl hS, _, rfl, by omega, ?_, ?_⟩
 ·rw [zAa]; omega
 rw [zAl, zAa]
 refine bq (fun i σ H' => H' = H /\ ∃ v, σ = [some (.ref a), some (nv s), some (nv (Kzk1.make i fun j => Kzk1.isUp rs j s)), v]) ⟨rfl, none, rfl⟩ ?_ ?_
 ·rintro i σ H' hi ⟨rfl, v, rfl⟩
  rw [bj]
  refine ⟨_, rfl, _, rfl, _, _, _, _, rfl, rfl, hS, aQ hi, _, rfl, rfl, _, _, rfl, _, rfl, aJ (fun hc => ?_) (fun hc => ?_)⟩
  ·have hc : Kzk1.isUp rs i s = true := hc
   refine ⟨_, rfl, _, rfl, rfl, _, _, rfl, by omega, rfl, some (nv i), ?_⟩
   rw [B6 (fH _ _), iV, if_pos hc]
   rfl
  ·have hc : ¬ Kzk1.isUp rs i s = true := hc
   refine ⟨rfl, some (nv i), ?_⟩
   rw [iV, if_neg hc]
   rfl
 ·rintro σ H' ⟨rfl, v, rfl⟩
  exact ⟨_, rfl, k⟩
def jq (K : PySem.W.Frag) (C : Addr) : Sp := fun vs H Q _ => vs.length = 1 /\ ∃ (a : Addr) (rs : List Nat), vs = [.ref a] /\ NL K H a rs /\ rs.length <= 4 ∧
 ∀ (H' : Hp) (p : Addr), az H H' -> H p = none -> H' p = some (.lst (((List.range (2 ^ rs.length)).map (Kzk1.next rs.length rs)).map nv)) -> Q (.ref p) H'
abbrev aF : KK := fun P w K mg b C => Cal P w K mg b "all_behind_step" 3 ["rules"] (jq K C)
theorem jx (F : Fa K mg "all_behind_step" (top 22)) (T : Txt K mg C) (aD : aP P w K mg base C) (c9 : cX P w K mg base C) : aF P w K mg base C := by
 refine okF ["rules", "state"] F fun nd f cdv A outer s0 H vs Q E hr h => ?_
 obtain ⟨_, a, rs, rfl, hS, hl, k⟩ := h
 have h16 := aT hl
 refine ⟨_, (ab (af (lc 1 nd (r1 T (au aD hr rfl (a1 (ln T (pv 0))))) (au c9 hr rfl (a2 (pv 0) (pv 1)))))), ?_⟩
 refine ⟨_, rfl, _, _, rfl, .inl hS, rfl, _, rfl, ?_, _, rfl, a8 _, a9 ?_, fun D hD => ?_⟩
 ·rw [zAa]; omega
 ·rw [zAa]; omega
 rw [zAl, zAa]
 refine bR (fun _ => true) (fun s => nv (Kzk1.next rs.length rs s)) hD (zAn h16 (by decide)) (fun s H2 hs s2 R R' h1 h2 => ?_) (fun H2 s2 hH => ?_)
 ·exact ⟨rfl, _, rfl, _, rfl, rfl, _, _, _, rfl, s2.seq hS, hl, h1 rfl _ (az.refl _)⟩
 ·refine k _ _ s2 hD ?_
  rw [hH, zAw, filter_all]
  rfl
end
end TW
namespace TW
open PySem PySem.Spec PyProof.Rows L2 TM
theorem cK (l : List Nat) : (l.map nv).all gk = true := zBa.mpr fun x hx => by
 obtain ⟨z, _, rfl⟩ := zAq.mp hx
 rfl
theorem lQ (a b : Nat) : eqV (nv a) (nv b) = decide (a = b) := by
 show ((a : Int) == (b : Int)) = decide (a = b)
 rw [zCo, beq_iff_eq, zBn]
 omega
theorem cx (z : Nat) (l : List Nat) : inV (nv z) (l.map nv) = decide (z ∈ l) := by
 unfold inV
 rw [List.any_map, zCo, zCh, zBn]
 constructor
 ·rintro ⟨x, hx, h⟩
  have h : eqV (nv x) (nv z) = true := h
  rw [lQ, zBn] at h
  rw [← h]; exact hx
 ·intro h
  exact ⟨z, h, by show eqV (nv z) (nv z) = true; rw [lQ]; simp⟩
theorem bo {n : Nat} (h : n <= 1000000) : n < sizeLine := zBi h (by rw [sizeLine_eq]; decide)
theorem bw {n : Nat} (h : n <= 1000000) : n <= sizeLine := zCf (bo h)
theorem zk {l : List Nat} {m : Nat} (h : l.length = m + 1) : atI (l.map nv) (-((1 : Nat) : Int)) = some (nv (l.getD m 0)) := by
 unfold atI ixN
 rw [zAa, h, if_neg (by omega), if_pos (by omega)]
 have e : ((-((1 : Nat) : Int)) + ((m + 1 : Nat) : Int)).toNat = m := by omega
 rw [e]
 show (l.map nv)[m]? = _
 rw [zAh, zAc (by omega), zAb, zAc (by omega)]
 rfl
theorem Dv {l : List V} {k : Nat} (h : k <= l.length) : vK l (some (k : Int)) none = l.drop k := by
 have e : HT.sIx l.length 0 (some (k : Int)) = k := by
  rw [HT.rL]
  omega
 have e2 : HT.sIx l.length l.length none = l.length := by unfold HT.sIx; rfl
 unfold vK
 rw [e, e2, List.take_of_length_le (by rw [List.length_drop]; exact zAt _)]
section
variable {P : Program} {w : World} {K : PySem.W.Frag} {mg : Str -> Option Value} {base : Heap} {C : Addr}
abbrev ff (n : Nat) (rs : List Nat) : List Nat := (List.range (2 ^ n)).map (Kzk1.next n rs)
theorem aR (n : Nat) (rs : List Nat) : (ff n rs).length = 2 ^ n := by rw [zAa, zAr]
theorem bE {n : Nat} (rs : List Nat) {s : Nat} (h : s < 2 ^ n) : (ff n rs).getD s 0 = Kzk1.next n rs s := by
 rw [zAb, zAh, zAc (by simpa using h)]
 simp
abbrev path (n : Nat) (rs : List Nat) (s m : Nat) : List Nat := (List.range m).map fun k => it (Kzk1.next n rs) k s
theorem kh (n : Nat) (rs : List Nat) (s m : Nat) : (path n rs s m).length = m := by rw [zAa, zAr]
theorem zZ (n : Nat) (rs : List Nat) (s m : Nat) : path n rs s (m + 1) = path n rs s m ++ [it (Kzk1.next n rs) m s] := by
 unfold path
 rw [List.range_succ, zAp]; rfl
theorem nW {n : Nat} {rs : List Nat} {s m k : Nat} (h : k < m) : (path n rs s m)[k]? = some (it (Kzk1.next n rs) k s) := by
 rw [zAh, zAc (by simpa using h)]
 simp
theorem ES {n : Nat} {rs : List Nat} {s m k : Nat} (h : k < m) : (path n rs s m).getD k 0 = it (Kzk1.next n rs) k s := by
 rw [zAb, nW h]; rfl
def kW (K : PySem.W.Frag) (C : Addr) : Sp := fun vs H Q _ => vs.length = 2 /\ ∃ (a : Addr) (n s : Nat) (rs : List Nat), vs = [.ref a, nv s] /\ NL K H a (ff n rs) /\ n <= 4 /\ s < 2 ^ n ∧
 ∀ (H' : Hp) (p : Addr) (i m : Nat), az H H' -> H p = none -> Orb (Kzk1.next n rs) s i m -> H' p = some (.lst ((path n rs s m).map nv)) -> Q (.ref p) H'
abbrev df : KK := fun P w K mg b C => Cal P w K mg b "states_passed" 1 ["nexts", "state"] (kW K C)
theorem lp (F : Fa K mg "states_passed" (top 98)) (T : Txt K mg C) : df P w K mg base C := by
 refine okF ["nexts", "state", "passed", "now"] F fun nd f cdv A outer s0 H vs Q E hr h => ?_
 obtain ⟨_, a, n, s, rs, rfl, hS, hn, hs, k⟩ := h
 have h16 := aT hn
 have hlt : ∀ m, it (Kzk1.next n rs) m s < 2 ^ n := cZ (fun x _ => aS n rs x) hs
 refine ⟨_, (aa (st 2 nd (ay bC))
   (aa (st 3 nd (pv 1))
   (aa (dX PassesOwn.never (tc (yU K) (pv 3) (pv 2)) (aa (aX (pbm K zBj zBk bH (pv 2) (a1 (pv 3))))
   (ab (st 3 nd (ix K (pv 0) (pv 3))))))
   (ab (af (pv 2)))))), ?_⟩
 refine ⟨zBf _, fun D hD => ⟨_, rfl, ?_⟩⟩
 refine t9 (fun σ H' => az H H' /\ ∃ m, σ = [some (.ref a), some (nv s), some (.ref D), some (nv (it (Kzk1.next n rs) m s))] /\ H' D = some (.lst ((path n rs s m).map nv)) /\ ∀ a b, a < m -> b < m -> it (Kzk1.next n rs) a s = it (Kzk1.next n rs) b s -> a = b)
  (fun _ H' => match H' D with | some (.lst xs) => 2 ^ n - xs.length | _ => 0) ⟨aq hD, 0, rfl, ae, fun a b h => absurd h (zBq _)⟩ ?_ ?_
 ·rintro σ H' ⟨s1, m, rfl, hP, d⟩
  have hm : m <= 2 ^ n := tO d (fun x _ => aS n rs x) hs
  refine ⟨_, rfl, _, rfl, _, _, rfl, .inl (.inl (.inl hP)), rfl, cK _, _, rfl, aJ (fun hc => ?_) (fun hc => ?_)⟩
  ·rw [if_pos rfl, cx] at hc
   have hc : it (Kzk1.next n rs) m s ∉ path n rs s m := by simpa using hc
   refine ⟨_, rfl, .inl ⟨rfl, _, .inl (.inl hP)⟩, _, rfl, _, _, _, rfl, rfl, hP, ?_, _, rfl, _, rfl, _, _, _, _, rfl, rfl, (ak s1 hD).seq hS, aQ (by rw [aR]; exact hlt m), ⟨ak s1 hD, m + 1, ?_, ?_, ?_⟩, ?_⟩
   ·rw [zAa, kh]; exact bo (by omega)
   ·rw [bE rs (hlt m)]; rfl
   ·rw [ae, zZ, zAp]; rfl
   ·intro x y hx hy e
    by_cases h1 : x = m
    ·by_cases h2 : y = m
     ·omega
     ·subst h1
      exact absurd (zAq.mpr ⟨y, zAk.mpr (by omega), e.symm⟩) hc
    ·by_cases h2 : y = m
     ·subst h2
      exact absurd (zAq.mpr ⟨x, zAk.mpr (by omega), e⟩) hc
     ·exact d x y (by omega) (by omega) e
   ·rw [ae, hP]
    show 2 ^ n - ((path n rs s m).map nv ++ [nv (it (Kzk1.next n rs) m s)]).length < 2 ^ n - ((path n rs s m).map nv).length
    rw [zAi, zAa, kh]
    have hm2 : m + 1 <= 2 ^ n := by
     refine tO (f := Kzk1.next n rs) (s := s) (m := m + 1) ?_ (fun x _ => aS n rs x) hs
     intro x y hx hy e
     by_cases h1 : x = m
     ·by_cases h2 : y = m
      ·omega
      ·subst h1
       exact absurd (zAq.mpr ⟨y, zAk.mpr (by omega), e.symm⟩) hc
     ·by_cases h2 : y = m
      ·subst h2
       exact absurd (zAq.mpr ⟨x, zAk.mpr (by omega), e⟩) hc
      ·exact d x y (by omega) (by omega) e
    show 2 ^ n - (m + 1) < 2 ^ n - m
    omega
  ·rw [if_pos rfl, cx] at hc
   have hc : it (Kzk1.next n rs) m s ∈ path n rs s m := by simpa using hc
   obtain ⟨i, hi, e⟩ := zAq.mp hc
   refine ⟨_, rfl, ?_⟩
   exact k _ _ i m s1 hD ⟨zAk.mp hi, e.symm, d⟩ hP
 ·intro σ H' Q1 Q2 hm q
  obtain ⟨v, e1, v2, e2, p, xs, e3, e4, e5, e6, c, e7, q⟩ := q
  exact ⟨v, e1, v2, e2, p, xs, e3, e4, e5, e6, c, e7, hm _ _ q⟩
def pE (K : PySem.W.Frag) (C : Addr) : Sp := fun vs H Q _ => vs.length = 2 /\ ∃ (a : Addr) (n s : Nat) (rs : List Nat), vs = [.ref a, nv s] /\ NL K H a (ff n rs) /\ n <= 4 /\ s < 2 ^ n ∧
 ∀ H' : Hp, az H H' -> Q (nv (Kzk1.tail n rs s)) H'
abbrev eG : KK := fun P w K mg b C => Cal P w K mg b "way_length" 2 ["nexts", "state"] (pE K C)
theorem pW (F : Fa K mg "way_length" (top 99)) (T : Txt K mg C) (eA : df P w K mg base C) : eG P w K mg base C := by
 refine okF ["nexts", "state", "passed"] F fun nd f cdv A outer s0 H vs Q E hr h => ?_
 obtain ⟨_, a, n, s, rs, rfl, hS, hn, hs, k⟩ := h
 have hlt : ∀ m, it (Kzk1.next n rs) m s < 2 ^ n := cZ (fun x _ => aS n rs x) hs
 refine ⟨_, (aa (st 2 nd (au eA hr rfl (a2 (pv 0) (pv 1))))
   (ab (af (pbm K PySem.F.slot_list_index PySem.F.type_list_index (yV K) (pv 2) (a1 (ix K (pv 0) (ix K (pv 2) (yI rp (ai 1))))))))), ?_⟩
 refine ⟨_, rfl, _, rfl, rfl, _, _, _, _, rfl, hS, hn, hs, fun H1 p i m s1 hp o hP => ?_⟩
 have hl := o.lt
 obtain ⟨m', rfl⟩ : ∃ m', m = m' + 1 := ⟨m - 1, by omega⟩
 have e1 : (path n rs s (m' + 1)).getD m' 0 = it (Kzk1.next n rs) m' s := ES (zBs _)
 have e2 : (ff n rs).getD ((path n rs s (m' + 1)).getD m' 0) 0 = it (Kzk1.next n rs) i s := by
  rw [e1, bE rs (hlt m')]; exact o.back
 refine ⟨_, rfl, .inl ⟨rfl, _, .inl (.inl hP)⟩, _, rfl, _, rfl, _, rfl, _, _, _, _, rfl, rfl, .inl (.inl hP), zk (kh n rs s (m' + 1)), _, _, _, _, rfl, rfl, s1.seq hS, aQ ?_, _, _, _, i, nv (it (Kzk1.next n rs) i s), rfl, rfl, .inl (.inl hP), rfl, cK _, ?_, ?_, ?_, ?_⟩
 ·rw [e1, aR]; exact hlt m'
 ·rw [zAh, nW hl]; rfl
 ·rw [e2, lQ]; simp
 ·intro b z' hb hz
  rw [zAh, nW (by omega)] at hz
  have hz : nv (it (Kzk1.next n rs) b s) = z' := zBl hz
  rw [← hz, e2, lQ]
  refine zBm fun e => ?_
  have := o.diff b i (by omega) hl e
  omega
 ·have := k H1 s1
  rw [nX o hs] at this
  exact this
def mz (K : PySem.W.Frag) (C : Addr) : Sp := fun vs H Q _ => vs.length = 2 /\ ∃ (a : Addr) (n s : Nat) (rs : List Nat), vs = [.ref a, nv s] /\ NL K H a (ff n rs) /\ n <= 4 /\ s < 2 ^ n ∧
 ∀ (H' : Hp) (p : Addr), az H H' -> H p = none -> H' p = some (.lst ((Kzk1.round n rs s).map nv)) -> Q (.ref p) H'
abbrev cO : KK := fun P w K mg b C => Cal P w K mg b "round_states" 3 ["nexts", "state"] (mz K C)
theorem mJ (F : Fa K mg "round_states" (top 100)) (T : Txt K mg C) (eA : df P w K mg base C) (gM : eG P w K mg base C) : cO P w K mg base C := by
 refine okF ["nexts", "state"] F fun nd f cdv A outer s0 H vs Q E hr h => ?_
 obtain ⟨_, a, n, s, rs, rfl, hS, hn, hs, k⟩ := h
 refine ⟨_, (ab (af (uN (yT K) (au eA hr rfl (a2 (pv 0) (pv 1))) (rS (au gM hr rfl (a2 (pv 0) (pv 1)))) EJ))), ?_⟩
 refine ⟨_, rfl, _, rfl, rfl, _, _, _, _, rfl, hS, hn, hs, fun H1 p i m s1 hp o hP => ?_⟩
 refine ⟨_, rfl, _, rfl, rfl, _, _, _, _, rfl, s1.seq hS, hn, hs, fun H2 s2 => ⟨_, rfl, _, _, rfl, .inl (.inl (s2 _ _ hP)), fun q hq => ?_⟩⟩
 refine k _ _ (ak (s1.trans s2) ((s1.trans s2).free hq)) ((s1.trans s2).free hq) ?_
 have hl := o.lt
 rw [ae, nX o hs, Dv (by rw [zAa, kh]; omega), ← List.map_drop, iT o hs]
end
end TW
namespace TW
open PySem PySem.Spec PyProof.Rows L2 TM
def gj (n : Nat) (rs : List Nat) (h v i : Nat) : List Nat := (List.range n).map fun j => if (decide (j < i) && Kzk1.bit h j) = true then (if Kzk1.bit v j then 2 ^ 2 ^ n - 1 else 0) else rs.getD j 0
theorem eW (n : Nat) (rs : List Nat) (h v i : Nat) : (gj n rs h v i).length = n := by unfold gj; simp
theorem xU (rs : List Nat) (h v : Nat) : gj rs.length rs h v 0 = rs := by
 apply List.ext_getElem (eW _ _ _ _ _)
 intro i h1 h2
 unfold gj
 simp [h2]
theorem AF (n : Nat) (rs : List Nat) (h v : Nat) : gj n rs h v n = Kzk5.held n rs h v := by
 unfold gj Kzk5.held
 apply List.map_congr_left
 intro j hj
 have := zAk.mp hj
 simp [this]
theorem C3 {n : Nat} (rs : List Nat) {h v i : Nat} (hb : Kzk1.bit h i = false) : gj n rs h v (i + 1) = gj n rs h v i := by
 unfold gj
 apply List.map_congr_left
 intro j hj
 by_cases e : j = i
 ·subst e; rw [hb]; simp
 ·have : decide (j < i + 1) = decide (j < i) := by apply decide_eq_decide.mpr; omega
  rw [this]
theorem qX {n : Nat} (rs : List Nat) {h v i : Nat} (hi : i < n) (hb : Kzk1.bit h i = true) : gj n rs h v (i + 1) = (gj n rs h v i).set i (if Kzk1.bit v i then 2 ^ 2 ^ n - 1 else 0) := by
 apply List.ext_getElem (by rw [List.length_set, eW, eW])
 intro j h1 h2
 rw [eW] at h1
 rw [List.getElem_set]
 unfold gj
 by_cases e : i = j
 ·subst e; simp [hb]
 ·have : (j < i + 1) = (j < i) := propext (by omega)
  simp [e, this]
theorem xR {n j : Nat} (h : j < n) : ixN n (j : Int) = some j := by
 unfold ixN
 rw [if_pos (by omega), if_pos (by omega)]; rfl
section
variable {P : Program} {w : World} {K : PySem.W.Frag} {mg : Str -> Option Value} {base : Heap} {C : Addr}
def pI (K : PySem.W.Frag) (C : Addr) : Sp := fun vs H Q _ => vs.length = 3 /\ ∃ (a : Addr) (rs : List Nat) (h s : Nat), vs = [.ref a, nv h, nv s] /\ NL K H a rs /\ rs.length <= 4 ∧
 ∀ (H' : Hp) (p : Addr), az H H' -> H p = none -> H' p = some (.lst ((Kzk5.held rs.length rs h s).map nv)) -> Q (.ref p) H'
abbrev dz : KK := fun P w K mg b C => Cal P w K mg b "held_rules" 4 ["rules", "held", "state"] (pI K C)
theorem p7 (F : Fa K mg "held_rules" (top 17)) (T : Txt K mg C) (cp : dQ P w K mg base C) (da : cY P w K mg base C) : dz P w K mg base C := by
 refine okF ["rules", "held", "state", "n", "taken", "j"] F fun nd f cdv A outer s0 H vs Q E hr h => ?_
 obtain ⟨_, a, rs, h, s, rfl, hS, hl, k⟩ := h
 refine ⟨_, (aa (st 3 nd (ln T (pv 0)))
   (aa (st 4 nd (bZ (sP K) (by rfl) T.jS gW (a1 (pv 0))))
   (aa (fo 5 nd (r1 T (pv 3)) (ab (aA (aM (au cp hr rfl (a2 (pv 1) (pv 5)))) (ab (BV (au da hr rfl (a2 (pv 3) (B2 (aM (au cp hr rfl (a2 (pv 2) (pv 5)))) (ai 1) (ai 0)))) (BX (pv 4) (pv 5) set_list))) aj)))
   (ab (af (pv 4)))))), ?_⟩
 refine ⟨_, rfl, _, _, rfl, .inl hS, ?_⟩
 rw [zAa]
 refine ⟨_, rfl, _, _, rfl, .inl hS, fun D hD => ?_⟩
 refine ⟨_, rfl, _, rfl, a8 _, a9 (by omega), ?_⟩
 rw [zAl]
 refine bq (fun i σ H' => az H H' /\ (∃ v, σ = [some (.ref a), some (nv h), some (nv s), some (nv rs.length), some (.ref D), v]) /\ H' D = some (.lst ((gj rs.length rs h s i).map nv))) ⟨aq hD, ⟨none, rfl⟩, by rw [ae, xU]⟩ ?_ ?_
 ·rintro i σ H1 hi ⟨s1, ⟨v, rfl⟩, hL⟩
  rw [bj]
  refine ⟨_, rfl, _, rfl, rfl, _, _, rfl, _, rfl, aJ (fun c1 => ?_) (fun c1 => ?_)⟩
  ·refine ⟨_, rfl, _, rfl, _, rfl, rfl, _, _, rfl, _, rfl, aJ (fun c2 => ?_) (fun c2 => ?_)⟩
   ·refine ⟨rfl, _, _, rfl, hl, _, rfl, _, rfl, _, _, _, _, rfl, rfl, hL, xR (by rw [zAa, eW]; exact hi), ak s1 hD, ⟨some (nv i), rfl⟩, ?_⟩
    rw [ae, qX rs hi c1, if_pos c2, List.map_set]; rfl
   ·refine ⟨rfl, _, _, rfl, hl, _, rfl, _, rfl, _, _, _, _, rfl, rfl, hL, xR (by rw [zAa, eW]; exact hi), ak s1 hD, ⟨some (nv i), rfl⟩, ?_⟩
    rw [ae, qX rs hi c1, if_neg c2, List.map_set]; rfl
  ·refine ⟨s1, ⟨some (nv i), rfl⟩, ?_⟩
   rw [C3 rs (by simpa using c1)]; exact hL
 ·rintro σ H1 ⟨s1, ⟨v, rfl⟩, hL⟩
  rw [AF] at hL
  exact ⟨_, rfl, k _ _ s1 hD hL⟩
def uq (K : PySem.W.Frag) (C : Addr) : Sp := fun vs H Q _ => vs.length = 2 /\ ∃ s o : Nat, vs = [nv s, nv o] /\ Q (.bl (decide (s &&& o = s))) H
abbrev dh : KK := fun P w K mg b C => Cal P w K mg b "is_under" 1 ["state", "other"] (uq K C)
theorem u0 (F : Fa K mg "is_under" (top 16)) (T : Txt K mg C) : dh P w K mg base C := by
 refine okF ["state", "other"] F fun nd f cdv A outer s0 H vs Q E hr h => ?_
 obtain ⟨_, s, o, rfl, k⟩ := h
 refine ⟨_, (ab (af (ec dq (aZ ll (pv 0) (pv 1)) (pv 0)))), ?_⟩
 exact ⟨_, rfl, _, rfl, _, _, rfl, rfl, _, rfl, _, _, rfl, rfl, k⟩
def jX (K : PySem.W.Frag) (C : Addr) : Sp := fun vs H Q _ => vs.length = 1 /\ ∃ (a : Addr) (n : Nat) (rs : List Nat), vs = [.ref a] /\ NL K H a (ff n rs) /\ n <= 4 ∧
 ∀ (H' : Hp) (p : Addr), az H H' -> H p = none -> H' p = some (.lst ((Kzk3.rests n rs).map nv)) -> Q (.ref p) H'
abbrev bI : KK := fun P w K mg b C => Cal P w K mg b "states_at_rest" 1 ["nexts"] (jX K C)
theorem km (F : Fa K mg "states_at_rest" (top 23)) (T : Txt K mg C) : bI P w K mg base C := by
 refine okF ["nexts", "state"] F fun nd f cdv A outer s0 H vs Q E hr h => ?_
 obtain ⟨_, a, n, rs, rfl, hS, hn, k⟩ := h
 have h16 := aT hn
 refine ⟨_, (ab (af (lf 1 nd (r1 T (ln T (pv 0))) (cn (tc dq (ix K (pv 0) (pv 1)) (pv 1))) (pv 1)))), ?_⟩
 refine ⟨_, rfl, _, _, rfl, .inl hS, _, rfl, a8 _, a9 (by rw [zAa, aR]; omega), fun D hD => ?_⟩
 rw [zAl, zAa, aR]
 refine bR (fun x => Kzk1.next n rs x == x) (fun j => nv j) hD (by omega) (fun j H3 hj s3 R' R'' r1 r2 => ?_) (fun H3 s3 hH => ?_)
 ·refine ⟨rfl, _, rfl, _, rfl, _, _, _, _, rfl, rfl, s3.seq hS, aQ (by rw [aR]; exact hj), _, rfl, _, _, rfl, rfl, _, rfl, aJ (fun hc => ?_) (fun hc => ?_)⟩
  ·rw [bE _ hj] at hc
   exact ⟨_, rfl, r1 (by simpa using hc) _ (az.refl _)⟩
  ·rw [bE _ hj] at hc
   exact r2 (by simpa using hc) _ (az.refl _)
 ·exact k _ _ s3 hD hH
end
end TW
namespace TW
open PySem PySem.Spec PyProof.Rows L2 TM
def kv (a b : Bool) : Nat := (if a then 1 else 0) + if b then 2 else 0
theorem JV (a b : Bool) : kv a b ||| 1 = kv true b := by cases a <;> cases b <;> rfl
theorem Fw (a b : Bool) : kv a b ||| 2 = kv a true := by cases a <;> cases b <;> rfl
def jB (r i s : Nat) : Bool := !Kzk1.bit s i && !Kzk1.bit r s && Kzk1.bit r (s + 2 ^ i)
def gD (r i s : Nat) : Bool := !Kzk1.bit s i && Kzk1.bit r s && !Kzk1.bit r (s + 2 ^ i)
def ji (r i m : Nat) : Nat := kv ((List.range m).any (jB r i)) ((List.range m).any (gD r i))
theorem oC (r i m : Nat) : ji r i (m + 1) = kv ((List.range m).any (jB r i) || jB r i m) ((List.range m).any (gD r i) || gD r i m) := by
 unfold ji
 rw [List.range_succ, List.any_append, List.any_append]
 simp
theorem Hr {s i : Nat} (h : Kzk1.bit s i = false) : s ||| 2 ^ i = s + 2 ^ i := by
 have h1 := ju s (2 ^ i)
 have h2 := iR s i
 have h3 := zm s i
 rw [ft] at h
 rw [h] at h3
 rw [ft, h] at h2
 rw [h1, h2, h3]; simp
section
variable {P : Program} {w : World} {K : PySem.W.Frag} {mg : Str -> Option Value} {base : Heap} {C : Addr}
def wC (K : PySem.W.Frag) (C : Addr) : Sp := fun vs H Q _ => vs.length = 3 /\ ∃ r i n : Nat, vs = [nv r, nv i, nv n] /\ n <= 4 /\ i < n /\ Q (nv (ji r i (2 ^ n))) H
abbrev lE : KK := fun P w K mg b C => Cal P w K mg b "kind_of" 2 ["rule", "i", "n"] (wC K C)
theorem xg (F : Fa K mg "kind_of" (top 42)) (T : Txt K mg C) (aD : aP P w K mg base C) (cp : dQ P w K mg base C) (eY : gh P w K mg base C) (lT : iY P w K mg base C) : lE P w K mg base C := by
 refine okF ["rule", "i", "n", "kind", "state", "down_says", "up_says"] F fun nd f cdv A outer s0 H vs Q E hr h => ?_
 obtain ⟨_, r, i, n, rfl, hn, hi, k⟩ := h
 have h16 := aT hn
 refine ⟨_, (aa (st 3 nd (aK rfl T.c8))
   (aa (fo 4 nd (r1 T (au aD hr rfl (a1 (pv 2)))) (ab (aA (cg (aM (au cp hr rfl (a2 (pv 4) (pv 1))))) (aa (st 5 nd (au eY hr rfl (a2 (pv 0) (pv 4))))
   (aa (st 6 nd (au eY hr rfl (a2 (pv 0) (au lT hr rfl (a2 (pv 4) (pv 1))))))
   (aa (aA (PW.pt (dH (aM (pv 6)) (dt (cg (aM (pv 5)))))) (ab (st 3 nd (aZ uU (pv 3) (aK rfl T.Dc)))) aj)
   (ab (aA (PW.pt (dH (aM (pv 5)) (dt (cg (aM (pv 6)))))) (ab (st 3 nd (aZ uU (pv 3) (aK rfl T.lM)))) aj))))) aj)))
   (ab (af (pv 3))))), ?_⟩
 refine ⟨_, rfl, rfl, _, rfl, by omega, _, rfl, a8 _, a9 (by omega), ?_⟩
 rw [zAl]
 refine bq (fun m σ H' => H' = H /\ ∃ v1 v2 v3, σ = [some (nv r), some (nv i), some (nv n), some (nv (ji r i m)), v1, v2, v3]) ⟨rfl, none, none, none, rfl⟩ ?_ ?_
 ·rintro m σ H' hm ⟨rfl, v1, v2, v3, rfl⟩
  rw [bj]
  refine ⟨_, rfl, _, rfl, rfl, _, _, rfl, _, rfl, aJ (fun hc => ?_) (fun hc => ?_)⟩
  ·have hb : Kzk1.bit m i = false := by simpa using hc
   refine ⟨_, rfl, _, rfl, rfl, _, _, rfl, ?_⟩
   refine ⟨_, rfl, _, rfl, _, rfl, rfl, _, _, rfl, by omega, rfl, _, _, rfl, ?_⟩
   rw [Hr hb]
   have eu : jB r i m = (!Kzk1.bit r m && Kzk1.bit r (m + 2 ^ i)) := by unfold jB; rw [hb]; simp
   have ed : gD r i m = (Kzk1.bit r m && !Kzk1.bit r (m + 2 ^ i)) := by unfold gD; rw [hb]; simp
   have ek := oC r i m
   rw [eu, ed] at ek
   generalize Kzk1.bit r m = d at ek ⊢
   generalize Kzk1.bit r (m + 2 ^ i) = u at ek ⊢
   cases d <;> cases u
   ·refine ⟨_, rfl, _, rfl, jL (jL ⟨_, rfl, _, rfl, jL (jL ⟨rfl, some (nv m), some (.bl false), some (.bl false), ?_⟩)⟩)⟩
    rw [ek]
    simp only [Bool.and_false, Bool.false_and, Bool.or_false]
    rfl
   ·refine ⟨_, rfl, _, rfl, g7 ⟨_, rfl, _, rfl, g7 ⟨_, rfl, _, _, rfl, rfl, _, rfl, _, rfl, jL (jL ⟨rfl, some (nv m), some (.bl false), some (.bl true), ?_⟩)⟩⟩⟩
    have e : ji r i m ||| 1 = ji r i (m + 1) := by rw [ek, ji, JV]; simp
    exact congrArg (fun z => [some (nv r), some (nv i), some (nv n), some (nv z), some (nv m), some (.bl false), some (.bl true)]) e
   ·refine ⟨_, rfl, _, rfl, jL (jL ⟨_, rfl, _, rfl, g7 ⟨_, rfl, _, rfl, g7 ⟨_, rfl, _, _, rfl, rfl, rfl, some (nv m), some (.bl true), some (.bl false), ?_⟩⟩⟩)⟩
    have e : ji r i m ||| 2 = ji r i (m + 1) := by rw [ek, ji, Fw]; simp
    exact congrArg (fun z => [some (nv r), some (nv i), some (nv n), some (nv z), some (nv m), some (.bl true), some (.bl false)]) e
   ·refine ⟨_, rfl, _, rfl, g7 ⟨_, rfl, _, rfl, jL ⟨_, rfl, _, rfl, g7 ⟨_, rfl, _, rfl, jL ⟨rfl, some (nv m), some (.bl true), some (.bl true), ?_⟩⟩⟩⟩⟩
    rw [ek]
    simp only [Bool.not_true, Bool.and_false, Bool.false_and, Bool.or_false]
    rfl
  ·have hb : Kzk1.bit m i = true := by simpa using hc
   refine ⟨rfl, some (nv m), v2, v3, ?_⟩
   have eu : jB r i m = false := by unfold jB; rw [hb]; simp
   have ed : gD r i m = false := by unfold gD; rw [hb]; simp
   rw [oC, eu, ed, Bool.or_false, Bool.or_false]
   rfl
 ·rintro σ H' ⟨rfl, v1, v2, v3, rfl⟩
  exact ⟨_, rfl, k⟩
def HR (n : Nat) (rs : List Nat) (j : Nat) : List Nat := (List.range n).map fun i => Kzk2.kind n rs i j
def rG (K : PySem.W.Frag) (C : Addr) : Sp := fun vs H Q _ => vs.length = 1 /\ ∃ (a : Addr) (rs : List Nat), vs = [.ref a] /\ NL K H a rs /\ rs.length <= 4 ∧
 ∀ (H' : Hp) (p : Addr), az H H' -> H p = none -> LL H' p (Kzk2.kinds rs.length rs) -> Q (.ref p) H'
abbrev cA : KK := fun P w K mg b C => Cal P w K mg b "kind_rows" 3 ["rules"] (rG K C)
theorem so (F : Fa K mg "kind_rows" (top 43)) (T : Txt K mg C) (AZ : lE P w K mg base C) : cA P w K mg base C := by
 refine okF ["rules", "n", "rows", "j", "i"] F fun nd f cdv A outer s0 H vs Q E hr h => ?_
 obtain ⟨_, a, rs, rfl, hS, hl, k⟩ := h
 refine ⟨_, (aa (st 1 nd (ln T (pv 0)))
   (aa (st 2 nd (ay bC))
   (aa (fo 3 nd (r1 T (pv 1)) (ab (aX (pbm K zBj zBk bH (pv 2) (a1 (lc 4 nd (r1 T (pv 1)) (au AZ hr rfl (a3 (ix K (pv 0) (pv 3)) (pv 4) (pv 1)))))))))
   (ab (af (pv 2)))))), ?_⟩
 refine ⟨_, rfl, _, _, rfl, .inl hS, ?_⟩
 rw [zAa]
 refine ⟨zBf _, fun D hD => ⟨_, rfl, _, rfl, a8 _, a9 (by omega), ?_⟩⟩
 rw [zAl]
 refine bq (fun m σ H' => az H H' /\ (∃ v, σ = [some (.ref a), some (nv rs.length), some (.ref D), v, none]) /\ LL H' D ((List.range m).map (HR rs.length rs))) ⟨aq hD, ⟨none, rfl⟩, LL.nil ae⟩ ?_ ?_
 ·rintro m σ H1 hm ⟨s1, ⟨v, rfl⟩, hL⟩
  rw [bj]
  obtain ⟨as, hA, hlen, AD⟩ := id hL
  refine ⟨_, rfl, .inl ⟨rfl, _, .inl (.inl hA)⟩, _, rfl, _, rfl, a8 _, a9 (by omega), fun G hG => ?_⟩
  rw [zAl]
  refine bR (fun _ => true) (fun i => nv (Kzk2.kind rs.length rs i m)) hG (by omega) (fun i H2 hi s2 R R' h1 h2 => ?_) (fun H2 s2 hH => ?_)
  ·exact ⟨rfl, _, rfl, _, rfl, _, _, _, _, rfl, rfl, s2.seq (s1.seq hS), aQ hm, _, rfl, _, rfl, rfl, _, _, _, rfl, hl, hi, h1 rfl _ (az.refl _)⟩
  ·rw [filter_all] at hH
   have hH : H2 G = some (.lst ((HR rs.length rs m).map nv)) := by rw [hH, HR, zAw]; rfl
   have hGD : G ≠ D := by rintro rfl; rw [hA] at hG; cases hG
   refine ⟨_, _, _, rfl, rfl, s2 _ _ hA, ?_, ak (s1.trans s2) hD, ⟨some (nv m), rfl⟩, ?_⟩
   ·rw [zAa, hlen, zAa, zAr]; exact bo (by omega)
   ·rw [List.range_succ, zAp]
    exact (hL.same s2).snoc (s2 _ _ hA) hH hGD
 ·rintro σ H1 ⟨s1, ⟨v, rfl⟩, hL⟩
  exact ⟨_, rfl, k _ _ s1 hD hL⟩
structure Sq (n : Nat) (rows : List (List Nat)) : Prop where
 len : rows.length = n
 row : ∀ j, j < n -> (rows.getD j []).length = n
theorem d4 (n : Nat) (rs : List Nat) : Sq n (Kzk2.kinds n rs) := by
 refine ⟨by unfold Kzk2.kinds; simp, fun j hj => ?_⟩
 unfold Kzk2.kinds
 rw [zAb, zAh, zAc (by simpa using hj)]
 simp
theorem vB (n : Nat) (k : List (List Nat)) (c : List Nat) : (grow n k c).length <= n := by
 unfold grow
 rw [zAa]
 refine zAn (zAm _ _) ?_
 rw [List.length_range']; omega
theorem iK {α : Type} (g : α -> List (List Nat)) (n : Nat) (h : ∀ x, (g x).length <= n) : ∀ l : List α, (l.flatMap g).length <= l.length * n
 | [] => by simp
 | x :: l => by
  have := iK g n h l
  have := h x
  rw [List.flatMap_cons, zAi, zAz, Nat.succ_mul]; omega
theorem uG (p : Nat -> Bool) (f : Nat -> List Nat) (lo i : Nat) : ((List.range' lo (i + 1)).filter p).map f = ((List.range' lo i).filter p).map f ++ if p (lo + i) = true then [f (lo + i)] else [] := by
 rw [List.range'_concat, zCc, zAp]
 congr 1
 by_cases h : p (lo + i) = true
 ·simp [h]
 ·simp [h]
theorem getD_mem {l : List (List Nat)} {i : Nat} (h : i < l.length) : l.getD i [] ∈ l := by
 rw [zAb, zAc h]
 exact zCi h
theorem tp {K : PySem.W.Frag} {H : Hp} {a : Addr} {c : List Nat} (h : c ≠ []) : atI (c.map nv) (((0 : Nat) : Int)) = some (nv (c.headD 0)) := by
 rw [aQ (zBc.mpr h)]
 cases c <;> rfl
theorem sA {c : List Nat} (h : c ≠ []) : atI (c.map nv) (-((1 : Nat) : Int)) = some (nv (last c)) := by
 have : 0 < c.length := zBc.mpr h
 exact zk (m := c.length - 1) (by omega)
theorem oA {c : List Nat} (h : c ≠ []) : last c ∈ c := by
 have h0 : 0 < c.length := zBc.mpr h
 unfold last
 rw [zAb, zAc (by omega)]
 exact zCi _
theorem head_mem {c : List Nat} (h : c ≠ []) : c.headD 0 ∈ c := by
 cases c with
 | nil => exact absurd rfl h
 | cons a c => exact zAg
def kY (K : PySem.W.Frag) (C : Addr) : Sp := fun vs H Q _ => vs.length = 2 /\ ∃ (a b : Addr) (n : Nat) (rows chs : List (List Nat)), vs = [.ref a, .ref b] /\ LL H a rows /\ Sq n rows /\ n <= 4 /\ LL H b chs /\ (∀ c ∈ chs, (c ≠ [] /\ c.length <= 10) /\ ∀ x ∈ c, x < n) /\ chs.length <= 10000 ∧
 ∀ (H' : Hp) (p : Addr), az H H' -> H p = none -> LL H' p (chs.flatMap (grow n rows)) -> Q (.ref p) H'
abbrev d9 : KK := fun P w K mg b C => Cal P w K mg b "longer_chains" 1 ["rows", "chains"] (kY K C)
theorem lr (F : Fa K mg "longer_chains" (top 45)) (T : Txt K mg C) : d9 P w K mg base C := by
 refine okF ["rows", "chains", "longer", "chain", "j"] F fun nd f cdv A outer s0 H vs Q E hr h => ?_
 obtain ⟨_, a, b, n, rows, chs, rfl, hR, sq, hn, hB, hc, hcl, k⟩ := h
 obtain ⟨bs, hBb, hBl, hBr⟩ := id hB
 refine ⟨_, (aa (st 2 nd (ay bC))
   (aa (fo 3 nd (bz (pv 1)) (ab (fo 4 nd (qM rfl T.i7 (a2 (aZ nZ (ix K (pv 3) (ai 0)) (ai 1)) (ln T (pv 0)))) (ab (aA (PW.pt (dH (tc (yU K) (pv 4) (pv 3)) (dt (tc qQ (ix K (ix K (pv 0) (pv 4)) (ix K (pv 3) (yI rp (ai 1)))) (aK rfl T.c8))))) (ab (aX (pbm K zBj zBk bH (pv 2) (a1 (aZ cM (pv 3) (ay (a1 (pv 4)))))))) aj)))))
   (ab (af (pv 2))))), ?_⟩
 refine ⟨zBf _, fun D hD => ?_⟩
 refine ⟨_, rfl, b, rfl, ⟨_, .inl (.inl (aq hD _ _ hBb))⟩, fh (K := K) (a := b) (xs := bs.map V.ref) (fun m σ H' => az H H' /\ (∃ v w, σ = [some (.ref a), some (.ref b), some (.ref D), v, w]) /\ LL H' D ((chs.take m).flatMap (grow n rows))) ⟨aq hD, ⟨none, none, rfl⟩, LL.nil ae⟩ (fun i σ H' _ ⟨s1, _⟩ => .inl (.inl (s1 _ _ hBb))) ?_ ?_⟩
 ·rintro m y σ H1 hm ⟨s1, ⟨v, w, rfl⟩, hL⟩
  obtain ⟨x, hx, rfl⟩ : ∃ x, bs[m]? = some x /\ y = .ref x := by
   rw [zAh] at hm
   cases e : bs[m]? with
   | none => rw [e] at hm; cases hm
   | some x => rw [e] at hm; exact ⟨x, rfl, (zBl hm).symm⟩
  have hm2 : m < chs.length := by rw [← hBl]; exact (zAd.mp hx).1
  have hxc := hBr m x hx
  generalize hce : chs.getD m [] = c at hxc
  have hcm : c ∈ chs := by rw [← hce]; exact getD_mem hm2
  obtain ⟨⟨hc1, L9⟩, hc2⟩ := hc c hcm
  have hh : c.headD 0 < n := hc2 _ (head_mem hc1)
  have hla : last c < n := hc2 _ (oA hc1)
  obtain ⟨as, hA, hAl, hAr⟩ := id hR
  refine ⟨_, rfl, _, _, _, _, rfl, rfl, .inl (.inl (s1 _ _ hxc)), tp (K := K) (H := H) (a := a) hc1, _, _, rfl, rfl, _, rfl, _, _, rfl, .inl (.inl (.inl (s1 _ _ hA))), _, _, rfl, ⟨a8 _, a9 (by omega), a8 _, ?_⟩, ?_⟩
  ·rw [zAa, hAl, sq.len]; exact a9 (by omega)
  have e1 : (((as.map V.ref).length : Int) - ((c.headD 0 + 1 : Nat) : Int)).toNat = n - (c.headD 0 + 1) := by rw [zAa, hAl, sq.len]; omega
  rw [e1]
  refine bq (fun i σ H' => az H H' /\ (∃ w, σ = [some (.ref a), some (.ref b), some (.ref D), some (.ref x), w]) /\ LL H' D ((chs.take m).flatMap (grow n rows) ++ (((List.range' (c.headD 0 + 1) i).filter fun j => !c.contains j && Kzk2.at_ rows (last c) j != 0).map fun j => c ++ [j]))) ⟨s1, ⟨_, rfl⟩, ?_⟩ ?_ ?_
  ·show LL H1 D ((chs.take m).flatMap (grow n rows) ++ [])
   rw [zBz]; exact hL
  ·rintro i σ H2 hi ⟨s2, ⟨w2, rfl⟩, hL2⟩
   rw [show V.int (((c.headD 0 + 1 : Nat) : Int) + (i : Int)) = nv (c.headD 0 + 1 + i) by rw [nv]; congr 1]
   generalize hj : c.headD 0 + 1 + i = j
   have hjn : j < n := by omega
   have hjr : j < rows.length := by rw [sq.len]; exact hjn
   have eat : Kzk2.at_ rows (last c) j = (rows.getD j []).getD (last c) 0 := rfl
   rw [uG, hj]
   obtain ⟨ds, hDd, hDl, hDr⟩ := id hL2
   obtain ⟨ys, z, hy1, hy2, hy3, hy4⟩ := (hR.same s2).row (K := K) hjr
   have hxD : x ≠ D := ax hxc hD
   refine ⟨_, rfl, _, rfl, _, _, rfl, .inl (.inl (.inl (s2 _ _ hxc))), rfl, cK _, _, rfl, aJ (fun h1 => ?_) (fun h1 => ?_)⟩
   ·rw [if_pos rfl, cx] at h1
    have h1 : j ∉ c := by simpa using h1
    refine ⟨_, rfl, _, rfl, _, _, _, _, rfl, rfl, hy1, hy3, _, rfl, _, rfl, _, _, _, _, rfl, rfl, .inl (.inl (s2 _ _ hxc)), sA hc1, _, _, _, _, rfl, rfl, .inl (.inl hy4), aQ (by rw [sq.row j hjn]; exact hla), _, _, rfl, rfl, _, rfl, aJ (fun h2 => ?_) (fun h2 => ?_)⟩
    ·have h2 : Kzk2.at_ rows (last c) j ≠ 0 := by rw [eat]; simpa using h2
     rw [if_pos (by simp [h1, h2])]
     have hlen : ds.length < sizeLine := by
      rw [hDl, zAi, zAa]
      have f1 := iK (grow n rows) n (vB n rows) (chs.take m)
      have f2 := zAm (fun j => !c.contains j && Kzk2.at_ rows (last c) j != 0) (List.range' (c.headD 0 + 1) i)
      rw [List.length_range'] at f2
      have f3 : (chs.take m).length * n <= 10000 * 4 := Nat.mul_le_mul (by rw [zBo]; omega) hn
      exact bo (by omega)
     refine ⟨_, rfl, .inl ⟨rfl, _, .inl (.inl hDd)⟩, _, rfl, _, rfl, (by show 1 <= sizeLine; decide), fun g hg => ⟨_, _, _, _, rfl, rfl, (ag (ax (s2 _ _ hxc) hg)).trans (s2 _ _ hxc), ae, ?_, fun q hq => ?_⟩⟩
     ·rw [zAa]; exact bw (by show c.length + 1 <= _; omega)
     have sg : az H2 (upd H2 g (.lst [nv j])) := aq hg
     have sq2 : az H2 (upd (upd H2 g (.lst [nv j])) q (.lst (c.map nv ++ [nv j]))) := ak sg (sg.free hq)
     have hqD : q ≠ D := (ax (sg _ _ hDd) hq).symm
     refine ⟨_, _, _, rfl, rfl, sq2 _ _ hDd, by rw [zAa]; exact hlen, ak (s2.trans sq2) hD, ⟨some (nv j), rfl⟩, ?_⟩
     rw [← zBy]
     refine (hL2.same sq2).snoc (r := c ++ [j]) (sq2 _ _ hDd) ?_ hqD
     rw [ae, zAp]; rfl
    ·have h2 : Kzk2.at_ rows (last c) j = 0 := by rw [eat]; simpa using h2
     rw [if_neg (by simp [h2]), zBz]
     exact ⟨s2, ⟨some (nv j), rfl⟩, hL2⟩
   ·rw [if_pos rfl, cx] at h1
    have h1 : j ∈ c := by simpa using h1
    rw [if_neg (by simp [h1]), zBz]
    refine jL ⟨s2, ⟨some (nv j), rfl⟩, hL2⟩
  ·rintro σ H2 ⟨s2, ⟨w2, rfl⟩, hL2⟩
   refine ⟨s2, ⟨some (.ref x), w2, rfl⟩, ?_⟩
   have e2 : chs[m]? = some c := by
    rw [zAc hm2, ← hce, zAb, zAc hm2]; rfl
   rw [take_snoc e2, List.flatMap_append, List.flatMap_singleton]
   exact hL2
 ·rintro σ H1 ⟨s1, ⟨v, w, rfl⟩, hL⟩
  rw [zAa, hBl, List.take_length] at hL
  exact ⟨_, rfl, k _ _ s1 hD hL⟩
end
end TW
namespace TW
open PySem PySem.Spec PyProof.Rows L2 TM
theorem GX {as : List Addr} {r : List Nat} (hr : r ≠ []) : as.map V.ref ≠ r.map nv := by
 intro q
 cases as with
 | nil => cases r with
  | nil => exact hr rfl
  | cons => simp at q
 | cons b as => cases r <;> simp at q
theorem LL.apart {H : Hp} {a y : Addr} {xss : List (List Nat)} {r : List Nat} (h : LL H a xss) (hr : r ≠ []) (hy : H y = some (.lst (r.map nv))) : y ≠ a := by
 obtain ⟨as, h1, _⟩ := h
 rintro rfl
 exact GX hr (HO.lst.inj (zBl (h1.symm.trans hy)))
theorem tD {xss : List (List Nat)} (h : ∀ r ∈ xss, r ≠ []) {j : Nat} (hj : j < xss.length) : xss.getD j [] ≠ [] := h _ (getD_mem hj)
theorem LL.append {H : Hp} {a b : Addr} {xss yss : List (List Nat)} {xs ys : List V} (h : LL H a xss) (h' : LL H b yss) (hx : H a = some (.lst xs)) (hy : H b = some (.lst ys)) (n1 : ∀ r ∈ xss, r ≠ []) (n2 : ∀ r ∈ yss, r ≠ []) : LL (upd H a (.lst (xs ++ ys))) a (xss ++ yss) := by
 have h0 := h
 obtain ⟨as, h1, h2, h3⟩ := h
 obtain ⟨bs, g1, g2, g3⟩ := h'
 have ex : xs = as.map V.ref := by rw [hx] at h1; exact HO.lst.inj (zBl h1)
 have ey : ys = bs.map V.ref := by rw [hy] at g1; exact HO.lst.inj (zBl g1)
 subst ex ey
 refine ⟨as ++ bs, by rw [ae, zAp], by rw [zAi, zAi, h2, g2], fun j y e => ?_⟩
 by_cases hj : j < as.length
 ·rw [zAy hj] at e
  rw [ag (h0.apart (tD n1 (by omega)) (h3 j y e)), h3 j y e, zAb, zAb, zAy (by omega)]
 ·rw [zAx (by omega)] at e
  have hl := (zAd.mp e).1
  have hr := g3 _ y e
  rw [ag (h0.apart (tD n2 (by omega)) hr), hr, zAb, zAb, zAx (by omega), h2]
theorem LL.off {H : Hp} {a F : Addr} {xss fss : List (List Nat)} {o : HO} (h : LL H a xss) (hF : LL H F fss) (hne : a ≠ F) (n1 : ∀ r ∈ xss, r ≠ []) : LL (upd H F o) a xss := by
 obtain ⟨as, h1, h2, h3⟩ := h
 refine ⟨as, by rw [ag hne]; exact h1, h2, fun j y e => ?_⟩
 have hl := (zAd.mp e).1
 rw [ag (hF.apart (tD n1 (by omega)) (h3 j y e))]
 exact h3 j y e
theorem lA {K : PySem.W.Frag} {a : Addr} {chs : List (List Nat)} {g : TG} {tt : TT} {te : TE} {vs : List Nat} {σ : L2.St} {H1 : Hp} {D : Addr} {Qd : Hp -> Prop} (p : List Nat -> Bool) (hA : LL H1 a chs) (hD : H1 D = none) (hn : chs.length <= 1000000)
  (hs : ∀ i x H, i < chs.length -> az H1 H -> H x = some (.lst ((chs.getD i []).map nv)) -> ∀ (R : V -> Hp -> Prop) (R' : Hp -> Prop), (p (chs.getD i []) = true -> ∀ H4, az H H4 -> R (.ref x) H4) -> (p (chs.getD i []) = false -> ∀ H3, az H H3 -> R' H3) →
   g (.ref x) (wipe σ vs) H fun σ2 H2 => wipe σ2 vs = wipe σ vs /\ tt σ2 H2 fun b H3 => if b = true then te σ2 H3 R else R' H3)
  (hd : ∀ H, az H1 H -> LL H D (chs.filter p) -> Qd H) :
  ∃ W : Nat -> Nat -> Hp -> Prop, (∃ m, W 0 m (upd H1 D (.lst []))) /\ ∀ i m H, W i m H →
   ((Itl K a).stop i H /\ Qd H) \/ ((Itl K a).go i H /\ ∃ Nx : Hp -> Prop, (∀ H', Nx H' -> ∃ m', m' < m /\ W (i + 1) m' H') /\ ∀ x H', (Itl K a).yld i H x H' -> g x (wipe σ vs) H' fun σ2 H2 => wipe σ2 vs = wipe σ vs /\ tt σ2 H2 fun b H3 =>
    if b = true then te σ2 H3 fun y H4 => ∃ acc, H4 D = some (.lst acc) /\ acc.length < sizeLine /\ Nx (upd H4 D (.lst (acc ++ [y]))) else Nx H3) := by
 obtain ⟨bs, hB, hBl, hBr⟩ := id hA
 refine sy (xs := bs.map V.ref) (fun i H => az H1 H /\ LL H D ((chs.take i).filter p)) ⟨aq hD, LL.nil ae⟩ (fun i H _ ⟨s1, _⟩ => .inl (.inl (s1 _ _ hB))) (fun i y H hi ⟨s1, hL⟩ => ?_) (fun H ⟨s1, hL⟩ => ?_)
 ·obtain ⟨x, hx, rfl⟩ : ∃ x, bs[i]? = some x /\ y = .ref x := by
   rw [zAh] at hi
   cases e : bs[i]? with
   | none => rw [e] at hi; cases hi
   | some x => rw [e] at hi; exact ⟨x, rfl, (zBl hi).symm⟩
  have hil : i < chs.length := by rw [← hBl]; exact (zAd.mp hx).1
  have hxc := hBr i x hx
  have e2 : chs[i]? = some (chs.getD i []) := by
   rw [zAc hil, zAb, zAc hil]; rfl
  refine hs i x H hil s1 (s1 _ _ hxc) _ _ (fun hp H4 s4 => ?_) (fun hp H3 s3 => ?_)
  ·obtain ⟨ds, hDd, hDl, hDr⟩ := id hL
   refine ⟨_, s4 _ _ hDd, ?_, ak (s1.trans s4) hD, ?_⟩
   ·rw [zAa, hDl]
    refine bo (zAn (zAm _ _) ?_)
    rw [zBo]; omega
   ·rw [take_snoc e2, zCc, zBd, if_pos hp, zCd]
    exact (hL.same s4).snoc (s4 _ _ hDd) (s4 _ _ (s1 _ _ hxc)) (ax hxc hD)
  ·refine ⟨s1.trans s3, ?_⟩
   rw [take_snoc e2, zCc, zBd, if_neg (by rw [hp]; decide), zCd, zBz]
   exact hL.same s3
 ·rw [zAa, hBl, List.take_length] at hL
  exact hd H s1 hL
theorem ph (n : Nat) (k : List (List Nat)) : ∀ m, (bM n k m).length <= n ^ (m + 1)
 | 0 => by show ((List.range n).map fun j => [j]).length <= n ^ 1; rw [zAa, zAr, Nat.pow_one]; exact zAt _
 | m + 1 => by
  have h1 := iK (grow n k) n (vB n k) (bM n k m)
  have h2 := ph n k m
  exact zAn h1 (zAn (Nat.mul_le_mul_right n h2) (by rw [Nat.pow_succ n (m + 1)]; exact zAt _))
theorem kI {n m : Nat} (k : List (List Nat)) (hn : n <= 4) (hm : m <= 4) : (bM n k m).length <= 1024 := by
 refine zAn (ph n k m) (zAn (Nat.pow_le_pow_left hn _) ?_)
 exact zAn (zCp (by decide) (show m + 1 <= 5 by omega)) (by decide)
theorem iJ {n : Nat} (k : List (List Nat)) (hn : n <= 4) : ∀ m, m <= 5 -> (found n k m).length <= 1024 * m
 | 0, _ => by simp [found]
 | m + 1, h => by
  have h1 := iJ k hn m (by omega)
  have h2 := kI k hn (m := m) (by omega)
  have h3 := zAm (closed k) (bM n k m)
  rw [jN, zAi]; omega
theorem eX {n m : Nat} {k : List (List Nat)} : ∀ r ∈ bM n k m, r ≠ [] := fun r h e => by
 have := (gp h).1
 rw [e] at this; simp at this
theorem Df {n m : Nat} {k : List (List Nat)} : ∀ r ∈ found n k m, r ≠ [] := fun r h => by
 obtain ⟨a, _, h2⟩ := List.mem_flatMap.mp h
 exact eX r (zBe.mp h2).1
section
variable {P : Program} {w : World} {K : PySem.W.Frag} {mg : Str -> Option Value} {base : Heap} {C : Addr}
def Bo (K : PySem.W.Frag) (C : Addr) : Sp := fun vs H Q _ => vs.length = 1 /\ ∃ (a : Addr) (n : Nat) (rows : List (List Nat)), vs = [.ref a] /\ LL H a rows /\ Sq n rows /\ n <= 4 ∧
 ∀ (H' : Hp) (p : Addr), az H H' -> H p = none -> LL H' p (Kzk2.all n rows) -> Q (.ref p) H'
abbrev iZ : KK := fun P w K mg b C => Cal P w K mg b "rings" 2 ["rows"] (Bo K C)
theorem Cg (F : Fa K mg "rings" (top 46)) (T : Txt K mg C) (mP : d9 P w K mg base C) : iZ P w K mg base C := by
 refine okF ["rows", "found", "chains", "j", "chain"] F fun nd f cdv A outer s0 H vs Q E hr h => ?_
 obtain ⟨_, a, n, rows, rfl, hR, sq, hn, k⟩ := h
 obtain ⟨as, hA, hAl, hAr⟩ := id hR
 refine ⟨_, (aa (st 1 nd (ay bC))
   (aa (sf 2 3 nd (r1 T (ln T (pv 0))) rR (ay (a1 (pv 3))))
   (aa (dX PassesOwn.never (tc gb (ln T (pv 2)) (ai 0)) (aa (aX (pbm K PySem.F.slot_list_extend PySem.F.type_list_extend iU (pv 1) (a1 (lf 4 nd (bz (pv 2)) (cn (tc qQ (ix K (ix K (pv 0) (ix K (pv 4) (ai 0))) (ix K (pv 4) (yI rp (ai 1)))) (aK rfl T.c8))) (pv 4)))))
   (ab (st 2 nd (au mP hr rfl (a2 (pv 0) (pv 2)))))))
   (ab (af (pv 1)))))), ?_⟩
 refine ⟨zBf _, fun F hF => ?_⟩
 have sF : az H (upd H F (.lst [])) := aq hF
 refine ⟨_, rfl, _, _, rfl, .inl (.inl (.inl (sF _ _ hA))), _, rfl, a8 _, a9 (by rw [zAa, hAl, sq.len]; omega), fun D hD => ?_⟩
 have hDF : D ≠ F := by rintro rfl; rw [ae] at hD; cases hD
 have hD0 : H D = none := sF.free hD
 rw [zAl, zAa, hAl, sq.len]
 refine oy (fun i H1 => az H H1 /\ H1 F = some (.lst []) /\ LL H1 D ((List.range i).map fun j => [j])) ⟨ak sF hD0, by rw [ag hDF.symm, ae], LL.nil ae⟩ (fun i H1 hi ⟨s1, hF1, hL⟩ => ?_) (fun H1 ⟨s1, hF1, hL⟩ => ?_)
 ·rw [bj]
  obtain ⟨ds, hDd, hDl, hDr⟩ := id hL
  refine ⟨rfl, _, rfl, (by show 1 <= sizeLine; decide), fun g hg => ⟨_, (aq hg) _ _ hDd, ?_, ?_, ?_, ?_⟩⟩
  ·rw [zAa, hDl, zAa, zAr]; exact bo (by omega)
  ·exact ak (ak s1 (s1.free hg)) hD0
  ·rw [ag hDF.symm, ag (ax hF1 hg), hF1]
  ·rw [List.range_succ, zAp]
   exact (hL.same (aq hg)).snoc (r := [i]) ((aq hg) _ _ hDd) ae (ax hDd hg).symm
 ·refine ⟨fun μ σ H' => az H H' /\ ∃ m c, n - m = μ /\ m <= n /\ σ = [some (.ref a), some (.ref F), some (.ref c), none, none] /\ LL H' F (found n rows m) /\ LL H' c (bM n rows m) /\ c ≠ F, ⟨n, s1, 0, D, rfl, zBf _, rfl, LL.nil hF1, hL, hDF⟩, ?_⟩
  rintro μ σ H2 ⟨s2, m, c, rfl, hm, rfl, hf, hc, hcF⟩
  obtain ⟨cs, hcc, hcl, hcr⟩ := id hc
  obtain ⟨fs, hff, hfl, hfr⟩ := id hf
  have hsm := kI rows hn (show m <= 4 by omega)
  have hfm := iJ rows hn m (by omega)
  refine ⟨_, rfl, _, _, rfl, .inl (.inl (.inl hcc)), _, _, rfl, rfl, _, rfl, aJ (fun h1 => ?_) (fun h1 => ?_)⟩
  ·have h1 : 0 < (bM n rows m).length := by rw [zAa, hcl] at h1; exact zAe h1
   have hmn : m < n := by
    apply Nat.lt_of_le_of_ne hm
    intro e
    rw [e, jQ] at h1
    simp at h1
   refine ⟨fun σ' H' => az H H' /\ ∃ c, σ' = [some (.ref a), some (.ref F), some (.ref c), none, none] /\ LL H' F (found n rows (m + 1)) /\ LL H' c (bM n rows (m + 1)) /\ c ≠ F, fun σ' H' ⟨z1, c', z2, z3, z4, z5⟩ => ⟨n - (m + 1), by omega, z1, m + 1, c', rfl, hmn, z2, z3, z4, z5⟩, ?_⟩
   refine ⟨_, rfl, .inl ⟨rfl, _, .inl (.inl hff)⟩, _, rfl, c, rfl, ⟨_, .inl (.inl hcc)⟩, fun G hG => ?_⟩
   refine lA (closed rows) hc hG (by omega) (fun i x H3 hi s3 hx R R' r1 r2 => ?_) (fun H3 s3 hL3 => ?_)
   ·have hch : (bM n rows m).getD i [] ∈ bM n rows m := getD_mem hi
    generalize (bM n rows m).getD i [] = ch at hx r1 r2 hch
    have hne := eX ch hch
    have hin := (gp hch).2.1
    have hh : ch.headD 0 < n := hin _ (head_mem hne)
    have hla : last ch < n := hin _ (oA hne)
    obtain ⟨ys, z, hy1, hy2, hy3, hy4⟩ := (hR.same (s2.trans s3)).row (K := K) (show ch.headD 0 < rows.length by rw [sq.len]; exact hh)
    refine ⟨rfl, _, rfl, _, rfl, _, _, _, _, rfl, rfl, .inl (.inl hx), tp (K := K) (H := H) (a := a) hne, _, _, _, _, rfl, rfl, hy1, hy3, _, rfl, _, rfl, _, _, _, _, rfl, rfl, .inl (.inl hx), sA hne, _, _, _, _, rfl, rfl, .inl (.inl hy4), aQ (by rw [sq.row _ hh]; exact hla), _, _, rfl, rfl, _, rfl, aJ (fun h2 => ?_) (fun h2 => ?_)⟩
    ·exact ⟨_, rfl, r1 (by unfold closed Kzk2.at_; simpa using h2) _ (az.refl _)⟩
    ·exact r2 (by unfold closed Kzk2.at_; simpa using h2) _ (az.refl _)
   ·obtain ⟨gs, hGg, hGl, hGr⟩ := id hL3
    have hf3 := hf.same s3
    have hc3 := hc.same s3
    refine ⟨_, _, _, _, rfl, rfl, s3 _ _ hff, hGg, ?_, ?_⟩
    ·rw [zAa, zAa, hfl, hGl]
     have := zAm (closed rows) (bM n rows m)
     exact bw (by omega)
    have s4 := ak (o := .lst (fs.map V.ref ++ gs.map V.ref)) (s2.trans s3) hF
    have hF4 : LL (upd H3 F (.lst (fs.map V.ref ++ gs.map V.ref))) F (found n rows (m + 1)) := by
     rw [jN]
     exact hf3.append hL3 (s3 _ _ hff) hGg Df fun r hr => eX r (zBe.mp hr).1
    have hc4 := hc3.off (o := .lst (fs.map V.ref ++ gs.map V.ref)) hf3 hcF eX
    refine ⟨_, rfl, _, rfl, rfl, _, _, n, rows, _, rfl, hR.same s4, sq, hn, hc4, fun r hr => ⟨⟨eX r hr, ?_⟩, (gp hr).2.1⟩, by omega, fun H5 p s5 hp hL5 => ?_⟩
    ·rw [(gp hr).1]; omega
    ·refine ⟨s4.trans s5, p, rfl, hF4.same s5, hL5, ?_⟩
     rintro rfl
     rw [ae] at hp; cases hp
  ·have h1 : bM n rows m = [] := by
    rw [zAa, hcl] at h1
    have h1 : ¬ 0 < (bM n rows m).length := fun z => h1 (zAf z)
    exact zAu.mp (by omega)
   rw [lP hm h1] at hf
   exact ⟨_, rfl, k _ _ s2 hF hf⟩
end
end TW
namespace TW
open PySem PySem.Spec PyProof.Rows L2 TM
section
variable {P : Program} {w : World} {K : PySem.W.Frag} {mg : Str -> Option Value} {base : Heap} {C : Addr}
def yn (K : PySem.W.Frag) (H : Hp) (a b : Addr) (n : Nat) (rows : List (List Nat)) (ring : List Nat) : Prop := LL H a rows /\ Sq n rows /\ n <= 4 /\ NL K H b ring /\ ring ≠ [] /\ ring.length <= 10 /\ ∀ x ∈ ring, x < n
def pH (K : PySem.W.Frag) (C : Addr) : Sp := fun vs H Q _ => vs.length = 2 /\ ∃ (a b : Addr) (n : Nat) (rows : List (List Nat)) (ring : List Nat), vs = [.ref a, .ref b] /\ yn K H a b n rows ring ∧
 ∀ (H' : Hp) (p : Addr), az H H' -> H p = none -> H' p = some (.lst ((taken rows ring).map nv)) -> Q (.ref p) H'
theorem take_range (f : Nat -> Nat) (x : Nat) (i : Nat) : (x :: (List.range (i + 1)).map f).map nv = (x :: (List.range i).map f).map nv ++ [nv (f i)] := by
 rw [List.range_succ, zAp]
 simp
abbrev eJ : KK := fun P w K mg b C => Cal P w K mg b "ring_kinds" 1 ["rows", "ring"] (pH K C)
theorem pZ (F : Fa K mg "ring_kinds" (top 47)) (T : Txt K mg C) : eJ P w K mg base C := by
 refine okF ["rows", "ring", "taken", "place"] F fun nd f cdv A outer s0 H vs Q E hr h => ?_
 obtain ⟨_, a, b, n, rows, ring, rfl, ⟨hR, sq, hn, hB, hne, hlen, hin⟩, k⟩ := h
 refine ⟨_, (aa (st 2 nd (ay (a1 (ix K (ix K (pv 0) (ix K (pv 1) (ai 0))) (ix K (pv 1) (yI rp (ai 1)))))))
   (aa (fo 3 nd (qM rfl T.i7 (a2 (ai 1) (ln T (pv 1)))) (ab (aX (pbm K zBj zBk bH (pv 2) (a1 (ix K (ix K (pv 0) (ix K (pv 1) (pv 3))) (ix K (pv 1) (aZ rX (pv 3) (ai 1)))))))))
   (ab (af (pv 2))))), ?_⟩
 have hh : ring.headD 0 < n := hin _ (head_mem hne)
 have hla : last ring < n := hin _ (oA hne)
 have qh : 0 < ring.length := zBc.mpr hne
 obtain ⟨ys, z, hy1, hy2, hy3, hy4⟩ := hR.row (K := K) (show ring.headD 0 < rows.length by rw [sq.len]; exact hh)
 refine ⟨_, rfl, _, rfl, _, _, _, _, rfl, rfl, hB, tp (K := K) (H := H) (a := a) hne, _, _, _, _, rfl, rfl, hy1, hy3, _, rfl, _, rfl, _, _, _, _, rfl, rfl, hB, sA hne, _, _, _, _, rfl, rfl, .inl (.inl hy4), aQ (by rw [sq.row _ hh]; exact hla), (by show 1 <= sizeLine; decide), fun D hD => ?_⟩
 refine ⟨_, rfl, _, _, rfl, .inl ((aq hD).seq hB), _, _, rfl, ⟨a8 _, a9 (by decide), a8 _, a9 (by rw [zAa]; omega)⟩, ?_⟩
 have e1 : (((ring.map nv).length : Int) - ((1 : Nat) : Int)).toNat = ring.length - 1 := by rw [zAa]; omega
 rw [e1]
 refine bq (fun i σ H' => az H H' /\ (∃ v, σ = [some (.ref a), some (.ref b), some (.ref D), v]) /\ H' D = some (.lst ((Kzk2.at_ rows (last ring) (ring.headD 0) :: (List.range i).map fun a => Kzk2.at_ rows (ring.getD a 0) (ring.getD (a + 1) 0)).map nv))) ⟨aq hD, ⟨none, rfl⟩, ae⟩ ?_ ?_
 ·rintro i σ H1 hi ⟨s1, ⟨v, rfl⟩, hL⟩
  rw [show V.int (((1 : Nat) : Int) + (i : Int)) = nv (i + 1) by rw [nv]; congr 1; omega]
  have h1 : ring.getD (i + 1) 0 < n := hin _ (by rw [zAb, zAc (by omega)]; exact zCi _)
  have h2 : ring.getD i 0 < n := hin _ (by rw [zAb, zAc (by omega)]; exact zCi _)
  obtain ⟨ys, z, hy1, hy2, hy3, hy4⟩ := (hR.same s1).row (K := K) (show ring.getD (i + 1) 0 < rows.length by rw [sq.len]; exact h1)
  refine ⟨_, rfl, .inl ⟨rfl, _, .inl (.inl hL)⟩, _, rfl, _, rfl, _, rfl, _, _, _, _, rfl, rfl, s1.seq hB, aQ (by omega), _, _, _, _, rfl, rfl, hy1, hy3, _, rfl, _, rfl, _, _, rfl, rfl, by omega, _, _, _, _, rfl, rfl, s1.seq hB, aQ (by omega), _, _, _, _, rfl, rfl, .inl (.inl hy4), aQ (by rw [sq.row _ h1]; exact h2), _, _, _, rfl, rfl, hL, ?_, ak s1 hD, ⟨some (nv (i + 1)), rfl⟩, ?_⟩
  ·rw [zAa, zAz, zAa, zAr]; exact bo (by omega)
  ·rw [ae, take_range]; rfl
 ·rintro σ H1 ⟨s1, ⟨v, rfl⟩, hL⟩
  exact ⟨_, rfl, k _ _ s1 hD hL⟩
theorem FO (m : Nat) : decide (m % 2 = 0) = (m % 2 == 0) := by rw [zCo]; simp
def nr (K : PySem.W.Frag) (C : Addr) : Sp := fun vs H Q _ => vs.length = 2 /\ ∃ (a b : Addr) (n : Nat) (rows : List (List Nat)) (ring : List Nat), vs = [.ref a, .ref b] /\ yn K H a b n rows ring ∧
 ∀ H' : Hp, az H H' -> Q (.bl (par (taken rows ring)).1) H'
abbrev fQ : KK := fun P w K mg b C => Cal P w K mg b "can_be_even" 2 ["rows", "ring"] (nr K C)
theorem oe (F : Fa K mg "can_be_even" (top 48)) (T : Txt K mg C) (gP : eJ P w K mg base C) : fQ P w K mg base C := by
 refine okF ["rows", "ring", "taken"] F fun nd f cdv A outer s0 H vs Q E hr h => ?_
 obtain ⟨_, a, b, n, rows, ring, rfl, hI, k⟩ := h
 refine ⟨_, (aa (st 2 nd (au gP hr rfl (a2 (pv 0) (pv 1))))
   (ab (af (Gy (ec (vo K) (aK rfl T.d6) (pv 2)) (BZ (ec dq (aZ Cb (pbm K PySem.F.slot_list_count PySem.F.type_list_count (sS K) (pv 2) (a1 (aK rfl T.lM))) (ai 2)) (ai 0))))))), ?_⟩
 refine ⟨_, rfl, _, rfl, rfl, _, _, _, _, _, rfl, hI, fun H1 D s1 hD hL => ?_⟩
 have k1 := k H1 s1
 unfold par at k1
 refine ⟨_, rfl, _, _, rfl, .inl (.inl (.inl hL)), rfl, cK _, _, rfl, aJ (fun h1 => ?_) (fun h1 => ?_)⟩
 ·rw [if_neg (by decide), cx] at h1
  have h1 : 3 ∈ taken rows ring := by simpa using h1
  rw [if_pos (by simpa using h1)] at k1
  exact k1
 ·rw [if_neg (by decide), cx] at h1
  have h1 : 3 ∉ taken rows ring := by simpa using h1
  rw [if_neg (by simpa using h1)] at k1
  refine ⟨_, rfl, .inl ⟨rfl, _, .inl (.inl hL)⟩, _, _, _, rfl, rfl, .inl (.inl hL), _, _, rfl, rfl, (by show 0 < 2; decide), _, _, rfl, rfl, ?_⟩
  show Q (.bl (decide ((taken rows ring).count 2 % 2 = 0))) H1
  rw [FO]
  exact k1
end
open Kzk (Board Hall)
structure Ad where
 ra : Addr
 oa : Addr
 pp : Addr
 up : Addr
def wf (b : Board) (d : Ad) : List (Str × V) := [("n", nv b.n), ("state", nv b.s), ("held", nv b.held), ("rules", .ref d.ra), ("order", .ref d.oa), ("steps", nv b.steps), ("passes", nv b.passes), ("acts", nv b.acts), ("turns", nv b.changed), ("past", .ref d.pp), ("undone", .ref d.up)]
section
variable (b : Board) (d : Ad) (x : Addr) (m : Nat)
theorem fv : (wf b d).lookup ("n" : Str) = some (nv b.n) := by rfl
theorem a0 : (wf b d).lookup ("state" : Str) = some (nv b.s) := by rfl
theorem eC : (wf b d).lookup ("held" : Str) = some (nv b.held) := by rfl
theorem hU : (wf b d).lookup ("rules" : Str) = some (.ref d.ra) := by rfl
theorem jU : (wf b d).lookup ("order" : Str) = some (.ref d.oa) := by rfl
theorem m8 : (wf b d).lookup ("steps" : Str) = some (nv b.steps) := by rfl
theorem kR : (wf b d).lookup ("passes" : Str) = some (nv b.passes) := by rfl
theorem mT : (wf b d).lookup ("acts" : Str) = some (nv b.acts) := by rfl
theorem m7 : (wf b d).lookup ("turns" : Str) = some (nv b.changed) := by rfl
theorem fz : (wf b d).lookup ("past" : Str) = some (.ref d.pp) := by rfl
theorem fV : (wf b d).lookup ("undone" : Str) = some (.ref d.up) := by rfl
theorem k9 : bU "state" (nv m) (wf b d) = wf { b with s := m } d := by rfl
theorem nS : bU "held" (nv m) (wf b d) = wf { b with held := m } d := by rfl
theorem qJ : bU "order" (.ref x) (wf b d) = wf b { d with oa := x } := by rfl
theorem qI : bU "steps" (nv m) (wf b d) = wf { b with steps := m } d := by rfl
theorem nR : bU "passes" (nv m) (wf b d) = wf { b with passes := m } d := by rfl
theorem nU : bU "acts" (nv m) (wf b d) = wf { b with acts := m } d := by rfl
theorem qH : bU "turns" (nv m) (wf b d) = wf { b with changed := m } d := by rfl
theorem wX : bU "undone" (.ref x) (wf b d) = wf b { d with up := x } := by rfl
end
theorem sub_len : ∀ (l r : List Nat), l.Nodup -> (∀ x ∈ l, x ∈ r) -> l.length <= r.length
 | [], _, _, _ => zBf _
 | x :: l, r, hd, h => by
  obtain ⟨h1, h2⟩ := zBv.mp hd
  have hx := h x zAg
  have := sub_len l (r.erase x) h2 fun y hy => (List.mem_erase_of_ne (show y ≠ x from fun e => h1 (e ▸ hy))).mpr (h y (zAj _ hy))
  rw [List.length_erase_of_mem hx] at this
  have := List.length_pos_of_mem hx
  rw [zAz]; omega
theorem uQ {n : Nat} {l : List Nat} (h : Kzk3.okOrder n l = true) : l.length = n /\ ∀ j ∈ l, j < n := by
 unfold Kzk3.okOrder at h
 rw [zBg, zBa, beq_iff_eq] at h
 refine ⟨h.1, fun j hj => ?_⟩
 by_cases hjn : j < n
 ·exact hjn
 ·have := sub_len (j :: List.range n) l (zBv.mpr ⟨by simpa using hjn, List.nodup_range⟩) fun x hx => by
   rcases zAv.mp hx with rfl | hx
   ·exact hj
   ·simpa using h.2 x hx
  rw [zAz, zAr, h.1] at this
  omega
structure OkB (b : Board) : Prop where
 n4 : b.n <= 4
 tl : b.t.length = b.n
 tb : ∀ r ∈ b.t, r < 2 ^ 2 ^ b.n
 sb : b.s < 2 ^ b.n
 hb : b.held < 2 ^ b.n
 oo : Kzk3.okOrder b.n b.order = true
theorem OkB.ol {b : Board} (h : OkB b) : b.order.length = b.n := (uQ h.oo).1
theorem OkB.ob {b : Board} (h : OkB b) : ∀ j ∈ b.order, j < b.n := (uQ h.oo).2
def Pic (H : Hp) (p : Addr) (b : Board) : Prop := ∃ t1 t2 t3, H p = some (.tup [nv b.s, nv b.held, .ref t1, .ref t2, .ref t3]) /\ H t1 = some (.tup (b.t.map nv)) /\ H t2 = some (.tup (b.order.map nv)) /\ H t3 = some (.tup [nv b.steps, nv b.passes, nv b.acts, nv b.changed])
def jT (H : Hp) (ps : List Addr) (bs : List Board) : Prop := ps.length = bs.length /\ ∀ (i : Nat) p b, ps[i]? = some p -> bs[i]? = some b -> Pic H p b
def g9 (H H' : Hp) : Prop := ∀ x ys, H x = some (.tup ys) -> H' x = some (.tup ys)
theorem Pic.dF {H H' : Hp} {p : Addr} {b : Board} (h : Pic H p b) (s : g9 H H') : Pic H' p b := by
 obtain ⟨t1, t2, t3, h0, h1, h2, h3⟩ := h
 exact ⟨t1, t2, t3, s _ _ h0, s _ _ h1, s _ _ h2, s _ _ h3⟩
theorem jT.dF {H H' : Hp} {ps : List Addr} {bs : List Board} (h : jT H ps bs) (s : g9 H H') : jT H' ps bs := ⟨h.1, fun i p b e1 e2 => (h.2 i p b e1 e2).dF s⟩
theorem fY {H H' : Hp} (s : az H H') : g9 H H' := fun x ys e => s x _ e
theorem bG {H H1 H2 : Hp} (a : g9 H H1) (b : g9 H1 H2) : g9 H H2 := fun x ys e => b x ys (a x ys e)
theorem eZ {H : Hp} {x : Addr} {xs : List V} {o : HO} (h : H x = some (.lst xs)) : g9 H (upd H x o) := fun y ys e => by
 rw [ag (cU e h (by intro z; cases z))]; exact e
theorem cu {H : Hp} {x C dx : Addr} {fs : List (Str × V)} {o : HO} (h : H x = some (.ins C dx fs)) : g9 H (upd H x o) := fun y ys e => by
 rw [ag (cU e h (by intro z; cases z))]; exact e
structure WAt (C : Addr) (H : Hp) (a : Addr) (h : Hall) (d : Ad) : Prop where
 ob : ∃ dx, H a = some (.ins C dx (wf h.now d))
 ru : H d.ra = some (.lst (h.now.t.map nv))
 od : H d.oa = some (.lst (h.now.order.map nv))
 pa : ∃ ps, H d.pp = some (.lst (ps.map V.ref)) /\ jT H ps h.past.reverse
 un : ∃ us, H d.up = some (.lst (us.map V.ref)) /\ jT H us h.ahead.reverse
 nd : (d.ra ≠ d.oa /\ d.ra ≠ d.pp /\ d.ra ≠ d.up) /\ (d.oa ≠ d.pp /\ d.oa ≠ d.up) /\ d.pp ≠ d.up
 ok : OkB h.now
 pl : h.past.length + h.ahead.length <= 20
 okp : ∀ b ∈ h.past ++ h.ahead, OkB b /\ b.n = h.now.n
theorem WAt.same {C : Addr} {H H' : Hp} {a : Addr} {h : Hall} {d : Ad} (W : WAt C H a h d) (s : az H H') : WAt C H' a h d := by
 obtain ⟨dx, h1⟩ := W.ob
 obtain ⟨ps, h2, h3⟩ := W.pa
 obtain ⟨us, h4, h5⟩ := W.un
 exact ⟨⟨dx, s _ _ h1⟩, s _ _ W.ru, s _ _ W.od, ⟨ps, s _ _ h2, h3.dF (fY s)⟩, ⟨us, s _ _ h4, h5.dF (fY s)⟩, W.nd, W.ok, W.pl, W.okp⟩
def Ad.own (d : Ad) (a : Addr) : List Addr := [a, d.ra, d.oa, d.pp, d.up]
structure Turn (C : Addr) (H H' : Hp) (a : Addr) (h' : Hall) (d d' : Ad) : Prop where
 W : WAt C H' a h' d'
 keep : ∀ x o, H x = some o -> x ∉ d.own a -> H' x = some o
 new : ∀ x ∈ d'.own a, x ∈ d.own a \/ H x = none
 live : ∀ x, H' x = none -> H x = none
theorem Turn.trans {C : Addr} {H H1 H2 : Hp} {a : Addr} {h1 h2 : Hall} {d d1 d2 : Ad} (t : Turn C H H1 a h1 d d1) (u : Turn C H1 H2 a h2 d1 d2) : Turn C H H2 a h2 d d2 := by
 refine ⟨u.W, fun x o e n => u.keep x o (t.keep x o e n) fun z => ?_, fun x hx => ?_, fun x e => t.live x (u.live x e)⟩
 ·rcases t.new x z with q | q
  ·exact n q
  ·rw [e] at q; cases q
 ·by_cases hd : x ∈ d.own a
  ·exact .inl hd
  ·rcases u.new x hx with q | q
   ·exact t.new x q
   ·cases e : H x with
    | none => exact .inr rfl
    | some o => rw [t.keep x o e hd] at q; cases q
theorem Turn.same {C : Addr} {H H1 : Hp} {a : Addr} {h : Hall} {d : Ad} (W : WAt C H a h d) (s : az H H1) : Turn C H H1 a h d d := ⟨W.same s, fun x o e _ => s x o e, fun x hx => .inl hx, fun x e => s.free e⟩
theorem aV {H : Hp} {a x : Addr} {o : HO} (e : upd H a o x = none) : H x = none := by
 by_cases h : x = a
 ·subst h; rw [ae] at e; cases e
 ·rw [ag h] at e; exact e
theorem Turn.then {C : Addr} {H H1 H2 : Hp} {a : Addr} {h1 : Hall} {d d1 : Ad} (t : Turn C H H1 a h1 d d1) (s : az H1 H2) : Turn C H H2 a h1 d d1 := t.trans (Turn.same t.W s)
theorem WAt.put {C : Addr} {H : Hp} {a : Addr} {h : Hall} {d : Ad} {dx : Addr} {b : Board} (W : WAt C H a h d) (e : H a = some (.ins C dx (wf h.now d))) (ok : OkB b) (et : b.t = h.now.t) (eo : b.order = h.now.order) (en : b.n = h.now.n := by rfl) :
  Turn C H (upd H a (.ins C dx (wf b d))) a ⟨b, h.past, h.ahead⟩ d d := by
 have off : ∀ x xs, H x = some (.lst xs) -> x ≠ a := fun x xs q => cU q e (by intro z; cases z)
 obtain ⟨ps, h2, h3⟩ := W.pa
 obtain ⟨us, h4, h5⟩ := W.un
 refine ⟨⟨⟨dx, ae⟩, ?_, ?_, ⟨ps, ?_, h3.dF (cu e)⟩, ⟨us, ?_, h5.dF (cu e)⟩, W.nd, ok, W.pl, fun c hc => ⟨(W.okp c hc).1, (W.okp c hc).2.trans en.symm⟩⟩, fun x o q n => ?_, fun x hx => .inl hx, fun x e => aV e⟩
 ·rw [ag (off _ _ W.ru), W.ru, et]
 ·rw [ag (off _ _ W.od), W.od, eo]
 ·rw [ag (off _ _ h2)]; exact h2
 ·rw [ag (off _ _ h4)]; exact h4
 ·rw [ag (by rintro rfl; exact n (by simp [Ad.own]))]; exact q
theorem dP {C : Addr} {H : Hp} {a : Addr} {h : Hall} {d : Ad} {p : Addr} (W : WAt C H a h d) (hp : H p = none) : p ∉ d.own a := fun z => by
 obtain ⟨ps, w2, _⟩ := W.pa
 obtain ⟨us, w3, _⟩ := W.un
 obtain ⟨dx3, w4⟩ := W.ob
 simp only [Ad.own, zAv, List.not_mem_nil, or_false] at z
 rcases z with rfl | rfl | rfl | rfl | rfl
 ·rw [w4] at hp; cases hp
 ·rw [W.ru] at hp; cases hp
 ·rw [W.od] at hp; cases hp
 ·rw [w2] at hp; cases hp
 ·rw [w3] at hp; cases hp
theorem aH (b : Board) : (Kzk.rules b).length = b.n := by unfold Kzk.rules Kzk5.held; simp
theorem Fh (b : Board) (d : Ad) {m : Str} (h : m ∉ (["n", "state", "held", "rules", "order", "steps", "passes", "acts", "turns", "past", "undone"] : List Str)) : (wf b d).lookup m = none := by
 rw [List.lookup_eq_none_iff]
 intro p hp
 have : p.1 ∈ (["n", "state", "held", "rules", "order", "steps", "passes", "acts", "turns", "past", "undone"] : List Str) := by
  have := List.mem_map_of_mem (f := (·.1)) hp
  exact this
 have ne : m ≠ p.1 := fun e => h (by rw [e]; exact this)
 simpa using ne
section
variable {P : Program} {w : World} {K : PySem.W.Frag} {mg : Str -> Option Value} {base : Heap} {C : Addr}
def rH (K : PySem.W.Frag) (C : Addr) : Sp := fun vs H Q _ => vs.length = 2 /\ ∃ (a : Addr) (h : Hall) (d : Ad) (j : Nat), vs = [.ref a, nv j] /\ WAt C H a h d /\ Q (.bl (Kzk.isTower h.now j)) H
abbrev bp : KK := fun P w K mg b C => mS P w K mg b C "has_tower" 1 ["self", "j"] (rH K C)
theorem sr (F : FaM K C "has_tower" "Watch.has_tower" (inClass (top 123) 2)) (T : Txt K mg C) : bp P w K mg base C := by
 refine okM ["self", "j"] F fun nd f cdv A outer s0 H vs Q E hr h => ?_
 obtain ⟨_, a, h, d, j, rfl, W, k⟩ := h
 obtain ⟨dx, h1⟩ := W.ob
 refine ⟨_, (ab (af (ec nY (pv 1) (pf K (pv 0))))), ?_⟩
 exact ⟨_, rfl, _, rfl, a, C, dx, _, _, rfl, h1, T.cl, T.n_n, fv _ _, _, _, rfl, rfl, k⟩
def rB (K : PySem.W.Frag) (C : Addr) : Sp := fun vs H Q _ => vs.length = 1 /\ ∃ (a : Addr) (h : Hall) (d : Ad), vs = [.ref a] /\ WAt C H a h d ∧
 ∀ (H' : Hp) (p : Addr), az H H' -> H p = none -> H' p = some (.lst ((Kzk.rules h.now).map nv)) -> Q (.ref p) H'
abbrev aB : KK := fun P w K mg b C => mS P w K mg b C "rules_now" 5 ["self"] (rB K C)
theorem r8 (F : FaM K C "rules_now" "Watch.rules_now" (inClass (top 123) 3)) (T : Txt K mg C) (dE : dz P w K mg base C) : aB P w K mg base C := by
 refine okM ["self"] F fun nd f cdv A outer s0 H vs Q E hr h => ?_
 obtain ⟨_, a, h, d, rfl, W, k⟩ := h
 obtain ⟨dx, h1⟩ := W.ob
 refine ⟨_, (ab (af (au dE hr rfl (a3 (pf K (pv 0)) (pf K (pv 0)) (pf K (pv 0)))))), ?_⟩
 refine ⟨_, rfl, a, C, dx, _, _, rfl, h1, T.cl, T.gz, hU _ _, _, rfl, a, C, dx, _, _, rfl, h1, T.cl, T.dI, eC _ _, _, rfl, a, C, dx, _, _, rfl, h1, T.cl, T.ba, a0 _ _, rfl, _, _, _, _, rfl, .inl (.inl W.ru), by rw [W.ok.tl]; exact W.ok.n4, fun H' p s1 hp hL => ?_⟩
 rw [W.ok.tl] at hL
 exact k _ _ s1 hp hL
end
end TW
namespace TW
open PySem PySem.Spec PyProof.Rows L2 TM
open Kzk (Board Hall)
theorem DL (x j : Nat) : Kzk1.bit x (j + 1) = Kzk1.bit (x / 2) j := by
 unfold Kzk1.bit
 rw [Nat.div_div_eq_div_mul, Nat.pow_succ, Nat.mul_comm]
theorem qO : ones 0 = 0 := by rw [ones, dif_pos rfl]
theorem B9 (x : Nat) : ones x = x % 2 + ones (x / 2) := by
 by_cases h : x = 0
 ·subst h; rw [qO]
 ·exact qP x h
theorem eT : ∀ (n x : Nat), x < 2 ^ n -> ones x = Kzk.size n x
 | 0, x, h => by
  have : x = 0 := by rw [Nat.pow_zero] at h; omega
  subst this
  rw [qO]; rfl
 | n + 1, x, h => by
  have ih := eT n (x / 2) (by rw [Nat.pow_succ] at h; omega)
  unfold Kzk.size at ih ⊢
  rw [B9, ih, List.range_succ_eq_map, zBd, List.filter_map]
  have e : (Kzk1.bit x ∘ Nat.succ) = Kzk1.bit (x / 2) := funext fun j => DL x j
  rw [e]
  have e0 : Kzk1.bit x 0 = (x % 2 == 1) := by unfold Kzk1.bit; rw [Nat.pow_zero, Nat.div_one]
  rw [e0]
  rcases Nat.mod_two_eq_zero_or_one x with q | q
  ·rw [q]; simp
  ·rw [q]; simp; omega
theorem Gk (x y j : Nat) : Kzk1.bit (x ^^^ y) j = (Kzk1.bit x j != Kzk1.bit y j) := by
 rw [ft, ft, ft, Nat.testBit_xor]
theorem uT {n x y : Nat} (hx : x < 2 ^ n) (hy : y < 2 ^ n) : ones (x ^^^ y) = Kzk.differ n x y := by
 rw [eT n _ (Nat.xor_lt_two_pow hx hy)]
 unfold Kzk.size Kzk.differ
 congr 1
 apply List.filter_congr
 intro j _
 exact Gk x y j
def bJ (H : Hp) (p : Addr) (a : Kzk1.Ans) : Prop := H p = some (.lst ((a.value :: KzkNeutral.ints a.nums).map V.int))
def Done (C : Addr) (H : Hp) (a : Addr) (h : Hall) (d : Ad) (r : Option Board × Kzk1.Ans) (Q : VK) : Prop := WAt C H a h d /\ ∀ (H' : Hp) (p : Addr) (d' : Ad), Turn C H H' a ⟨r.1.getD h.now, h.past, h.ahead⟩ d d' -> H p = none -> p ∉ d'.own a -> bJ H' p r.2 -> Q (.ref p) H'
theorem Done.no {C : Addr} {H : Hp} {a : Addr} {h : Hall} {d : Ad} {r : Option Board × Kzk1.Ans} {Q : VK} {v : Int} (D : Done C H a h d r Q) (e : r = (none, Kzk1.say v)) {H' : Hp} (s : az H H') {p : Addr} (hp : H' p = none) : Q (.ref p) (upd H' p (.lst [.int v])) := by
 subst e
 exact D.2 _ p d (Turn.same D.1 (ak s (s.free hp))) (s.free hp) (dP (D.1.same s) hp) ae
theorem DP {n : Nat} {t : List Nat} {s : Nat} (h : s < 2 ^ n) (k : Nat) : Kzk1.after n t k s < 2 ^ n := by
 rw [bg]; exact cZ (fun x _ => aS n t x) h k
theorem iy {n : Nat} {t : List Nat} {s j : Nat} (h : s < 2 ^ n) (hj : j < n) : Kzk3.one t s j < 2 ^ n := by
 rw [rW]
 split
 ·exact Nat.xor_lt_two_pow h (Nat.pow_lt_pow_right (by decide) hj)
 ·exact h
theorem iS {n : Nat} {t : List Nat} : ∀ (o : List Nat) {s : Nat}, s < 2 ^ n -> (∀ j ∈ o, j < n) -> Kzk3.pass t o s < 2 ^ n
 | [], s, h, _ => h
 | j :: o, s, h, hj => iS o (iy h (hj j zAg)) fun x hx => hj x (zAj _ hx)
theorem fE (t o : List Nat) (k s : Nat) : Kzk3.passes t o (k + 1) s = Kzk3.pass t o (Kzk3.passes t o k s) := by
 unfold Kzk3.passes
 rw [List.range_succ, zCa]; rfl
theorem lh {n : Nat} {t o : List Nat} {s : Nat} (h : s < 2 ^ n) (hj : ∀ j ∈ o, j < n) : ∀ k, Kzk3.passes t o k s < 2 ^ n
 | 0 => h
 | k + 1 => by rw [fE]; exact iS o (lh h hj k) hj
theorem yl (n : Nat) (t : List Nat) (k s : Nat) : Kzk1.after n t (k + 1) s = Kzk1.next n t (Kzk1.after n t k s) := by
 rw [bg, bg]; rfl
theorem few (b : Board) (d : Ad) : (wf b d).length < 1000 := by show 11 < 1000; decide
theorem aO {m : Str} (b : Board) (d : Ad) (h : m ∉ (["n", "state", "held", "rules", "order", "steps", "passes", "acts", "turns", "past", "undone"] : List Str) := by decide +kernel) : (wf b d).lookup m = none := Fh b d h
section
variable {P : Program} {w : World} {K : PySem.W.Frag} {mg : Str -> Option Value} {base : Heap} {C : Addr}
def uu (K : PySem.W.Frag) (C : Addr) : Sp := fun vs H Q _ => vs.length = 2 /\ ∃ (a : Addr) (h : Hall) (d : Ad) (s : Nat), vs = [.ref a, nv s] /\ WAt C H a h d /\ s < 2 ^ h.now.n ∧
 ∀ H' : Hp, Turn C H H' a ⟨{ h.now with s := s, changed := h.now.changed + Kzk.differ h.now.n h.now.s s }, h.past, h.ahead⟩ d d -> Q .non H'
abbrev i3 : KK := fun P w K mg b C => mS P w K mg b C "go_to" 2 ["self", "state"] (uu K C)
theorem Cr (F : FaM K C "go_to" "Watch.go_to" (inClass (top 123) 4)) (T : Txt K mg C) (cD : dg P w K mg base C) : i3 P w K mg base C := by
 refine okM ["self", "state"] F fun nd f cdv A outer s0 H vs Q E hr h => ?_
 obtain ⟨_, a, h, d, s, rfl, W, hs, k⟩ := h
 obtain ⟨dx, h1⟩ := W.ob
 have ok := W.ok
 refine ⟨_, (aa (f9 (pv 0) (au cD hr rfl (a1 (aZ wY (pf K (pv 0)) (pv 1)))) kC)
   (ab (bS (pv 0) (pv 1) rfl))), ?_⟩
 refine ⟨_, rfl, a, C, dx, _, _, rfl, h1, T.cl, T.kq, m7 _ _, _, rfl, a, C, dx, _, _, rfl, h1, T.cl, T.ba, a0 _ _, _, rfl, _, _, rfl, rfl, rfl, _, rfl, _, _, rfl, rfl, dx, _, h1, few _ _, ?_⟩
 rw [qH, uT ok.sb hs]
 have t1 := W.put (b := { h.now with changed := h.now.changed + Kzk.differ h.now.n h.now.s s }) h1 ⟨ok.n4, ok.tl, ok.tb, ok.sb, ok.hb, ok.oo⟩ rfl rfl
 refine ⟨_, rfl, _, rfl, a, C, dx, _, rfl, ae, T.cl, T.ba, few _ _, ?_⟩
 rw [k9]
 exact k _ (t1.trans (t1.W.put (b := { h.now with s := s, changed := h.now.changed + Kzk.differ h.now.n h.now.s s }) ae ⟨ok.n4, ok.tl, ok.tb, hs, ok.hb, ok.oo⟩ rfl rfl))
def D6 (K : PySem.W.Frag) (C : Addr) : Sp := fun vs H Q _ => vs.length = 2 /\ ∃ (a : Addr) (h : Hall) (d : Ad) (k : Nat), vs = [.ref a, nv k] /\ Done C H a h d (Kzk.change h.now (.step k)) Q
abbrev xD : KK := fun P w K mg b C => Cal P w K mg b "step" 6 ["watch", "k"] (D6 K C)
theorem EY (F : Fa K mg "step" (top 26)) (T : Txt K mg C) (gQ : i3 P w K mg base C) (c9 : cX P w K mg base C) (ah : aB P w K mg base C) : xD P w K mg base C := by
 refine okF ["watch", "k", "rules", "state", "done"] F fun nd f cdv A outer s0 H vs Q E hr h => ?_
 obtain ⟨_, a, h, d, k, rfl, D⟩ := h
 have W := D.1
 obtain ⟨dx, h1⟩ := W.ob
 have ok := W.ok
 refine ⟨_, (aa (aA (PW.pt (uL (tc nY (pv 1) (ai 1)) (nQ (tc gb (pv 1) (aK rfl T.iH))))) (ab (af (ay (a1 (aK rfl T.bb))))) aj)
   (aa (st 2 nd (bD T.cl ah hr (pv 0)))
   (aa (st 3 nd (pf K (pv 0)))
   (aa (fo 4 nd (r1 T (pv 1)) (ab (st 3 nd (au c9 hr rfl (a2 (pv 2) (pv 3))))))
   (aa (f9 (pv 0) (pv 1) kC)
   (aa (aX (dY T.cl gQ hr (pv 0) (a1 (pv 3))))
   (ab (af (ay (a1 (pv 3))))))))))), ?_⟩
 have hno : (k = 0 \/ 100 < k) -> Kzk.change h.now (.step k) = (none, Kzk1.say (-22)) := fun z => by
  show (if k = 0 \/ 100 < k then _ else _) = _
  rw [if_pos z]
 refine ⟨_, rfl, _, _, rfl, rfl, _, rfl, aJ (fun c1 => ?_) (fun c1 => ?_)⟩
 ·have c1 : k < 1 := zAe c1
  exact g7 ⟨by show 1 <= sizeLine; decide, fun p hp => D.no (hno (.inl (by omega))) (az.refl _) hp⟩
 have c1 : ¬ k < 1 := fun z => c1 (zAf z)
 refine ⟨_, rfl, _, _, rfl, rfl, _, rfl, aJ (fun c2 => ?_) (fun c2 => ?_)⟩
 ·have c2 : 100 < k := zAe c2
  exact ⟨by show 1 <= sizeLine; decide, fun p hp => D.no (hno (.inr c2)) (az.refl _) hp⟩
 have c2 : ¬ 100 < k := fun z => c2 (zAf z)
 refine ⟨_, rfl, a, dx, _, rfl, h1, aO _ _, rfl, _, _, _, rfl, W, fun H1 R s1 hR hRl => ?_⟩
 have hlen := aH h.now
 refine ⟨_, rfl, a, C, dx, _, _, rfl, s1 _ _ h1, T.cl, T.ba, a0 _ _, _, rfl, _, rfl, a8 _, a9 (by omega), ?_⟩
 rw [zAl]
 refine bq (fun i σ H' => H' = H1 /\ ∃ v, σ = [some (.ref a), some (nv k), some (.ref R), some (nv (Kzk1.after h.now.n (Kzk.rules h.now) i h.now.s)), v]) ⟨rfl, none, rfl⟩ ?_ ?_
 ·rintro i σ H' hi ⟨rfl, v, rfl⟩
  rw [bj]
  refine ⟨_, rfl, _, rfl, rfl, _, _, _, rfl, .inl (.inl hRl), by rw [hlen]; exact ok.n4, rfl, some (nv i), ?_⟩
  rw [hlen, yl]; rfl
 ·rintro σ H' ⟨rfl, v, rfl⟩
  have hx := DP (t := Kzk.rules h.now) ok.sb k
  generalize hxe : Kzk1.after h.now.n (Kzk.rules h.now) k h.now.s = x at hx
  refine ⟨_, rfl, a, C, dx, _, _, rfl, s1 _ _ h1, T.cl, T.kr, m8 _ _, _, rfl, _, _, rfl, rfl, dx, _, s1 _ _ h1, few _ _, ?_⟩
  rw [qI]
  have t1 := (W.same s1).put (b := { h.now with steps := h.now.steps + k }) (s1 _ _ h1) ⟨ok.n4, ok.tl, ok.tb, ok.sb, ok.hb, ok.oo⟩ rfl rfl
  refine ⟨_, rfl, a, dx, _, rfl, ae, aO _ _, _, rfl, rfl, a, ⟨{ h.now with steps := h.now.steps + k }, h.past, h.ahead⟩, d, x, rfl, t1.W, hx, fun H2 t2 => ⟨_, rfl, by show 1 <= sizeLine; decide, fun p hp => ?_⟩⟩
  have t3 := (Turn.same W s1).trans (t1.trans t2)
  have e : Kzk.change h.now (.step k) = (some (Kzk.to h.now x k 0 0), Kzk1.say (x : Nat)) := by
   show (if k = 0 \/ 100 < k then _ else _) = _
   rw [if_neg (by omega), hxe]
  have D2 := D.2
  rw [e] at D2
  exact D2 _ p d (t3.then (aq hp)) (t3.live p hp) (dP t3.W hp) ae
def wB (K : PySem.W.Frag) (C : Addr) : Sp := fun vs H Q _ => vs.length = 2 /\ ∃ (a : Addr) (h : Hall) (d : Ad) (k : Nat), vs = [.ref a, nv k] /\ Done C H a h d (Kzk.change h.now (.pass k)) Q
abbrev lD : KK := fun P w K mg b C => Cal P w K mg b "pass_on" 6 ["watch", "k"] (wB K C)
theorem xf (F : Fa K mg "pass_on" (top 27)) (T : Txt K mg C) (gQ : i3 P w K mg base C) (ck : cH P w K mg base C) (ah : aB P w K mg base C) : lD P w K mg base C := by
 refine okF ["watch", "k", "rules", "state", "done"] F fun nd f cdv A outer s0 H vs Q E hr h => ?_
 obtain ⟨_, a, h, d, k, rfl, D⟩ := h
 have W := D.1
 obtain ⟨dx, h1⟩ := W.ob
 have ok := W.ok
 refine ⟨_, (aa (aA (PW.pt (uL (tc nY (pv 1) (ai 1)) (nQ (tc gb (pv 1) (aK rfl T.iH))))) (ab (af (ay (a1 (aK rfl T.bb))))) aj)
   (aa (st 2 nd (bD T.cl ah hr (pv 0)))
   (aa (st 3 nd (pf K (pv 0)))
   (aa (fo 4 nd (r1 T (pv 1)) (ab (st 3 nd (au ck hr rfl (a3 (pv 2) (pv 3) (pf K (pv 0)))))))
   (aa (f9 (pv 0) (pv 1) kC)
   (aa (aX (dY T.cl gQ hr (pv 0) (a1 (pv 3))))
   (ab (af (ay (a1 (pv 3))))))))))), ?_⟩
 have hno : (k = 0 \/ 100 < k) -> Kzk.change h.now (.pass k) = (none, Kzk1.say (-22)) := fun z => by
  show (if k = 0 \/ 100 < k then _ else _) = _
  rw [if_pos z]
 refine ⟨_, rfl, _, _, rfl, rfl, _, rfl, aJ (fun c1 => ?_) (fun c1 => ?_)⟩
 ·have c1 : k < 1 := zAe c1
  exact g7 ⟨by show 1 <= sizeLine; decide, fun p hp => D.no (hno (.inl (by omega))) (az.refl _) hp⟩
 have c1 : ¬ k < 1 := fun z => c1 (zAf z)
 refine ⟨_, rfl, _, _, rfl, rfl, _, rfl, aJ (fun c2 => ?_) (fun c2 => ?_)⟩
 ·have c2 : 100 < k := zAe c2
  exact ⟨by show 1 <= sizeLine; decide, fun p hp => D.no (hno (.inr c2)) (az.refl _) hp⟩
 have c2 : ¬ 100 < k := fun z => c2 (zAf z)
 refine ⟨_, rfl, a, dx, _, rfl, h1, aO _ _, rfl, _, _, _, rfl, W, fun H1 R s1 hR hRl => ?_⟩
 have hlen := aH h.now
 refine ⟨_, rfl, a, C, dx, _, _, rfl, s1 _ _ h1, T.cl, T.ba, a0 _ _, _, rfl, _, rfl, a8 _, a9 (by omega), ?_⟩
 rw [zAl]
 refine bq (fun i σ H' => H' = H1 /\ ∃ v, σ = [some (.ref a), some (nv k), some (.ref R), some (nv (Kzk3.passes (Kzk.rules h.now) h.now.order i h.now.s)), v]) ⟨rfl, none, rfl⟩ ?_ ?_
 ·rintro i σ H' hi ⟨rfl, v, rfl⟩
  rw [bj]
  refine ⟨_, rfl, _, rfl, _, rfl, a, C, dx, _, _, rfl, s1 _ _ h1, T.cl, T.gB, jU _ _, rfl, _, _, _, _, _, rfl, .inl (.inl hRl), .inl (.inl (s1 _ _ W.od)), by rw [hlen]; exact ok.ob, by rw [hlen]; exact ok.n4, rfl, some (nv i), ?_⟩
  rw [fE]; rfl
 ·rintro σ H' ⟨rfl, v, rfl⟩
  have hx := lh (t := Kzk.rules h.now) ok.sb ok.ob k
  generalize hxe : Kzk3.passes (Kzk.rules h.now) h.now.order k h.now.s = x at hx
  refine ⟨_, rfl, a, C, dx, _, _, rfl, s1 _ _ h1, T.cl, T.iB, kR _ _, _, rfl, _, _, rfl, rfl, dx, _, s1 _ _ h1, few _ _, ?_⟩
  rw [nR]
  have t1 := (W.same s1).put (b := { h.now with passes := h.now.passes + k }) (s1 _ _ h1) ⟨ok.n4, ok.tl, ok.tb, ok.sb, ok.hb, ok.oo⟩ rfl rfl
  refine ⟨_, rfl, a, dx, _, rfl, ae, aO _ _, _, rfl, rfl, a, ⟨{ h.now with passes := h.now.passes + k }, h.past, h.ahead⟩, d, x, rfl, t1.W, hx, fun H2 t2 => ⟨_, rfl, by show 1 <= sizeLine; decide, fun p hp => ?_⟩⟩
  have t3 := (Turn.same W s1).trans (t1.trans t2)
  have e : Kzk.change h.now (.pass k) = (some (Kzk.to h.now x 0 k 0), Kzk1.say (x : Nat)) := by
   show (if k = 0 \/ 100 < k then _ else _) = _
   rw [if_neg (by omega), hxe]
  have D2 := D.2
  rw [e] at D2
  exact D2 _ p d (t3.then (aq hp)) (t3.live p hp) (dP t3.W hp) ae
def GV (K : PySem.W.Frag) (C : Addr) : Sp := fun vs H Q _ => vs.length = 2 /\ ∃ (a : Addr) (h : Hall) (d : Ad) (j : Nat), vs = [.ref a, nv j] /\ Done C H a h d (Kzk.change h.now (.act j)) Q
abbrev CS : KK := fun P w K mg b C => Cal P w K mg b "act" 6 ["watch", "j"] (GV K C)
theorem HF (F : Fa K mg "act" (top 28)) (T : Txt K mg C) (gQ : i3 P w K mg base C) (gU : eO P w K mg base C) (ah : aB P w K mg base C) (aG : bp P w K mg base C) : CS P w K mg base C := by
 refine okF ["watch", "j", "state"] F fun nd f cdv A outer s0 H vs Q E hr h => ?_
 obtain ⟨_, a, h, d, j, rfl, D⟩ := h
 have W := D.1
 obtain ⟨dx, h1⟩ := W.ob
 have ok := W.ok
 refine ⟨_, (aa (aA (cg (aM (dY T.cl aG hr (pv 0) (a1 (pv 1))))) (ab (af (ay (a1 (aK rfl T.bW))))) aj)
   (aa (st 2 nd (au gU hr rfl (a3 (bD T.cl ah hr (pv 0)) (pf K (pv 0)) (pv 1))))
   (aa (f9 (pv 0) (ai 1) kC)
   (aa (aX (dY T.cl gQ hr (pv 0) (a1 (pv 2))))
   (ab (af (ay (a1 (pv 2))))))))), ?_⟩
 refine ⟨_, rfl, a, dx, _, rfl, h1, aO _ _, _, rfl, rfl, a, h, d, j, rfl, W, _, rfl, aJ (fun c1 => ?_) (fun c1 => ?_)⟩
 ·have c1 : Kzk.isTower h.now j = false := by simpa using c1
  refine ⟨by show 1 <= sizeLine; decide, fun p hp => D.no ?_ (az.refl _) hp⟩
  show (if Kzk.isTower h.now j = false then _ else _) = _
  rw [if_pos c1]
 have c1 : Kzk.isTower h.now j = true := by simpa using c1
 have hj : j < h.now.n := zAe c1
 have hlen := aH h.now
 refine ⟨_, rfl, a, dx, _, rfl, h1, aO _ _, rfl, _, _, _, rfl, W, fun H1 R s1 hR hRl => ?_⟩
 refine ⟨_, rfl, a, C, dx, _, _, rfl, s1 _ _ h1, T.cl, T.ba, a0 _ _, _, rfl, rfl, _, _, _, _, rfl, .inl (.inl hRl), by rw [hlen]; exact hj, by rw [hlen]; exact ok.n4, ?_⟩
 have hx := iy (t := Kzk.rules h.now) ok.sb hj
 generalize hxe : Kzk3.one (Kzk.rules h.now) h.now.s j = x at hx
 refine ⟨_, rfl, a, C, dx, _, _, rfl, s1 _ _ h1, T.cl, T.ly, mT _ _, _, _, rfl, rfl, dx, _, s1 _ _ h1, few _ _, ?_⟩
 rw [nU]
 have t1 := (W.same s1).put (b := { h.now with acts := h.now.acts + 1 }) (s1 _ _ h1) ⟨ok.n4, ok.tl, ok.tb, ok.sb, ok.hb, ok.oo⟩ rfl rfl
 refine ⟨_, rfl, a, dx, _, rfl, ae, aO _ _, _, rfl, rfl, a, ⟨{ h.now with acts := h.now.acts + 1 }, h.past, h.ahead⟩, d, x, rfl, t1.W, hx, fun H2 t2 => ⟨_, rfl, by show 1 <= sizeLine; decide, fun p hp => ?_⟩⟩
 have t3 := (Turn.same W s1).trans (t1.trans t2)
 have e : Kzk.change h.now (.act j) = (some (Kzk.to h.now x 0 0 1), Kzk1.say (x : Nat)) := by
  show (if Kzk.isTower h.now j = false then _ else _) = _
  rw [if_neg (by rw [c1]; decide), hxe]
 have D2 := D.2
 rw [e] at D2
 exact D2 _ p d (t3.then (aq hp)) (t3.live p hp) (dP t3.W hp) ae
end
end TW
namespace TW
open PySem PySem.Spec PyProof.Rows L2 TM
open Kzk (Board Hall)
theorem oB {X : Cx} (K : PySem.W.Frag) (h : X.K = K := by rfl) (hc : X.calm = true := by rfl) : bY X (.builtin "min") (fun xs H Q => ∃ (a : Addr) (l : List Nat), xs = [.ref a] /\ NL K H a l /\ l ≠ [] /\ Q (nv (Kzk1.least l)) H) := by
 intro pins s σ H xs us Q I r q
 obtain ⟨a, l, rfl, hs, hne, q⟩ := q
 refine JY K h hc pins s σ H _ us Q I r ⟨a, l.map fun x : Nat => (x : Int), rfl, by rw [← gC]; exact hs, by rw [zAa]; exact zBc.mpr hne, fun m hm hle => ?_⟩
 obtain ⟨z, hz, rfl⟩ := zAq.mp hm
 have e : z = Kzk1.least l := vi hz fun y hy => by
  have := hle (y : Int) (zAq.mpr ⟨y, hy, rfl⟩)
  omega
 rw [e]; exact q
def Told (C : Addr) (H : Hp) (a : Addr) (h : Hall) (d : Ad) (r : Kzk1.Ans) (Q : VK) : Prop := WAt C H a h d /\ ∀ (H' : Hp) (p : Addr), az H H' -> H p = none -> bJ H' p r -> Q (.ref p) H'
theorem Gq (v : Nat) (l : List Nat) : (((⟨((v : Nat) : Int), l⟩ : Kzk1.Ans).value :: KzkNeutral.ints (⟨((v : Nat) : Int), l⟩ : Kzk1.Ans).nums).map V.int) = (v :: l).map nv := by
 show V.int v :: (l.map fun x : Nat => (x : Int)).map V.int = nv v :: l.map nv
 rw [← gC]
theorem bJ.of {H : Hp} {p : Addr} {v : Nat} {l : List Nat} (h : H p = some (.lst ((v :: l).map nv))) : bJ H p ⟨((v : Nat) : Int), l⟩ := by
 unfold bJ
 rw [Gq]; exact h
theorem ot (n : Nat) (t : List Nat) (s : Nat) : Kzk4.moves n t s = (List.range n).filter fun j => Kzk1.isUp t j s != Kzk1.bit s j := by
 unfold Kzk4.moves
 apply List.filter_congr
 intro j _
 rw [rW]
 cases h : (Kzk1.isUp t j s != Kzk1.bit s j)
 ·simp
 ·rw [if_pos rfl, iR]
  have : 0 < 2 ^ j := zCe j
  cases hb : Kzk1.bit s j
  ·simp <;> omega
  ·have : 2 ^ j <= s := by
    rw [ft] at hb
    exact Nat.ge_two_pow_of_testBit hb
   simp <;> omega
theorem CG (n : Nat) (t : List Nat) (s : Nat) : (Kzk4.moves n t s).length <= n := by
 unfold Kzk4.moves
 exact zAn (zAm _ _) (by rw [zAr]; exact zAt _)
theorem eU {n : Nat} {t : List Nat} {s j : Nat} (h : j ∈ Kzk4.moves n t s) : j < n /\ s ^^^ 2 ^ j = Kzk3.one t s j := by
 rw [ot] at h
 obtain ⟨h1, h2⟩ := zBe.mp h
 exact ⟨zAk.mp h1, by rw [rW, if_pos h2]⟩
theorem uA {n : Nat} {t : List Nat} {f s j : Nat} (h : (Kzk4.moves n t s).head? = some j) : Kzk.settleOn n t (f + 1) s = ((Kzk.settleOn n t f (Kzk3.one t s j)).1, (Kzk.settleOn n t f (Kzk3.one t s j)).2 + 1) := by
 show (match (Kzk4.moves n t s).head? with | none => (s, 0) | some j => let r := Kzk.settleOn n t f (Kzk3.one t s j); (r.1, r.2 + 1)) = _
 rw [h]
theorem wI {n : Nat} {t : List Nat} {f s : Nat} (h : Kzk4.moves n t s = []) : Kzk.settleOn n t f s = (s, 0) := by
 cases f with
 | zero => rfl
 | succ f =>
  show (match (Kzk4.moves n t s).head? with | none => (s, 0) | some j => let r := Kzk.settleOn n t f (Kzk3.one t s j); (r.1, r.2 + 1)) = _
  rw [h]; rfl
section
variable {P : Program} {w : World} {K : PySem.W.Frag} {mg : Str -> Option Value} {base : Heap} {C : Addr}
def kX (K : PySem.W.Frag) (C : Addr) : Sp := fun vs H Q _ => vs.length = 2 /\ ∃ (a : Addr) (rs : List Nat) (s : Nat), vs = [.ref a, nv s] /\ NL K H a rs /\ rs.length <= 4 ∧
 ∀ (H' : Hp) (p : Addr), az H H' -> H p = none -> H' p = some (.lst ((Kzk4.moves rs.length rs s).map nv)) -> Q (.ref p) H'
abbrev cc : KK := fun P w K mg b C => Cal P w K mg b "moving_towers" 3 ["rules", "state"] (kX K C)
theorem lq (F : Fa K mg "moving_towers" (top 29)) (T : Txt K mg C) (fk : dv P w K mg base C) : cc P w K mg base C := by
 refine okF ["rules", "state", "j"] F fun nd f cdv A outer s0 H vs Q E hr h => ?_
 obtain ⟨_, a, rs, s, rfl, hS, hl, k⟩ := h
 refine ⟨_, (ab (af (lf 2 nd (r1 T (ln T (pv 0))) (cn (aM (au fk hr rfl (a3 (pv 0) (pv 1) (pv 2))))) (pv 2)))), ?_⟩
 refine ⟨_, rfl, _, _, rfl, .inl hS, _, rfl, a8 _, a9 (by rw [zAa]; omega), fun D hD => ?_⟩
 rw [zAl, zAa]
 refine bR (fun j => Kzk1.isUp rs j s != Kzk1.bit s j) (fun j => nv j) hD (by omega) (fun j H2 hj s2 R R' h1 h2 => ?_) (fun H2 s2 hH => ?_)
 ·refine ⟨rfl, _, rfl, _, rfl, _, rfl, rfl, _, _, _, _, rfl, s2.seq hS, hj, _, rfl, aJ (fun hc => ?_) (fun hc => ?_)⟩
  ·exact ⟨_, rfl, h1 hc _ (az.refl _)⟩
  ·exact h2 (by simpa using hc) _ (az.refl _)
 ·refine k _ _ s2 hD ?_
  rw [ot]; exact hH
def zD (K : PySem.W.Frag) (C : Addr) : Sp := fun vs H Q _ => vs.length = 2 /\ ∃ (a : Addr) (h : Hall) (d : Ad) (k : Nat), vs = [.ref a, nv k] /\ Done C H a h d (Kzk.change h.now (.settle k)) Q
abbrev oF : KK := fun P w K mg b C => Cal P w K mg b "settle" 6 ["watch", "k"] (zD K C)
theorem Ag (F : Fa K mg "settle" (top 30)) (T : Txt K mg C) (gQ : i3 P w K mg base C) (bB : cc P w K mg base C) (cQ : d5 P w K mg base C) (ah : aB P w K mg base C) : oF P w K mg base C := by
 refine okF ["watch", "k", "rules", "state", "done", "moving"] F fun nd f cdv A outer s0 H vs Q E hr h => ?_
 obtain ⟨_, a, h, d, k, rfl, D⟩ := h
 have W := D.1
 obtain ⟨dx, h1⟩ := W.ob
 have ok := W.ok
 have hlen := aH h.now
 refine ⟨_, (aa (aA (tc gb (pv 1) (aK rfl T.iH)) (ab (af (ay (a1 (aK rfl T.bb))))) aj)
   (aa (st 2 nd (bD T.cl ah hr (pv 0)))
   (aa (st 3 nd (pf K (pv 0)))
   (aa (st 4 nd (ai 0))
   (aa (st 5 nd (au bB hr rfl (a2 (pv 2) (pv 3))))
   (aa (dX PassesOwn.never (PW.pt (dH (tc nY (pv 4) (pv 1)) (dt (tc gb (ln T (pv 5)) (ai 0))))) (aa (st 3 nd (au cQ hr rfl (a2 (pv 3) (ix K (pv 5) (ai 0)))))
   (aa (iu (i := 4) nd rfl (Or.inl rfl) (ai 1) fJ)
   (ab (st 5 nd (au bB hr rfl (a2 (pv 2) (pv 3))))))))
   (aa (f9 (pv 0) (pv 4) kC)
   (aa (aX (dY T.cl gQ hr (pv 0) (a1 (pv 3))))
   (ab (af (ay (a2 (pv 4) (pv 3))))))))))))), ?_⟩
 refine ⟨_, rfl, _, _, rfl, rfl, _, rfl, aJ (fun c1 => ?_) (fun c1 => ?_)⟩
 ·have c1 : 100 < k := zAe c1
  refine ⟨by show 1 <= sizeLine; decide, fun p hp => D.no ?_ (az.refl _) hp⟩
  show (if 100 < k then _ else _) = _
  rw [if_pos c1]
 have c1 : ¬ 100 < k := fun z => c1 (zAf z)
 refine ⟨_, rfl, a, dx, _, rfl, h1, aO _ _, rfl, _, _, _, rfl, W, fun H1 R s1 hR hRl => ?_⟩
 refine ⟨_, rfl, a, C, dx, _, _, rfl, s1 _ _ h1, T.cl, T.ba, a0 _ _, ?_⟩
 refine ⟨_, rfl, _, rfl, rfl, _, _, _, rfl, .inl (.inl hRl), by rw [hlen]; exact ok.n4, fun H2 M s2 hM hMl => ?_⟩
 rw [hlen] at hMl
 refine ⟨fun μ σ H' => az H1 H' /\ ∃ m done s, k - done = μ /\ done <= k /\ s < 2 ^ h.now.n /\ σ = [some (.ref a), some (nv k), some (.ref R), some (nv s), some (nv done), some (.ref m)] /\ H' m = some (.lst ((Kzk4.moves h.now.n (Kzk.rules h.now) s).map nv)) ∧
  Kzk.settleOn h.now.n (Kzk.rules h.now) k h.now.s = ((Kzk.settleOn h.now.n (Kzk.rules h.now) (k - done) s).1, (Kzk.settleOn h.now.n (Kzk.rules h.now) (k - done) s).2 + done), ⟨k, s2, M, 0, h.now.s, rfl, zBf _, ok.sb, rfl, hMl, rfl⟩, ?_⟩
 rintro μ σ H3 ⟨s3, m, done, s, rfl, hdk, hs, rfl, hm, es⟩
 have fin : Kzk.settleOn h.now.n (Kzk.rules h.now) k h.now.s = (s, done) -> wk (yw K (dS 0) (dS 4) Gw "acts") (wk (uf (qA C "go_to" (uu K C) [] E0 (dS 0) (cT (dS 3) fL))) (DU (DW (cT (dS 4) (cT (dS 3) fL))))) { nx := fun _ H' => Q .non H', rt := Q } [some (.ref a), some (nv k), some (.ref R), some (nv s), some (nv done), some (.ref m)] H3 := by
  intro er
  have s4 := s1.trans s3
  refine ⟨_, rfl, a, C, dx, _, _, rfl, s4 _ _ h1, T.cl, T.ly, mT _ _, _, rfl, _, _, rfl, rfl, dx, _, s4 _ _ h1, few _ _, ?_⟩
  rw [nU]
  have t1 := (W.same s4).put (b := { h.now with acts := h.now.acts + done }) (s4 _ _ h1) ⟨ok.n4, ok.tl, ok.tb, ok.sb, ok.hb, ok.oo⟩ rfl rfl
  refine ⟨_, rfl, a, dx, _, rfl, ae, aO _ _, _, rfl, rfl, a, ⟨{ h.now with acts := h.now.acts + done }, h.past, h.ahead⟩, d, s, rfl, t1.W, hs, fun H5 t2 => ⟨_, rfl, _, rfl, by show 2 <= sizeLine; decide, fun p hp => ?_⟩⟩
  have t3 := (Turn.same W s4).trans (t1.trans t2)
  have e : Kzk.change h.now (.settle k) = (some (Kzk.to h.now s 0 0 done), ⟨(done : Nat), [s]⟩) := by
   show (if 100 < k then _ else _) = _
   rw [if_neg c1, er]
  have D2 := D.2
  rw [e] at D2
  exact D2 _ p d (t3.then (aq hp)) (t3.live p hp) (dP t3.W hp) ae
 refine ⟨_, rfl, _, rfl, _, _, rfl, rfl, _, rfl, aJ (fun c2 => ?_) (fun c2 => ?_)⟩
 ·have c2 : done < k := zAe c2
  refine ⟨_, rfl, _, _, rfl, .inl (.inl (.inl hm)), _, _, rfl, rfl, _, rfl, aJ (fun c3 => ?_) (fun c3 => ?_)⟩
  ·have c3 : 0 < (Kzk4.moves h.now.n (Kzk.rules h.now) s).length := by rw [zAa] at c3; exact zAe c3
   obtain ⟨j, ms, hms⟩ : ∃ j ms, Kzk4.moves h.now.n (Kzk.rules h.now) s = j :: ms := by
    cases e : Kzk4.moves h.now.n (Kzk.rules h.now) s with
    | nil => rw [e] at c3; simp at c3
    | cons j ms => exact ⟨j, ms, rfl⟩
   obtain ⟨hj, ej⟩ := eU (n := h.now.n) (t := Kzk.rules h.now) (s := s) (j := j) (by rw [hms]; exact zAg)
   have h4 := ok.n4
   rw [hms] at hm
   refine ⟨fun σ' H' => az H1 H' /\ ∃ m, σ' = [some (.ref a), some (nv k), some (.ref R), some (nv (Kzk3.one (Kzk.rules h.now) s j)), some (nv (done + 1)), some (.ref m)] /\ H' m = some (.lst ((Kzk4.moves h.now.n (Kzk.rules h.now) (Kzk3.one (Kzk.rules h.now) s j)).map nv)), fun σ' H' ⟨z1, m', z2, z3⟩ => ⟨k - (done + 1), by omega, z1, m', done + 1, _, rfl, by omega, iy hs hj, z2, z3, ?_⟩, ?_⟩
   ·obtain ⟨f, hf⟩ : ∃ f, k - done = f + 1 := ⟨k - done - 1, by omega⟩
    have hf2 : k - (done + 1) = f := by omega
    rw [es, hf, hf2, uA (j := j) (by rw [hms]; rfl)]
    simp only [Nat.add_assoc, Nat.add_comm 1]
   ·refine ⟨_, rfl, _, rfl, _, _, _, _, rfl, rfl, .inl (.inl hm), aQ (j := 0) (by simp), rfl, _, _, rfl, by show j <= 1000; omega, ?_⟩
    refine ⟨_, rfl, _, _, rfl, rfl, ?_⟩
    refine ⟨_, rfl, _, rfl, rfl, _, _, _, rfl, .inl (.inl (s3 _ _ hRl)), by rw [hlen]; exact ok.n4, fun H4 m2 s4 hm2 Ld => ⟨s3.trans s4, m2, ?_, ?_⟩⟩
    ·show [_, _, _, some (nv (s ^^^ 2 ^ ((j :: ms).getD 0 0))), _, _] = _
     rw [show (j :: ms).getD 0 0 = j from rfl, ej]
    ·rw [Ld, hlen]
     show some (HO.lst ((Kzk4.moves h.now.n (Kzk.rules h.now) (s ^^^ 2 ^ ((j :: ms).getD 0 0))).map nv)) = _
     rw [show (j :: ms).getD 0 0 = j from rfl, ej]
  ·have c3 : Kzk4.moves h.now.n (Kzk.rules h.now) s = [] := by
    rw [zAa] at c3
    have c3 : ¬ 0 < (Kzk4.moves h.now.n (Kzk.rules h.now) s).length := fun z => c3 (zAf z)
    exact zAu.mp (by omega)
   refine fin ?_
   rw [es, wI c3, Nat.zero_add]
 ·have c2 : done = k := by
   have : ¬ done < k := fun z => c2 (zAf z)
   omega
  refine jL (fin ?_)
  rw [es, c2, zBt]
  show (s, 0 + k) = (s, k)
  rw [Nat.zero_add]
def D8 (K : PySem.W.Frag) (C : Addr) : Sp := fun vs H Q _ => vs.length = 1 /\ ∃ (a : Addr) (h : Hall) (d : Ad), vs = [.ref a] /\ Told C H a h d (Kzk.ask h.now .seen) Q
abbrev xE : KK := fun P w K mg b C => Cal P w K mg b "seen" 6 ["watch"] (D8 K C)
theorem E1 (F : Fa K mg "seen" (top 31)) (T : Txt K mg C) (c9 : cX P w K mg base C) (ah : aB P w K mg base C) : xE P w K mg base C := by
 refine okF ["watch"] F fun nd f cdv A outer s0 H vs Q E hr h => ?_
 obtain ⟨_, a, h, d, rfl, W, k⟩ := h
 obtain ⟨dx, h1⟩ := W.ob
 have ok := W.ok
 have hlen := aH h.now
 refine ⟨_, (ab (af (ay (a2 (pf K (pv 0)) (au c9 hr rfl (a2 (bD T.cl ah hr (pv 0)) (pf K (pv 0)))))))), ?_⟩
 refine ⟨_, rfl, a, C, dx, _, _, rfl, h1, T.cl, T.ba, a0 _ _, _, rfl, a, dx, _, rfl, h1, aO _ _, rfl, _, _, _, rfl, W, fun H1 R s1 hR hRl => ?_⟩
 refine ⟨_, rfl, a, C, dx, _, _, rfl, s1 _ _ h1, T.cl, T.ba, a0 _ _, rfl, _, _, _, rfl, .inl (.inl hRl), by rw [hlen]; exact ok.n4, by show 2 <= sizeLine; decide, fun p hp => ?_⟩
 rw [hlen]
 exact k _ p (ak s1 (s1.free hp)) (s1.free hp) (bJ.of ae)
end
end TW
namespace TM
open Kzk1 (bit next after)
def Co (n : Nat) (t : List Nat) (s : Nat) : Nat -> Nat -> Prop
 | 0, x => x = s
 | k + 1, x => Co n t s k x \/ ∃ y, Co n t s k y /\ ∃ j ∈ Kzk4.moves n t y, Kzk3.one t y j = x
def wid (n : Nat) (t : List Nat) : Nat -> List Nat -> List Nat
 | 0, l => l
 | k + 1, l => Kzk4.wider n t (wid n t k l)
theorem vE (n : Nat) (t : List Nat) (l : List Nat) : ∀ k, (List.range k).foldl (fun l _ => Kzk4.wider n t l) l = wid n t k l
 | 0 => rfl
 | k + 1 => by rw [List.range_succ, zCa, vE n t l k]; rfl
theorem k5 (n : Nat) (t : List Nat) (s : Nat) : Kzk4.reach n t s = wid n t (2 ^ n) [s] := vE n t [s] (2 ^ n)
theorem Aq {n : Nat} {t l : List Nat} {x : Nat} : x ∈ Kzk4.wider n t l <-> x < 2 ^ n /\ (x ∈ l \/ ∃ y ∈ l, ∃ j ∈ Kzk4.moves n t y, Kzk3.one t y j = x) := by
 unfold Kzk4.wider Kzk1.states
 rw [zBe, zAk]
 apply and_congr Iff.rfl
 rw [Bool.or_eq_true, zCh]
 apply or_congr
 ·simp
 ·apply exists_congr
  intro y
  apply and_congr Iff.rfl
  rw [zCh]
  apply exists_congr
  intro j
  apply and_congr Iff.rfl
  simp
theorem m6 {n : Nat} {t : List Nat} {s : Nat} (hs : s < 2 ^ n) : ∀ k x, x ∈ wid n t k [s] <-> Co n t s k x
 | 0, x => by simp [wid, Co]
 | k + 1, x => by
  show x ∈ Kzk4.wider n t (wid n t k [s]) <-> _
  rw [Aq]
  have ih := m6 (t := t) hs k
  constructor
  ·rintro ⟨_, h | ⟨y, hy, h⟩⟩
   ·exact .inl ((ih x).mp h)
   ·exact .inr ⟨y, (ih y).mp hy, h⟩
  ·intro h
   have hlt : ∀ k x, Co n t s k x -> x < 2 ^ n := by
    intro k
    induction k with
    | zero => intro x h; rw [show x = s from h]; exact hs
    | succ k ihk =>
     intro x h
     rcases h with h | ⟨y, hy, j, hj, e⟩
     ·exact ihk x h
     ·rw [← e]; exact TW.iy (ihk y hy) (TW.eU hj).1
   refine ⟨hlt (k + 1) x h, ?_⟩
   rcases h with h | ⟨y, hy, h⟩
   ·exact .inl ((ih x).mpr h)
   ·exact .inr ⟨y, (ih y).mpr hy, h⟩
theorem Co.lt {n : Nat} {t : List Nat} {s : Nat} (hs : s < 2 ^ n) : ∀ {k x}, Co n t s k x -> x < 2 ^ n
 | 0, x, h => by rw [show x = s from h]; exact hs
 | k + 1, x, h => by
  rcases h with h | ⟨y, hy, j, hj, e⟩
  ·exact Co.lt hs h
  ·rw [← e]; exact TW.iy (Co.lt hs hy) (TW.eU hj).1
theorem Co.mono {n : Nat} {t : List Nat} {s x : Nat} {k : Nat} (h : Co n t s k x) : ∀ j, Co n t s (k + j) x
 | 0 => h
 | j + 1 => .inl (Co.mono h j)
theorem Co.le {n : Nat} {t : List Nat} {s x : Nat} {k m : Nat} (h : Co n t s k x) (hkm : k <= m) : Co n t s m x := by
 have := Co.mono h (m - k)
 rwa [show k + (m - k) = m by omega] at this
theorem Co.stop {n : Nat} {t : List Nat} {s k : Nat} (h : ∀ x, Co n t s (k + 1) x -> Co n t s k x) : ∀ j x, Co n t s (k + j) x -> Co n t s k x
 | 0, x, hx => hx
 | j + 1, x, hx => by
  rcases hx with hx | ⟨y, hy, q⟩
  ·exact Co.stop h j x hx
  ·exact h x (.inr ⟨y, Co.stop h j y hy, q⟩)
noncomputable def cnt (n : Nat) (t : List Nat) (s k : Nat) : Nat := ((List.range (2 ^ n)).filter fun x => @decide (Co n t s k x) (Classical.propDecidable _)).length
theorem Iy (n : Nat) (t : List Nat) (s k : Nat) : cnt n t s k <= 2 ^ n := by
 unfold cnt
 exact zAn (zAm _ _) (by simp)
open Classical in
theorem Iw {n : Nat} {t : List Nat} {s k : Nat} (hs : s < 2 ^ n) (h : ¬ ∀ x, Co n t s (k + 1) x -> Co n t s k x) : cnt n t s k < cnt n t s (k + 1) := by
 unfold cnt
 obtain ⟨x, hx⟩ := Classical.not_forall.mp h
 obtain ⟨h1, h2⟩ := Classical.not_imp.mp hx
 refine tI (fun y _ hy => ?_) ⟨x, zAk.mpr (Co.lt hs h1), ?_, ?_⟩
 ·have hy := zAe hy
  exact zAf (Or.inl hy)
 ·exact zBm h2
 ·exact zAf h1
open Classical in
theorem Jl {n : Nat} {t : List Nat} {s : Nat} (hs : s < 2 ^ n) : ∃ k, k < 2 ^ n /\ ∀ x, Co n t s (k + 1) x -> Co n t s k x := by
 apply zAo
 intro hno
 have h0 : 0 < cnt n t s 0 := by
  unfold cnt
  apply zBc.mpr
  intro e
  have := zCg.mp e s (zAk.mpr hs)
  apply this
  exact zAf (show s = s from rfl)
 have key : ∀ k, k <= 2 ^ n -> k + 1 <= cnt n t s k := by
  intro k
  induction k with
  | zero => intro _; exact h0
  | succ k ih =>
   intro hk
   have := Iw (t := t) (k := k) hs fun q => hno ⟨k, by omega, q⟩
   have := ih (by omega)
   omega
 have h1 := key (2 ^ n) (zAt _)
 have h2 := Iy n t s (2 ^ n)
 omega
def qw (n : Nat) (t : List Nat) (s x : Nat) : Prop := ∃ k, Co n t s k x
theorem tT {n : Nat} {t : List Nat} {s x : Nat} (hs : s < 2 ^ n) (h : qw n t s x) : ∃ k, k < 2 ^ n /\ Co n t s k x := by
 obtain ⟨m, hm⟩ := h
 obtain ⟨k, hk, hst⟩ := Jl (t := t) hs
 by_cases hmk : m <= k
 ·exact ⟨k, hk, hm.le hmk⟩
 ·exact ⟨k, hk, Co.stop hst (m - k) x (by rwa [show k + (m - k) = m by omega])⟩
theorem gf {n : Nat} {t : List Nat} {s x : Nat} (hs : s < 2 ^ n) : x ∈ Kzk4.reach n t s <-> qw n t s x := by
 rw [k5, m6 hs]
 constructor
 ·intro h; exact ⟨_, h⟩
 ·intro h
  obtain ⟨k, hk, hc⟩ := tT hs h
  exact hc.le (zCf hk)
theorem wM {n : Nat} {t : List Nat} {s : Nat} (hs : s < 2 ^ n) {p : Nat -> Bool} (hp : ∀ x, x < 2 ^ n -> (p x = true <-> qw n t s x)) : Kzk4.reach n t s = (List.range (2 ^ n)).filter p := by
 have e : ∃ l, Kzk4.reach n t s = Kzk4.wider n t l /\ ∀ x, x ∈ Kzk4.wider n t l <-> qw n t s x := by
  obtain ⟨m, hm⟩ : ∃ m, 2 ^ n = m + 1 := ⟨2 ^ n - 1, by have := zCe n; omega⟩
  refine ⟨wid n t m [s], ?_, fun x => ?_⟩
  ·rw [k5, hm]; rfl
  ·rw [← gf hs, k5, hm]; rfl
 obtain ⟨l, e1, e2⟩ := e
 rw [e1]
 unfold Kzk4.wider Kzk1.states
 apply List.filter_congr
 intro x hx
 have hx := zAk.mp hx
 rw [zCo, hp x hx, ← e2 x]
 unfold Kzk4.wider Kzk1.states
 rw [zBe, zAk]
 constructor
 ·intro h; exact ⟨hx, h⟩
 ·intro h; exact h.2
theorem xX {n : Nat} {t : List Nat} {s x : Nat} (hs : s < 2 ^ n) : ∀ (f k : Nat), Kzk4.farOn n t x f k (wid n t k [s]) = ((List.range' k f).find? fun m => (wid n t m [s]).contains x)
 | 0, k => rfl
 | f + 1, k => by
  show (if (wid n t k [s]).contains x then some k else Kzk4.farOn n t x f (k + 1) (Kzk4.wider n t (wid n t k [s]))) = _
  rw [List.range'_succ, List.find?_cons]
  by_cases h : (wid n t k [s]).contains x = true
  ·rw [if_pos h, h]
  ·rw [if_neg h]
   have h2 : (wid n t k [s]).contains x = false := by simpa using h
   rw [h2]
   exact xX hs f (k + 1)
theorem Dh {n : Nat} {t : List Nat} {s x k : Nat} (hs : s < 2 ^ n) (h : Co n t s k x) (hno : ∀ j, j < k -> ¬ Co n t s j x) : Kzk4.far n t s x = some k := by
 have hk : k < 2 ^ n := by
  obtain ⟨m, hm, hc⟩ := tT hs ⟨k, h⟩
  apply zAo
  intro hn
  exact hno m (by omega) hc
 unfold Kzk4.far
 have := xX (x := x) (t := t) hs (2 ^ n + 1) 0
 rw [show wid n t 0 [s] = [s] from rfl] at this
 rw [this, ← List.range_eq_range']
 refine fj (by omega) ?_ fun j hj => ?_
 ·simpa using (m6 hs k x).mpr h
 ·have := mt (m6 (t := t) hs j x).mp (hno j hj)
  simpa using this
theorem Di {n : Nat} {t : List Nat} {s x : Nat} (hs : s < 2 ^ n) (h : ¬ qw n t s x) : Kzk4.far n t s x = none := by
 unfold Kzk4.far
 have := xX (x := x) (t := t) hs (2 ^ n + 1) 0
 rw [show wid n t 0 [s] = [s] from rfl] at this
 rw [this]
 refine List.find?_eq_none.mpr fun k _ => ?_
 have := mt (m6 (t := t) hs k x).mp fun q => h ⟨k, q⟩
 simpa using this
theorem qw.refl (n : Nat) (t : List Nat) (s : Nat) : qw n t s s := ⟨0, rfl⟩
end TM
namespace TM
theorem AK {N : Nat} {q : Nat -> Bool} {sz : Nat -> Nat} {h0 : Nat} (hN : h0 < N) (hq : q h0 = true) (Lc : ∀ x, x < N -> q x = true -> sz h0 <= sz x) (Li : ∀ x, x < h0 -> q x = true -> sz h0 < sz x) :
  (((List.range N).filter q).find? fun h => ((List.range N).filter q).all fun x => decide (sz h <= sz x)) = some h0 := by
 have gI : (((List.range N).filter q).all fun x => decide (sz h0 <= sz x)) = true := by
  rw [zBa]
  intro x hx
  obtain ⟨h1, h2⟩ := zBe.mp hx
  exact zAf (Lc x (zAk.mp h1) h2)
 have e : List.range N = List.range h0 ++ (h0 :: List.range' (h0 + 1) (N - (h0 + 1))) := by
  have h1 := List.range'_append_1 (s := 0) (m := h0) (n := N - h0)
  rw [Nat.zero_add, show h0 + (N - h0) = N by omega] at h1
  rw [List.range_eq_range', ← h1, List.range_eq_range', show N - h0 = (N - (h0 + 1)) + 1 by omega, List.range'_succ]
 generalize hc : (fun h => ((List.range N).filter q).all fun x => decide (sz h <= sz x)) = f at *
 have hf0 : f h0 = true := by rw [← hc]; exact gI
 have hfx : ∀ x, x < h0 -> q x = true -> f x = false := fun x hx hqx => by
  rw [← hc]
  apply Bool.eq_false_iff.mpr
  intro z
  have := zAe (zBa.mp z h0 (zBe.mpr ⟨zAk.mpr hN, hq⟩))
  have := Li x hx hqx
  omega
 rw [e, zCc, List.find?_append, zBd, if_pos hq, List.find?_cons, hf0]
 have : ((List.range h0).filter q).find? f = none := List.find?_eq_none.mpr fun x hx => by
  obtain ⟨h1, h2⟩ := zBe.mp hx
  rw [hfx x (zAk.mp h1) h2]; decide
 rw [this]; rfl
def xx (n : Nat) (k : List (List Nat)) (l : List Nat) (j : Nat) : Nat := ((List.range n).map fun i => if Kzk2.at_ k i j = 0 then 0 else l.getD i 0 + 1).foldl max 0
theorem xw (n : Nat) (k : List (List Nat)) (f : Nat) {j : Nat} (hj : j < n) : Kzk2.layerOn n k (f + 1) j = xx n k ((List.range n).map (Kzk2.layerOn n k f)) j := by
 unfold xx
 show (((List.range n).map fun i => if Kzk2.at_ k i j = 0 then 0 else Kzk2.layerOn n k f i + 1).foldl max 0) = _
 congr 1
 apply List.map_congr_left
 intro i hi
 have hi := zAk.mp hi
 rw [zAb, zAh, zAc (by simpa using hi)]
 simp
end TM
namespace TW
open PySem PySem.Spec PyProof.Rows L2 TM
open Kzk (Board Hall)
theorem bx {b : Board} (ok : OkB b) (h1 : 1 <= b.n) : Kzk1.okTowers b.n (Kzk.rules b) = true := by
 unfold Kzk1.okTowers
 have e1 : (Kzk.rules b).length = b.n := aH b
 have e2 : ((Kzk.rules b).all fun r => decide (r < 2 ^ 2 ^ b.n)) = true := by
  rw [zBa]
  intro r hr
  unfold Kzk.rules Kzk5.held at hr
  obtain ⟨j, hj, rfl⟩ := zAq.mp hr
  have hj := zAk.mp hj
  apply zAf
  have hp : 0 < 2 ^ 2 ^ b.n := zCe _
  split
  ·split
   ·omega
   ·exact hp
  ·rw [zAb, zAc (by rw [ok.tl]; exact hj)]
   exact ok.tb _ (zCi _)
 have h4 := ok.n4
 rw [e1, e2]
 simp [h1, h4]
theorem eP {b : Board} (ok : OkB b) (h1 : 1 <= b.n) : Kzk1.good b.n b.s (Kzk.rules b) = true := by
 unfold Kzk1.good
 rw [bx ok h1]
 simp [ok.sb]
section
variable {P : Program} {w : World} {K : PySem.W.Frag} {mg : Str -> Option Value} {base : Heap} {C : Addr}
theorem uD {n : Nat} {rs : List Nat} {s : Nat} (h : n <= 4) (hs : s < 2 ^ n) : (Kzk1.round n rs s).length <= 16 := by
 obtain ⟨i, m, o⟩ := rT (fun x _ => aS n rs x) hs
 have := o.le (N := 2 ^ n) (fun x _ => aS n rs x) hs
 have := aT h
 rw [iT o hs, List.length_drop, zAa, zAr]; omega
def uk (K : PySem.W.Frag) (C : Addr) : Sp := fun vs H Q _ => vs.length = 1 /\ ∃ (a : Addr) (h : Hall) (d : Ad), vs = [.ref a] /\ 1 <= h.now.n /\ Told C H a h d (Kzk.ask h.now .round) Q
abbrev jE : KK := fun P w K mg b C => Cal P w K mg b "round_of" 6 ["watch"] (uk K C)
theorem uX (F : Fa K mg "round_of" (top 101)) (T : Txt K mg C) (gM : eG P w K mg base C) (cy : cO P w K mg base C) (aw : aF P w K mg base C) (ah : aB P w K mg base C) : jE P w K mg base C := by
 refine okF ["watch", "nexts", "states"] F fun nd f cdv A outer s0 H vs Q E hr h => ?_
 obtain ⟨_, a, h, d, rfl, hn1, W, k⟩ := h
 obtain ⟨dx, h1⟩ := W.ob
 have ok := W.ok
 have hlen := aH h.now
 have bu : Kzk.ask h.now .round = ⟨(Kzk1.tail h.now.n (Kzk.rules h.now) h.now.s : Nat), (Kzk1.round h.now.n (Kzk.rules h.now) h.now.s).length :: Kzk1.round h.now.n (Kzk.rules h.now) h.now.s⟩ := by
  show (if Kzk1.good h.now.n h.now.s (Kzk.rules h.now) = false then _ else _) = _
  rw [eP ok hn1]; rfl
 rw [bu] at k
 refine ⟨_, (aa (st 1 nd (au aw hr rfl (a1 (bD T.cl ah hr (pv 0)))))
   (aa (st 2 nd (au cy hr rfl (a2 (pv 1) (pf K (pv 0)))))
   (ab (af (aZ cM (ay (a2 (au gM hr rfl (a2 (pv 1) (pf K (pv 0)))) (ln T (pv 2)))) (pv 2)))))), ?_⟩
 refine ⟨_, rfl, a, dx, _, rfl, h1, aO _ _, rfl, _, _, _, rfl, W, fun H1 R s1 hR hRl => ?_⟩
 refine ⟨rfl, _, _, rfl, .inl (.inl hRl), by rw [hlen]; exact ok.n4, fun H2 N s2 hN hNl => ?_⟩
 rw [hlen] at hNl
 refine ⟨_, rfl, _, rfl, a, C, dx, _, _, rfl, s2 _ _ (s1 _ _ h1), T.cl, T.ba, a0 _ _, rfl, _, _, _, _, rfl, .inl (.inl hNl), ok.n4, ok.sb, fun H3 S s3 hS hSl => ?_⟩
 refine ⟨_, rfl, _, rfl, a, C, dx, _, _, rfl, s3 _ _ (s2 _ _ (s1 _ _ h1)), T.cl, T.ba, a0 _ _, rfl, _, _, _, _, rfl, .inl (.inl (s3 _ _ hNl)), ok.n4, ok.sb, fun H4 s4 => ?_⟩
 refine ⟨_, rfl, _, _, rfl, .inl (.inl (.inl (s4 _ _ hSl))), by show 2 <= sizeLine; decide, fun g hg => ⟨_, rfl, _, _, _, _, rfl, rfl, ae, aq hg _ _ (s4 _ _ hSl), ?_, fun p hp => ?_⟩⟩
 ·rw [zAa]
  have := uD (rs := Kzk.rules h.now) ok.n4 ok.sb
  exact bw (by show 2 + _ <= _; omega)
 have s5 := ((s1.trans s2).trans s3).trans s4
 have s6 := ak (o := .lst [nv (Kzk1.tail h.now.n (Kzk.rules h.now) h.now.s), nv (Kzk1.round h.now.n (Kzk.rules h.now) h.now.s).length]) s5 (s5.free hg)
 rw [zAa] at hp ⊢
 refine k _ p (ak s6 (s6.free hp)) (s6.free hp) (bJ.of ?_)
 rw [ae]; rfl
def zK (K : PySem.W.Frag) (C : Addr) : Sp := fun vs H Q _ => vs.length = 1 /\ ∃ (a : Addr) (h : Hall) (d : Ad), vs = [.ref a] /\ 1 <= h.now.n /\ Told C H a h d (Kzk.ask h.now .before) Q
abbrev oM : KK := fun P w K mg b C => Cal P w K mg b "before" 6 ["watch"] (zK K C)
theorem An (F : Fa K mg "before" (top 103)) (T : Txt K mg C) (aw : aF P w K mg base C) (ah : aB P w K mg base C) : oM P w K mg base C := by
 refine okF ["watch", "nexts", "states", "state"] F fun nd f cdv A outer s0 H vs Q E hr h => ?_
 obtain ⟨_, a, h, d, rfl, hn1, W, k⟩ := h
 obtain ⟨dx, h1⟩ := W.ob
 have ok := W.ok
 have hlen := aH h.now
 have h16 := aT ok.n4
 have bu : Kzk.ask h.now .before = Kzk1.told (Kzk1.before h.now.n (Kzk.rules h.now) h.now.s) := by
  show (if Kzk1.good h.now.n h.now.s (Kzk.rules h.now) = false then _ else _) = _
  rw [eP ok hn1]; rfl
 rw [bu] at k
 refine ⟨_, (aa (st 1 nd (au aw hr rfl (a1 (bD T.cl ah hr (pv 0)))))
   (aa (sf 2 3 nd (r1 T (ln T (pv 1))) (cn (tc dq (ix K (pv 1) (pv 3)) (pf K (pv 0)))) (pv 3))
   (ab (af (aZ cM (ay (a1 (ln T (pv 2)))) (pv 2)))))), ?_⟩
 refine ⟨_, rfl, a, dx, _, rfl, h1, aO _ _, rfl, _, _, _, rfl, W, fun H1 R s1 hR hRl => ?_⟩
 refine ⟨rfl, _, _, rfl, .inl (.inl hRl), by rw [hlen]; exact ok.n4, fun H2 N s2 hN hNl => ?_⟩
 rw [hlen] at hNl
 have s12 := s1.trans s2
 refine ⟨_, rfl, _, _, rfl, .inl (.inl (.inl hNl)), _, rfl, a8 _, a9 (by rw [zAa, aR]; omega), fun D hD => ?_⟩
 rw [zAl, zAa, aR]
 refine bR (fun x => Kzk1.next h.now.n (Kzk.rules h.now) x == h.now.s) (fun j => nv j) hD (by omega) (fun j H3 hj s3 R' R'' r1 r2 => ?_) (fun H3 s3 hH => ?_)
 ·refine ⟨rfl, _, rfl, _, rfl, _, _, _, _, rfl, rfl, .inl (.inl (s3 _ _ hNl)), aQ (by rw [aR]; exact hj), _, rfl, a, C, dx, _, _, rfl, s3 _ _ (s12 _ _ h1), T.cl, T.ba, a0 _ _, _, _, rfl, rfl, _, rfl, aJ (fun hc => ?_) (fun hc => ?_)⟩
  ·rw [bE _ hj] at hc
   exact ⟨_, rfl, r1 (by simpa using hc) _ (az.refl _)⟩
  ·rw [bE _ hj] at hc
   exact r2 (by simpa using hc) _ (az.refl _)
 ·have hH : H3 D = some (.lst ((Kzk1.before h.now.n (Kzk.rules h.now) h.now.s).map nv)) := hH
  have Lg : (Kzk1.before h.now.n (Kzk.rules h.now) h.now.s).length <= 16 := zAn (zAm _ _) (by unfold Kzk1.states; rw [zAr]; exact h16)
  refine ⟨_, rfl, _, _, rfl, .inl (.inl (.inl hH)), by show 1 <= sizeLine; decide, fun g hg => ⟨_, rfl, _, _, _, _, rfl, rfl, ae, aq hg _ _ hH, ?_, fun p hp => ?_⟩⟩
  ·rw [zAa]; exact bw (by show 1 + _ <= _; omega)
  have s4 := s12.trans s3
  rw [zAa] at hp ⊢
  have s6 := ak (o := .lst [nv (Kzk1.before h.now.n (Kzk.rules h.now) h.now.s).length]) s4 (s4.free hg)
  refine k _ p (ak s6 (s6.free hp)) (s6.free hp) (bJ.of ?_)
  rw [ae]; rfl
abbrev JU (K : PySem.W.Frag) : List V -> Hp -> VK -> Prop := fun xs H Q => ∃ p ys, xs = [.ref p] /\ (SqL K H p ys \/ SqT K H p ys) /\ Q (.int ys.length) H
theorem ij {σ : L2.St} {i : Nat} {H : Hp} {D : Addr} {l : List Nat} {E : Ends} (hσ : σ[i]? = some (some (.ref D))) (hH : H D = some (.lst (l.map nv))) (hl : l.length <= 100000)
  (k : ∀ H' p, az H H' -> H p = none -> H' p = some (.lst ((l.length :: l).map nv)) -> E.rt (.ref p) H') : DU (tOp Jx (DW (cT (tCB (JU K) (cT (dS i) fL)) fL)) (dS i)) E σ H := by
 refine ⟨_, hσ, _, _, rfl, .inl (.inl (.inl hH)), by show 1 <= sizeLine; decide, fun g hg => ⟨_, hσ, _, _, _, _, rfl, rfl, ae, aq hg _ _ hH, ?_, fun p hp => ?_⟩⟩
 ·rw [zAa]; exact bw (by show 1 + _ <= _; omega)
 ·rw [zAa] at hp ⊢
  have s6 := aq (o := .lst [nv l.length]) hg
  refine k _ p (ak s6 (s6.free hp)) (s6.free hp) ?_
  rw [ae]; rfl
def wD (K : PySem.W.Frag) (C : Addr) : Sp := fun vs H Q _ => vs.length = 1 /\ ∃ (a : Addr) (h : Hall) (d : Ad), vs = [.ref a] /\ 1 <= h.now.n /\ Told C H a h d (Kzk.ask h.now .gardens) Q
theorem qY {n : Nat} {rs : List Nat} {s : Nat} : (Kzk1.before n rs s).isEmpty = !decide (s ∈ ff n rs) := by
 rw [zCo, List.isEmpty_iff]
 unfold Kzk1.before
 rw [zCg]
 simp only [Bool.not_eq_true', decide_eq_false_iff_not]
 constructor
 ·intro h hm
  obtain ⟨x, hx, e⟩ := zAq.mp hm
  exact h x hx (by simpa using e)
 ·intro h x hx e
  exact h (zAq.mpr ⟨x, hx, by simpa using e⟩)
abbrev lF : KK := fun P w K mg b C => Cal P w K mg b "gardens" 6 ["watch"] (wD K C)
theorem xh (F : Fa K mg "gardens" (top 104)) (T : Txt K mg C) (aw : aF P w K mg base C) (ah : aB P w K mg base C) : lF P w K mg base C := by
 refine okF ["watch", "nexts", "states", "state"] F fun nd f cdv A outer s0 H vs Q E hr h => ?_
 obtain ⟨_, a, h, d, rfl, hn1, W, k⟩ := h
 obtain ⟨dx, h1⟩ := W.ob
 have ok := W.ok
 have hlen := aH h.now
 have h16 := aT ok.n4
 have bu : Kzk.ask h.now .gardens = Kzk1.told (Kzk1.gardens h.now.n (Kzk.rules h.now)) := by
  show (if Kzk1.okTowers h.now.n (Kzk.rules h.now) = false then _ else _) = _
  rw [bx ok hn1]; rfl
 rw [bu] at k
 refine ⟨_, (aa (st 1 nd (au aw hr rfl (a1 (bD T.cl ah hr (pv 0)))))
   (aa (sf 2 3 nd (r1 T (ln T (pv 1))) (cn (tc (yU K) (pv 3) (pv 1))) (pv 3))
   (ab (af (aZ cM (ay (a1 (ln T (pv 2)))) (pv 2)))))), ?_⟩
 refine ⟨_, rfl, a, dx, _, rfl, h1, aO _ _, rfl, _, _, _, rfl, W, fun H1 R s1 hR hRl => ?_⟩
 refine ⟨rfl, _, _, rfl, .inl (.inl hRl), by rw [hlen]; exact ok.n4, fun H2 N s2 hN hNl => ?_⟩
 rw [hlen] at hNl
 have s12 := s1.trans s2
 refine ⟨_, rfl, _, _, rfl, .inl (.inl (.inl hNl)), _, rfl, a8 _, a9 (by rw [zAa, aR]; omega), fun D hD => ?_⟩
 rw [zAl, zAa, aR]
 refine bR (fun s => (Kzk1.before h.now.n (Kzk.rules h.now) s).isEmpty) (fun j => nv j) hD (by omega) (fun j H3 hj s3 R' R'' r1 r2 => ?_) (fun H3 s3 hH => ?_)
 ·refine ⟨rfl, _, rfl, _, rfl, _, _, rfl, .inl (.inl (.inl (s3 _ _ hNl))), rfl, cK _, _, rfl, aJ (fun hc => ?_) (fun hc => ?_)⟩
  ·rw [if_pos rfl, cx, ← qY] at hc
   exact ⟨_, rfl, r1 hc _ (az.refl _)⟩
  ·rw [if_pos rfl, cx, ← qY] at hc
   exact r2 (by simpa using hc) _ (az.refl _)
 ·have Lg : (Kzk1.gardens h.now.n (Kzk.rules h.now)).length <= 16 := zAn (zAm _ _) (by unfold Kzk1.states; rw [zAr]; exact h16)
  have s4 := s12.trans s3
  exact ij (l := Kzk1.gardens h.now.n (Kzk.rules h.now)) rfl hH (by omega) fun H' p s5 hp hL => k _ p (s4.trans s5) (s4.free hp) (bJ.of hL)
def By (K : PySem.W.Frag) (C : Addr) : Sp := fun vs H Q _ => vs.length = 1 /\ ∃ (a : Addr) (h : Hall) (d : Ad), vs = [.ref a] /\ 1 <= h.now.n /\ Told C H a h d (Kzk.ask h.now .basin) Q
abbrev sU : KK := fun P w K mg b C => Cal P w K mg b "basin" 6 ["watch"] (By K C)
theorem Cu (F : Fa K mg "basin" (top 105)) (T : Txt K mg C) (cy : cO P w K mg base C) (aw : aF P w K mg base C) (ah : aB P w K mg base C) : sU P w K mg base C := by
 refine okF ["watch", "nexts", "least", "states", "state"] F fun nd f cdv A outer s0 H vs Q E hr h => ?_
 obtain ⟨_, a, h, d, rfl, hn1, W, k⟩ := h
 obtain ⟨dx, h1⟩ := W.ob
 have ok := W.ok
 have hlen := aH h.now
 have h16 := aT ok.n4
 have bu : Kzk.ask h.now .basin = Kzk1.say (Kzk1.basin h.now.n (Kzk.rules h.now) h.now.s : Nat) := by
  show (if Kzk1.good h.now.n h.now.s (Kzk.rules h.now) = false then _ else _) = _
  rw [eP ok hn1]; rfl
 rw [bu] at k
 refine ⟨_, (aa (st 1 nd (au aw hr rfl (a1 (bD T.cl ah hr (pv 0)))))
   (aa (st 2 nd (cb (oB K) T.vW pq (au cy hr rfl (a2 (pv 1) (pf K (pv 0))))))
   (aa (sf 3 4 nd (r1 T (ln T (pv 1))) (cn (tc dq (cb (oB K) T.vW pq (au cy hr rfl (a2 (pv 1) (pv 4)))) (pv 2))) (pv 4))
   (ab (af (ay (a1 (ln T (pv 3))))))))), ?_⟩
 refine ⟨_, rfl, a, dx, _, rfl, h1, aO _ _, rfl, _, _, _, rfl, W, fun H1 R s1 hR hRl => ?_⟩
 refine ⟨rfl, _, _, rfl, .inl (.inl hRl), by rw [hlen]; exact ok.n4, fun H2 N s2 hN hNl => ?_⟩
 rw [hlen] at hNl
 have s12 := s1.trans s2
 refine ⟨_, rfl, _, rfl, a, C, dx, _, _, rfl, s12 _ _ h1, T.cl, T.ba, a0 _ _, rfl, _, _, _, _, rfl, .inl (.inl hNl), ok.n4, ok.sb, fun H3 S s3 hS hSl => ?_⟩
 refine ⟨_, _, rfl, .inl (.inl hSl), ig ok.sb, ?_⟩
 refine ⟨_, rfl, _, _, rfl, .inl (.inl (.inl (s3 _ _ hNl))), _, rfl, a8 _, a9 (by rw [zAa, aR]; omega), fun D hD => ?_⟩
 rw [zAl, zAa, aR]
 refine bR (fun x => Kzk1.least (Kzk1.round h.now.n (Kzk.rules h.now) x) == Kzk1.least (Kzk1.round h.now.n (Kzk.rules h.now) h.now.s)) (fun j => nv j) hD (by omega) (fun j H4 hj s4 R' R'' r1 r2 => ?_) (fun H4 s4 hH => ?_)
 ·refine ⟨rfl, _, rfl, _, rfl, rfl, _, _, _, _, rfl, .inl (.inl (s4 _ _ (s3 _ _ hNl))), ok.n4, hj, fun H5 S5 s5 hS5 Ln => ⟨_, _, rfl, .inl (.inl Ln), ig hj, _, rfl, _, _, rfl, rfl, _, rfl, aJ (fun hc => ?_) (fun hc => ?_)⟩⟩
  ·exact ⟨_, rfl, r1 (by simpa using hc) _ s5⟩
  ·exact r2 (by simpa using hc) _ s5
 ·refine ⟨_, rfl, _, _, rfl, .inl (.inl (.inl hH)), by show 1 <= sizeLine; decide, fun p hp => ?_⟩
  have s5 := (s12.trans s3).trans s4
  refine k _ p (ak s5 (s5.free hp)) (s5.free hp) (bJ.of ?_)
  rw [ae, zAa]; rfl
def zE (K : PySem.W.Frag) (C : Addr) : Sp := fun vs H Q _ => vs.length = 1 /\ ∃ (a : Addr) (h : Hall) (d : Ad), vs = [.ref a] /\ 1 <= h.now.n /\ Told C H a h d (Kzk.ask h.now .rounds) Q
def rds (n : Nat) (rs : List Nat) (i : Nat) : List Nat := (List.range i).filter fun s => Kzk1.least (Kzk1.round n rs s) == s
theorem j4 (n : Nat) (rs : List Nat) (i : Nat) : rds n rs (i + 1) = rds n rs i ++ if (Kzk1.least (Kzk1.round n rs i) == i) = true then [i] else [] := by
 unfold rds
 rw [List.range_succ, zCc]
 congr 1
 by_cases h : (Kzk1.least (Kzk1.round n rs i) == i) = true
 ·simp [h]
 ·simp [h]
theorem yz (n : Nat) (rs : List Nat) (i : Nat) : (rds n rs i).length <= i := zAn (zAm _ _) (by rw [zAr]; exact zAt _)
theorem gm (f : Nat -> Nat) : ∀ l : List Nat, (l.flatMap fun s => [s, f s]).length = 2 * l.length
 | [] => rfl
 | x :: l => by rw [List.flatMap_cons, zAi, gm f l, zAz]; simp; omega
abbrev oG : KK := fun P w K mg b C => Cal P w K mg b "rounds" 6 ["watch"] (zE K C)
theorem Ah (F : Fa K mg "rounds" (top 102)) (T : Txt K mg C) (cy : cO P w K mg base C) (aw : aF P w K mg base C) (ah : aB P w K mg base C) : oG P w K mg base C := by
 refine okF ["watch", "nexts", "found", "told", "state", "states"] F fun nd f cdv A outer s0 H vs Q E hr h => ?_
 obtain ⟨_, a, h, d, rfl, hn1, W, k⟩ := h
 obtain ⟨dx, h1⟩ := W.ob
 have ok := W.ok
 have hlen := aH h.now
 have h16 := aT ok.n4
 have bu : Kzk.ask h.now .rounds = ⟨((Kzk1.rounds h.now.n (Kzk.rules h.now)).length : Nat), (Kzk1.rounds h.now.n (Kzk.rules h.now)).flatMap fun s => [s, Kzk1.long h.now.n (Kzk.rules h.now) s]⟩ := by
  show (if Kzk1.okTowers h.now.n (Kzk.rules h.now) = false then _ else _) = _
  rw [bx ok hn1]; rfl
 rw [bu] at k
 generalize hn : h.now.n = n at *
 generalize hrs : Kzk.rules h.now = rs at *
 refine ⟨_, (aa (st 1 nd (au aw hr rfl (a1 (bD T.cl ah hr (pv 0)))))
   (aa (st 2 nd (ai 0))
   (aa (st 3 nd (ay bC))
   (aa (fo 4 nd (r1 T (ln T (pv 1))) (aa (st 5 nd (au cy hr rfl (a2 (pv 1) (pv 4))))
   (ab (aA (tc dq (cb (oB K) T.vW pq (pv 5)) (pv 4)) (aa (iu (i := 2) nd rfl (Or.inl rfl) (ai 1) fJ)
   (aa (aX (pbm K zBj zBk bH (pv 3) (a1 (pv 4))))
   (ab (aX (pbm K zBj zBk bH (pv 3) (a1 (ln T (pv 5)))))))) aj))))
   (ab (af (aZ cM (ay (a1 (pv 2))) (pv 3)))))))), ?_⟩
 refine ⟨_, rfl, a, dx, _, rfl, h1, aO _ _, rfl, _, _, _, rfl, W, fun H1 R s1 hR hRl => ?_⟩
 rw [hrs] at hRl
 refine ⟨rfl, _, _, rfl, .inl (.inl hRl), by rw [hlen, ← hn]; exact ok.n4, fun H2 N s2 hN hNl => ?_⟩
 rw [hlen] at hNl
 have s12 := s1.trans s2
 refine ⟨zBf _, fun D hD => ?_⟩
 have hD0 := s12.free hD
 refine ⟨_, rfl, _, _, rfl, .inl (.inl (.inl (aq hD _ _ hNl))), _, rfl, a8 _, a9 (by rw [zAa, aR]; omega), ?_⟩
 rw [zAl, zAa, aR]
 refine bq (fun i σ H' => az H2 H' /\ (∃ v w, σ = [some (.ref a), some (.ref N), some (nv (rds n rs i).length), some (.ref D), v, w]) /\ H' D = some (.lst (((rds n rs i).flatMap fun s => [s, Kzk1.long n rs s]).map nv))) ⟨aq hD, ⟨none, none, rfl⟩, ae⟩ ?_ ?_
 ·rintro i σ H3 hi ⟨s3, ⟨v, w, rfl⟩, hL⟩
  rw [bj]
  refine ⟨_, rfl, _, rfl, rfl, _, _, _, _, rfl, .inl (.inl (s3 _ _ hNl)), by rw [← hn]; exact ok.n4, hi, fun H4 S s4 hS hSl => ?_⟩
  have hL4 := s4 _ _ hL
  have s34 := s3.trans s4
  have hl1 := yz n rs i
  have hl2 := gm (Kzk1.long n rs) (rds n rs i)
  refine ⟨_, rfl, _, _, rfl, .inl (.inl hSl), ig hi, _, rfl, _, _, rfl, rfl, _, rfl, aJ (fun hc => ?_) (fun hc => ?_)⟩
  ·have hc : Kzk1.least (Kzk1.round n rs i) = i := zAe hc
   have hm := iW (ig (t := rs) hi)
   rw [hc] at hm
   have hlo := (nL hi hm).2
   have hSD : S ≠ D := by rintro rfl; rw [hL] at hS; cases hS
   refine ⟨_, rfl, _, _, rfl, rfl, ?_⟩
   refine ⟨_, rfl, .inl ⟨rfl, _, .inl (.inl hL4)⟩, _, rfl, _, _, _, rfl, rfl, hL4, by rw [zAa, hl2]; exact bo (by omega), ?_⟩
   refine ⟨_, rfl, .inl ⟨rfl, _, .inl (.inl ae)⟩, _, rfl, _, _, rfl, .inl (.inl (.inl ((ag hSD).trans hSl))), _, _, _, rfl, rfl, ae, by rw [zAi, zAa, hl2]; exact bo (by show _ + 1 <= _; omega), ?_⟩
   refine ⟨ak (ak s34 hD) hD, ⟨some (nv i), some (.ref S), ?_⟩, ?_⟩
   ·rw [j4, if_pos (by simpa using hc), zAi]; rfl
   ·rw [ae, j4, if_pos (by simpa using hc), List.flatMap_append, zAp, zAa, hlo, zBy]; rfl
  ·have hc : ¬ Kzk1.least (Kzk1.round n rs i) = i := fun z => hc (zAf z)
   refine ⟨s34, ⟨some (nv i), some (.ref S), ?_⟩, ?_⟩
   ·rw [j4, if_neg (by simpa using hc), zBz]; rfl
   ·rw [j4, if_neg (by simpa using hc), zBz]; exact hL4
 ·rintro σ H3 ⟨s3, ⟨v, w, rfl⟩, hL⟩
  have e : rds n rs (2 ^ n) = Kzk1.rounds n rs := by rw [zO]; rfl
  rw [e] at hL ⊢
  have hl1 := yz n rs (2 ^ n)
  rw [e] at hl1
  have hl2 := gm (Kzk1.long n rs) (Kzk1.rounds n rs)
  refine ⟨_, rfl, by show 1 <= sizeLine; decide, fun g hg => ⟨_, rfl, _, _, _, _, rfl, rfl, ae, aq hg _ _ hL, ?_, fun p hp => ?_⟩⟩
  ·rw [zAa, hl2]; exact bw (by show 1 + _ <= _; omega)
  have s4 := s12.trans s3
  have s6 := ak (o := .lst [nv (Kzk1.rounds n rs).length]) s4 (s4.free hg)
  refine k _ p (ak s6 (s6.free hp)) (s6.free hp) (bJ.of ?_)
  rw [ae]; rfl
end
end TW
namespace TW
open PySem PySem.Spec PyProof.Rows L2 TM
open Kzk (Board Hall)
theorem oq : ∀ (l : List Nat) (a b : Nat), l.foldl max a <= b <-> a <= b /\ ∀ x ∈ l, x <= b
 | [], a, b => by simp
 | x :: l, a, b => by
  rw [zCb, oq l]
  constructor
  ·rintro ⟨h1, h2⟩
   refine ⟨by omega, fun y hy => ?_⟩
   rcases zAv.mp hy with rfl | hy
   ·omega
   ·exact h2 y hy
  ·rintro ⟨h1, h2⟩
   have := h2 x zAg
   exact ⟨by omega, fun y hy => h2 y (zAj _ hy)⟩
theorem GB {l : List Nat} {m : Nat} (h1 : m ∈ l) (h2 : ∀ y ∈ l, y <= m) : m = l.foldl max 0 := by
 apply Nat.le_antisymm
 ·exact ((oq l 0 (l.foldl max 0)).mp (zAt _)).2 m h1
 ·exact (oq l 0 m).mpr ⟨zBf _, h2⟩
theorem JT {l r : List Nat} (h : ∀ b, (∀ x ∈ l, x <= b) <-> ∀ x ∈ r, x <= b) : l.foldl max 0 = r.foldl max 0 := by
 apply Nat.le_antisymm
 ·exact (oq l 0 _).mpr ⟨zBf _, (h _).mpr ((oq r 0 _).mp (zAt _)).2⟩
 ·exact (oq r 0 _).mpr ⟨zBf _, (h _).mp ((oq l 0 _).mp (zAt _)).2⟩
theorem xA {X : Cx} (K : PySem.W.Frag) (h : X.K = K := by rfl) (hc : X.calm = true := by rfl) : bY X (.builtin "max") (fun xs H Q => ∃ (a : Addr) (l : List Nat), xs = [.ref a] /\ NL K H a l /\ l ≠ [] /\ Q (nv (l.foldl max 0)) H) := by
 intro pins s σ H xs us Q I r q
 obtain ⟨a, l, rfl, hs, hne, q⟩ := q
 refine JZ K h hc pins s σ H _ us Q I r ⟨a, l.map fun x : Nat => (x : Int), rfl, by rw [← gC]; exact hs, by rw [zAa]; exact zBc.mpr hne, fun m hm hle => ?_⟩
 obtain ⟨z, hz, rfl⟩ := zAq.mp hm
 have e : z = l.foldl max 0 := GB hz fun y hy => by
  have := hle (y : Int) (zAq.mpr ⟨y, hy, rfl⟩)
  omega
 rw [e]; exact q
theorem Fx {X : Cx} (hc : X.calm = true := by rfl) : bY X (.builtin "max") (fun xs H Q => ∃ i j : Nat, xs = [nv i, nv j] /\ Q (nv (max i j)) H) := by
 intro pins s σ H xs us Q I r q
 obtain ⟨i, j, rfl, q⟩ := q
 refine AV hc pins s σ H _ us Q I r ⟨_, _, rfl, ?_⟩
 have e : (if (j : Int) > (i : Int) then (j : Int) else (i : Int)) = ((max i j : Nat) : Int) := by split <;> omega
 rw [e]; exact q
theorem JI {X : Cx} (K : PySem.W.Frag) {o : Expr} {to : TE} {name : Str} {apos gn : Pos} {id : String} {r : V -> List V -> Hp -> VK -> Prop} (slot : Slot "list" name id) (hty : typeOf (.builtin id) = pure (.type "method_descriptor")) (hm : MtR X id r) (ho : PE X o to) (h : X.K = K := by rfl)
  (oS : attributeBase o name X.env (eval o X.env) = eval o X.env := by rfl) (oQ : (apos.endLine == gn.line) = true := by rfl) : PE X (.Call (.Attribute o name apos) [] [] gn) (Jj K "list" r to) := h ▸ Ho PySem.F.plainAttrs_list slot hty hm ho oS oQ
theorem ku {K : PySem.W.Frag} {a : Addr} {xs : List Nat} {g : TG} {tt : TT} {te : TE} {vs : List Nat} {σ : L2.St} {H1 : Hp} {D : Addr} {Qd : Hp -> Prop} (p : Nat -> Bool) (f : Nat -> V) (hA : NL K H1 a xs) (hD : H1 D = none) (hn : xs.length <= 1000000)
  (hs : ∀ (i z : Nat) H, xs[i]? = some z -> az H1 H -> ∀ (R : V -> Hp -> Prop) (R' : Hp -> Prop), (p z = true -> ∀ H4, az H H4 -> R (f z) H4) -> (p z = false -> ∀ H3, az H H3 -> R' H3) →
   g (nv z) (wipe σ vs) H fun σ2 H2 => wipe σ2 vs = wipe σ vs /\ tt σ2 H2 fun b H3 => if b = true then te σ2 H3 R else R' H3)
  (hd : ∀ H, az H1 H -> H D = some (.lst ((xs.filter p).map f)) -> Qd H) :
  ∃ W : Nat -> Nat -> Hp -> Prop, (∃ m, W 0 m (upd H1 D (.lst []))) /\ ∀ i m H, W i m H →
   ((Itl K a).stop i H /\ Qd H) \/ ((Itl K a).go i H /\ ∃ Nx : Hp -> Prop, (∀ H', Nx H' -> ∃ m', m' < m /\ W (i + 1) m' H') /\ ∀ x H', (Itl K a).yld i H x H' -> g x (wipe σ vs) H' fun σ2 H2 => wipe σ2 vs = wipe σ vs /\ tt σ2 H2 fun b H3 =>
    if b = true then te σ2 H3 fun y H4 => ∃ acc, H4 D = some (.lst acc) /\ acc.length < sizeLine /\ Nx (upd H4 D (.lst (acc ++ [y]))) else Nx H3) := by
 refine sy (xs := xs.map nv) (fun i H => az H1 H /\ H D = some (.lst (((xs.take i).filter p).map f))) ⟨aq hD, ae⟩ (fun i H _ ⟨s1, _⟩ => s1.seq hA) (fun i y H hi ⟨s1, hL⟩ => ?_) (fun H ⟨s1, hL⟩ => ?_)
 ·obtain ⟨z, hz, rfl⟩ := tu hi
  have hil := (zAd.mp hz).1
  refine hs i z H hz s1 _ _ (fun hp H4 s4 => ?_) (fun hp H3 s3 => ?_)
  ·refine ⟨_, s4 _ _ hL, ?_, ak (s1.trans s4) hD, ?_⟩
   ·rw [zAa]
    refine bo (zAn (zAm _ _) ?_)
    rw [zBo]; omega
   ·rw [ae, take_snoc hz, zCc, zBd, if_pos hp, zCd, zAp]; rfl
  ·refine ⟨s1.trans s3, ?_⟩
   rw [take_snoc hz, zCc, zBd, if_neg (by rw [hp]; decide), zCd, zBz]
   exact s3 _ _ hL
 ·rw [zAa, List.take_length] at hL
  exact hd H s1 hL
theorem yQ {K : PySem.W.Frag} {a : Addr} {chs : List (List Nat)} {g : TG} {tt : TT} {te : TE} {vs : List Nat} {σ : L2.St} {H1 : Hp} {D : Addr} {Qd : Hp -> Prop} (p : List Nat -> Bool) (f : List Nat -> V) (hA : LL H1 a chs) (hD : H1 D = none) (hn : chs.length <= 1000000)
  (hs : ∀ (i : Nat) x l H, chs[i]? = some l -> az H1 H -> H x = some (.lst (l.map nv)) -> ∀ (R : V -> Hp -> Prop) (R' : Hp -> Prop), (p l = true -> ∀ H4, az H H4 -> R (f l) H4) -> (p l = false -> ∀ H3, az H H3 -> R' H3) →
   g (.ref x) (wipe σ vs) H fun σ2 H2 => wipe σ2 vs = wipe σ vs /\ tt σ2 H2 fun b H3 => if b = true then te σ2 H3 R else R' H3)
  (hd : ∀ H, az H1 H -> H D = some (.lst ((chs.filter p).map f)) -> Qd H) :
  ∃ W : Nat -> Nat -> Hp -> Prop, (∃ m, W 0 m (upd H1 D (.lst []))) /\ ∀ i m H, W i m H →
   ((Itl K a).stop i H /\ Qd H) \/ ((Itl K a).go i H /\ ∃ Nx : Hp -> Prop, (∀ H', Nx H' -> ∃ m', m' < m /\ W (i + 1) m' H') /\ ∀ x H', (Itl K a).yld i H x H' -> g x (wipe σ vs) H' fun σ2 H2 => wipe σ2 vs = wipe σ vs /\ tt σ2 H2 fun b H3 =>
    if b = true then te σ2 H3 fun y H4 => ∃ acc, H4 D = some (.lst acc) /\ acc.length < sizeLine /\ Nx (upd H4 D (.lst (acc ++ [y]))) else Nx H3) := by
 obtain ⟨bs, hB, hBl, hBr⟩ := id hA
 refine sy (xs := bs.map V.ref) (fun i H => az H1 H /\ H D = some (.lst (((chs.take i).filter p).map f))) ⟨aq hD, ae⟩ (fun i H _ ⟨s1, _⟩ => .inl (.inl (s1 _ _ hB))) (fun i y H hi ⟨s1, hL⟩ => ?_) (fun H ⟨s1, hL⟩ => ?_)
 ·obtain ⟨x, hx, rfl⟩ : ∃ x, bs[i]? = some x /\ y = .ref x := by
   rw [zAh] at hi
   cases e : bs[i]? with
   | none => rw [e] at hi; cases hi
   | some x => rw [e] at hi; exact ⟨x, rfl, (zBl hi).symm⟩
  have hil : i < chs.length := by rw [← hBl]; exact (zAd.mp hx).1
  have hxc := hBr i x hx
  have e2 : chs[i]? = some (chs.getD i []) := by
   rw [zAc hil, zAb, zAc hil]; rfl
  refine hs i x _ H e2 s1 (s1 _ _ hxc) _ _ (fun hp H4 s4 => ?_) (fun hp H3 s3 => ?_)
  ·refine ⟨_, s4 _ _ hL, ?_, ak (s1.trans s4) hD, ?_⟩
   ·rw [zAa]
    refine bo (zAn (zAm _ _) ?_)
    rw [zBo]; omega
   ·rw [ae, take_snoc e2, zCc, zBd, if_pos hp, zCd, zAp]; rfl
  ·refine ⟨s1.trans s3, ?_⟩
   rw [take_snoc e2, zCc, zBd, if_neg (by rw [hp]; decide), zCd, zBz]
   exact s3 _ _ hL
 ·rw [zAa, hBl, List.take_length] at hL
  exact hd H s1 hL
theorem LL.len {K : PySem.W.Frag} {H : Hp} {a : Addr} {xss : List (List Nat)} (h : LL H a xss) : ∃ ys, SqL K H a ys /\ ys.length = xss.length := by
 obtain ⟨as, h1, h2, _⟩ := h
 exact ⟨_, .inl (.inl h1), by rw [zAa]; exact h2⟩
end TW
namespace TW
open PySem PySem.Spec PyProof.Rows L2 TM
open Kzk (Board Hall)
theorem x4 (l : List Nat) : l.length - l.count 0 = (l.filter fun w => w != 0).length := by
 have h : l.length = l.count 0 + (l.filter fun w => w != 0).length := by
  induction l with
  | nil => rfl
  | cons a l ih =>
   by_cases e : a = 0
   ·subst e; simp; omega
   ·have e1 : (a :: l).filter (fun w => w != 0) = a :: l.filter (fun w => w != 0) := List.filter_cons_of_pos (by simpa using e)
    rw [List.count_cons_of_ne e, e1, zAz, zAz]; omega
 omega
theorem zy {l : List (List Nat)} {i : Nat} {r : List Nat} (h : l[i]? = some r) : ((l.take (i + 1)).flatten).map nv = ((l.take i).flatten).map nv ++ r.map nv := by
 rw [take_snoc h, List.flatten_append, zAp]
 simp
theorem tH {n : Nat} : ∀ l : List (List Nat), (∀ r ∈ l, r.length <= n) -> l.flatten.length <= l.length * n
 | [], _ => by simp
 | r :: l, h => by
  have h1 := tH l fun x hx => h x (zAj _ hx)
  have h2 := h r zAg
  rw [List.flatten_cons, zAi, zAz, Nat.succ_mul]; omega
theorem Ax {n : Nat} {rs : List Nat} : ∀ r ∈ Kzk2.kinds n rs, r.length <= n := fun r hr => by
 obtain ⟨j, _, rfl⟩ := zAq.mp hr
 simp
theorem iX (n : Nat) (rs : List Nat) : (Kzk2.kinds n rs).length = n := (d4 n rs).len
theorem JW (a b : Bool) : kv a b <= 3 := by cases a <;> cases b <;> decide
theorem Kz (n : Nat) (rs : List Nat) (i j : Nat) : Kzk2.at_ (Kzk2.kinds n rs) i j <= 3 := by
 unfold Kzk2.at_ Kzk2.kinds
 rw [zAb, zAb, zAh]
 cases ej : (List.range n)[j]? with
 | none => exact zBf _
 | some y =>
  show ((List.map _ _)[i]?).getD 0 <= 3
  rw [zAh]
  cases ei : (List.range n)[i]? with
  | none => exact zBf _
  | some x => exact JW _ _
theorem gv {n : Nat} {rs : List Nat} {l : List Nat} (h : l ∈ Kzk2.all n (Kzk2.kinds n rs)) : (l ≠ [] /\ l.length <= n /\ ∀ x ∈ l, x < n) /\ Kzk2.parity (Kzk2.steps (Kzk2.kinds n rs) l) = par (taken (Kzk2.kinds n rs) l) := by
 have e : Kzk2.all n (Kzk2.kinds n rs) = found n (Kzk2.kinds n rs) n := (lP (zAt _) (jQ _ _)).symm
 rw [e] at h
 obtain ⟨a, ha, h2⟩ := List.mem_flatMap.mp h
 obtain ⟨h3, h4⟩ := zBe.mp h2
 have hne := eX l h3
 have hin := gp h3
 have hlen := gy n l hin.2.2 hin.2.1
 refine ⟨⟨hne, hlen, hin.2.1⟩, ?_⟩
 rw [B3 (wj hne)]
 refine Ab fun x hx => ?_
 have hf : g8 (Kzk2.kinds n rs) l = true := by rw [i5] at h3; exact (zBe.mp h3).2
 have hl : link (Kzk2.kinds n rs) l = true := by
  unfold g8 at hf
  rw [zBg] at hf
  exact hf.2
 have hs : ((Kzk2.steps (Kzk2.kinds n rs) l).all fun w => w != 0) = true := by rw [qD hne, hl, h4]; rfl
 have h0 : x ≠ 0 := by simpa using zBa.mp hs x hx
 have h3 : x <= 3 := by
  obtain ⟨b, _, rfl⟩ := zAq.mp hx
  exact Kz n rs _ _
 omega
section
variable {P : Program} {w : World} {K : PySem.W.Frag} {mg : Str -> Option Value} {base : Heap} {C : Addr}
def Bu (K : PySem.W.Frag) (C : Addr) : Sp := fun vs H Q _ => vs.length = 1 /\ ∃ (a : Addr) (h : Hall) (d : Ad), vs = [.ref a] /\ 1 <= h.now.n /\ Told C H a h d (Kzk.ask h.now .kinds) Q
abbrev sR : KK := fun P w K mg b C => Cal P w K mg b "kinds" 6 ["watch"] (Bu K C)
theorem Cp (F : Fa K mg "kinds" (top 44)) (T : Txt K mg C) (bP : cA P w K mg base C) (ah : aB P w K mg base C) : sR P w K mg base C := by
 refine okF ["watch", "told", "row"] F fun nd f cdv A outer s0 H vs Q E hr h => ?_
 obtain ⟨_, a, h, d, rfl, hn1, W, k⟩ := h
 obtain ⟨dx, h1⟩ := W.ob
 have ok := W.ok
 have hlen := aH h.now
 have h4 := ok.n4
 have bu : Kzk.ask h.now .kinds = ⟨((Kzk2.kinds h.now.n (Kzk.rules h.now)).flatten.filter fun w => w != 0).length, (Kzk2.kinds h.now.n (Kzk.rules h.now)).flatten⟩ := by
  show (if Kzk1.okTowers h.now.n (Kzk.rules h.now) = false then _ else _) = _
  rw [bx ok hn1]; rfl
 rw [bu] at k
 refine ⟨_, (aa (st 1 nd (ay bC))
   (aa (fo 2 nd (bz (au bP hr rfl (a1 (bD T.cl ah hr (pv 0))))) (ab (aX (pbm K PySem.F.slot_list_extend PySem.F.type_list_extend iU (pv 1) (a1 (pv 2))))))
   (ab (af (aZ cM (ay (a1 (aZ rX (ln T (pv 1)) (pbm K PySem.F.slot_list_count PySem.F.type_list_count (sS K) (pv 1) (a1 (aK rfl T.c8)))))) (pv 1)))))), ?_⟩
 refine ⟨zBf _, fun D hD => ?_⟩
 have s0' : az H (upd H D (.lst [])) := aq hD
 refine ⟨_, rfl, a, dx, _, rfl, s0' _ _ h1, aO _ _, rfl, _, _, _, rfl, W.same s0', fun H1 R s1 hR hRl => ?_⟩
 refine ⟨rfl, _, _, rfl, .inl (.inl hRl), by rw [hlen]; exact ok.n4, fun H2 N s2 hN hNl => ?_⟩
 rw [hlen] at hNl
 generalize hk : Kzk2.kinds h.now.n (Kzk.rules h.now) = kk at *
 have hkl : kk.length = h.now.n := by rw [← hk]; exact iX _ _
 have hkr : ∀ r ∈ kk, r.length <= h.now.n := by rw [← hk]; exact Ax
 obtain ⟨ns, hNn, GK, hNr⟩ := id hNl
 have s12 := s1.trans s2
 refine ⟨N, rfl, ⟨_, .inl (.inl hNn)⟩, fh (K := K) (a := N) (xs := ns.map V.ref) (fun i σ H' => (∀ x o, H2 x = some o -> x ≠ D -> H' x = some o) /\ (∃ v, σ = [some (.ref a), some (.ref D), v]) /\ H' D = some (.lst (((kk.take i).flatten).map nv))) ⟨fun x o e _ => e, ⟨none, rfl⟩, s12 _ _ ae⟩ ?_ ?_ ?_⟩
 ·intro i σ H' _ ⟨s3, _⟩
  exact .inl (.inl (s3 _ _ hNn (ax (s1 _ _ ae) hN).symm))
 ·rintro i y σ H3 hi ⟨s3, ⟨v, rfl⟩, hL⟩
  obtain ⟨x, hx, rfl⟩ : ∃ x, ns[i]? = some x /\ y = .ref x := by
   rw [zAh] at hi
   cases e : ns[i]? with
   | none => rw [e] at hi; cases hi
   | some x => rw [e] at hi; exact ⟨x, rfl, (zBl hi).symm⟩
  have hik : i < kk.length := by rw [← GK]; exact (zAd.mp hx).1
  have hxr := hNr i x hx
  have AD : (kk.getD i []).length = h.now.n := by rw [← hk]; exact (d4 _ _).row i (by rw [hkl] at hik; exact hik)
  have hxD : x ≠ D := by
   rintro rfl
   rw [s12 _ _ ae] at hxr
   have := congrArg List.length (HO.lst.inj (zBl hxr))
   rw [zAa, AD] at this
   simp at this
   omega
  have e2 : kk[i]? = some (kk.getD i []) := by
   rw [zAc hik, zAb, zAc hik]; rfl
  have hfl := tH (n := h.now.n) (kk.take i) fun r hr => hkr r (List.mem_of_mem_take hr)
  have Kd : (kk.take i).length * h.now.n <= 4 * 4 := Nat.mul_le_mul (by rw [zBo]; omega) h4
  refine ⟨_, rfl, .inl ⟨rfl, _, .inl (.inl hL)⟩, _, rfl, _, _, _, _, rfl, rfl, hL, s3 _ _ hxr hxD, ?_, ?_, ⟨some (.ref x), rfl⟩, ?_⟩
  ·rw [zAa, zAa, AD]; exact bw (by omega)
  ·intro z o e hz
   rw [ag hz]; exact s3 z o e hz
  ·rw [ae, zy e2]
 ·rintro σ H3 ⟨s3, ⟨v, rfl⟩, hL⟩
  rw [zAa, GK, List.take_length] at hL
  have hfl := tH (n := h.now.n) kk hkr
  rw [hkl] at hfl
  have Kd : h.now.n * h.now.n <= 4 * 4 := Nat.mul_le_mul h4 h4
  have s4 : az H H3 := fun x o e => s3 x o (s12 _ _ (s0' _ _ e)) (ax e hD)
  refine ⟨_, rfl, _, _, rfl, .inl (.inl (.inl hL)), _, rfl, .inl ⟨rfl, _, .inl (.inl hL)⟩, _, _, _, rfl, rfl, .inl (.inl hL), _, _, rfl, rfl, ?_, by show 1 <= sizeLine; decide, fun g hg => ⟨_, rfl, _, _, _, _, rfl, rfl, ae, aq hg _ _ hL, ?_, fun p hp => ?_⟩⟩
  ·show List.count 0 _ <= _
   rw [zAa]; exact List.count_le_length
  ·rw [zAa]; exact bw (by show 1 + _ <= _; omega)
  have s6 := ak (o := .lst [nv ((kk.flatten.map nv).length - kk.flatten.count 0)]) s4 (s4.free hg)
  refine k _ p (ak s6 (s6.free hp)) (s6.free hp) (bJ.of ?_)
  rw [ae, zAa, ← x4]; rfl
def pN (K : PySem.W.Frag) (C : Addr) : Sp := fun vs H Q _ => vs.length = 2 /\ ∃ (a b : Addr) (n : Nat) (rows : List (List Nat)) (ring : List Nat), vs = [.ref a, .ref b] /\ yn K H a b n rows ring ∧
 ∀ H' : Hp, az H H' -> Q (.bl (par (taken rows ring)).2) H'
theorem Du (m : Nat) : decide (m % 2 = 1) = (m % 2 == 1) := by rw [zCo]; simp
abbrev gG : KK := fun P w K mg b C => Cal P w K mg b "can_be_odd" 2 ["rows", "ring"] (pN K C)
theorem qe (F : Fa K mg "can_be_odd" (top 49)) (T : Txt K mg C) (gP : eJ P w K mg base C) : gG P w K mg base C := by
 refine okF ["rows", "ring", "taken"] F fun nd f cdv A outer s0 H vs Q E hr h => ?_
 obtain ⟨_, a, b, n, rows, ring, rfl, hI, k⟩ := h
 refine ⟨_, (aa (st 2 nd (au gP hr rfl (a2 (pv 0) (pv 1))))
   (ab (af (Gy (ec (vo K) (aK rfl T.d6) (pv 2)) (BZ (ec dq (aZ Cb (pbm K PySem.F.slot_list_count PySem.F.type_list_count (sS K) (pv 2) (a1 (aK rfl T.lM))) (ai 2)) (ai 1))))))), ?_⟩
 refine ⟨_, rfl, _, rfl, rfl, _, _, _, _, _, rfl, hI, fun H1 D s1 hD hL => ?_⟩
 have k1 := k H1 s1
 unfold par at k1
 refine ⟨_, rfl, _, _, rfl, .inl (.inl (.inl hL)), rfl, cK _, _, rfl, aJ (fun h1 => ?_) (fun h1 => ?_)⟩
 ·rw [if_neg (by decide), cx] at h1
  have h1 : 3 ∈ taken rows ring := by simpa using h1
  rw [if_pos (by simpa using h1)] at k1
  exact k1
 ·rw [if_neg (by decide), cx] at h1
  have h1 : 3 ∉ taken rows ring := by simpa using h1
  rw [if_neg (by simpa using h1)] at k1
  refine ⟨_, rfl, .inl ⟨rfl, _, .inl (.inl hL)⟩, _, _, _, rfl, rfl, .inl (.inl hL), _, _, rfl, rfl, (by show 0 < 2; decide), _, _, rfl, rfl, ?_⟩
  show Q (.bl (decide ((taken rows ring).count 2 % 2 = 1))) H1
  rw [Du]
  exact k1
theorem i8 {n : Nat} (rs : List Nat) (h : n <= 4) : (Kzk2.all n (Kzk2.kinds n rs)).length <= 4096 := by
 rw [← lP (zAt _) (jQ n (Kzk2.kinds n rs))]
 have := iJ (Kzk2.kinds n rs) h n (by omega)
 omega
def evs (n : Nat) (rs : List Nat) : List (List Nat) := (Kzk2.all n (Kzk2.kinds n rs)).filter fun l => (Kzk2.parity (Kzk2.steps (Kzk2.kinds n rs) l)).1
def ods (n : Nat) (rs : List Nat) : List (List Nat) := (Kzk2.all n (Kzk2.kinds n rs)).filter fun l => (Kzk2.parity (Kzk2.steps (Kzk2.kinds n rs) l)).2
def pL (K : PySem.W.Frag) (C : Addr) : Sp := fun vs H Q _ => vs.length = 1 /\ ∃ (a : Addr) (n : Nat) (rs : List Nat), vs = [.ref a] /\ LL H a (Kzk2.kinds n rs) /\ n <= 4 ∧
 ∀ (H' : Hp) (p : Addr), az H H' -> H p = none -> LL H' p (evs n rs) -> Q (.ref p) H'
abbrev eM : KK := fun P w K mg b C => Cal P w K mg b "even_rings" 3 ["rows"] (pL K C)
theorem qc (F : Fa K mg "even_rings" (top 50)) (T : Txt K mg C) (gO : iZ P w K mg base C) (qt : fQ P w K mg base C) : eM P w K mg base C := by
 refine okF ["rows", "ring"] F fun nd f cdv A outer s0 H vs Q E hr h => ?_
 obtain ⟨_, a, n, rs, rfl, hR, hn, k⟩ := h
 have hsq := d4 n rs
 have hsm := i8 rs hn
 refine ⟨_, (ab (af (lf 1 nd (bz (au gO hr rfl (a1 (pv 0)))) (cn (aM (au qt hr rfl (a2 (pv 0) (pv 1))))) (pv 1)))), ?_⟩
 refine ⟨_, rfl, rfl, _, _, _, rfl, hR, hsq, hn, fun H1 G s1 hG hGl => ?_⟩
 obtain ⟨gs, hGg, _, _⟩ := id hGl
 refine ⟨G, rfl, ⟨_, .inl (.inl hGg)⟩, fun D hD => ?_⟩
 refine lA (fun l => (Kzk2.parity (Kzk2.steps (Kzk2.kinds n rs) l)).1) hGl hD (by omega) (fun i x H2 hi s2 hx R R' r1 r2 => ?_) (fun H2 s2 hL => k _ _ (s1.trans s2) (s1.free hD) hL)
 obtain ⟨⟨f1, f2, f3⟩, f4⟩ := gv (getD_mem hi)
 rw [f4] at r1 r2
 refine ⟨rfl, _, rfl, _, rfl, rfl, _, _, _, _, _, rfl, ⟨hR.same (s1.trans s2), hsq, hn, .inl (.inl hx), f1, by omega, f3⟩, fun H5 s5 => ⟨_, rfl, aJ (fun hc => ⟨_, rfl, r1 hc _ s5⟩) (fun hc => r2 (by simpa using hc) _ s5)⟩⟩
def rD (K : PySem.W.Frag) (C : Addr) : Sp := fun vs H Q _ => vs.length = 1 /\ ∃ (a : Addr) (n : Nat) (rs : List Nat), vs = [.ref a] /\ LL H a (Kzk2.kinds n rs) /\ n <= 4 ∧
 ∀ (H' : Hp) (p : Addr), az H H' -> H p = none -> LL H' p (ods n rs) -> Q (.ref p) H'
abbrev iF : KK := fun P w K mg b C => Cal P w K mg b "odd_rings" 3 ["rows"] (rD K C)
theorem sh (F : Fa K mg "odd_rings" (top 51)) (T : Txt K mg C) (gO : iZ P w K mg base C) (tX : gG P w K mg base C) : iF P w K mg base C := by
 refine okF ["rows", "ring"] F fun nd f cdv A outer s0 H vs Q E hr h => ?_
 obtain ⟨_, a, n, rs, rfl, hR, hn, k⟩ := h
 have hsq := d4 n rs
 have hsm := i8 rs hn
 refine ⟨_, (ab (af (lf 1 nd (bz (au gO hr rfl (a1 (pv 0)))) (cn (aM (au tX hr rfl (a2 (pv 0) (pv 1))))) (pv 1)))), ?_⟩
 refine ⟨_, rfl, rfl, _, _, _, rfl, hR, hsq, hn, fun H1 G s1 hG hGl => ?_⟩
 obtain ⟨gs, hGg, _, _⟩ := id hGl
 refine ⟨G, rfl, ⟨_, .inl (.inl hGg)⟩, fun D hD => ?_⟩
 refine lA (fun l => (Kzk2.parity (Kzk2.steps (Kzk2.kinds n rs) l)).2) hGl hD (by omega) (fun i x H2 hi s2 hx R R' r1 r2 => ?_) (fun H2 s2 hL => k _ _ (s1.trans s2) (s1.free hD) hL)
 obtain ⟨⟨f1, f2, f3⟩, f4⟩ := gv (getD_mem hi)
 rw [f4] at r1 r2
 refine ⟨rfl, _, rfl, _, rfl, rfl, _, _, _, _, _, rfl, ⟨hR.same (s1.trans s2), hsq, hn, .inl (.inl hx), f1, by omega, f3⟩, fun H5 s5 => ⟨_, rfl, aJ (fun hc => ⟨_, rfl, r1 hc _ s5⟩) (fun hc => r2 (by simpa using hc) _ s5)⟩⟩
def kF : List (List Nat) -> Kzk1.Ans
 | [] => Kzk1.say (-33)
 | l :: _ => Kzk1.told l
def pK (K : PySem.W.Frag) (C : Addr) : Sp := fun vs H Q _ => vs.length = 1 /\ ∃ (a : Addr) (xss : List (List Nat)), vs = [.ref a] /\ LL H a xss /\ (∀ l ∈ xss, l.length <= 100) ∧
 ∀ (H' : Hp) (p : Addr), az H H' -> H p = none -> bJ H' p (kF xss) -> Q (.ref p) H'
abbrev eK : KK := fun P w K mg b C => Cal P w K mg b "first_ring" 1 ["found"] (pK K C)
theorem p9 (F : Fa K mg "first_ring" (top 52)) (T : Txt K mg C) : eK P w K mg base C := by
 refine okF ["found"] F fun nd f cdv A outer s0 H vs Q E hr h => ?_
 obtain ⟨_, a, xss, rfl, hL, hl, k⟩ := h
 obtain ⟨as, hA, hAl, hAr⟩ := id hL
 refine ⟨_, (aa (aA (tc dq (ln T (pv 0)) (ai 0)) (ab (af (ay (a1 (aK rfl T.bT))))) aj)
   (ab (af (aZ cM (ay (a1 (ln T (ix K (pv 0) (ai 0))))) (ix K (pv 0) (ai 0)))))), ?_⟩
 refine ⟨_, rfl, _, _, rfl, .inl (.inl (.inl hA)), _, _, rfl, rfl, _, rfl, aJ (fun hc => ?_) (fun hc => ?_)⟩
 ·have hc : xss = [] := by
   have : (as.map V.ref).length = 0 := zAe hc
   rw [zAa, hAl] at this
   exact zAu.mp this
  subst hc
  exact ⟨by show 1 <= sizeLine; decide, fun p hp => k _ p (aq hp) hp ae⟩
 ·obtain ⟨l, r, rfl⟩ : ∃ l r, xss = l :: r := by
   cases xss with
   | nil =>
    rw [zAa, hAl] at hc
    exact absurd (zAf rfl) hc
   | cons l r => exact ⟨l, r, rfl⟩
  have hll := hl l zAg
  obtain ⟨ys, x, hy1, hy2, hy3, hy4⟩ := hL.row (K := K) (j := 0) (by simp)
  have hy4 : H x = some (.lst (l.map nv)) := hy4
  refine ⟨_, rfl, _, _, _, _, rfl, rfl, hy1, hy3, _, _, rfl, .inl (.inl (.inl hy4)), by show 1 <= sizeLine; decide, fun g hg => ?_⟩
  have sg := aq (o := .lst [nv (l.map nv).length]) hg
  refine ⟨_, rfl, _, _, _, _, rfl, rfl, sg.seq hy1, hy3, _, _, _, _, rfl, rfl, ae, sg _ _ hy4, ?_, fun p hp => ?_⟩
  ·rw [zAa]; exact bw (by show 1 + _ <= _; omega)
  ·refine k _ p (ak sg (sg.free hp)) (sg.free hp) (bJ.of ?_)
   rw [ae, zAa]; rfl
theorem first_is {p : List Nat -> Bool} (l : List (List Nat)) : kF (l.filter p) = match l.find? p with | none => Kzk1.say (-33) | some x => Kzk1.told x := by
 rw [← List.head?_filter]
 cases l.filter p <;> rfl
theorem uE {n : Nat} {rs l : List Nat} (h : n <= 4) (hl : l ∈ Kzk2.all n (Kzk2.kinds n rs)) : l.length <= 100 := by
 have := (gv hl).1.2.1
 omega
def Eg (K : PySem.W.Frag) (C : Addr) : Sp := fun vs H Q _ => vs.length = 1 /\ ∃ (a : Addr) (h : Hall) (d : Ad), vs = [.ref a] /\ 1 <= h.now.n /\ Told C H a h d (Kzk.ask h.now .even) Q
abbrev xN : KK := fun P w K mg b C => Cal P w K mg b "even" 6 ["watch"] (Eg K C)
theorem E9 (F : Fa K mg "even" (top 53)) (T : Txt K mg C) (gR : eK P w K mg base C) (gS : eM P w K mg base C) (bP : cA P w K mg base C) (ah : aB P w K mg base C) : xN P w K mg base C := by
 refine okF ["watch"] F fun nd f cdv A outer s0 H vs Q E hr h => ?_
 obtain ⟨_, a, h, d, rfl, hn1, W, k⟩ := h
 obtain ⟨dx, h1⟩ := W.ob
 have ok := W.ok
 have hlen := aH h.now
 have bu : Kzk.ask h.now .even = match Kzk2.even h.now.n (Kzk.rules h.now) with | none => Kzk1.say (-33) | some l => Kzk1.told l := by
  show (if Kzk1.okTowers h.now.n (Kzk.rules h.now) = false then _ else _) = _
  rw [bx ok hn1]; rfl
 rw [bu] at k
 refine ⟨_, (ab (af (au gR hr rfl (a1 (au gS hr rfl (a1 (au bP hr rfl (a1 (bD T.cl ah hr (pv 0)))))))))), ?_⟩
 refine ⟨_, rfl, a, dx, _, rfl, h1, aO _ _, rfl, _, _, _, rfl, W, fun H1 R s1 hR hRl => ?_⟩
 refine ⟨rfl, _, _, rfl, .inl (.inl hRl), by rw [hlen]; exact ok.n4, fun H2 N s2 hN hNl => ?_⟩
 rw [hlen] at hNl
 refine ⟨rfl, _, _, _, rfl, hNl, ok.n4, fun H3 G s3 hG hGl => ?_⟩
 have bX := (s1.trans s2).trans s3
 refine ⟨rfl, _, _, rfl, hGl, fun l hl => uE ok.n4 (zBe.mp hl).1, fun H4 p s4 hp hA => k _ p (bX.trans s4) (bX.free hp) ?_⟩
 rw [show kF (evs h.now.n (Kzk.rules h.now)) = _ from first_is _] at hA
 exact hA
def GQ (K : PySem.W.Frag) (C : Addr) : Sp := fun vs H Q _ => vs.length = 1 /\ ∃ (a : Addr) (h : Hall) (d : Ad), vs = [.ref a] /\ 1 <= h.now.n /\ Told C H a h d (Kzk.ask h.now .odd) Q
abbrev CN : KK := fun P w K mg b C => Cal P w K mg b "odd" 6 ["watch"] (GQ K C)
theorem HB (F : Fa K mg "odd" (top 54)) (T : Txt K mg C) (gR : eK P w K mg base C) (vR : iF P w K mg base C) (bP : cA P w K mg base C) (ah : aB P w K mg base C) : CN P w K mg base C := by
 refine okF ["watch"] F fun nd f cdv A outer s0 H vs Q E hr h => ?_
 obtain ⟨_, a, h, d, rfl, hn1, W, k⟩ := h
 obtain ⟨dx, h1⟩ := W.ob
 have ok := W.ok
 have hlen := aH h.now
 have bu : Kzk.ask h.now .odd = match Kzk2.odd h.now.n (Kzk.rules h.now) with | none => Kzk1.say (-33) | some l => Kzk1.told l := by
  show (if Kzk1.okTowers h.now.n (Kzk.rules h.now) = false then _ else _) = _
  rw [bx ok hn1]; rfl
 rw [bu] at k
 refine ⟨_, (ab (af (au gR hr rfl (a1 (au vR hr rfl (a1 (au bP hr rfl (a1 (bD T.cl ah hr (pv 0)))))))))), ?_⟩
 refine ⟨_, rfl, a, dx, _, rfl, h1, aO _ _, rfl, _, _, _, rfl, W, fun H1 R s1 hR hRl => ?_⟩
 refine ⟨rfl, _, _, rfl, .inl (.inl hRl), by rw [hlen]; exact ok.n4, fun H2 N s2 hN hNl => ?_⟩
 rw [hlen] at hNl
 refine ⟨rfl, _, _, _, rfl, hNl, ok.n4, fun H3 G s3 hG hGl => ?_⟩
 have bX := (s1.trans s2).trans s3
 refine ⟨rfl, _, _, rfl, hGl, fun l hl => uE ok.n4 (zBe.mp hl).1, fun H4 p s4 hp hA => k _ p (bX.trans s4) (bX.free hp) ?_⟩
 rw [show kF (ods h.now.n (Kzk.rules h.now)) = _ from first_is _] at hA
 exact hA
def qS (row known : List Nat) : Nat := ((List.range row.length).map fun i => if row.getD i 0 = 0 then 0 else known.getD i 0 + 1).foldl max 0
def uo (K : PySem.W.Frag) (C : Addr) : Sp := fun vs H Q _ => vs.length = 2 /\ ∃ (a b : Addr) (row known : List Nat), vs = [.ref a, .ref b] /\ NL K H a row /\ NL K H b known /\ row.length = known.length /\ row.length <= 4 /\ ∀ H' : Hp, az H H' -> Q (nv (qS row known)) H'
abbrev jG : KK := fun P w K mg b C => Cal P w K mg b "layer_of" 1 ["row", "known"] (uo K C)
theorem uZ (F : Fa K mg "layer_of" (top 55)) (T : Txt K mg C) : jG P w K mg base C := by
 refine okF ["row", "known", "i"] F fun nd f cdv A outer s0 H vs Q E hr h => ?_
 obtain ⟨_, a, b, row, known, rfl, hA, hB, hl, h4, k⟩ := h
 refine ⟨_, (ab (af (cb (xA K) T.zi t4 (aZ cM (ay (a1 (ai 0))) (lf 2 nd (r1 T (ln T (pv 0))) (cn (tc qQ (ix K (pv 0) (pv 2)) (aK rfl T.c8))) (aZ nZ (ix K (pv 1) (pv 2)) (ai 1))))))), ?_⟩
 refine ⟨by show 1 <= sizeLine; decide, fun g hg => ?_⟩
 have sg := aq (o := .lst [nv 0]) hg
 refine ⟨_, rfl, _, _, rfl, .inl (sg.seq hA), _, rfl, a8 _, a9 (by rw [zAa]; omega), fun D hD => ?_⟩
 rw [zAl, zAa]
 refine bR (fun i => row.getD i 0 != 0) (fun i => nv (known.getD i 0 + 1)) hD (by omega) (fun i H2 hi s2 R R' r1 r2 => ?_) (fun H2 s2 hH => ?_)
 ·refine ⟨rfl, _, rfl, _, rfl, _, _, _, _, rfl, rfl, s2.seq (sg.seq hA), aQ hi, _, _, rfl, rfl, _, rfl, aJ (fun hc => ?_) (fun hc => ?_)⟩
  ·exact ⟨_, rfl, _, rfl, _, _, _, _, rfl, rfl, s2.seq (sg.seq hB), aQ (by omega), _, _, rfl, rfl, r1 (by simpa using hc) _ (az.refl _)⟩
  ·exact r2 (by simpa using hc) _ (az.refl _)
 ·have e : (((List.range row.length).filter fun i => row.getD i 0 != 0).map fun i => nv (known.getD i 0 + 1)) = (((List.range row.length).filter fun i => row.getD i 0 != 0).map fun i => known.getD i 0 + 1).map nv := by rw [zAw]; rfl
  rw [e] at hH
  refine ⟨_, _, _, _, rfl, rfl, s2 _ _ ae, hH, ?_, fun q hq => ?_⟩
  ·rw [zAa, zAa]
   have := zAm (fun i => row.getD i 0 != 0) (List.range row.length)
   rw [zAr] at this
   exact bw (by show 1 + _ <= _; omega)
  have s3 := sg.trans s2
  refine ⟨q, 0 :: (((List.range row.length).filter fun i => row.getD i 0 != 0).map fun i => known.getD i 0 + 1), rfl, .inl (.inl (by rw [ae]; rfl)), by simp, ?_⟩
  have ev : (0 :: (((List.range row.length).filter fun i => row.getD i 0 != 0).map fun i => known.getD i 0 + 1)).foldl max 0 = qS row known := by
   refine JT fun b => ⟨fun h x hx => ?_, fun h x hx => ?_⟩
   ·obtain ⟨i, hi, rfl⟩ := zAq.mp hx
    by_cases c : row.getD i 0 = 0
    ·rw [if_pos c]; exact zBf _
    ·rw [if_neg c]
     exact h _ (zAj _ (zAq.mpr ⟨i, zBe.mpr ⟨hi, by simpa using c⟩, rfl⟩))
   ·rcases zAv.mp hx with rfl | hx
    ·exact zBf _
    ·obtain ⟨i, hi, rfl⟩ := zAq.mp hx
     obtain ⟨h1, h2⟩ := zBe.mp hi
     have h2 : row.getD i 0 ≠ 0 := by simpa using h2
     have := h _ (zAq.mpr ⟨i, h1, rfl⟩)
     rwa [if_neg h2] at this
  rw [ev]
  exact k _ (ak s3 (s3.free hq))
def d8 (n : Nat) (rs : List Nat) (m : Nat) : List Nat := (List.range n).map (Kzk2.layerOn n (Kzk2.kinds n rs) m)
theorem jC (n : Nat) (rs : List Nat) (m : Nat) : (d8 n rs m).length = n := by unfold d8; simp
theorem Ft {n : Nat} (rs : List Nat) (m : Nat) {j : Nat} (hj : j < n) : qS ((Kzk2.kinds n rs).getD j []) (d8 n rs m) = Kzk2.layerOn n (Kzk2.kinds n rs) (m + 1) j := by
 rw [xw n _ m hj]
 unfold qS xx d8 Kzk2.at_
 rw [(d4 n rs).row j hj]
theorem Au (n : Nat) (rs : List Nat) (m : Nat) : (Kzk2.kinds n rs).map (fun row => qS row (d8 n rs m)) = d8 n rs (m + 1) := by
 apply List.ext_getElem?
 intro j
 by_cases h : j < n
 ·have e1 : (Kzk2.kinds n rs)[j]? = some ((Kzk2.kinds n rs).getD j []) := by
   rw [zAb, zAc (by rw [iX]; exact h)]; rfl
  rw [zAh, e1, Option.map_some, Ft rs m h]
  unfold d8
  rw [zAh, List.getElem?_range h]; rfl
 ·rw [zCj (by rw [zAa, iX]; omega), zCj (by rw [jC]; omega)]
def rF (K : PySem.W.Frag) (C : Addr) : Sp := fun vs H Q _ => vs.length = 1 /\ ∃ (a : Addr) (n : Nat) (rs : List Nat), vs = [.ref a] /\ LL H a (Kzk2.kinds n rs) /\ n <= 4 /\ ∀ (H' : Hp) (p : Addr), az H H' -> H p = none -> H' p = some (.lst ((Kzk2.layers n rs).map nv)) -> Q (.ref p) H'
abbrev iG : KK := fun P w K mg b C => Cal P w K mg b "layers_of" 2 ["rows"] (rF K C)
theorem sm (F : Fa K mg "layers_of" (top 56)) (T : Txt K mg C) (yc : jG P w K mg base C) : iG P w K mg base C := by
 refine okF ["rows", "known", "done", "row"] F fun nd f cdv A outer s0 H vs Q E hr h => ?_
 obtain ⟨_, a, n, rs, rfl, hR, hn, k⟩ := h
 obtain ⟨as, hA, hAl, hAr⟩ := id hR
 have hkl := iX n rs
 refine ⟨_, (aa (st 1 nd (lc 3 nd (bz (pv 0)) (ai 0)))
   (aa (fo 2 nd (r1 T (ln T (pv 0))) (ab (st 1 nd (lc 3 nd (bz (pv 0)) (au yc hr rfl (a2 (pv 3) (pv 1)))))))
   (ab (af (pv 1))))), ?_⟩
 refine ⟨_, rfl, a, rfl, ⟨_, .inl (.inl hA)⟩, fun D hD => ?_⟩
 refine yQ (K := K) (fun _ => true) (fun _ => nv 0) hR hD (by omega) (fun i x l H2 hi s2 hx R R' r1 r2 => ⟨rfl, r1 rfl _ (az.refl _)⟩) (fun H1 s1 hL => ?_)
 rw [filter_all] at hL
 have e0 : (Kzk2.kinds n rs).map (fun _ => nv 0) = (d8 n rs 0).map nv := by
  have : d8 n rs 0 = (Kzk2.kinds n rs).map fun _ => 0 := by
   unfold d8 Kzk2.kinds
   rw [zAw]; rfl
  rw [this, zAw]; rfl
 rw [e0] at hL
 refine ⟨_, rfl, _, _, rfl, .inl (.inl (.inl (s1 _ _ hA))), _, rfl, a8 _, a9 (by rw [zAa]; omega), ?_⟩
 rw [zAl, zAa, hAl, hkl]
 refine bq (fun m σ H' => az H H' /\ ∃ c v, H c = none /\ σ = [some (.ref a), some (.ref c), v, none] /\ H' c = some (.lst ((d8 n rs m).map nv))) ⟨s1, D, none, hD, rfl, hL⟩ ?_ ?_
 ·rintro m σ H2 hm ⟨s2, c, v, hc0, rfl, hc⟩
  rw [bj]
  refine ⟨_, rfl, a, rfl, ⟨_, .inl (.inl (s2 _ _ hA))⟩, fun G hG => ?_⟩
  refine yQ (K := K) (fun _ => true) (fun row => nv (qS row (d8 n rs m))) (hR.same s2) hG (by omega) (fun i x l H3 hi s3 hx R R' r1 r2 => ?_) (fun H3 s3 hL3 => ?_)
  ·have hil : i < n := by have := (zAd.mp hi).1; omega
   have hll : l.length = n := by
    have := (d4 n rs).row i hil
    rwa [zAb, hi] at this
   exact ⟨rfl, _, rfl, _, rfl, rfl, _, _, _, _, rfl, .inl (.inl hx), .inl (.inl (s3 _ _ hc)), by rw [hll, jC], by omega, fun H4 s4 => r1 rfl _ s4⟩
  ·rw [filter_all] at hL3
   refine ⟨s2.trans s3, G, some (nv m), s2.free hG, rfl, ?_⟩
   rw [hL3, ← Au, zAw]; rfl
 ·rintro σ H2 ⟨s2, c, v, hc0, rfl, hc⟩
  exact ⟨_, rfl, k _ _ s2 hc0 hc⟩
def zG (K : PySem.W.Frag) (C : Addr) : Sp := fun vs H Q _ => vs.length = 1 /\ ∃ (a : Addr) (h : Hall) (d : Ad), vs = [.ref a] /\ 1 <= h.now.n /\ Told C H a h d (Kzk.ask h.now .layers) Q
abbrev oH : KK := fun P w K mg b C => Cal P w K mg b "layers" 6 ["watch"] (zG K C)
theorem Aj (F : Fa K mg "layers" (top 57)) (T : Txt K mg C) (vS : iG P w K mg base C) (gO : iZ P w K mg base C) (bP : cA P w K mg base C) (ah : aB P w K mg base C) : oH P w K mg base C := by
 refine okF ["watch", "rows", "known"] F fun nd f cdv A outer s0 H vs Q E hr h => ?_
 obtain ⟨_, a, h, d, rfl, hn1, W, k⟩ := h
 obtain ⟨dx, h1⟩ := W.ob
 have ok := W.ok
 have hlen := aH h.now
 have h4 := ok.n4
 have bu : Kzk.ask h.now .layers = if Kzk2.hasRing h.now.n (Kzk.rules h.now) then Kzk1.say (-33) else ⟨(Kzk2.most (Kzk2.layers h.now.n (Kzk.rules h.now)) + 1 : Nat), Kzk2.layers h.now.n (Kzk.rules h.now)⟩ := by
  show (if Kzk1.okTowers h.now.n (Kzk.rules h.now) = false then _ else _) = _
  rw [bx ok hn1]; rfl
 rw [bu] at k
 refine ⟨_, (aa (st 1 nd (au bP hr rfl (a1 (bD T.cl ah hr (pv 0)))))
   (aa (aA (tc gb (ln T (au gO hr rfl (a1 (pv 1)))) (ai 0)) (ab (af (ay (a1 (aK rfl T.bT))))) aj)
   (aa (st 2 nd (au vS hr rfl (a1 (pv 1))))
   (ab (af (aZ cM (ay (a1 (aZ nZ (cb (xA K) T.zi t4 (pv 2)) (ai 1)))) (pv 2))))))), ?_⟩
 refine ⟨_, rfl, a, dx, _, rfl, h1, aO _ _, rfl, _, _, _, rfl, W, fun H1 R s1 hR hRl => ?_⟩
 refine ⟨rfl, _, _, rfl, .inl (.inl hRl), by rw [hlen]; exact ok.n4, fun H2 N s2 hN hNl => ?_⟩
 rw [hlen] at hNl
 have s12 := s1.trans s2
 refine ⟨_, rfl, rfl, _, _, _, rfl, hNl, d4 _ _, h4, fun H3 G s3 hG hGl => ?_⟩
 have bX := s12.trans s3
 obtain ⟨ys, hy, hyl⟩ := hGl.len (K := K)
 refine ⟨_, _, rfl, .inl hy, _, _, rfl, rfl, _, rfl, aJ (fun hc => ?_) (fun hc => ?_)⟩
 ·rw [hyl] at hc
  have hc : 0 < (Kzk2.all h.now.n (Kzk2.kinds h.now.n (Kzk.rules h.now))).length := zAe hc
  have hr : Kzk2.hasRing h.now.n (Kzk.rules h.now) = true := by
   unfold Kzk2.hasRing
   rw [Bool.not_eq_true', List.isEmpty_eq_false_iff]
   exact zBc.mp hc
  rw [hr] at k
  exact ⟨by show 1 <= sizeLine; decide, fun p hp => k _ p (ak bX (bX.free hp)) (bX.free hp) ae⟩
 ·rw [hyl] at hc
  have hc : ¬ 0 < (Kzk2.all h.now.n (Kzk2.kinds h.now.n (Kzk.rules h.now))).length := fun z => hc (zAf z)
  have hr : Kzk2.hasRing h.now.n (Kzk.rules h.now) = false := by
   unfold Kzk2.hasRing
   rw [zAu.mp (show (Kzk2.all h.now.n (Kzk2.kinds h.now.n (Kzk.rules h.now))).length = 0 by omega)]; rfl
  rw [hr] at k
  refine ⟨_, rfl, rfl, _, _, _, rfl, hNl.same s3, h4, fun H4 L s4 hL hLl => ?_⟩
  have uB := bX.trans s4
  have hll : (Kzk2.layers h.now.n (Kzk.rules h.now)).length = h.now.n := jC _ _ _
  refine ⟨_, rfl, _, _, rfl, .inl (.inl hLl), fun z => by rw [z] at hll; simp at hll; omega, _, _, rfl, rfl, by show 1 <= sizeLine; decide, fun g hg => ⟨_, rfl, _, _, _, _, rfl, rfl, ae, aq hg _ _ hLl, ?_, fun p hp => ?_⟩⟩
  ·rw [zAa]; exact bw (by show 1 + _ <= _; omega)
  have s6 := ak (o := .lst [nv ((Kzk2.layers h.now.n (Kzk.rules h.now)).foldl max 0 + 1)]) uB (uB.free hg)
  refine k _ p (ak s6 (s6.free hp)) (s6.free hp) (bJ.of ?_)
  rw [ae]; rfl
end
end TW
namespace TW
open PySem PySem.Spec PyProof.Rows L2 TM
open Kzk (Board Hall)
theorem ni (n : Nat) (p : Nat -> Bool) : Kzk.table n p = Kzk1.make (2 ^ n) p := rfl
theorem cC (n i : Nat) : Kzk.keeps n i = Kzk1.make (2 ^ n) fun s => Kzk1.bit s i := rfl
theorem bA (p : Nat -> Bool) : ∀ (m j : Nat), (Kzk1.make m p).testBit j = (decide (j < m) && p j)
 | 0, j => by
  have : Kzk1.make 0 p = 0 := rfl
  rw [this]; simp
 | m + 1, j => by
  have ih := bA p m j
  have hlt := TW.fH p m
  rw [iV]
  by_cases hp : p m = true
  ·rw [if_pos hp, ← B6 hlt, zCl, ih, Nat.testBit_two_pow]
   by_cases e : m = j
   ·subst e; simp [hp]
   ·have : decide (j < m + 1) = decide (j < m) := by apply decide_eq_decide.mpr; omega
    simp [e, this]
  ·rw [if_neg hp, Nat.add_zero, ih]
   by_cases e : m = j
   ·subst e; simp [hp]
   ·have : decide (j < m + 1) = decide (j < m) := by apply decide_eq_decide.mpr; omega
    rw [this]
theorem jA {m : Nat} {p q : Nat -> Bool} (h : ∀ j, j < m -> p j = q j) : Kzk1.make m p = Kzk1.make m q := by
 apply zCm
 intro j
 rw [bA, bA]
 by_cases hj : j < m
 ·rw [h j hj]
 ·simp [hj]
theorem qZ (m : Nat) : 2 ^ m - 1 = Kzk1.make m fun _ => true := by
 apply zCm
 intro j
 rw [bA, Nat.testBit_two_pow_sub_one]; simp
theorem zp (m : Nat) : 0 = Kzk1.make m fun _ => false := by
 apply zCm
 intro j
 rw [bA]; simp
theorem A8 (m : Nat) (p q : Nat -> Bool) : Kzk1.make m p ^^^ Kzk1.make m q = Kzk1.make m fun j => p j ^^ q j := by
 apply zCm
 intro j
 rw [Nat.testBit_xor, bA, bA, bA]
 cases decide (j < m) <;> simp
theorem vX (m : Nat) (p q : Nat -> Bool) : Kzk1.make m p &&& Kzk1.make m q = Kzk1.make m fun j => p j && q j := by
 apply zCm
 intro j
 rw [zCk, bA, bA, bA]
 cases decide (j < m) <;> simp
theorem yM (m : Nat) (p q : Nat -> Bool) : Kzk1.make m p ||| Kzk1.make m q = Kzk1.make m fun j => p j || q j := by
 apply zCm
 intro j
 rw [zCl, bA, bA, bA]
 cases decide (j < m) <;> simp
theorem pA (n i : Nat) : (if (1 : Nat) = 1 then 2 ^ 2 ^ n - 1 else 0) ^^^ Kzk.keeps n i = Kzk.table n fun s => !Kzk1.bit s i := by
 rw [if_pos rfl, cC, qZ, A8, ni]
 exact jA fun j _ => by simp
theorem rm (n v : Nat) : (if v = 1 then 2 ^ 2 ^ n - 1 else 0) = Kzk.table n fun _ => v == 1 := by
 rw [ni]
 by_cases h : v = 1
 ·rw [if_pos h, qZ]
  exact jA fun j _ => by simp [h]
 ·rw [if_neg h, zp (2 ^ n)]
  exact jA fun j _ => by simp [h]
theorem ia (n : Nat) (p : Nat -> Bool) : Kzk.table n p < 2 ^ 2 ^ n := TW.fH p (2 ^ n)
theorem WAt.setRule {C : Addr} {H : Hp} {a : Addr} {h : Hall} {d : Ad} {j r : Nat} (W : WAt C H a h d) (hj : j < h.now.n) (hr : r < 2 ^ 2 ^ h.now.n) :
  Turn C H (upd H d.ra (.lst ((h.now.t.set j r).map nv))) a ⟨{ h.now with t := h.now.t.set j r }, h.past, h.ahead⟩ d d := by
 obtain ⟨dx, h1⟩ := W.ob
 obtain ⟨ps, h2, h3⟩ := W.pa
 obtain ⟨us, h4, h5⟩ := W.un
 obtain ⟨⟨n1, n2, n3⟩, _, _⟩ := W.nd
 have ok := W.ok
 have tt := eZ (o := .lst ((h.now.t.set j r).map nv)) W.ru
 refine ⟨⟨⟨dx, ?_⟩, ae, ?_, ⟨ps, ?_, h3.dF tt⟩, ⟨us, ?_, h5.dF tt⟩, W.nd, ⟨ok.n4, ?_, ?_, ok.sb, ok.hb, ok.oo⟩, W.pl, W.okp⟩, fun x o q n => ?_, fun x hx => .inl hx, fun x e => aV e⟩
 ·rw [ag (cU h1 W.ru (by intro z; cases z))]; exact h1
 ·rw [ag n1.symm]; exact W.od
 ·rw [ag n2.symm]; exact h2
 ·rw [ag n3.symm]; exact h4
 ·show (h.now.t.set j r).length = _
  rw [List.length_set]; exact ok.tl
 ·intro x hx
  rcases List.mem_or_eq_of_mem_set hx with z | z
  ·exact ok.tb x z
  ·rw [z]; exact hr
 ·rw [ag (by rintro rfl; exact n (by simp [Ad.own]))]; exact q
section
variable {P : Program} {w : World} {K : PySem.W.Frag} {mg : Str -> Option Value} {base : Heap} {C : Addr}
def rq (K : PySem.W.Frag) (C : Addr) : Sp := fun vs H Q _ => vs.length = 3 /\ ∃ (a : Addr) (h : Hall) (d : Ad) (j r : Nat), vs = [.ref a, nv j, nv r] /\ j < h.now.n /\ r < 2 ^ 2 ^ h.now.n /\ Done C H a h d (Kzk.setRule h.now j r) Q
abbrev cz : KK := fun P w K mg b C => Cal P w K mg b "tell_rule" 1 ["watch", "j", "r"] (rq K C)
theorem rY (F : Fa K mg "tell_rule" (top 109)) (T : Txt K mg C) : cz P w K mg base C := by
 refine okF ["watch", "j", "r", "was"] F fun nd f cdv A outer s0 H vs Q E hr h => ?_
 obtain ⟨_, a, h, d, j, r, rfl, hj, hrr, D⟩ := h
 have W := D.1
 obtain ⟨dx, h1⟩ := W.ob
 have ok := W.ok
 have hj2 : j < h.now.t.length := by rw [ok.tl]; exact hj
 refine ⟨_, (aa (st 3 nd (ix K (pf K (pv 0)) (pv 1)))
   (aa (BV (pv 2) (BX (pf K (pv 0)) (pv 1) set_list))
   (ab (af (ay (a1 (pv 3))))))), ?_⟩
 refine ⟨_, rfl, a, C, dx, _, _, rfl, h1, T.cl, T.gz, hU _ _, _, rfl, _, _, _, _, rfl, rfl, .inl (.inl W.ru), aQ hj2, ?_⟩
 refine ⟨_, rfl, _, rfl, a, C, dx, _, _, rfl, h1, T.cl, T.gz, hU _ _, _, rfl, _, _, _, _, rfl, rfl, W.ru, xR (by rw [zAa]; exact hj2), ?_⟩
 rw [← List.map_set]
 have t1 := W.setRule hj hrr
 refine ⟨_, rfl, by show 1 <= sizeLine; decide, fun p hp => ?_⟩
 exact D.2 _ p d (t1.then (aq hp)) (t1.live p hp) (dP t1.W hp) ae
def D9 (K : PySem.W.Frag) (C : Addr) : Sp := fun vs H Q _ => vs.length = 3 /\ ∃ (a : Addr) (h : Hall) (d : Ad) (j r : Nat), vs = [.ref a, nv j, nv r] /\ Done C H a h d (Kzk.change h.now (.rule j r)) Q
abbrev xF : KK := fun P w K mg b C => Cal P w K mg b "rule" 3 ["watch", "j", "r"] (D9 K C)
theorem E2 (F : Fa K mg "rule" (top 110)) (T : Txt K mg C) (bN : cz P w K mg base C) (gN : eI P w K mg base C) (aG : bp P w K mg base C) : xF P w K mg base C := by
 refine okF ["watch", "j", "r"] F fun nd f cdv A outer s0 H vs Q E hr h => ?_
 obtain ⟨_, a, h, d, j, r, rfl, D⟩ := h
 have W := D.1
 obtain ⟨dx, h1⟩ := W.ob
 have ok := W.ok
 have e : Kzk.change h.now (.rule j r) = if Kzk.isTower h.now j = false then (none, Kzk1.say (-2)) else if 2 ^ 2 ^ h.now.n <= r then (none, Kzk1.say (-22)) else Kzk.setRule h.now j r := rfl
 refine ⟨_, (aa (aA (cg (aM (dY T.cl aG hr (pv 0) (a1 (pv 1))))) (ab (af (ay (a1 (aK rfl T.bW))))) aj)
   (aa (aA (tc yN (pv 2) (au gN hr rfl (a1 (pf K (pv 0))))) (ab (af (ay (a1 (aK rfl T.bb))))) aj)
   (ab (af (au bN hr rfl (a3 (pv 0) (pv 1) (pv 2))))))), ?_⟩
 refine ⟨_, rfl, a, dx, _, rfl, h1, aO _ _, _, rfl, rfl, a, h, d, j, rfl, W, _, rfl, aJ (fun c1 => ?_) (fun c1 => ?_)⟩
 ·have c1 : Kzk.isTower h.now j = false := by simpa using c1
  exact ⟨by show 1 <= sizeLine; decide, fun p hp => D.no (by rw [e, if_pos c1]) (az.refl _) hp⟩
 have c1 : Kzk.isTower h.now j = true := by simpa using c1
 refine ⟨_, rfl, _, rfl, a, C, dx, _, _, rfl, h1, T.cl, T.n_n, fv _ _, rfl, _, rfl, ok.n4, _, _, rfl, rfl, _, rfl, aJ (fun c2 => ?_) (fun c2 => ?_)⟩
 ·have c2 : 2 ^ 2 ^ h.now.n <= r := zAe c2
  exact ⟨by show 1 <= sizeLine; decide, fun p hp => D.no (by rw [e, if_neg (by rw [c1]; decide), if_pos c2]) (az.refl _) hp⟩
 have c2 : ¬ 2 ^ 2 ^ h.now.n <= r := fun z => c2 (zAf z)
 rw [e, if_neg (by rw [c1]; decide), if_neg c2] at D
 exact ⟨_, rfl, _, rfl, _, rfl, rfl, a, h, d, j, r, rfl, zAe c1, by omega, D⟩
theorem Done.same {C : Addr} {H H1 : Hp} {a : Addr} {h : Hall} {d : Ad} {r : Option Board × Kzk1.Ans} {Q : VK} (D : Done C H a h d r Q) (s : az H H1) : Done C H1 a h d r Q :=
 ⟨D.1.same s, fun H' p d' t hp hn ha => D.2 H' p d' ((Turn.same D.1 s).trans t) (s.free hp) hn ha⟩
theorem all2 (b : Board) (j i : Nat) : Kzk.all b [j, i] = (Kzk.isTower b j && Kzk.isTower b i) := by unfold Kzk.all; simp
theorem KA (b : Board) (j i k : Nat) : Kzk.all b [j, i, k] = (Kzk.isTower b j && (Kzk.isTower b i && Kzk.isTower b k)) := by unfold Kzk.all; simp
def Eb (K : PySem.W.Frag) (C : Addr) : Sp := fun vs H Q _ => vs.length = 3 /\ ∃ (a : Addr) (h : Hall) (d : Ad) (j i : Nat), vs = [.ref a, nv j, nv i] /\ Done C H a h d (Kzk.change h.now (.like j i)) Q
abbrev xH : KK := fun P w K mg b C => Cal P w K mg b "like" 3 ["watch", "j", "i"] (Eb K C)
theorem E4 (F : Fa K mg "like" (top 111)) (T : Txt K mg C) (bN : cz P w K mg base C) (bO : cP P w K mg base C) (aG : bp P w K mg base C) : xH P w K mg base C := by
 refine okF ["watch", "j", "i"] F fun nd f cdv A outer s0 H vs Q E hr h => ?_
 obtain ⟨_, a, h, d, j, i, rfl, D⟩ := h
 have W := D.1
 obtain ⟨dx, h1⟩ := W.ob
 have ok := W.ok
 have e : Kzk.change h.now (.like j i) = if Kzk.all h.now [j, i] = false then (none, Kzk1.say (-2)) else Kzk.setRule h.now j (Kzk.table h.now.n fun s => Kzk1.bit s i) := rfl
 rw [all2] at e
 refine ⟨_, (aa (aA (cg (PW.pt (dH (aM (dY T.cl aG hr (pv 0) (a1 (pv 1)))) (dt (aM (dY T.cl aG hr (pv 0) (a1 (pv 2)))))))) (ab (af (ay (a1 (aK rfl T.bW))))) aj)
   (ab (af (au bN hr rfl (a3 (pv 0) (pv 1) (au bO hr rfl (a2 (pf K (pv 0)) (pv 2)))))))), ?_⟩
 refine ⟨_, rfl, a, dx, _, rfl, h1, aO _ _, _, rfl, rfl, a, h, d, j, rfl, W, _, rfl, aJ (fun c1 => ?_) (fun c1 => ?_)⟩
 ·refine ⟨_, rfl, a, dx, _, rfl, h1, aO _ _, _, rfl, rfl, a, h, d, i, rfl, W, _, rfl, aJ (fun c2 => ?_) (fun c2 => ?_)⟩
  ·have c2 : Kzk.isTower h.now i = false := by simpa using c2
   exact ⟨by show 1 <= sizeLine; decide, fun p hp => D.no (by rw [e, c1, c2]; rfl) (az.refl _) hp⟩
  ·have c2 : Kzk.isTower h.now i = true := by simpa using c2
   rw [e, c1, c2] at D
   refine ⟨_, rfl, _, rfl, _, rfl, a, C, dx, _, _, rfl, h1, T.cl, T.n_n, fv _ _, _, rfl, rfl, _, _, rfl, ok.n4, fun H1 s1 => ⟨rfl, a, h, d, j, _, rfl, zAe c1, ia _ _, D.same s1⟩⟩
 ·have c1 : Kzk.isTower h.now j = false := by simpa using c1
  exact g7 ⟨by show 1 <= sizeLine; decide, fun p hp => D.no (by rw [e, c1]; rfl) (az.refl _) hp⟩
def wH (K : PySem.W.Frag) (C : Addr) : Sp := fun vs H Q _ => vs.length = 3 /\ ∃ (a : Addr) (h : Hall) (d : Ad) (j i : Nat), vs = [.ref a, nv j, nv i] /\ Done C H a h d (Kzk.change h.now (.against j i)) Q
abbrev lH : KK := fun P w K mg b C => Cal P w K mg b "against" 4 ["watch", "j", "i"] (wH K C)
theorem xl (F : Fa K mg "against" (top 112)) (T : Txt K mg C) (bN : cz P w K mg base C) (da : cY P w K mg base C) (bO : cP P w K mg base C) (aG : bp P w K mg base C) : lH P w K mg base C := by
 refine okF ["watch", "j", "i"] F fun nd f cdv A outer s0 H vs Q E hr h => ?_
 obtain ⟨_, a, h, d, j, i, rfl, D⟩ := h
 have W := D.1
 obtain ⟨dx, h1⟩ := W.ob
 have ok := W.ok
 have e : Kzk.change h.now (.against j i) = if Kzk.all h.now [j, i] = false then (none, Kzk1.say (-2)) else Kzk.setRule h.now j (Kzk.table h.now.n fun s => !Kzk1.bit s i) := rfl
 rw [all2] at e
 refine ⟨_, (aa (aA (cg (PW.pt (dH (aM (dY T.cl aG hr (pv 0) (a1 (pv 1)))) (dt (aM (dY T.cl aG hr (pv 0) (a1 (pv 2)))))))) (ab (af (ay (a1 (aK rfl T.bW))))) aj)
   (ab (af (au bN hr rfl (a3 (pv 0) (pv 1) (aZ wY (au da hr rfl (a2 (pf K (pv 0)) (ai 1))) (au bO hr rfl (a2 (pf K (pv 0)) (pv 2))))))))), ?_⟩
 refine ⟨_, rfl, a, dx, _, rfl, h1, aO _ _, _, rfl, rfl, a, h, d, j, rfl, W, _, rfl, aJ (fun c1 => ?_) (fun c1 => ?_)⟩
 ·refine ⟨_, rfl, a, dx, _, rfl, h1, aO _ _, _, rfl, rfl, a, h, d, i, rfl, W, _, rfl, aJ (fun c2 => ?_) (fun c2 => ?_)⟩
  ·have c2 : Kzk.isTower h.now i = false := by simpa using c2
   exact ⟨by show 1 <= sizeLine; decide, fun p hp => D.no (by rw [e, c1, c2]; rfl) (az.refl _) hp⟩
  ·have c2 : Kzk.isTower h.now i = true := by simpa using c2
   rw [e, c1, c2] at D
   refine ⟨_, rfl, _, rfl, _, rfl, a, C, dx, _, _, rfl, h1, T.cl, T.n_n, fv _ _, rfl, _, _, rfl, ok.n4, _, rfl, a, C, dx, _, _, rfl, h1, T.cl, T.n_n, fv _ _, _, rfl, rfl, _, _, rfl, ok.n4, fun H1 s1 => ⟨_, _, rfl, rfl, rfl, a, h, d, j, _, rfl, zAe c1, ?_, ?_⟩⟩
   ·rw [pA]; exact ia _ _
   ·rw [pA]; exact D.same s1
 ·have c1 : Kzk.isTower h.now j = false := by simpa using c1
  exact g7 ⟨by show 1 <= sizeLine; decide, fun p hp => D.no (by rw [e, c1]; rfl) (az.refl _) hp⟩
def Eh (K : PySem.W.Frag) (C : Addr) : Sp := fun vs H Q _ => vs.length = 4 /\ ∃ (a : Addr) (h : Hall) (d : Ad) (j i k : Nat), vs = [.ref a, nv j, nv i, nv k] /\ Done C H a h d (Kzk.change h.now (.both j i k)) Q
abbrev xO : KK := fun P w K mg b C => Cal P w K mg b "both" 3 ["watch", "j", "i", "k"] (Eh K C)
theorem Fb (F : Fa K mg "both" (top 113)) (T : Txt K mg C) (bN : cz P w K mg base C) (bO : cP P w K mg base C) (aG : bp P w K mg base C) : xO P w K mg base C := by
 refine okF ["watch", "j", "i", "k"] F fun nd f cdv A outer s0 H vs Q E hr h => ?_
 obtain ⟨_, a, h, d, j, i, k, rfl, D⟩ := h
 have W := D.1
 obtain ⟨dx, h1⟩ := W.ob
 have ok := W.ok
 have e : Kzk.change h.now (.both j i k) = if Kzk.all h.now [j, i, k] = false then (none, Kzk1.say (-2)) else Kzk.setRule h.now j (Kzk.table h.now.n fun s => Kzk1.bit s i && Kzk1.bit s k) := rfl
 rw [KA] at e
 refine ⟨_, (aa (aA (cg (PW.pt (dH (aM (dY T.cl aG hr (pv 0) (a1 (pv 1)))) (dH (aM (dY T.cl aG hr (pv 0) (a1 (pv 2)))) (dt (aM (dY T.cl aG hr (pv 0) (a1 (pv 3))))))))) (ab (af (ay (a1 (aK rfl T.bW))))) aj)
   (ab (af (au bN hr rfl (a3 (pv 0) (pv 1) (aZ ll (au bO hr rfl (a2 (pf K (pv 0)) (pv 2))) (au bO hr rfl (a2 (pf K (pv 0)) (pv 3))))))))), ?_⟩
 refine ⟨_, rfl, a, dx, _, rfl, h1, aO _ _, _, rfl, rfl, a, h, d, j, rfl, W, _, rfl, aJ (fun c1 => ?_) (fun c1 => ?_)⟩
 ·refine ⟨_, rfl, a, dx, _, rfl, h1, aO _ _, _, rfl, rfl, a, h, d, i, rfl, W, _, rfl, aJ (fun c2 => ?_) (fun c2 => ?_)⟩
  ·refine ⟨_, rfl, a, dx, _, rfl, h1, aO _ _, _, rfl, rfl, a, h, d, k, rfl, W, _, rfl, aJ (fun c3 => ?_) (fun c3 => ?_)⟩
   ·have c3 : Kzk.isTower h.now k = false := by simpa using c3
    exact ⟨by show 1 <= sizeLine; decide, fun p hp => D.no (by rw [e, c1, c2, c3]; rfl) (az.refl _) hp⟩
   ·have c3 : Kzk.isTower h.now k = true := by simpa using c3
    rw [e, c1, c2, c3] at D
    refine ⟨_, rfl, _, rfl, _, rfl, a, C, dx, _, _, rfl, h1, T.cl, T.n_n, fv _ _, _, rfl, rfl, _, _, rfl, ok.n4, fun H1 s1 => ⟨_, rfl, a, C, dx, _, _, rfl, s1 _ _ h1, T.cl, T.n_n, fv _ _, _, rfl, rfl, _, _, rfl, ok.n4, fun H2 s2 => ⟨_, _, rfl, rfl, rfl, a, h, d, j, _, rfl, zAe c1, ?_, ?_⟩⟩⟩
    ·rw [cC, cC, vX]; exact ia _ _
    ·rw [cC, cC, vX]; exact D.same (s1.trans s2)
  ·have c2 : Kzk.isTower h.now i = false := by simpa using c2
   exact g7 ⟨by show 1 <= sizeLine; decide, fun p hp => D.no (by rw [e, c1, c2]; rfl) (az.refl _) hp⟩
 ·have c1 : Kzk.isTower h.now j = false := by simpa using c1
  exact g7 ⟨by show 1 <= sizeLine; decide, fun p hp => D.no (by rw [e, c1]; rfl) (az.refl _) hp⟩
def zI (K : PySem.W.Frag) (C : Addr) : Sp := fun vs H Q _ => vs.length = 4 /\ ∃ (a : Addr) (h : Hall) (d : Ad) (j i k : Nat), vs = [.ref a, nv j, nv i, nv k] /\ Done C H a h d (Kzk.change h.now (.either j i k)) Q
abbrev oJ : KK := fun P w K mg b C => Cal P w K mg b "either" 3 ["watch", "j", "i", "k"] (zI K C)
theorem Al (F : Fa K mg "either" (top 114)) (T : Txt K mg C) (bN : cz P w K mg base C) (bO : cP P w K mg base C) (aG : bp P w K mg base C) : oJ P w K mg base C := by
 refine okF ["watch", "j", "i", "k"] F fun nd f cdv A outer s0 H vs Q E hr h => ?_
 obtain ⟨_, a, h, d, j, i, k, rfl, D⟩ := h
 have W := D.1
 obtain ⟨dx, h1⟩ := W.ob
 have ok := W.ok
 have e : Kzk.change h.now (.either j i k) = if Kzk.all h.now [j, i, k] = false then (none, Kzk1.say (-2)) else Kzk.setRule h.now j (Kzk.table h.now.n fun s => Kzk1.bit s i || Kzk1.bit s k) := rfl
 rw [KA] at e
 refine ⟨_, (aa (aA (cg (PW.pt (dH (aM (dY T.cl aG hr (pv 0) (a1 (pv 1)))) (dH (aM (dY T.cl aG hr (pv 0) (a1 (pv 2)))) (dt (aM (dY T.cl aG hr (pv 0) (a1 (pv 3))))))))) (ab (af (ay (a1 (aK rfl T.bW))))) aj)
   (ab (af (au bN hr rfl (a3 (pv 0) (pv 1) (aZ uU (au bO hr rfl (a2 (pf K (pv 0)) (pv 2))) (au bO hr rfl (a2 (pf K (pv 0)) (pv 3))))))))), ?_⟩
 refine ⟨_, rfl, a, dx, _, rfl, h1, aO _ _, _, rfl, rfl, a, h, d, j, rfl, W, _, rfl, aJ (fun c1 => ?_) (fun c1 => ?_)⟩
 ·refine ⟨_, rfl, a, dx, _, rfl, h1, aO _ _, _, rfl, rfl, a, h, d, i, rfl, W, _, rfl, aJ (fun c2 => ?_) (fun c2 => ?_)⟩
  ·refine ⟨_, rfl, a, dx, _, rfl, h1, aO _ _, _, rfl, rfl, a, h, d, k, rfl, W, _, rfl, aJ (fun c3 => ?_) (fun c3 => ?_)⟩
   ·have c3 : Kzk.isTower h.now k = false := by simpa using c3
    exact ⟨by show 1 <= sizeLine; decide, fun p hp => D.no (by rw [e, c1, c2, c3]; rfl) (az.refl _) hp⟩
   ·have c3 : Kzk.isTower h.now k = true := by simpa using c3
    rw [e, c1, c2, c3] at D
    refine ⟨_, rfl, _, rfl, _, rfl, a, C, dx, _, _, rfl, h1, T.cl, T.n_n, fv _ _, _, rfl, rfl, _, _, rfl, ok.n4, fun H1 s1 => ⟨_, rfl, a, C, dx, _, _, rfl, s1 _ _ h1, T.cl, T.n_n, fv _ _, _, rfl, rfl, _, _, rfl, ok.n4, fun H2 s2 => ⟨_, _, rfl, rfl, rfl, a, h, d, j, _, rfl, zAe c1, ?_, ?_⟩⟩⟩
    ·rw [cC, cC, yM]; exact ia _ _
    ·rw [cC, cC, yM]; exact D.same (s1.trans s2)
  ·have c2 : Kzk.isTower h.now i = false := by simpa using c2
   exact g7 ⟨by show 1 <= sizeLine; decide, fun p hp => D.no (by rw [e, c1, c2]; rfl) (az.refl _) hp⟩
 ·have c1 : Kzk.isTower h.now j = false := by simpa using c1
  exact g7 ⟨by show 1 <= sizeLine; decide, fun p hp => D.no (by rw [e, c1]; rfl) (az.refl _) hp⟩
def zL (K : PySem.W.Frag) (C : Addr) : Sp := fun vs H Q _ => vs.length = 3 /\ ∃ (a : Addr) (h : Hall) (d : Ad) (j v : Nat), vs = [.ref a, nv j, nv v] /\ Done C H a h d (Kzk.change h.now (.always j v)) Q
abbrev oN : KK := fun P w K mg b C => Cal P w K mg b "always" 4 ["watch", "j", "v"] (zL K C)
theorem Ao (F : Fa K mg "always" (top 115)) (T : Txt K mg C) (bN : cz P w K mg base C) (da : cY P w K mg base C) (aG : bp P w K mg base C) : oN P w K mg base C := by
 refine okF ["watch", "j", "v"] F fun nd f cdv A outer s0 H vs Q E hr h => ?_
 obtain ⟨_, a, h, d, j, v, rfl, D⟩ := h
 have W := D.1
 obtain ⟨dx, h1⟩ := W.ob
 have ok := W.ok
 have e : Kzk.change h.now (.always j v) = if Kzk.isTower h.now j = false then (none, Kzk1.say (-2)) else if 1 < v then (none, Kzk1.say (-22)) else Kzk.setRule h.now j (Kzk.table h.now.n fun _ => v == 1) := rfl
 refine ⟨_, (aa (aA (cg (aM (dY T.cl aG hr (pv 0) (a1 (pv 1))))) (ab (af (ay (a1 (aK rfl T.bW))))) aj)
   (aa (aA (tc gb (pv 2) (ai 1)) (ab (af (ay (a1 (aK rfl T.bb))))) aj)
   (ab (af (au bN hr rfl (a3 (pv 0) (pv 1) (au da hr rfl (a2 (pf K (pv 0)) (pv 2))))))))), ?_⟩
 refine ⟨_, rfl, a, dx, _, rfl, h1, aO _ _, _, rfl, rfl, a, h, d, j, rfl, W, _, rfl, aJ (fun c1 => ?_) (fun c1 => ?_)⟩
 ·have c1 : Kzk.isTower h.now j = false := by simpa using c1
  exact ⟨by show 1 <= sizeLine; decide, fun p hp => D.no (by rw [e, if_pos c1]) (az.refl _) hp⟩
 have c1 : Kzk.isTower h.now j = true := by simpa using c1
 refine ⟨_, rfl, _, _, rfl, rfl, _, rfl, aJ (fun c2 => ?_) (fun c2 => ?_)⟩
 ·have c2 : 1 < v := zAe c2
  exact ⟨by show 1 <= sizeLine; decide, fun p hp => D.no (by rw [e, if_neg (by rw [c1]; decide), if_pos c2]) (az.refl _) hp⟩
 have c2 : ¬ 1 < v := fun z => c2 (zAf z)
 rw [e, if_neg (by rw [c1]; decide), if_neg c2] at D
 refine ⟨_, rfl, _, rfl, _, rfl, a, C, dx, _, _, rfl, h1, T.cl, T.n_n, fv _ _, _, rfl, rfl, _, _, rfl, ok.n4, rfl, a, h, d, j, _, rfl, zAe c1, ?_, ?_⟩
 ·rw [rm]; exact ia _ _
 ·rw [rm]; exact D
def wz (K : PySem.W.Frag) (C : Addr) : Sp := fun vs H Q _ => vs.length = 2 /\ ∃ (a : Addr) (h : Hall) (d : Ad) (j : Nat), vs = [.ref a, nv j] /\ Told C H a h d (Kzk.ask h.now (.ruleOf j)) Q
abbrev lC : KK := fun P w K mg b C => Cal P w K mg b "rule_of" 2 ["watch", "j"] (wz K C)
theorem xb (F : Fa K mg "rule_of" (top 120)) (T : Txt K mg C) (aG : bp P w K mg base C) : lC P w K mg base C := by
 refine okF ["watch", "j"] F fun nd f cdv A outer s0 H vs Q E hr h => ?_
 obtain ⟨_, a, h, d, j, rfl, W, k⟩ := h
 obtain ⟨dx, h1⟩ := W.ob
 have ok := W.ok
 have e : Kzk.ask h.now (.ruleOf j) = if Kzk.isTower h.now j = false then Kzk1.say (-2) else Kzk1.say (h.now.t.getD j 0 : Nat) := rfl
 refine ⟨_, (aa (aA (cg (aM (dY T.cl aG hr (pv 0) (a1 (pv 1))))) (ab (af (ay (a1 (aK rfl T.bW))))) aj)
   (ab (af (ay (a1 (ix K (pf K (pv 0)) (pv 1))))))), ?_⟩
 refine ⟨_, rfl, a, dx, _, rfl, h1, aO _ _, _, rfl, rfl, a, h, d, j, rfl, W, _, rfl, aJ (fun c1 => ?_) (fun c1 => ?_)⟩
 ·have c1 : Kzk.isTower h.now j = false := by simpa using c1
  rw [e, if_pos c1] at k
  exact ⟨by show 1 <= sizeLine; decide, fun p hp => k _ p (aq hp) hp ae⟩
 have c1 : Kzk.isTower h.now j = true := by simpa using c1
 have hj : j < h.now.n := zAe c1
 rw [e, if_neg (by rw [c1]; decide)] at k
 exact ⟨_, rfl, a, C, dx, _, _, rfl, h1, T.cl, T.gz, hU _ _, _, rfl, _, _, _, _, rfl, rfl, .inl (.inl W.ru), aQ (by rw [ok.tl]; exact hj), by show 1 <= sizeLine; decide, fun p hp => k _ p (aq hp) hp ae⟩
theorem nT {n s j : Nat} (hs : s < 2 ^ n) (hj : j < n) : s ^^^ 2 ^ j < 2 ^ n := Nat.xor_lt_two_pow hs (Nat.pow_lt_pow_right (by decide) hj)
def Ef (K : PySem.W.Frag) (C : Addr) : Sp := fun vs H Q _ => vs.length = 3 /\ ∃ (a : Addr) (h : Hall) (d : Ad) (j v : Nat), vs = [.ref a, nv j, nv v] /\ Done C H a h d (Kzk.change h.now (.flag j v)) Q
abbrev xM : KK := fun P w K mg b C => Cal P w K mg b "flag" 2 ["watch", "j", "v"] (Ef K C)
theorem E8 (F : Fa K mg "flag" (top 116)) (T : Txt K mg C) (cD : dg P w K mg base C) (cQ : d5 P w K mg base C) (cp : dQ P w K mg base C) (aG : bp P w K mg base C) : xM P w K mg base C := by
 refine okF ["watch", "j", "v"] F fun nd f cdv A outer s0 H vs Q E hr h => ?_
 obtain ⟨_, a, h, d, j, v, rfl, D⟩ := h
 have W := D.1
 obtain ⟨dx, h1⟩ := W.ob
 have ok := W.ok
 have h4 := ok.n4
 have e : Kzk.change h.now (.flag j v) = if Kzk.isTower h.now j = false then (none, Kzk1.say (-2)) else if 1 < v then (none, Kzk1.say (-22)) else if Kzk1.bit h.now.s j == (v == 1) then (none, Kzk1.say (-17)) else (some { h.now with s := if v = 1 then h.now.s + 2 ^ j else h.now.s - 2 ^ j }, Kzk1.say (Kzk.size h.now.n (if v = 1 then h.now.s + 2 ^ j else h.now.s - 2 ^ j) : Nat)) := rfl
 refine ⟨_, (aa (aA (cg (aM (dY T.cl aG hr (pv 0) (a1 (pv 1))))) (ab (af (ay (a1 (aK rfl T.bW))))) aj)
   (aa (aA (tc gb (pv 2) (ai 1)) (ab (af (ay (a1 (aK rfl T.bb))))) aj)
   (aa (aA (tc JO (au cp hr rfl (a2 (pf K (pv 0)) (pv 1))) (ec dq (pv 2) (ai 1))) (ab (af (ay (a1 (aK rfl T.gJ))))) aj)
   (aa (bS (pv 0) (au cQ hr rfl (a2 (pf K (pv 0)) (pv 1))) rfl)
   (ab (af (ay (a1 (au cD hr rfl (a1 (pf K (pv 0)))))))))))), ?_⟩
 refine ⟨_, rfl, a, dx, _, rfl, h1, aO _ _, _, rfl, rfl, a, h, d, j, rfl, W, _, rfl, aJ (fun c1 => ?_) (fun c1 => ?_)⟩
 ·have c1 : Kzk.isTower h.now j = false := by simpa using c1
  exact ⟨by show 1 <= sizeLine; decide, fun p hp => D.no (by rw [e, if_pos c1]) (az.refl _) hp⟩
 have c1 : Kzk.isTower h.now j = true := by simpa using c1
 have hj : j < h.now.n := zAe c1
 rw [if_neg (by rw [c1]; decide)] at e
 refine ⟨_, rfl, _, _, rfl, rfl, _, rfl, aJ (fun c2 => ?_) (fun c2 => ?_)⟩
 ·have c2 : 1 < v := zAe c2
  exact ⟨by show 1 <= sizeLine; decide, fun p hp => D.no (by rw [e, if_pos c2]) (az.refl _) hp⟩
 have c2 : ¬ 1 < v := fun z => c2 (zAf z)
 rw [if_neg c2] at e
 refine ⟨_, rfl, a, C, dx, _, _, rfl, h1, T.cl, T.ba, a0 _ _, _, rfl, rfl, _, _, rfl, _, rfl, _, _, rfl, rfl, _, _, rfl, rfl, _, rfl, aJ (fun c3 => ?_) (fun c3 => ?_)⟩
 ·have c3 : (Kzk1.bit h.now.s j == (v == 1)) = true := by rw [← c3]; congr 1 <;> (rw [zCo]; simp)
  exact ⟨by show 1 <= sizeLine; decide, fun p hp => D.no (by rw [e, if_pos c3]) (az.refl _) hp⟩
 have c3 : ¬ (Kzk1.bit h.now.s j == (v == 1)) = true := by intro z; apply c3; rw [← z]; congr 1 <;> (rw [zCo]; simp)
 rw [if_neg c3] at e
 have ex : (if v = 1 then h.now.s + 2 ^ j else h.now.s - 2 ^ j) = h.now.s ^^^ 2 ^ j := by
  rw [iR]
  by_cases hv : v = 1
  ·have hb : Kzk1.bit h.now.s j = false := by cases hb : Kzk1.bit h.now.s j <;> simp [hv, hb] at c3 ⊢
   rw [if_pos hv, hb]; rfl
  ·have hb : Kzk1.bit h.now.s j = true := by cases hb : Kzk1.bit h.now.s j <;> simp [hv, hb] at c3 ⊢
   rw [if_neg hv, hb]; rfl
 rw [ex] at e
 have hx := nT ok.sb hj
 refine ⟨_, rfl, a, C, dx, _, _, rfl, h1, T.cl, T.ba, a0 _ _, _, rfl, rfl, _, _, rfl, by omega, _, rfl, a, C, dx, _, rfl, h1, T.cl, T.ba, few _ _, ?_⟩
 rw [k9]
 have t1 := W.put (b := { h.now with s := h.now.s ^^^ 2 ^ j }) h1 ⟨ok.n4, ok.tl, ok.tb, hx, ok.hb, ok.oo⟩ rfl rfl
 rw [e] at D
 refine ⟨_, rfl, a, C, dx, _, _, rfl, ae, T.cl, T.ba, a0 _ _, rfl, _, rfl, by show 1 <= sizeLine; decide, fun p hp => ?_⟩
 refine D.2 _ p d (t1.then (aq hp)) (t1.live p hp) (dP t1.W hp) ?_
 show upd _ p _ p = some (.lst [nv (Kzk.size h.now.n (h.now.s ^^^ 2 ^ j))])
 rw [ae, ← eT _ _ hx]
def Ed (K : PySem.W.Frag) (C : Addr) : Sp := fun vs H Q _ => vs.length = 2 /\ ∃ (a : Addr) (h : Hall) (d : Ad) (j : Nat), vs = [.ref a, nv j] /\ Done C H a h d (Kzk.change h.now (.hold j)) Q
abbrev xJ : KK := fun P w K mg b C => Cal P w K mg b "hold" 2 ["watch", "j"] (Ed K C)
theorem E6 (F : Fa K mg "hold" (top 117)) (T : Txt K mg C) (cD : dg P w K mg base C) (cQ : d5 P w K mg base C) (cp : dQ P w K mg base C) (aG : bp P w K mg base C) : xJ P w K mg base C := by
 refine okF ["watch", "j"] F fun nd f cdv A outer s0 H vs Q E hr h => ?_
 obtain ⟨_, a, h, d, j, rfl, D⟩ := h
 have W := D.1
 obtain ⟨dx, h1⟩ := W.ob
 have ok := W.ok
 have h4 := ok.n4
 have e : Kzk.change h.now (.hold j) = if Kzk.isTower h.now j = false then (none, Kzk1.say (-2)) else if Kzk1.bit h.now.held j then (none, Kzk1.say (-17)) else (some { h.now with held := h.now.held + 2 ^ j }, Kzk1.say (Kzk.size h.now.n (h.now.held + 2 ^ j) : Nat)) := rfl
 refine ⟨_, (aa (aA (cg (aM (dY T.cl aG hr (pv 0) (a1 (pv 1))))) (ab (af (ay (a1 (aK rfl T.bW))))) aj)
   (aa (aA (aM (au cp hr rfl (a2 (pf K (pv 0)) (pv 1)))) (ab (af (ay (a1 (aK rfl T.gJ))))) aj)
   (aa (bS (pv 0) (au cQ hr rfl (a2 (pf K (pv 0)) (pv 1))) rfl)
   (ab (af (ay (a1 (au cD hr rfl (a1 (pf K (pv 0))))))))))), ?_⟩
 refine ⟨_, rfl, a, dx, _, rfl, h1, aO _ _, _, rfl, rfl, a, h, d, j, rfl, W, _, rfl, aJ (fun c1 => ?_) (fun c1 => ?_)⟩
 ·have c1 : Kzk.isTower h.now j = false := by simpa using c1
  exact ⟨by show 1 <= sizeLine; decide, fun p hp => D.no (by rw [e, if_pos c1]) (az.refl _) hp⟩
 have c1 : Kzk.isTower h.now j = true := by simpa using c1
 have hj : j < h.now.n := zAe c1
 rw [if_neg (by rw [c1]; decide)] at e
 refine ⟨_, rfl, a, C, dx, _, _, rfl, h1, T.cl, T.dI, eC _ _, _, rfl, rfl, _, _, rfl, _, rfl, aJ (fun c3 => ?_) (fun c3 => ?_)⟩
 ·exact ⟨by show 1 <= sizeLine; decide, fun p hp => D.no (by rw [e, if_pos c3]) (az.refl _) hp⟩
 rw [if_neg c3] at e
 have hb : Kzk1.bit h.now.held j = false := by simpa using c3
 have ex : h.now.held + 2 ^ j = h.now.held ^^^ 2 ^ j := by rw [iR, hb]; rfl
 rw [ex] at e
 have hx := nT ok.hb hj
 refine ⟨_, rfl, a, C, dx, _, _, rfl, h1, T.cl, T.dI, eC _ _, _, rfl, rfl, _, _, rfl, by omega, _, rfl, a, C, dx, _, rfl, h1, T.cl, T.dI, few _ _, ?_⟩
 rw [nS]
 have t1 := W.put (b := { h.now with held := h.now.held ^^^ 2 ^ j }) h1 ⟨ok.n4, ok.tl, ok.tb, ok.sb, hx, ok.oo⟩ rfl rfl
 rw [e] at D
 refine ⟨_, rfl, a, C, dx, _, _, rfl, ae, T.cl, T.dI, eC _ _, rfl, _, rfl, by show 1 <= sizeLine; decide, fun p hp => ?_⟩
 refine D.2 _ p d (t1.then (aq hp)) (t1.live p hp) (dP t1.W hp) ?_
 show upd _ p _ p = some (.lst [nv (Kzk.size h.now.n (h.now.held ^^^ 2 ^ j))])
 rw [ae, ← eT _ _ hx]
def Ee (K : PySem.W.Frag) (C : Addr) : Sp := fun vs H Q _ => vs.length = 2 /\ ∃ (a : Addr) (h : Hall) (d : Ad) (j : Nat), vs = [.ref a, nv j] /\ Done C H a h d (Kzk.change h.now (.free j)) Q
abbrev xK : KK := fun P w K mg b C => Cal P w K mg b "free" 2 ["watch", "j"] (Ee K C)
theorem E7 (F : Fa K mg "free" (top 118)) (T : Txt K mg C) (cD : dg P w K mg base C) (cQ : d5 P w K mg base C) (cp : dQ P w K mg base C) (aG : bp P w K mg base C) : xK P w K mg base C := by
 refine okF ["watch", "j"] F fun nd f cdv A outer s0 H vs Q E hr h => ?_
 obtain ⟨_, a, h, d, j, rfl, D⟩ := h
 have W := D.1
 obtain ⟨dx, h1⟩ := W.ob
 have ok := W.ok
 have h4 := ok.n4
 have e : Kzk.change h.now (.free j) = if Kzk.isTower h.now j = false then (none, Kzk1.say (-2)) else if !Kzk1.bit h.now.held j then (none, Kzk1.say (-17)) else (some { h.now with held := h.now.held - 2 ^ j }, Kzk1.say (Kzk.size h.now.n (h.now.held - 2 ^ j) : Nat)) := rfl
 refine ⟨_, (aa (aA (cg (aM (dY T.cl aG hr (pv 0) (a1 (pv 1))))) (ab (af (ay (a1 (aK rfl T.bW))))) aj)
   (aa (aA (cg (aM (au cp hr rfl (a2 (pf K (pv 0)) (pv 1))))) (ab (af (ay (a1 (aK rfl T.gJ))))) aj)
   (aa (bS (pv 0) (au cQ hr rfl (a2 (pf K (pv 0)) (pv 1))) rfl)
   (ab (af (ay (a1 (au cD hr rfl (a1 (pf K (pv 0))))))))))), ?_⟩
 refine ⟨_, rfl, a, dx, _, rfl, h1, aO _ _, _, rfl, rfl, a, h, d, j, rfl, W, _, rfl, aJ (fun c1 => ?_) (fun c1 => ?_)⟩
 ·have c1 : Kzk.isTower h.now j = false := by simpa using c1
  exact ⟨by show 1 <= sizeLine; decide, fun p hp => D.no (by rw [e, if_pos c1]) (az.refl _) hp⟩
 have c1 : Kzk.isTower h.now j = true := by simpa using c1
 have hj : j < h.now.n := zAe c1
 rw [if_neg (by rw [c1]; decide)] at e
 refine ⟨_, rfl, a, C, dx, _, _, rfl, h1, T.cl, T.dI, eC _ _, _, rfl, rfl, _, _, rfl, _, rfl, aJ (fun c3 => ?_) (fun c3 => ?_)⟩
 ·exact ⟨by show 1 <= sizeLine; decide, fun p hp => D.no (by rw [e, if_pos c3]) (az.refl _) hp⟩
 rw [if_neg c3] at e
 have hb : Kzk1.bit h.now.held j = true := by simpa using c3
 have ex : h.now.held - 2 ^ j = h.now.held ^^^ 2 ^ j := by rw [iR, hb]; rfl
 rw [ex] at e
 have hx := nT ok.hb hj
 refine ⟨_, rfl, a, C, dx, _, _, rfl, h1, T.cl, T.dI, eC _ _, _, rfl, rfl, _, _, rfl, by omega, _, rfl, a, C, dx, _, rfl, h1, T.cl, T.dI, few _ _, ?_⟩
 rw [nS]
 have t1 := W.put (b := { h.now with held := h.now.held ^^^ 2 ^ j }) h1 ⟨ok.n4, ok.tl, ok.tb, ok.sb, hx, ok.oo⟩ rfl rfl
 rw [e] at D
 refine ⟨_, rfl, a, C, dx, _, _, rfl, ae, T.cl, T.dI, eC _ _, rfl, _, rfl, by show 1 <= sizeLine; decide, fun p hp => ?_⟩
 refine D.2 _ p d (t1.then (aq hp)) (t1.live p hp) (dP t1.W hp) ?_
 show upd _ p _ p = some (.lst [nv (Kzk.size h.now.n (h.now.held ^^^ 2 ^ j))])
 rw [ae, ← eT _ _ hx]
end
end TW
namespace TW
open PySem PySem.Spec PyProof.Rows L2 TM
open Kzk (Board Hall)
section
variable {X : Cx} {a : Expr} {ta : TA} {p q pos pos' : Pos}
theorem lg (hg : Gl X "range") (hm : X.mg "range" = none) (ha : PA X [a] ta) (hs : starEach [a] X.env = [(false, eval a X.env)] := by rfl) :
  PE X (.Call (.Name "range" p) [a] [] pos) (fun σ H Q => ta σ H fun vs H1 => ∃ n : Nat, vs = [nv n] /\ ∀ r, H1 r = none -> Q (.ref r) (upd H1 r (.rng 0 n))) := by
 intro pins s σ H Q I h
 refine Call_ (ow I hg hm boot_range (PyProof.Rows.callWith_type1 (thn (ha pos pins s σ H _ I h) fun us s1 ⟨vs, H1, I1, r1, q1⟩ => ?_) hs rfl))
 obtain ⟨n, rfl, q1⟩ := q1
 cases r1 with
 | cons r rr =>
  cases rr
  obtain ⟨t, rfl⟩ := r
  refine call_range_1 ?_
  have hf : H1 s1.heap.objs.size = none := I1.hok.fresh (zAt _)
  exact ⟨.ref s1.heap.objs.size, upd H1 s1.heap.objs.size (.rng 0 n), I1.laid (fun b u e => Heap.get?_push_of_some _ e) (zAt _) ⟨_, _, _, Heap.get?_push_size _ rfl⟩, rfl, q1 _ hf⟩
theorem ub : ∀ (xs : List V) (us : List Value), xs.length = us.length -> (∀ (j : Nat) x u, xs[j]? = some x -> us[j]? = some u -> RelV x u) -> Vals xs us
 | [], [], _, _ => .nil
 | [], _ :: _, h, _ => by simp at h
 | _ :: _, [], h, _ => by simp at h
 | x :: xs, u :: us, h, f => .cons (f 0 x u rfl rfl) (ub xs us (by simpa using h) fun j y z e1 e2 => f (j + 1) y z e1 e2)
theorem fS (hc : X.calm = true) : bY X (.type "list") (fun xs H Q => ∃ (r : Addr) (n : Nat), xs = [.ref r] /\ H r = some (.rng 0 n) /\ n <= 1000000 /\ ∀ l, H l = none -> Q (.ref l) (upd H l (.lst ((List.range n).map nv)))) := by
 intro pins s σ H xs us Q I rv h
 obtain ⟨r, n, rfl, hr, hn, k⟩ := h
 obtain ⟨u, rfl, ru⟩ := Vals.one rv
 cases ru
 obtain ⟨t, u, v, ho⟩ := (show cG X.prog X.w H s.heap r (.rng 0 n) from I.hok r _ hr)
 have hsz : Builtin.Range.rangeSize 0 (n : Int) 1 = (n : Int) := by rw [rangeSize_one]; split <;> omega
 refine call_list_range (n := n) (I.ok.hd hc) ho (small_one (by decide) (by decide) (a8 n) (a9 hn)) hsz (zAn hn (by decide)) fun h' tk qu c' hk hS' oT => ?_
 have hf : H s.heap.objs.size = none := I.hok.fresh (zAt _)
 refine ⟨.ref s.heap.objs.size, upd H s.heap.objs.size (.lst ((List.range n).map nv)), I.laid hk (zAt _) ⟨?_, qu.toList, c', ?_, ?_⟩, rfl, k _ hf⟩
 ·rw [zAa, zAr]; exact bw hn
 ·refine ub _ _ (by rw [zAa, zAr]; simp [oT.1]) fun j x u e1 e2 => ?_
  have hj : j < n := by have := (zAd.mp e1).1; simpa using this
  rw [zAh, zAc (by simpa using hj)] at e1
  simp at e1
  subst e1
  obtain ⟨tk, rfl⟩ := oT.2 j u (by simpa using e2)
  exact ⟨tk, by simp⟩
 ·simpa using hS'
end
abbrev di (x : Nat) : PyData := .int (x : Int)
theorem tN {K : PySem.W.Frag} {H : Hp} : ∀ l : List Nat, pB K H (l.map nv) (l.map di)
 | [] => .nil
 | x :: l => .cons (.int _) (tN l)
theorem vj : ∀ l : List Nat, PyData.canLayAll0 (l.map di) = true
 | [] => rfl
 | x :: l => by
  show (PyData.canLay0 (di x) && PyData.canLayAll0 (l.map di)) = true
  rw [vj l]; rfl
theorem pb : ∀ l : List Nat, PyData.depthAll (l.map di) = 0
 | [] => rfl
 | x :: l => by
  show max (PyData.depth (di x)) (PyData.depthAll (l.map di)) = 0
  rw [pb l]; rfl
theorem mf (l : List Nat) : SeqAt.shaped (.list (l.map di)) = true := by
 unfold SeqAt.shaped
 have e1 : PyData.canLay0 (.list (l.map di)) = true := vj l
 have e2 : PyData.depth (.list (l.map di)) = 1 := by
  show PyData.depthAll (l.map di) + 1 = 1
  rw [pb]
 rw [e1, e2]; rfl
theorem vF : ∀ l m : List Nat, PyData.eqvAll (l.map di) (m.map di) = decide (l = m)
 | [], [] => rfl
 | [], _ :: _ => rfl
 | _ :: _, [] => rfl
 | x :: l, y :: m => by
  show ((x : Int) == (y : Int) && PyData.eqvAll (l.map di) (m.map di)) = _
  rw [vF l m, zCo]
  simp
  omega
section
variable {X : Cx} (K : PySem.W.Frag)
theorem HA (hu : X.A.units + 64 < cLine) (h : X.K = K := by rfl) : OpR X (compareOp .NotEq) (fun x y H Q => ∃ (a b : Addr) (l m : List Nat), x = .ref a /\ y = .ref b /\ NL K H a l /\ NL K H b m /\ Q (.bl (!decide (l = m))) H) := by
 subst h
 intro pins s σ H x y v u Q I rx ry q
 obtain ⟨a, b, l, m, rfl, rfl, hl, hm, q⟩ := q
 refine Hw hu pins s σ H _ _ v u Q I rx ry ⟨_, _, .lst hl (tN l), .lst hm (tN m), mf l, mf m, ?_⟩
 show Q (.bl (!PyData.eqvAll _ _)) H
 rw [vF]; exact q
theorem Aw (h : X.K = K := by rfl) : bY X (.builtin "sorted") (fun xs H Q => ∃ (a : Addr) (l : List Nat), xs = [.ref a] /\ NL K H a l /\ l.length < 64 /\ ∀ (l' : List Nat) (p : Addr), l'.Perm l -> l'.Pairwise (· <= ·) -> H p = none -> Q (.ref p) (upd H p (.lst (l'.map nv)))) := by
 intro pins s σ H xs us Q I r q
 obtain ⟨a, l, rfl, hs, hl, q⟩ := q
 refine CL K h pins s σ H _ us Q I r ⟨a, l.map fun x : Nat => (x : Int), rfl, by rw [← gC]; exact hs, by rw [zAa]; exact hl, fun ns p hp ho hn => ?_⟩
 have hnn : ∀ z ∈ ns, ∃ x : Nat, z = (x : Int) := fun z hz => by
  obtain ⟨x, _, e⟩ := zAq.mp (hp.mem_iff.mp hz)
  exact ⟨x, e.symm⟩
 have e1 : ns = (ns.map Int.toNat).map fun x : Nat => (x : Int) := by
  rw [zAw]
  have : ns.map ((fun x : Nat => (x : Int)) ∘ Int.toNat) = ns.map id := List.map_congr_left fun z hz => by
   obtain ⟨x, rfl⟩ := hnn z hz
   simp
  rw [this, List.map_id]
 have q2 := q (ns.map Int.toNat) p ?_ ?_ hn
 ·rw [gC, ← e1] at q2; exact q2
 ·have := hp.map Int.toNat
  rw [zAw] at this
  have e2 : l.map (Int.toNat ∘ fun x : Nat => (x : Int)) = l := by
   have : l.map (Int.toNat ∘ fun x : Nat => (x : Int)) = l.map id := List.map_congr_left fun z _ => by simp
   rw [this, List.map_id]
  rw [e2] at this
  exact this
 ·rw [List.pairwise_map]
  exact ho.imp fun {x y} hxy => by omega
end
theorem nE : ∀ (m lo : Nat) (l : List Nat), l.Pairwise (· <= ·) -> l.length = m -> (∀ j, lo <= j -> j < lo + m -> j ∈ l) -> l = List.range' lo m
 | 0, lo, l, _, hl, _ => by rw [zAu.mp hl]; rfl
 | m + 1, lo, l, ho, hl, h => by
  cases l with
  | nil => simp at hl
  | cons x r =>
   obtain ⟨ho1, ho2⟩ := zBu.mp ho
   have hr : r.length = m := by simpa using hl
   have hlo := h lo (zAt _) (by omega)
   have hx : x = lo := by
    rcases zAv.mp hlo with z | z
    ·exact z.symm
    ·have h1 := ho1 lo z
     by_cases e : x = lo
     ·exact e
     ·have := sub_len (List.range' lo (m + 1)) r List.nodup_range' fun y hy => by
       have hy2 := List.mem_range'_1.mp hy
       rcases zAv.mp (h y hy2.1 (by omega)) with z | z
       ·omega
       ·exact z
      rw [List.length_range'] at this
      omega
   subst hx
   have := nE m (x + 1) r ho2 hr fun j h1 h2 => by
    rcases zAv.mp (h j (by omega) (by omega)) with z | z
    ·omega
    ·exact z
   rw [this, List.range'_succ]
theorem uP {n : Nat} {l l' : List Nat} (hp : l'.Perm l) (ho : l'.Pairwise (· <= ·)) : (l' = List.range n) <-> Kzk3.okOrder n l = true := by
 unfold Kzk3.okOrder
 rw [zBg, zBa, beq_iff_eq]
 constructor
 ·intro e
  subst e
  refine ⟨by rw [← hp.length_eq, zAr], fun j hj => ?_⟩
  simpa using hp.mem_iff.mp hj
 ·rintro ⟨h1, h2⟩
  rw [List.range_eq_range']
  exact nE n 0 l' ho (by rw [hp.length_eq]; exact h1) fun j _ hj => hp.mem_iff.mpr (by simpa using h2 j (zAk.mpr (by omega)))
theorem WAt.setOrder {C : Addr} {H : Hp} {a : Addr} {h : Hall} {d : Ad} {dx x : Addr} {o : List Nat} (W : WAt C H a h d) (e : H a = some (.ins C dx (wf h.now d))) (hx : H x = some (.lst (o.map nv))) (hn : x ≠ d.ra /\ x ≠ d.pp /\ x ≠ d.up) (ok : Kzk3.okOrder h.now.n o = true) :
  WAt C (upd H a (.ins C dx (wf { h.now with order := o } { d with oa := x }))) a ⟨{ h.now with order := o }, h.past, h.ahead⟩ { d with oa := x } := by
 have off : ∀ y xs, H y = some (.lst xs) -> y ≠ a := fun y xs q => cU q e (by intro z; cases z)
 obtain ⟨ps, h2, h3⟩ := W.pa
 obtain ⟨us, h4, h5⟩ := W.un
 obtain ⟨⟨n1, n2, n3⟩, ⟨n4, n5⟩, n6⟩ := W.nd
 have okb := W.ok
 refine ⟨⟨dx, ae⟩, ?_, ?_, ⟨ps, ?_, h3.dF (cu e)⟩, ⟨us, ?_, h5.dF (cu e)⟩, ⟨⟨hn.1.symm, n2, n3⟩, ⟨hn.2.1, hn.2.2⟩, n6⟩, ⟨okb.n4, okb.tl, okb.tb, okb.sb, okb.hb, ok⟩, W.pl, W.okp⟩
 ·show upd H a _ d.ra = _
  rw [ag (off _ _ W.ru)]; exact W.ru
 ·show upd H a _ x = _
  rw [ag (off _ _ hx)]; exact hx
 ·show upd H a _ d.pp = _
  rw [ag (off _ _ h2)]; exact h2
 ·show upd H a _ d.up = _
  rw [ag (off _ _ h4)]; exact h4
section
variable {P : Program} {w : World} {K : PySem.W.Frag} {mg : Str -> Option Value} {base : Heap} {C : Addr}
def Br (K : PySem.W.Frag) (C : Addr) : Sp := fun vs H Q _ => vs.length = 2 /\ ∃ (a b : Addr) (h : Hall) (d : Ad) (l : List Nat), vs = [.ref a, .ref b] /\ NL K H b l /\ l.length < 64 /\ Done C H a h d (Kzk.change h.now (.order l)) Q
abbrev sN : KK := fun P w K mg b C => Cal P w K mg b "order" 1 ["watch", "towers"] (Br K C)
theorem Ck (F : Fa K mg "order" (top 119)) (T : Txt K mg C) : sN P w K mg base C := by
 refine okF ["watch", "towers"] F fun nd f cdv A outer s0 H vs Q E hr h => ?_
 obtain ⟨_, a, b, h, d, l, rfl, hB, hl, D⟩ := h
 have W := D.1
 obtain ⟨dx, h1⟩ := W.ob
 have ok := W.ok
 have h4 := ok.n4
 have e : Kzk.change h.now (.order l) = if Kzk3.okOrder h.now.n l = false then (none, Kzk1.say (-22)) else (some { h.now with order := l }, Kzk1.say 0) := rfl
 refine ⟨_, (aa (aA (tc (HA K hr.units) (cb (Aw K) T.iQ gu (pv 1)) (bZ (fS rfl) (by rfl) T.jS gW (aL (lg rfl T.i7 (a1 (pf K (pv 0)))) bC))) (ab (af (ay (a1 (aK rfl T.bb))))) aj)
   (aa (bS (pv 0) (bZ (sP K) (by rfl) T.jS gW (a1 (pv 1))) rfl)
   (ab (af (ay (a1 (ai 0))))))), ?_⟩
 refine ⟨_, rfl, _, _, rfl, hB, hl, fun l' S hp ho hS => ?_⟩
 have s1 : az H (upd H S (.lst (l'.map nv))) := aq hS
 refine ⟨_, rfl, a, C, dx, _, _, rfl, s1 _ _ h1, T.cl, T.n_n, fv _ _, _, rfl, fun r hr => ⟨r, _, rfl, ae, by omega, fun G hG => ?_⟩⟩
 have s2 := ak (o := .rng 0 h.now.n) s1 (s1.free hr)
 have s3 := ak (o := .lst ((List.range h.now.n).map nv)) s2 (s2.free hG)
 have hS2 : upd (upd (upd H S (.lst (l'.map nv))) r (.rng 0 h.now.n)) G (.lst ((List.range h.now.n).map nv)) S = some (.lst (l'.map nv)) := by
  have q1 : S ≠ r := by rintro rfl; rw [ae] at hr; cases hr
  have q2 : S ≠ G := by
   rintro rfl
   rw [ag q1, ae] at hG; cases hG
  rw [ag q2, ag q1, ae]
 refine ⟨_, _, l', List.range h.now.n, rfl, rfl, .inl (.inl hS2), .inl (.inl ae), _, rfl, aJ (fun c1 => ?_) (fun c1 => ?_)⟩
 ·have c1 : Kzk3.okOrder h.now.n l = false := by
   cases q : Kzk3.okOrder h.now.n l
   ·rfl
   ·rw [(uP hp ho).mpr q] at c1; simp at c1
  exact ⟨by show 1 <= sizeLine; decide, fun p hp => D.no (by rw [e, if_pos c1]) s3 hp⟩
 ·have c1 : Kzk3.okOrder h.now.n l = true := (uP hp ho).mp (by simpa using c1)
  rw [e, if_neg (by rw [c1]; decide)] at D
  refine ⟨_, rfl, _, _, rfl, .inl (s3.seq hB), fun x hx => ?_⟩
  have s4 := ak (o := .lst (l.map nv)) s3 (s3.free hx)
  have W4 := W.same s4
  obtain ⟨ps, h2, _⟩ := W.pa
  obtain ⟨us, h5, _⟩ := W.un
  have hx0 := s3.free hx
  refine ⟨_, rfl, a, C, dx, _, rfl, s4 _ _ h1, T.cl, T.gB, few _ _, ?_⟩
  rw [qJ]
  have W5 := W4.setOrder (s4 _ _ h1) (x := x) (o := l) ae ⟨(ax W.ru hx0).symm, (ax h2 hx0).symm, (ax h5 hx0).symm⟩ c1
  refine ⟨by show 1 <= sizeLine; decide, fun p hp => ?_⟩
  have hp0 : H p = none := s4.free (aV hp)
  refine D.2 _ p { d with oa := x } ⟨W5.same (aq hp), fun y o q n => ?_, fun y hy => ?_, fun y q => s4.free (aV (aV q))⟩ hp0 (dP W5 hp) ae
  ·rw [ag (by rintro rfl; rw [q] at hp0; cases hp0), ag (by rintro rfl; exact n (by simp [Ad.own]))]
   exact s4 _ _ q
  ·simp only [Ad.own, zAv, List.not_mem_nil, or_false] at hy ⊢
   rcases hy with rfl | rfl | rfl | rfl | rfl
   ·exact .inl (.inl rfl)
   ·exact .inl (.inr (.inl rfl))
   ·exact .inr hx0
   ·exact .inl (.inr (.inr (.inr (.inl rfl))))
   ·exact .inl (.inr (.inr (.inr (.inr rfl))))
def wA (K : PySem.W.Frag) (C : Addr) : Sp := fun vs H Q _ => vs.length = 1 /\ ∃ (a : Addr) (h : Hall) (d : Ad), vs = [.ref a] /\ WAt C H a h d /\ ∀ (H' : Hp) (p : Addr), az H H' -> H p = none -> Pic H' p h.now -> Q (.ref p) H'
abbrev gi : KK := fun P w K mg b C => mS P w K mg b C "picture" 1 ["self"] (wA K C)
theorem xc (F : FaM K C "picture" "Watch.picture" (inClass (top 123) 5)) (T : Txt K mg C) : gi P w K mg base C := by
 refine okM ["self", "sums"] F fun nd f cdv A outer s0 H vs Q E hr h => ?_
 obtain ⟨_, a, h, d, rfl, W, k⟩ := h
 obtain ⟨dx, h1⟩ := W.ob
 refine ⟨_, (aa (st 1 nd (BY (aL (pf K (pv 0)) (aL (pf K (pv 0)) (aL (pf K (pv 0)) (aL (pf K (pv 0)) bC))))))
   (ab (af (BY (aL (pf K (pv 0)) (aL (pf K (pv 0)) (aL (bZ (yS K) (by rfl) T.zh vT (a1 (pf K (pv 0)))) (aL (bZ (yS K) (by rfl) T.zh vT (a1 (pf K (pv 0)))) (aL (pv 1) bC))))))))), ?_⟩
 refine ⟨_, rfl, a, C, dx, _, _, rfl, h1, T.cl, T.kr, m8 _ _, _, rfl, a, C, dx, _, _, rfl, h1, T.cl, T.iB, kR _ _, _, rfl, a, C, dx, _, _, rfl, h1, T.cl, T.ly, mT _ _, _, rfl, a, C, dx, _, _, rfl, h1, T.cl, T.kq, m7 _ _, by show 4 <= sizeLine; decide, fun t3 ht3 => ?_⟩
 have s1 := aq (o := .tup [nv h.now.steps, nv h.now.passes, nv h.now.acts, nv h.now.changed]) ht3
 refine ⟨_, rfl, a, C, dx, _, _, rfl, s1 _ _ h1, T.cl, T.ba, a0 _ _, _, rfl, a, C, dx, _, _, rfl, s1 _ _ h1, T.cl, T.dI, eC _ _, _, rfl, a, C, dx, _, _, rfl, s1 _ _ h1, T.cl, T.gz, hU _ _, _, _, rfl, .inl ⟨.inl (.inl (s1 _ _ W.ru)), fun t1 ht1 => ?_⟩⟩
 have s2 := ak (o := .tup (h.now.t.map nv)) s1 (s1.free ht1)
 refine ⟨_, rfl, a, C, dx, _, _, rfl, s2 _ _ h1, T.cl, T.gB, jU _ _, _, _, rfl, .inl ⟨.inl (.inl (s2 _ _ W.od)), fun t2 ht2 => ?_⟩⟩
 have s3 := ak (o := .tup (h.now.order.map nv)) s2 (s2.free ht2)
 refine ⟨_, rfl, by show 5 <= sizeLine; decide, fun p hp => ?_⟩
 have s4 := ak (o := .tup [nv h.now.s, nv h.now.held, .ref t1, .ref t2, .ref t3]) s3 (s3.free hp)
 have n1 : t3 ≠ t1 := by rintro rfl; rw [ae] at ht1; cases ht1
 have n2 : t1 ≠ t2 := by rintro rfl; rw [ae] at ht2; cases ht2
 have n3 : t3 ≠ t2 := by rintro rfl; rw [ag n1, ae] at ht2; cases ht2
 have n4 : t2 ≠ p := by rintro rfl; rw [ae] at hp; cases hp
 have n5 : t1 ≠ p := by rintro rfl; rw [ag n2, ae] at hp; cases hp
 have n6 : t3 ≠ p := by rintro rfl; rw [ag n3, ag n1, ae] at hp; cases hp
 refine k _ p s4 (s3.free hp) ⟨t1, t2, t3, ae, ?_, ?_, ?_⟩
 ·rw [ag n5, ag n2, ae]
 ·rw [ag n4, ae]
 ·rw [ag n6, ag n3, ag n1, ae]
end
end TW
namespace TW
open PySem PySem.Spec PyProof.Rows L2 TM
open Kzk (Board Hall)
theorem cF (f : Str) (v : V) : ∀ fs : List (Str × V), (bU f v fs).length <= fs.length + 1
 | [] => zAt _
 | (g, x) :: r => by
  have := cF f v r
  show (if g = f then (g, v) :: r else (g, x) :: bU f v r).length <= _
  split
  ·simp
  ·simp; omega
def lW (b : Board) (d : Ad) (fs : List (Str × V)) : List (Str × V) :=
 bU "undone" (.ref d.up) (bU "past" (.ref d.pp) (bU "turns" (nv b.changed) (bU "acts" (nv b.acts) (bU "passes" (nv b.passes) (bU "steps" (nv b.steps) (bU "order" (.ref d.oa) (bU "rules" (.ref d.ra) (bU "held" (nv b.held) (bU "state" (nv b.s) (bU "n" (nv b.n) fs))))))))))
theorem all_nil (b : Board) (d : Ad) : lW b d [] = wf b d := by rfl
theorem IV (b b' : Board) (d d' : Ad) : lW b d (wf b' d') = wf b d := by rfl
theorem Dm {n : Nat} (h : n <= 4) : OkB (Kzk.empty n) := by
 refine ⟨h, ?_, ?_, zCe n, zCe n, ?_⟩
 ·show ((List.range n).map (Kzk.keeps n)).length = n
  simp
 ·intro r hr
  obtain ⟨j, _, rfl⟩ := zAq.mp (show r ∈ (List.range n).map (Kzk.keeps n) from hr)
  exact TW.fH _ _
 ·show Kzk3.okOrder n (List.range n) = true
  unfold Kzk3.okOrder
  simp
section
variable {P : Program} {w : World} {K : PySem.W.Frag} {mg : Str -> Option Value} {base : Heap} {C : Addr}
def Bx (K : PySem.W.Frag) (C : Addr) : Sp := fun vs H Q _ => vs.length = 2 /\ ∃ (a dx : Addr) (fs : List (Str × V)) (n : Nat), vs = [.ref a, nv n] /\ H a = some (.ins C dx fs) /\ (fs = [] \/ ∃ b d, fs = wf b d) /\ n <= 4 ∧
 ∀ (H' : Hp) (d' : Ad), WAt C H' a ⟨Kzk.empty n, [], []⟩ d' -> (∀ x o, H x = some o -> x ≠ a -> H' x = some o) -> (∀ x ∈ [d'.ra, d'.oa, d'.pp, d'.up], H x = none) -> (∀ x, H' x = none -> H x = none) -> Q .non H'
def But (a : Addr) (H H' : Hp) : Prop := (∀ x o, H x = some o -> x ≠ a -> H' x = some o) /\ ∀ x, H' x = none -> H x = none
theorem But.upd {a : Addr} {H H' : Hp} {o : HO} (b : But a H H') : But a H (upd H' a o) := ⟨fun x u e hx => by rw [ag hx]; exact b.1 x u e hx, fun x e => b.2 x (aV e)⟩
theorem But.new {a x : Addr} {H H' : Hp} {o : HO} (b : But a H H') (hx : H' x = none) : But a H (L2.upd H' x o) := ⟨fun y u e hy => by
 have : y ≠ x := by rintro rfl; rw [b.2 y hx] at e; cases e
 rw [ag this]; exact b.1 y u e hy, fun y e => b.2 y (aV e)⟩
theorem But.same {a : Addr} {H H' H2 : Hp} (b : But a H H') (s : az H' H2) : But a H H2 := ⟨fun x u e hx => s _ _ (b.1 x u e hx), fun x e => b.2 x (s.free e)⟩
abbrev m3 : KK := fun P w K mg b C => mS P w K mg b C "begin" 3 ["self", "n"] (Bx K C)
theorem Ct (F : FaM K C "begin" "Watch.begin" (inClass (top 123) 1)) (T : Txt K mg C) (bO : cP P w K mg base C) : m3 P w K mg base C := by
 refine okM ["self", "n", "j"] F fun nd f cdv A outer s0 H vs Q E hr h => ?_
 obtain ⟨_, a, dx, fs, n, rfl, h1, hfs, hn, k⟩ := h
 have l0 : fs.length <= 11 := by
  rcases hfs with rfl | ⟨b, d, rfl⟩
  ·exact zBf _
  ·exact zAt _
 refine ⟨_, (aa (bS (pv 0) (pv 1) rfl)
   (aa (bS (pv 0) (ai 0) rfl)
   (aa (bS (pv 0) (ai 0) rfl)
   (aa (bS (pv 0) (lc 2 nd (r1 T (pv 1)) (au bO hr rfl (a2 (pv 1) (pv 2)))) rfl)
   (aa (bS (pv 0) (bZ (fS rfl) (by rfl) T.jS gW (aL (lg rfl T.i7 (a1 (pv 1))) bC)) rfl)
   (aa (bS (pv 0) (ai 0) rfl)
   (aa (bS (pv 0) (ai 0) rfl)
   (aa (bS (pv 0) (ai 0) rfl)
   (aa (bS (pv 0) (ai 0) rfl)
   (aa (bS (pv 0) (ay bC) rfl)
   (ab (bS (pv 0) (ay bC) rfl)))))))))))), ?_⟩
 have b0 : But a H H := ⟨fun x o e _ => e, fun x e => e⟩
 refine ⟨_, rfl, _, rfl, a, C, dx, _, rfl, h1, T.cl, T.n_n, by omega, ?_⟩
 obtain ⟨F1, hF1⟩ : ∃ F, F = bU "n" (nv n) fs := ⟨_, rfl⟩
 have l1 : F1.length <= 12 := by rw [hF1]; have := cF "n" (nv n) fs; omega
 rw [← hF1]
 have b1 := b0.upd (o := .ins C dx F1)
 refine ⟨_, rfl, a, C, dx, _, rfl, ae, T.cl, T.ba, by omega, ?_⟩
 obtain ⟨F2, hF2⟩ : ∃ F, F = bU "state" (nv 0) F1 := ⟨_, rfl⟩
 have l2 : F2.length <= 13 := by rw [hF2]; have := cF "state" (nv 0) F1; omega
 rw [← hF2]
 have b2 := b1.upd (o := .ins C dx F2)
 refine ⟨_, rfl, a, C, dx, _, rfl, ae, T.cl, T.dI, by omega, ?_⟩
 obtain ⟨F3, hF3⟩ : ∃ F, F = bU "held" (nv 0) F2 := ⟨_, rfl⟩
 have l3 : F3.length <= 14 := by rw [hF3]; have := cF "held" (nv 0) F2; omega
 rw [← hF3]
 have b3 := b2.upd (o := .ins C dx F3)
 obtain ⟨H3, hH3⟩ : ∃ Hn, Hn = upd (upd (upd H a (.ins C dx F1)) a (.ins C dx F2)) a (.ins C dx F3) := ⟨_, rfl⟩
 have e3 : H3 a = some (.ins C dx F3) := by rw [hH3]; exact ae
 rw [← hH3] at b3
 rw [← hH3]
 refine ⟨_, rfl, _, rfl, a8 _, a9 (by omega), fun ra hra => ?_⟩
 rw [zAl]
 refine bR (fun _ => true) (fun j => nv (Kzk.keeps n j)) hra (by omega) (fun j Hj hj sj R R' r1 r2 => ?_) (fun H4 s4 CV => ?_)
 ·exact ⟨rfl, _, rfl, _, rfl, rfl, _, _, rfl, hn, fun H5 s5 => r1 rfl _ s5⟩
 rw [filter_all] at CV
 have CV : H4 ra = some (.lst (((List.range n).map (Kzk.keeps n)).map nv)) := by rw [CV, zAw]; rfl
 have b4 := b3.same s4
 have e4 := s4 _ _ e3
 have ra0 : H ra = none := b3.2 ra hra
 have raa : ra ≠ a := cU CV e4 (by intro z; cases z)
 refine ⟨_, rfl, a, C, dx, _, rfl, e4, T.cl, T.gz, by omega, ?_⟩
 obtain ⟨F4, hF4⟩ : ∃ F, F = bU "rules" (.ref ra) F3 := ⟨_, rfl⟩
 have l4 : F4.length <= 15 := by rw [hF4]; have := cF "rules" (.ref ra) F3; omega
 rw [← hF4]
 have b5 := b4.upd (o := .ins C dx F4)
 obtain ⟨H5, hH5⟩ : ∃ Hn, Hn = upd H4 a (.ins C dx F4) := ⟨_, rfl⟩
 have e5 : H5 a = some (.ins C dx F4) := by rw [hH5]; exact ae
 have ra5 : H5 ra = some (.lst (((List.range n).map (Kzk.keeps n)).map nv)) := by rw [hH5, ag raa]; exact CV
 rw [← hH5] at b5
 rw [← hH5]
 refine ⟨_, rfl, _, rfl, fun r hr5 => ⟨r, _, rfl, ae, by omega, fun oa hoa => ?_⟩⟩
 have b6 := (b5.new (o := .rng 0 n) hr5).new (o := .lst ((List.range n).map nv)) hoa
 have s6 : az H5 (upd (upd H5 r (.rng 0 n)) oa (.lst ((List.range n).map nv))) := ak (aq hr5) (aV hoa)
 have oa6 : (upd (upd H5 r (.rng 0 n)) oa (.lst ((List.range n).map nv))) oa = some (.lst ((List.range n).map nv)) := ae
 have oa0 : H oa = none := b5.2 oa (aV hoa)
 have GY : ra ≠ oa := ax ra5 (aV hoa)
 obtain ⟨H6, hH6⟩ : ∃ Hn, Hn = upd (upd H5 r (.rng 0 n)) oa (.lst ((List.range n).map nv)) := ⟨_, rfl⟩
 rw [← hH6] at b6 s6 oa6
 rw [← hH6]
 have e6 := s6 _ _ e5
 have ra6 := s6 _ _ ra5
 have oaa : oa ≠ a := cU oa6 e6 (by intro z; cases z)
 refine ⟨_, rfl, a, C, dx, _, rfl, e6, T.cl, T.gB, by omega, ?_⟩
 obtain ⟨F5, hF5⟩ : ∃ F, F = bU "order" (.ref oa) F4 := ⟨_, rfl⟩
 have l5 : F5.length <= 16 := by rw [hF5]; have := cF "order" (.ref oa) F4; omega
 rw [← hF5]
 refine ⟨_, rfl, a, C, dx, _, rfl, ae, T.cl, T.kr, by omega, ?_⟩
 obtain ⟨F6, hF6⟩ : ∃ F, F = bU "steps" (nv 0) F5 := ⟨_, rfl⟩
 have l6 : F6.length <= 17 := by rw [hF6]; have := cF "steps" (nv 0) F5; omega
 rw [← hF6]
 refine ⟨_, rfl, a, C, dx, _, rfl, ae, T.cl, T.iB, by omega, ?_⟩
 obtain ⟨F7, hF7⟩ : ∃ F, F = bU "passes" (nv 0) F6 := ⟨_, rfl⟩
 have l7 : F7.length <= 18 := by rw [hF7]; have := cF "passes" (nv 0) F6; omega
 rw [← hF7]
 refine ⟨_, rfl, a, C, dx, _, rfl, ae, T.cl, T.ly, by omega, ?_⟩
 obtain ⟨F8, hF8⟩ : ∃ F, F = bU "acts" (nv 0) F7 := ⟨_, rfl⟩
 have l8 : F8.length <= 19 := by rw [hF8]; have := cF "acts" (nv 0) F7; omega
 rw [← hF8]
 refine ⟨_, rfl, a, C, dx, _, rfl, ae, T.cl, T.kq, by omega, ?_⟩
 obtain ⟨F9, hF9⟩ : ∃ F, F = bU "turns" (nv 0) F8 := ⟨_, rfl⟩
 have l9 : F9.length <= 20 := by rw [hF9]; have := cF "turns" (nv 0) F8; omega
 rw [← hF9]
 have b7 := ((((b6.upd (o := .ins C dx F5)).upd (o := .ins C dx F6)).upd (o := .ins C dx F7)).upd (o := .ins C dx F8)).upd (o := .ins C dx F9)
 obtain ⟨H7, hH7⟩ : ∃ Hn, Hn = upd (upd (upd (upd (upd H6 a (.ins C dx F5)) a (.ins C dx F6)) a (.ins C dx F7)) a (.ins C dx F8)) a (.ins C dx F9) := ⟨_, rfl⟩
 have e7 : H7 a = some (.ins C dx F9) := by rw [hH7]; exact ae
 have ra7 : H7 ra = some (.lst (((List.range n).map (Kzk.keeps n)).map nv)) := by rw [hH7, ag raa, ag raa, ag raa, ag raa, ag raa]; exact ra6
 have oa7 : H7 oa = some (.lst ((List.range n).map nv)) := by rw [hH7, ag oaa, ag oaa, ag oaa, ag oaa, ag oaa]; exact oa6
 rw [← hH7] at b7
 rw [← hH7]
 refine ⟨zBf _, fun pp hpp => ?_⟩
 have s8 : az H7 (upd H7 pp (.lst [])) := aq hpp
 have pp0 : H pp = none := b7.2 pp hpp
 have b8 := b7.new (o := .lst []) hpp
 have ppa : pp ≠ a := (ax e7 hpp).symm
 refine ⟨_, rfl, a, C, dx, _, rfl, s8 _ _ e7, T.cl, T.gA, by omega, ?_⟩
 obtain ⟨F10, Ih⟩ : ∃ F, F = bU "past" (.ref pp) F9 := ⟨_, rfl⟩
 have l10 : F10.length <= 21 := by rw [Ih]; have := cF "past" (.ref pp) F9; omega
 rw [← Ih]
 refine ⟨zBf _, fun up hup => ?_⟩
 have upa : up ≠ a := by rintro rfl; rw [ae] at hup; cases hup
 have HZ : upd H7 pp (.lst []) up = none := aV hup
 have I0 : up ≠ pp := by rintro rfl; rw [ae] at HZ; cases HZ
 have Ia : H7 up = none := aV HZ
 have up0 : H up = none := b7.2 up Ia
 have b9 := (b8.upd (o := .ins C dx F10)).new (o := .lst []) hup
 have e9 : upd (upd (upd H7 pp (.lst [])) a (.ins C dx F10)) up (.lst []) a = some (.ins C dx F10) := by rw [ag upa.symm, ae]
 refine ⟨_, rfl, a, C, dx, _, rfl, e9, T.cl, T.fg, by omega, ?_⟩
 obtain ⟨F11, Ig⟩ : ∃ F, F = bU "undone" (.ref up) F10 := ⟨_, rfl⟩
 have l11 : F11.length <= 22 := by rw [Ig]; have := cF "undone" (.ref up) F10; omega
 rw [← Ig]
 have eF : F11 = wf (Kzk.empty n) ⟨ra, oa, pp, up⟩ := by
  have q : F11 = lW (Kzk.empty n) ⟨ra, oa, pp, up⟩ fs := by rw [Ig, Ih, hF9, hF8, hF7, hF6, hF5, hF4, hF3, hF2, hF1]; rfl
  rw [q]
  rcases hfs with rfl | ⟨b, d, rfl⟩
  ·exact all_nil _ _
  ·exact IV _ _ _ _
 have Jr : ra ≠ pp := ax ra7 hpp
 have Jq : ra ≠ up := ax ra7 Ia
 have JQ : oa ≠ pp := ax oa7 hpp
 have JP : oa ≠ up := ax oa7 Ia
 have b10 := b9.upd (o := .ins C dx F11)
 refine k _ ⟨ra, oa, pp, up⟩ ⟨⟨dx, ?_⟩, ?_, ?_, ⟨[], ?_, rfl, fun i p b e => by simp at e⟩, ⟨[], ?_, rfl, fun i p b e => by simp at e⟩, ⟨⟨GY, Jr, Jq⟩, ⟨JQ, JP⟩, I0.symm⟩, Dm hn, zBf _, fun b hb => by simp at hb⟩ b10.1 ?_ b10.2
 ·rw [ae, eF]
 ·show upd _ a _ ra = _
  rw [ag raa, ag Jq, ag raa, ag Jr]; exact ra7
 ·show upd _ a _ oa = _
  rw [ag oaa, ag JP, ag oaa, ag JQ]; exact oa7
 ·show upd _ a _ pp = _
  rw [ag ppa, ag I0.symm, ag ppa, ae]; rfl
 ·show upd _ a _ up = _
  rw [ag upa, ae]; rfl
 ·intro x hx
  simp only [zAv, List.not_mem_nil, or_false] at hx
  rcases hx with rfl | rfl | rfl | rfl
  ·exact ra0
  ·exact oa0
  ·exact pp0
  ·exact up0
def ux (K : PySem.W.Frag) (C : Addr) : Sp := fun vs H Q _ => vs.length = 1 /\ ∃ (a dx : Addr), vs = [.ref a] /\ H a = some (.ins C dx []) ∧
 ∀ (H' : Hp) (d' : Ad), WAt C H' a ⟨Kzk.empty 0, [], []⟩ d' -> (∀ x o, H x = some o -> x ≠ a -> H' x = some o) -> (∀ x ∈ [d'.ra, d'.oa, d'.pp, d'.up], H x = none) -> (∀ x, H' x = none -> H x = none) -> Q .non H'
abbrev sY : KK := fun P w K mg b C => Mak P w K mg b C "Watch" 4 (ux K C)
theorem vd (F : FaI K C "Watch.__init__" (inClass (top 123) 0)) (hm : mg "Watch" = some (.ref C)) (T : Txt K mg C) (tY : m3 P w K mg base C) : sY P w K mg base C := by
 refine okI ["self"] F hm fun nd f cdv A outer s0 H vs Q E hr h => ?_
 obtain ⟨_, a, dx, rfl, h1, k⟩ := h
 refine ⟨_, (ab (aX (dY T.cl tY hr (pv 0) (a1 (ai 0))))), ?_⟩
 exact ⟨_, rfl, a, dx, _, rfl, h1, rfl, rfl, a, dx, [], 0, rfl, h1, .inl rfl, zBf _, k⟩
theorem xW {C : Addr} {H H' : Hp} {a : Addr} {h' : Hall} {d d' : Ad} (W : WAt C H' a h' d') (k1 : ∀ x o, H x = some o -> x ≠ a -> H' x = some o) (k2 : ∀ x ∈ [d'.ra, d'.oa, d'.pp, d'.up], H x = none) (k3 : ∀ x, H' x = none -> H x = none) : Turn C H H' a h' d d' := by
 refine ⟨W, fun x o e n => k1 x o e (by rintro rfl; exact n (by simp [Ad.own])), fun x hx => ?_, k3⟩
 rcases zAv.mp hx with rfl | hx
 ·exact .inl (by simp [Ad.own])
 ·exact .inr (k2 x hx)
def Bm (K : PySem.W.Frag) (C : Addr) : Sp := fun vs H Q _ => vs.length = 2 /\ ∃ (a : Addr) (h : Hall) (d : Ad) (n : Nat), vs = [.ref a, nv n] /\ WAt C H a h d ∧
 ∀ (H' : Hp) (p : Addr) (d' : Ad), Turn C H H' a (if 1 <= n /\ n <= 4 then ⟨Kzk.empty n, [], []⟩ else h) d d' -> H p = none -> bJ H' p (if 1 <= n /\ n <= 4 then Kzk1.say 0 else Kzk1.say (-22)) -> Q (.ref p) H'
abbrev sH : KK := fun P w K mg b C => Cal P w K mg b "start" 4 ["watch", "n"] (Bm K C)
theorem Ce (F : Fa K mg "start" (top 108)) (T : Txt K mg C) (tY : m3 P w K mg base C) : sH P w K mg base C := by
 refine okF ["watch", "n"] F fun nd f cdv A outer s0 H vs Q E hr h => ?_
 obtain ⟨_, a, h, d, n, rfl, W, k⟩ := h
 obtain ⟨dx, h1⟩ := W.ob
 refine ⟨_, (aa (aA (PW.pt (uL (tc nY (pv 1) (ai 1)) (nQ (tc gb (pv 1) (aK rfl T.qj))))) (ab (af (ay (a1 (aK rfl T.bb))))) aj)
   (aa (aX (dY T.cl tY hr (pv 0) (a1 (pv 1))))
   (ab (af (ay (a1 (ai 0))))))), ?_⟩
 refine ⟨_, rfl, _, _, rfl, rfl, _, rfl, aJ (fun c1 => ?_) (fun c1 => ?_)⟩
 ·have c1 : n < 1 := zAe c1
  rw [if_neg (by omega), if_neg (by omega)] at k
  exact g7 ⟨by show 1 <= sizeLine; decide, fun p hp => k _ p d (Turn.same W (aq hp)) hp ae⟩
 have c1 : ¬ n < 1 := fun z => c1 (zAf z)
 refine ⟨_, rfl, _, _, rfl, rfl, _, rfl, aJ (fun c2 => ?_) (fun c2 => ?_)⟩
 ·have c2 : 4 < n := zAe c2
  rw [if_neg (by omega), if_neg (by omega)] at k
  exact ⟨by show 1 <= sizeLine; decide, fun p hp => k _ p d (Turn.same W (aq hp)) hp ae⟩
 have c2 : ¬ 4 < n := fun z => c2 (zAf z)
 rw [if_pos (by omega), if_pos (by omega)] at k
 refine ⟨_, rfl, a, dx, _, rfl, h1, aO _ _, _, rfl, rfl, a, dx, _, n, rfl, h1, .inr ⟨_, _, rfl⟩, by omega, fun H' d' W' k1 k2 k3 => ⟨by show 1 <= sizeLine; decide, fun p hp => ?_⟩⟩
 exact k _ p d' ((xW W' k1 k2 k3).then (aq hp)) (k3 p hp) ae
theorem la {H : Hp} {ps : List Addr} {bs : List Board} {p : Addr} {b : Board} (h : jT H ps bs) (hp : Pic H p b) : jT H (ps ++ [p]) (bs ++ [b]) := by
 refine ⟨by rw [zAi, zAi, h.1]; rfl, fun i x y e1 e2 => ?_⟩
 by_cases hi : i < ps.length
 ·rw [zAy hi] at e1
  rw [zAy (by rw [← h.1]; exact hi)] at e2
  exact h.2 i x y e1 e2
 ·rw [zAx (by omega)] at e1
  rw [zAx (by rw [← h.1]; omega), ← h.1] at e2
  obtain ⟨q1, q2⟩ := zAd.mp e1
  have q3 : i - ps.length = 0 := by simpa using q1
  rw [q3] at e1 e2
  have e1 : p = x := zBl e1
  have e2 : b = y := zBl e2
  subst e1 e2
  exact hp
theorem zW {H : Hp} {ps : List Addr} {bs : List Board} (h : jT H ps bs) : jT H ps.tail bs.tail := by
 refine ⟨by rw [List.length_tail, List.length_tail, h.1], fun i x y e1 e2 => h.2 (i + 1) x y ?_ ?_⟩
 ·rw [List.getElem?_tail] at e1; exact e1
 ·rw [List.getElem?_tail] at e2; exact e2
theorem mU (H : Hp) (x : Addr) (o u : HO) : upd (upd H x o) x u = upd H x u := by
 funext y
 by_cases h : y = x
 ·subst h; rw [ae, ae]
 ·rw [ag h, ag h, ag h]
theorem Aa {b : Board} {l : List Board} (h : l.length = 20) : ((b :: l).take 20).reverse = (l.reverse ++ [b]).tail := by
 have e : (b :: l).take 20 = (b :: l).dropLast := by rw [List.dropLast_eq_take, zAz, h]
 rw [e, ← List.tail_reverse, List.reverse_cons]
theorem z9 {b : Board} {l : List Board} (h : l.length < 20) : (b :: l).take 20 = b :: l := List.take_of_length_le (by rw [zAz]; omega)
def ib (K : PySem.W.Frag) (C : Addr) : Sp := fun vs H Q _ => vs.length = 2 /\ ∃ (a p : Addr) (h : Hall) (d : Ad) (b : Board), vs = [.ref a, .ref p] /\ WAt C H a h d /\ Pic H p b /\ OkB b /\ b.n = h.now.n ∧
 ∀ (H' : Hp) (d' : Ad), Turn C H H' a ⟨h.now, (b :: h.past).take 20, []⟩ d d' -> Q .non H'
abbrev fP : KK := fun P w K mg b C => mS P w K mg b C "keep_change" 1 ["self", "ahead"] (ib K C)
theorem n9 (F : FaM K C "keep_change" "Watch.keep_change" (inClass (top 123) 7)) (T : Txt K mg C) : fP P w K mg base C := by
 refine okM ["self", "ahead"] F fun nd f cdv A outer s0 H vs Q E hr h => ?_
 obtain ⟨_, a, p, h, d, b, rfl, W, hp, okb, hbn, k⟩ := h
 obtain ⟨dx, h1⟩ := W.ob
 obtain ⟨ps, h2, h3⟩ := W.pa
 have hpl := W.pl
 have L5 : ps.length = h.past.length := by rw [h3.1, List.length_reverse]
 have ha : ∀ (o : HO), upd H d.pp o a = some (.ins C dx (wf h.now d)) := fun o => by rw [ag (cU h1 h2 (by intro z; cases z))]; exact h1
 have fin : ∀ (qs : List Addr) (bs : List Board), jT H qs bs.reverse -> bs = (b :: h.past).take 20 -> Jn K (dS 0) (DW fL) "undone" { nx := fun _ H' => Q .non H', rt := Q } [some (.ref a), some (.ref p)] (upd H d.pp (.lst (qs.map V.ref))) := by
  rintro qs bs hq rfl
  have hbl : ((b :: h.past).take 20).length <= 20 := by rw [zBo]; omega
  have KS : ∀ c ∈ (b :: h.past).take 20, OkB c /\ c.n = h.now.n := fun c hc => by
   rcases zAv.mp (List.mem_of_mem_take hc) with rfl | z
   ·exact ⟨okb, hbn⟩
   ·exact W.okp c (List.mem_append_left _ z)
  obtain ⟨us, h4, h5⟩ := W.un
  refine ⟨zBf _, fun x hx => ?_⟩
  have hx0 : H x = none := aV hx
  have xa : a ≠ x := ax h1 hx0
  have xr : d.ra ≠ x := ax W.ru hx0
  have xo : d.oa ≠ x := ax W.od hx0
  have xp : d.pp ≠ x := ax h2 hx0
  obtain ⟨⟨n1, n2, n3⟩, ⟨n4, n5⟩, n6⟩ := W.nd
  have na : a ≠ d.pp := cU h1 h2 (by intro z; cases z)
  have nra : d.ra ≠ a := cU W.ru h1 (by intro z; cases z)
  have noa : d.oa ≠ a := cU W.od h1 (by intro z; cases z)
  have t1 := eZ (o := .lst (qs.map V.ref)) h2
  have t2 := fY (aq (o := .lst []) hx)
  have hax : upd (upd H d.pp (.lst (qs.map V.ref))) x (.lst []) a = some (.ins C dx (wf h.now d)) := by rw [ag xa]; exact ha _
  refine ⟨_, rfl, a, C, dx, _, rfl, hax, T.cl, T.fg, few _ _, ?_⟩
  rw [wX]
  have t3 := cu (o := .ins C dx (wf h.now { d with up := x })) hax
  refine k _ { d with up := x } ⟨⟨⟨dx, ae⟩, ?_, ?_, ⟨qs, ?_, hq.dF (bG (bG t1 t2) t3)⟩, ⟨[], ?_, rfl, fun i p b e => by simp at e⟩, ⟨⟨n1, n2, xr⟩, ⟨n4, xo⟩, xp⟩, W.ok, hbl, fun c hc => KS c (by simpa using hc)⟩, fun y o q n => ?_, fun y hy => ?_, fun y e => aV (aV (aV e))⟩
  ·show upd _ a _ d.ra = _
   rw [ag nra, ag xr, ag n2]; exact W.ru
  ·show upd _ a _ d.oa = _
   rw [ag noa, ag xo, ag n4]; exact W.od
  ·show upd _ a _ d.pp = _
   rw [ag na.symm, ag xp, ae]
  ·show upd _ a _ x = _
   rw [ag xa.symm, ae]; rfl
  ·rw [ag (by rintro rfl; exact n (by simp [Ad.own])), ag (ax q hx0), ag (by rintro rfl; exact n (by simp [Ad.own]))]; exact q
  ·simp only [Ad.own, zAv, List.not_mem_nil, or_false] at hy ⊢
   rcases hy with rfl | rfl | rfl | rfl | rfl
   ·exact .inl (.inl rfl)
   ·exact .inl (.inr (.inl rfl))
   ·exact .inl (.inr (.inr (.inl rfl)))
   ·exact .inl (.inr (.inr (.inr (.inl rfl))))
   ·exact .inr hx0
 refine ⟨_, (aa (aX (pbm K zBj zBk bH (pf K (pv 0)) (a1 (pv 1))))
   (aa (aA (tc gb (ln T (pf K (pv 0))) (aK rfl T.oY)) (ab (aX (pbm K PySem.F.slot_list_pop PySem.F.type_list_pop CC (pf K (pv 0)) (a1 (ai 0))))) aj)
   (ab (bS (pv 0) (ay bC) rfl)))), ?_⟩
 have hsn : jT H (ps ++ [p]) (h.past.reverse ++ [b]) := la h3 hp
 have eqs : ps.map V.ref ++ [.ref p] = (ps ++ [p]).map V.ref := by rw [zAp]; rfl
 refine ⟨_, rfl, a, C, dx, _, _, rfl, h1, T.cl, T.gA, fz _ _, .inl ⟨rfl, _, .inl (.inl h2)⟩, _, rfl, _, _, _, rfl, rfl, h2, by rw [zAa]; exact bo (by omega), ?_⟩
 rw [eqs]
 refine ⟨_, rfl, a, C, dx, _, _, rfl, ha _, T.cl, T.gA, fz _ _, _, _, rfl, .inl (.inl (.inl ae)), _, _, rfl, rfl, _, rfl, aJ (fun c1 => ?_) (fun c1 => ?_)⟩
 ·have c1 : 20 < ps.length + 1 := by rw [zAa, zAi] at c1; exact zAe c1
  refine ⟨_, rfl, a, C, dx, _, _, rfl, ha _, T.cl, T.gA, fz _ _, .inl ⟨rfl, _, .inl (.inl ae)⟩, _, _, _, 0, (((ps ++ [p]).map V.ref).getD 0 .non), rfl, rfl, ae, by decide, by decide, ?_, ?_, ?_⟩
  ·show seqIndex? 0 _ = some 0
   unfold seqIndex?
   rw [zAa, zAi]
   simp
  ·cases ps <;> rfl
  ·rw [mU]
   have e2 : ((ps ++ [p]).map V.ref).eraseIdx 0 = ((ps ++ [p]).tail).map V.ref := by cases ps <;> rfl
   rw [e2]
   exact fin _ _ (by rw [Aa (by omega)]; exact zW hsn) rfl
 ·have c1 : ¬ 20 < ps.length + 1 := by rw [zAa, zAi] at c1; exact fun z => c1 (zAf z)
  exact fin _ _ (by rw [z9 (by omega), List.reverse_cons]; exact hsn) rfl
end
end TW
namespace TW
open PySem PySem.Spec PyProof.Rows L2 TM
abbrev zs (l : List Nat) : List Int := l.map fun x : Nat => (x : Int)
def vY (w : World) (a : Addr) (l : List Nat) : HO := .ext fun h => TS.fu w h a (zs l)
theorem CB {ns : List Int} (h : ∀ z ∈ ns, 0 <= z) : ns = zs (ns.map Int.toNat) := by
 unfold zs
 rw [zAw]
 have : ns.map ((fun x : Nat => (x : Int)) ∘ Int.toNat) = ns.map id := List.map_congr_left fun z hz => by
  have := h z hz
  show ((z.toNat : Nat) : Int) = z
  omega
 rw [this, List.map_id]
theorem CH {l : List Nat} {x : Nat} : (x : Int) ∈ zs l <-> x ∈ l := by
 unfold zs
 rw [zAq]
 constructor
 ·rintro ⟨y, hy, e⟩
  have : y = x := by omega
  exact this ▸ hy
 ·intro h; exact ⟨x, h, rfl⟩
section
variable {X : Cx} (K : PySem.W.Frag) (w : World)
theorem CM (h : X.K = K := by rfl) (hw : X.w = w := by rfl) (hc : X.calm = true := by rfl) : bY X (.type "set") (fun xs H Q => ∃ (a : Addr) (l : List Nat), xs = [.ref a] /\ NL K H a l /\ (∀ x ∈ l, x < 16) /\ ∀ p, H p = none -> Q (.ref p) (upd H p (vY w p l))) := by
 subst h hw
 intro pins s σ H xs us Q I r q
 obtain ⟨a, l, rfl, hs, hl, q⟩ := q
 have hs : SqL X.K H a ((zs l).map V.int) := gC l ▸ hs
 obtain ⟨its, rv, hL, _⟩ := I.list hs
 rw [Vals.rM r]
 have hf : H s.heap.objs.size = none := I.hok.fresh (zAt _)
 refine TS.Dz (I.ok.hd hc) hL.isList rv.ints (fun z hz => ?_) fun h' tk hS hk => ?_
 ·obtain ⟨x, hx, rfl⟩ := zAq.mp hz
  have := hl x hx
  omega
 ·refine ⟨.ref _, upd H s.heap.objs.size (vY X.w s.heap.objs.size l), I.laid (a := s.heap.objs.size) (o := vY X.w s.heap.objs.size l) (t' := tk) (fun b u e => hk b u e) (zAt _) ⟨hS, ?_, fun h1 h2 e k => TS.fu.at e k⟩, rfl, q _ hf⟩
  obtain ⟨o, _, _, _, e, _⟩ := hS
  exact ⟨o, e⟩
theorem kT : ∀ {vs : List Value} {ns : List Int}, IntsAre vs ns -> Vals (ns.map V.int) vs
 | _, _, .nil => .nil
 | _, _, .cons n t h => .cons ⟨t, rfl⟩ (kT h)
theorem jD (h : X.K = K := by rfl) (hw : X.w = w := by rfl) (hc : X.calm = true := by rfl) : bY X (.builtin "sorted") (fun xs H Q => ∃ (a : Addr) (l : List Nat), xs = [.ref a] /\ H a = some (vY w a l) /\ ∀ (l' : List Nat) p, l'.Nodup -> (∀ x, x ∈ l' <-> x ∈ l) -> l'.Pairwise (· <= ·) -> H p = none -> Q (.ref p) (upd H p (.lst (l'.map nv)))) := by
 subst h hw
 intro pins s σ H xs us Q I r q
 obtain ⟨a, l, rfl, ha, q⟩ := q
 rw [Vals.rM r]
 obtain ⟨hS, _, _⟩ := (show TS.fu X.w s.heap a (zs l) /\ _ /\ _ from I.hok a _ ha)
 obtain ⟨o, es, ep, t, e1, e2, e3, e4, e5, e6, e7, e8, e9, e10⟩ := hS
 have h16 := e8.le
 have hsx : TS.SX X.w s.heap a es ep t := ⟨⟨o, e1, e2, e3⟩, e6, e7, e10⟩
 have hws := TS.kS X.w a ep es
 have hwp := TS.qz X.w a ep es
 refine TS.nB (TS.D3 (t := t)) (I.ok.hd hc) hsx (by omega) (fun i => (((TS.walk X.w a ep es)[i]?).map (·.1)).getD 0) (fun i v ⟨e, q1, q2⟩ => ?_) fun h' tk D ns its c hk hD hI hg hp ho => ?_
 ·have he : e ∈ es.toList := hwp.mem_iff.mp (by rw [← Array.getElem?_toList] at q1; exact zAs q1)
  obtain ⟨tok, z⟩ := e4 e he
  exact ⟨tok, by rw [q1, q2, z]; rfl⟩
 ·have em : (List.range es.size).map (fun i => (((TS.walk X.w a ep es)[i]?).map (·.1)).getD 0) = (TS.walk X.w a ep es).toList.map (·.1) := by
   apply List.ext_getElem (by simp [hws])
   intro i h1 h2
   simp at h1
   simp [hws, h1]
  rw [em] at hp
  have hp2 := hp.trans (hwp.map (·.1))
  have fR : ∀ z, z ∈ ns <-> z ∈ zs l := fun z => by rw [hp2.mem_iff, e5 z]
  have qh : ∀ z ∈ ns, 0 <= z := fun z hz => by
   obtain ⟨x, _, rfl⟩ := zAq.mp ((fR z).mp hz)
   exact Int.natCast_nonneg x
  have en := CB qh
  have hnd : ns.Nodup := hp2.nodup_iff.mpr e8.nd
  have hlen : ns.length <= 16 := by rw [hp2.length_eq, zAa, Array.length_toList]; exact h16
  have hf : H D = none := I.hok.fresh hD
  have eV : ns.map V.int = (ns.map Int.toNat).map nv := by rw [gC]; exact congrArg (List.map V.int) en
  refine ⟨.ref D, upd H D (.lst ((ns.map Int.toNat).map nv)), I.laid (a := D) (t' := tk) (fun b u e => hk b u e) hD ⟨?_, its, c, ?_, hg⟩, rfl, q (ns.map Int.toNat) D ?_ (fun x => ?_) ?_ hf⟩
  ·rw [zAa, zAa]; exact bw (by omega)
  ·rw [← eV]; exact kT hI
  ·refine List.pairwise_map.mpr (List.Pairwise.imp_of_mem (fun {u v} hu hv huv => ?_) hnd)
   have h1 := qh u hu
   have h2 := qh v hv
   intro z
   exact huv (by omega)
  ·rw [← CH (l := ns.map Int.toNat), ← en, fR, CH]
  ·rw [List.pairwise_map]
   exact List.Pairwise.imp_of_mem (fun {u v} hu hv huv => by have := qh u hu; have := qh v hv; omega) ho
abbrev dn (kvs : List (Nat × V)) : List (Key × V) := kvs.map fun kv => (Sum.inl (kv.1 : Int), kv.2)
theorem GC {κ : Type} : ∀ {kvs : List (κ × V)} {vs : List (κ × Value)}, KV kvs vs -> kvs.map (·.1) = vs.map (·.1)
 | _, _, .nil => rfl
 | _, _, .cons h t => by rw [List.map_cons, List.map_cons, h.1, GC t]
theorem xy (h : X.K = K := by rfl) (hw : X.w = w := by rfl) (hc : X.calm = true := by rfl) : bY X (.builtin "sorted") (fun xs H Q => ∃ (a : Addr) (kvs : List (Nat × V)), xs = [.ref a] /\ H a = some (.dK (dn kvs)) /\ kvs.length < 64 /\ ∀ (l' : List Nat) p, l'.Perm (kvs.map (·.1)) -> l'.Pairwise (· <= ·) -> H p = none -> Q (.ref p) (upd H p (.lst (l'.map nv)))) := by
 subst h hw
 intro pins s σ H xs us Q I r q
 obtain ⟨a, kvs, rfl, ha, hl, q⟩ := q
 rw [Vals.rM r]
 obtain ⟨_, lo, vs, hkv, hd⟩ := Dr I.hok ha
 obtain ⟨ep, hat⟩ := hd.dictAt
 have hk1 := GC hkv
 have hlen : vs.length = kvs.length := by
  have := congrArg List.length hk1
  rw [zAa, zAa, zAa] at this
  exact this.symm
 refine TS.nB (PySem.W.kdl_dict lo) (I.ok.hd hc) hat (by omega) (fun i => (((kvs.map (·.1))[i]?.getD 0 : Nat) : Int)) (fun i v ⟨k, x, q1, q2⟩ => ?_) fun h' tk D ns its c hk hD hI hg hp ho => ?_
 ·have e1 : (vs.map (·.1))[i]? = some k := by rw [zAh, q1]; rfl
  rw [← hk1, zAw, zAh] at e1
  cases q : kvs[i]? with
  | none => rw [q] at e1; cases e1
  | some kv =>
   rw [q] at e1
   have e1 : (Sum.inl (kv.1 : Int) : Key) = k := zBl e1
   subst e1
   have q2 : Value.isInt (kv.1 : Int) v = true := q2
   obtain ⟨t, rfl⟩ := Value.isInt_shape q2
   exact ⟨t, by rw [zAh, q]; rfl⟩
 ·have em : (List.range vs.length).map (fun i => (((kvs.map (·.1))[i]?.getD 0 : Nat) : Int)) = zs (kvs.map (·.1)) := by
   unfold zs
   apply List.ext_getElem (by simp [hlen])
   intro i h1 h2
   simp at h2
   simp [h2]
  rw [em] at hp
  have qh : ∀ z ∈ ns, 0 <= z := fun z hz => by
   obtain ⟨x, _, rfl⟩ := zAq.mp (hp.mem_iff.mp hz)
   exact Int.natCast_nonneg x
  have en := CB qh
  have hln : ns.length = kvs.length := by rw [hp.length_eq]; simp
  have hf : H D = none := I.hok.fresh hD
  have eV : ns.map V.int = (ns.map Int.toNat).map nv := by rw [gC]; exact congrArg (List.map V.int) en
  refine ⟨.ref D, upd H D (.lst ((ns.map Int.toNat).map nv)), I.laid (a := D) (t' := tk) (fun b u e => hk b u e) hD ⟨?_, its, c, ?_, hg⟩, rfl, q (ns.map Int.toNat) D ?_ ?_ hf⟩
  ·rw [zAa, zAa]; exact bw (by omega)
  ·rw [← eV]; exact kT hI
  ·have := hp.map Int.toNat
   have e2 : (zs (kvs.map (·.1))).map Int.toNat = kvs.map (·.1) := by
    unfold zs
    rw [zAw]
    have : (kvs.map (·.1)).map (Int.toNat ∘ fun x : Nat => (x : Int)) = (kvs.map (·.1)).map id := List.map_congr_left fun z _ => by simp
    rw [this, List.map_id]
   rw [e2] at this
   exact this
  ·rw [List.pairwise_map]
   exact List.Pairwise.imp_of_mem (fun {u v} hu hv huv => by have := qh u hu; have := qh v hv; omega) ho
end
end TW
namespace TW
open PySem PySem.Spec PyProof.Rows L2 TM
open Kzk (Board Hall)
theorem fU {n x y : Nat} (hx : x < 2 ^ n) : x &&& y = x <-> Un n x y := by
 constructor
 ·intro e j _ hb
  rw [d7] at hb ⊢
  rw [← e, zCk] at hb
  simp only [zBg] at hb
  exact hb.2
 ·intro h
  apply zCm
  intro j
  rw [zCk]
  by_cases hj : j < n
  ·cases q : x.testBit j
   ·rfl
   ·have := h j hj (by rw [d7]; exact q)
    rw [d7] at this
    rw [this]; rfl
  ·rw [zCn (zBh hx (zCp (by decide) (by omega)))]; rfl
theorem Ba {n x y : Nat} (hx : x < 2 ^ n) (h : Un n x y) : x <= y := by
 rw [← (fU hx).mpr h]; exact Nat.and_le_right
def okP (n : Nat) (rs : List Nat) (x y : Nat) : Prop := x &&& y = x -> Kzk1.next n rs x &&& Kzk1.next n rs y = Kzk1.next n rs x
theorem mh {n : Nat} {rs : List Nat} : Kzk6.rises n rs = true <-> ∀ y, y < 2 ^ n -> ∀ x, x < y -> okP n rs x y := by
 rw [fZ]
 constructor
 ·intro r y hy x hx e
  exact (fU (aS n rs x)).mpr (r x y (by omega) hy ((fU (by omega)).mp e))
 ·intro h x y hx hy hu
  rcases Nat.lt_or_ge x y with c | c
  ·exact (fU (aS n rs x)).mp (h y hy x c ((fU hx).mpr hu))
  ·have : x = y := Nat.le_antisymm (Ba hx hu) c
   subst this
   exact Un.refl _ _
theorem AL {n x y : Nat} (hx : x < 2 ^ n) (hy : y < 2 ^ n) : Kzk6.either n x y = x ||| y := by
 apply zCm
 intro j
 unfold Kzk6.either
 rw [bA, zCl]
 by_cases hj : j < n
 ·rw [d7, d7]; simp [hj]
 ·rw [zCn (zBh hx (zCp (by decide) (by omega))), zCn (zBh hy (zCp (by decide) (by omega)))]; simp [hj]
theorem Gj {n x y : Nat} (hx : x < 2 ^ n) (hy : y < 2 ^ n) : Kzk6.both n x y = x &&& y := by
 apply zCm
 intro j
 unfold Kzk6.both
 rw [bA, zCk]
 by_cases hj : j < n
 ·rw [d7, d7]; simp [hj]
 ·rw [zCn (zBh hx (zCp (by decide) (by omega)))]; simp [hj]
theorem ou {n : Nat} {rs : List Nat} {s m : Nat} (h : Kzk1.next n rs (it (Kzk1.next n rs) m s) = it (Kzk1.next n rs) m s) : ∃ k, k <= m /\ Kzk1.next n rs (it (Kzk1.next n rs) k s) = it (Kzk1.next n rs) k s /\ ∀ j, j < k -> Kzk1.next n rs (it (Kzk1.next n rs) j s) ≠ it (Kzk1.next n rs) j s := by
 induction m using Nat.strongRecOn with
 | _ m ih =>
  by_cases c : ∃ j, j < m /\ Kzk1.next n rs (it (Kzk1.next n rs) j s) = it (Kzk1.next n rs) j s
  ·obtain ⟨j, hj, e⟩ := c
   obtain ⟨k, h1, h2, h3⟩ := ih j hj e
   exact ⟨k, by omega, h2, h3⟩
  ·exact ⟨m, zAt _, h, fun j hj e => c ⟨j, hj, e⟩⟩
theorem A9 {n : Nat} {rs : List Nat} {s : Nat} (r : Ris n rs) (hs : s < 2 ^ n) (h : Un n s (Kzk1.next n rs s)) : Kzk1.next n rs (Kzk1.after n rs n s) = Kzk1.after n rs n s /\ Un n s (Kzk1.after n rs n s) := by
 obtain ⟨m, hm, e⟩ := uc r hs h
 obtain ⟨k, hk, e1, e2⟩ := ou e
 obtain ⟨f1, _⟩ := jO (show k <= n by omega) e1 e2
 rw [f1]
 refine ⟨e1, ?_⟩
 have : ∀ k, Un n s (it (Kzk1.next n rs) k s) := fun k => by
  induction k with
  | zero => exact Un.refl _ _
  | succ k ih => exact ih.trans (nh r hs h k)
 exact this k
theorem xZ {n : Nat} {rs : List Nat} {s : Nat} (r : Ris n rs) (hs : s < 2 ^ n) (h : Un n (Kzk1.next n rs s) s) : Kzk1.next n rs (Kzk1.after n rs n s) = Kzk1.after n rs n s /\ Un n (Kzk1.after n rs n s) s := by
 obtain ⟨m, hm, e⟩ := o9 r hs h
 obtain ⟨k, hk, e1, e2⟩ := ou e
 obtain ⟨f1, _⟩ := jO (show k <= n by omega) e1 e2
 rw [f1]
 refine ⟨e1, ?_⟩
 have : ∀ k, Un n (it (Kzk1.next n rs) k s) s := fun k => by
  induction k with
  | zero => exact Un.refl _ _
  | succ k ih => exact (jP r hs h k).trans ih
 exact this k
theorem cw {n : Nat} {rs : List Nat} {x : Nat} : x ∈ Kzk3.rests n rs <-> x < 2 ^ n /\ Kzk1.next n rs x = x := by
 unfold Kzk3.rests Kzk1.states
 rw [zBe, zAk]
 simp
theorem Fy {n : Nat} {rs : List Nat} {x y : Nat} (r : Ris n rs) (hx : x < 2 ^ n) (hy : y < 2 ^ n) (ex : Kzk1.next n rs x = x) (ey : Kzk1.next n rs y = y) :
  Kzk6.join n rs x y ∈ (Kzk3.rests n rs).filter (fun s => decide ((x ||| y) &&& s = (x ||| y))) /\ ∀ s ∈ (Kzk3.rests n rs).filter (fun s => decide ((x ||| y) &&& s = (x ||| y))), Kzk6.join n rs x y <= s := by
 unfold Kzk6.join
 rw [AL hx hy]
 have hz : x ||| y < 2 ^ n := Nat.or_lt_two_pow hx hy
 have hxz : Un n x (x ||| y) := fun j _ h => by rw [d7] at h ⊢; rw [zCl, h]; rfl
 have hyz : Un n y (x ||| y) := fun j _ h => by rw [d7] at h ⊢; rw [zCl, h]; simp
 have hup : Un n (x ||| y) (Kzk1.next n rs (x ||| y)) := fun j hj h => by
  rw [d7, zCl, Bool.or_eq_true] at h
  have h1 := r x _ hx hz hxz
  have h2 := r y _ hy hz hyz
  rw [ex] at h1
  rw [ey] at h2
  rcases h with h | h
  ·exact h1 j hj (by rw [d7]; exact h)
  ·exact h2 j hj (by rw [d7]; exact h)
 obtain ⟨e1, e2⟩ := A9 r hz hup
 have hl : Kzk1.after n rs n (x ||| y) < 2 ^ n := by rw [bg]; exact cZ (fun a _ => aS n rs a) hz n
 refine ⟨zBe.mpr ⟨cw.mpr ⟨hl, e1⟩, zAf ((fU hz).mpr e2)⟩, fun s hs => ?_⟩
 obtain ⟨h1, h2⟩ := zBe.mp hs
 obtain ⟨h3, h4⟩ := cw.mp h1
 have := below r hz h3 h4 ((fU hz).mp (zAe h2)) n
 rw [← bg] at this
 exact Ba hl this
theorem Fn {n : Nat} {rs : List Nat} {x y : Nat} (r : Ris n rs) (hx : x < 2 ^ n) (hy : y < 2 ^ n) (ex : Kzk1.next n rs x = x) (ey : Kzk1.next n rs y = y) :
  Kzk6.meet n rs x y ∈ (Kzk3.rests n rs).filter (fun s => decide (s &&& (x &&& y) = s)) /\ ∀ s ∈ (Kzk3.rests n rs).filter (fun s => decide (s &&& (x &&& y) = s)), s <= Kzk6.meet n rs x y := by
 unfold Kzk6.meet
 rw [Gj hx hy]
 have hz : x &&& y < 2 ^ n := Nat.and_lt_two_pow x hy
 have hxz : Un n (x &&& y) x := fun j _ h => by rw [d7] at h ⊢; rw [zCk, zBg] at h; exact h.1
 have hyz : Un n (x &&& y) y := fun j _ h => by rw [d7] at h ⊢; rw [zCk, zBg] at h; exact h.2
 have hdn : Un n (Kzk1.next n rs (x &&& y)) (x &&& y) := fun j hj h => by
  have h1 := r _ x hz hx hxz
  have h2 := r _ y hz hy hyz
  rw [ex] at h1
  rw [ey] at h2
  have q1 := h1 j hj h
  have q2 := h2 j hj h
  rw [d7] at q1 q2 ⊢
  rw [zCk, q1, q2]; rfl
 obtain ⟨e1, e2⟩ := xZ r hz hdn
 have hl : Kzk1.after n rs n (x &&& y) < 2 ^ n := by rw [bg]; exact cZ (fun a _ => aS n rs a) hz n
 refine ⟨zBe.mpr ⟨cw.mpr ⟨hl, e1⟩, zAf ((fU hl).mpr e2)⟩, fun s hs => ?_⟩
 obtain ⟨h1, h2⟩ := zBe.mp hs
 obtain ⟨h3, h4⟩ := cw.mp h1
 have := above r hz h3 h4 ((fU h3).mp (zAe h2)) n
 rw [← bg] at this
 exact Ba h3 this
section
variable {P : Program} {w : World} {K : PySem.W.Frag} {mg : Str -> Option Value} {base : Heap} {C : Addr}
def pF (K : PySem.W.Frag) (C : Addr) : Sp := fun vs H Q _ => vs.length = 1 /\ ∃ (a : Addr) (n : Nat) (rs : List Nat), vs = [.ref a] /\ NL K H a (ff n rs) /\ n <= 4 /\ Q (.bl (Kzk6.rises n rs)) H
abbrev cR : KK := fun P w K mg b C => Cal P w K mg b "rules_rise" 2 ["nexts"] (pF K C)
theorem pX (F : Fa K mg "rules_rise" (top 89)) (T : Txt K mg C) (cj : dh P w K mg base C) : cR P w K mg base C := by
 refine okF ["nexts", "other", "state"] F fun nd f cdv A outer s0 H vs Q E hr h => ?_
 obtain ⟨_, a, n, rs, rfl, hS, hn, k⟩ := h
 have h16 := aT hn
 refine ⟨_, (aa (fo 1 nd (r1 T (ln T (pv 0))) (ab (fo 2 nd (r1 T (pv 1)) (ab (aA (PW.pt (dH (aM (au cj hr rfl (a2 (pv 2) (pv 1)))) (dt (cg (aM (au cj hr rfl (a2 (ix K (pv 0) (pv 2)) (ix K (pv 0) (pv 1))))))))) (ab (af yK)) aj)))))
   (ab (af yK))), ?_⟩
 refine ⟨_, rfl, _, _, rfl, .inl hS, _, rfl, a8 _, a9 (by rw [zAa, aR]; omega), ?_⟩
 rw [zAl, zAa, aR]
 refine bq (fun i σ H' => H' = H /\ (∃ v w, σ = [some (.ref a), v, w]) /\ ∀ y, y < i -> ∀ x, x < y -> okP n rs x y) ⟨rfl, ⟨none, none, rfl⟩, fun y hy => absurd hy (zBq _)⟩ ?_ ?_
 ·rintro i σ H1 hi ⟨rfl, ⟨v, w, rfl⟩, hok⟩
  rw [bj]
  refine ⟨_, rfl, _, rfl, a8 _, a9 (by omega), ?_⟩
  rw [zAl]
  refine bq (fun j σ H' => H' = H1 /\ (∃ w, σ = [some (.ref a), some (nv i), w]) /\ ∀ x, x < j -> okP n rs x i) ⟨rfl, ⟨w, rfl⟩, fun y hy => absurd hy (zBq _)⟩ ?_ ?_
  ·rintro j σ H2 hj ⟨rfl, ⟨w2, rfl⟩, FD⟩
   rw [bj]
   refine ⟨_, rfl, _, rfl, rfl, _, _, rfl, _, rfl, aJ (fun c1 => ?_) (fun c1 => ?_)⟩
   ·have c1 : j &&& i = j := zAe c1
    refine ⟨_, rfl, _, rfl, _, _, _, _, rfl, rfl, hS, aQ (by rw [aR]; omega), _, rfl, _, rfl, _, _, _, _, rfl, rfl, hS, aQ (by rw [aR]; exact hi), rfl, _, _, rfl, _, rfl, aJ (fun c2 => ?_) (fun c2 => ?_)⟩
    ·rw [bE rs (by omega : j < 2 ^ n), bE rs hi] at c2
     have hf : Kzk6.rises n rs = false := by
      apply Bool.eq_false_iff.mpr
      intro z
      have := mh.mp z i hi j hj c1
      rw [zAf this] at c2
      cases c2
     rw [hf] at k
     exact k
    ·rw [bE rs (by omega : j < 2 ^ n), bE rs hi] at c2
     have c2 : Kzk1.next n rs j &&& Kzk1.next n rs i = Kzk1.next n rs j := by simpa using c2
     refine ⟨rfl, ⟨some (nv j), rfl⟩, fun x hx => ?_⟩
     by_cases e : x = j
     ·subst e; exact fun _ => c2
     ·exact FD x (by omega)
   ·have c1 : ¬ j &&& i = j := fun z => c1 (zAf z)
    refine jL ⟨rfl, ⟨some (nv j), rfl⟩, fun x hx => ?_⟩
    by_cases e : x = j
    ·subst e; exact fun z => absurd z c1
    ·exact FD x (by omega)
  ·rintro σ H2 ⟨rfl, ⟨w2, rfl⟩, FD⟩
   refine ⟨rfl, ⟨some (nv i), w2, rfl⟩, fun y hy => ?_⟩
   by_cases e : y = i
   ·subst e; exact FD
   ·exact hok y (by omega)
 ·rintro σ H1 ⟨rfl, ⟨v, w, rfl⟩, hok⟩
  rw [mh.mpr hok] at k
  exact k
def Bn (K : PySem.W.Frag) (C : Addr) : Sp := fun vs H Q _ => vs.length = 1 /\ ∃ (a : Addr) (h : Hall) (d : Ad), vs = [.ref a] /\ 1 <= h.now.n /\ Told C H a h d (Kzk.ask h.now .rises) Q
abbrev sJ : KK := fun P w K mg b C => Cal P w K mg b "rises" 6 ["watch"] (Bn K C)
theorem Cf (F : Fa K mg "rises" (top 90)) (T : Txt K mg C) (cE : cR P w K mg base C) (aw : aF P w K mg base C) (ah : aB P w K mg base C) : sJ P w K mg base C := by
 refine okF ["watch"] F fun nd f cdv A outer s0 H vs Q E hr h => ?_
 obtain ⟨_, a, h, d, rfl, hn1, W, k⟩ := h
 obtain ⟨dx, h1⟩ := W.ob
 have ok := W.ok
 have hlen := aH h.now
 have bu : Kzk.ask h.now .rises = Kzk1.say (if Kzk6.rises h.now.n (Kzk.rules h.now) then 1 else 0) := by
  show (if Kzk1.okTowers h.now.n (Kzk.rules h.now) = false then _ else _) = _
  rw [bx ok hn1]; rfl
 rw [bu] at k
 refine ⟨_, (aa (aA (aM (au cE hr rfl (a1 (au aw hr rfl (a1 (bD T.cl ah hr (pv 0))))))) (ab (af (ay (a1 (ai 1))))) aj)
   (ab (af (ay (a1 (ai 0)))))), ?_⟩
 refine ⟨_, rfl, a, dx, _, rfl, h1, aO _ _, rfl, _, _, _, rfl, W, fun H1 R s1 hR hRl => ?_⟩
 refine ⟨rfl, _, _, rfl, .inl (.inl hRl), by rw [hlen]; exact ok.n4, fun H2 N s2 hN hNl => ?_⟩
 rw [hlen] at hNl
 have s12 := s1.trans s2
 refine ⟨rfl, _, _, _, rfl, .inl (.inl hNl), ok.n4, _, rfl, aJ (fun c => ?_) (fun c => ?_)⟩
 ·rw [if_pos c] at k
  exact ⟨by show 1 <= sizeLine; decide, fun p hp => k _ p (ak s12 (s12.free hp)) (s12.free hp) ae⟩
 ·rw [if_neg c] at k
  exact ⟨by show 1 <= sizeLine; decide, fun p hp => k _ p (ak s12 (s12.free hp)) (s12.free hp) ae⟩
def rC (K : PySem.W.Frag) (C : Addr) : Sp := fun vs H Q _ => vs.length = 2 /\ ∃ (a : Addr) (n : Nat) (rs : List Nat) (s m : Nat), vs = [.ref a, nv s] /\ NL K H a (ff n rs) /\ n <= 4 /\ s < 2 ^ n /\ m <= n /\ Kzk1.next n rs (it (Kzk1.next n rs) m s) = it (Kzk1.next n rs) m s ∧
 ∀ (H' : Hp) (p : Addr), az H H' -> H p = none -> bJ H' p ⟨(Kzk1.after n rs n s : Nat), [(Kzk6.climb n rs s).getD 0]⟩ -> Q (.ref p) H'
abbrev fI : KK := fun P w K mg b C => Cal P w K mg b "rest_from" 1 ["nexts", "state"] (rC K C)
theorem r9 (F : Fa K mg "rest_from" (top 91)) (T : Txt K mg C) : fI P w K mg base C := by
 refine okF ["nexts", "state", "now", "done"] F fun nd f cdv A outer s0 H vs Q E hr h => ?_
 obtain ⟨_, a, n, rs, s, m, rfl, hS, hn, hs, hm, J5, k⟩ := h
 have hlt : ∀ j, it (Kzk1.next n rs) j s < 2 ^ n := cZ (fun x _ => aS n rs x) hs
 refine ⟨_, (aa (st 2 nd (pv 1))
   (aa (st 3 nd (ai 0))
   (aa (dX PassesOwn.never (tc qQ (ix K (pv 0) (pv 2)) (pv 2)) (aa (st 2 nd (ix K (pv 0) (pv 2)))
   (ab (iu (i := 3) nd rfl (Or.inl rfl) (ai 1) fJ))))
   (ab (af (ay (a2 (pv 2) (pv 3)))))))), ?_⟩
 refine ⟨_, rfl, ?_⟩
 refine ⟨fun μ σ H' => H' = H /\ ∃ j, m - j = μ /\ j <= m /\ σ = [some (.ref a), some (nv s), some (nv (it (Kzk1.next n rs) j s)), some (nv j)] /\ ∀ i, i < j -> Kzk1.next n rs (it (Kzk1.next n rs) i s) ≠ it (Kzk1.next n rs) i s, ⟨m, rfl, 0, rfl, zBf _, rfl, fun i hi => absurd hi (zBq _)⟩, ?_⟩
 rintro μ σ H1 ⟨rfl, j, rfl, hj, rfl, hno⟩
 refine ⟨_, rfl, _, rfl, _, _, _, _, rfl, rfl, hS, aQ (by rw [aR]; exact hlt j), _, rfl, _, _, rfl, rfl, _, rfl, aJ (fun c => ?_) (fun c => ?_)⟩
 ·rw [bE rs (hlt j)] at c
  have c : Kzk1.next n rs (it (Kzk1.next n rs) j s) ≠ it (Kzk1.next n rs) j s := by simpa using c
  have hjm : j < m := by
   apply Nat.lt_of_le_of_ne hj
   rintro rfl
   exact c J5
  refine ⟨fun σ' H' => H' = H1 /\ σ' = [some (.ref a), some (nv s), some (nv (it (Kzk1.next n rs) (j + 1) s)), some (nv (j + 1))], fun σ' H' ⟨z1, z2⟩ => ⟨m - (j + 1), by omega, z1, j + 1, rfl, hjm, z2, fun i hi => ?_⟩, ?_⟩
  ·by_cases e : i = j
   ·subst e; exact c
   ·exact hno i (by omega)
  ·refine ⟨_, rfl, _, rfl, _, _, _, _, rfl, rfl, hS, aQ (by rw [aR]; exact hlt j), ?_⟩
   rw [bE rs (hlt j)]
   exact ⟨_, rfl, _, _, rfl, rfl, rfl, rfl⟩
 ·rw [bE rs (hlt j)] at c
  have c : Kzk1.next n rs (it (Kzk1.next n rs) j s) = it (Kzk1.next n rs) j s := by simpa using c
  obtain ⟨f1, f2⟩ := jO (show j <= n by omega) c hno
  refine ⟨_, rfl, _, rfl, by show 2 <= sizeLine; decide, fun p hp => k _ p (aq hp) hp (bJ.of ?_)⟩
  rw [ae, f1, f2]; rfl
def Bt (K : PySem.W.Frag) (C : Addr) : Sp := fun vs H Q _ => vs.length = 1 /\ ∃ (a : Addr) (h : Hall) (d : Ad), vs = [.ref a] /\ 1 <= h.now.n /\ Told C H a h d (Kzk.ask h.now .least) Q
abbrev sQ : KK := fun P w K mg b C => Cal P w K mg b "least" 6 ["watch"] (Bt K C)
theorem Cn (F : Fa K mg "least" (top 92)) (T : Txt K mg C) (iO : fI P w K mg base C) (cE : cR P w K mg base C) (aw : aF P w K mg base C) (ah : aB P w K mg base C) : sQ P w K mg base C := by
 refine okF ["watch", "nexts"] F fun nd f cdv A outer s0 H vs Q E hr h => ?_
 obtain ⟨_, a, h, d, rfl, hn1, W, k⟩ := h
 obtain ⟨dx, h1⟩ := W.ob
 have ok := W.ok
 have hlen := aH h.now
 have bu : Kzk.ask h.now .least = if Kzk6.rises h.now.n (Kzk.rules h.now) = false then Kzk1.say (-16) else ⟨(Kzk6.leastRest h.now.n (Kzk.rules h.now) : Nat), [(Kzk6.climb h.now.n (Kzk.rules h.now) 0).getD 0]⟩ := by
  show (if Kzk1.okTowers h.now.n (Kzk.rules h.now) = false then _ else _) = _
  rw [bx ok hn1]; rfl
 rw [bu] at k
 refine ⟨_, (aa (st 1 nd (au aw hr rfl (a1 (bD T.cl ah hr (pv 0)))))
   (aa (aA (cg (aM (au cE hr rfl (a1 (pv 1))))) (ab (af (ay (a1 (aK rfl T.gK))))) aj)
   (ab (af (au iO hr rfl (a2 (pv 1) (ai 0))))))), ?_⟩
 refine ⟨_, rfl, a, dx, _, rfl, h1, aO _ _, rfl, _, _, _, rfl, W, fun H1 R s1 hR hRl => ?_⟩
 refine ⟨rfl, _, _, rfl, .inl (.inl hRl), by rw [hlen]; exact ok.n4, fun H2 N s2 hN hNl => ?_⟩
 rw [hlen] at hNl
 have s12 := s1.trans s2
 refine ⟨_, rfl, rfl, _, _, _, rfl, .inl (.inl hNl), ok.n4, _, rfl, aJ (fun c => ?_) (fun c => ?_)⟩
 ·have c : Kzk6.rises h.now.n (Kzk.rules h.now) = false := by simpa using c
  rw [if_pos c] at k
  exact ⟨by show 1 <= sizeLine; decide, fun p hp => k _ p (ak s12 (s12.free hp)) (s12.free hp) ae⟩
 ·have c : Kzk6.rises h.now.n (Kzk.rules h.now) = true := by simpa using c
  rw [c, if_neg (by decide)] at k
  obtain ⟨m, hm, hr⟩ := uc (s := 0) (fZ.mp c) (zCe _) (v9 _ _)
  exact ⟨_, rfl, rfl, _, _, _, 0, m, rfl, .inl (.inl hNl), ok.n4, zCe _, hm, hr, fun H3 p s3 hp hA => k _ p (s12.trans s3) (s12.free hp) hA⟩
def ur (K : PySem.W.Frag) (C : Addr) : Sp := fun vs H Q _ => vs.length = 1 /\ ∃ (a : Addr) (h : Hall) (d : Ad), vs = [.ref a] /\ 1 <= h.now.n /\ Told C H a h d (Kzk.ask h.now .greatest) Q
abbrev jH : KK := fun P w K mg b C => Cal P w K mg b "greatest" 6 ["watch"] (ur K C)
theorem u9 (F : Fa K mg "greatest" (top 93)) (T : Txt K mg C) (iO : fI P w K mg base C) (aD : aP P w K mg base C) (cE : cR P w K mg base C) (aw : aF P w K mg base C) (ah : aB P w K mg base C) : jH P w K mg base C := by
 refine okF ["watch", "nexts"] F fun nd f cdv A outer s0 H vs Q E hr h => ?_
 obtain ⟨_, a, h, d, rfl, hn1, W, k⟩ := h
 obtain ⟨dx, h1⟩ := W.ob
 have ok := W.ok
 have hlen := aH h.now
 have h4 := ok.n4
 have bu : Kzk.ask h.now .greatest = if Kzk6.rises h.now.n (Kzk.rules h.now) = false then Kzk1.say (-16) else ⟨(Kzk6.greatestRest h.now.n (Kzk.rules h.now) : Nat), [(Kzk6.climb h.now.n (Kzk.rules h.now) (Kzk6.full h.now.n)).getD 0]⟩ := by
  show (if Kzk1.okTowers h.now.n (Kzk.rules h.now) = false then _ else _) = _
  rw [bx ok hn1]; rfl
 rw [bu] at k
 refine ⟨_, (aa (st 1 nd (au aw hr rfl (a1 (bD T.cl ah hr (pv 0)))))
   (aa (aA (cg (aM (au cE hr rfl (a1 (pv 1))))) (ab (af (ay (a1 (aK rfl T.gK))))) aj)
   (ab (af (au iO hr rfl (a2 (pv 1) (aZ rX (au aD hr rfl (a1 (pf K (pv 0)))) (ai 1)))))))), ?_⟩
 refine ⟨_, rfl, a, dx, _, rfl, h1, aO _ _, rfl, _, _, _, rfl, W, fun H1 R s1 hR hRl => ?_⟩
 refine ⟨rfl, _, _, rfl, .inl (.inl hRl), by rw [hlen]; exact ok.n4, fun H2 N s2 hN hNl => ?_⟩
 rw [hlen] at hNl
 have s12 := s1.trans s2
 refine ⟨_, rfl, rfl, _, _, _, rfl, .inl (.inl hNl), ok.n4, _, rfl, aJ (fun c => ?_) (fun c => ?_)⟩
 ·have c : Kzk6.rises h.now.n (Kzk.rules h.now) = false := by simpa using c
  rw [if_pos c] at k
  exact ⟨by show 1 <= sizeLine; decide, fun p hp => k _ p (ak s12 (s12.free hp)) (s12.free hp) ae⟩
 ·have c : Kzk6.rises h.now.n (Kzk.rules h.now) = true := by simpa using c
  rw [c, if_neg (by decide)] at k
  obtain ⟨m, hm, hr⟩ := o9 (s := Kzk6.full h.now.n) (fZ.mp c) (y4 _) AJ
  exact ⟨_, rfl, _, rfl, a, C, dx, _, _, rfl, s12 _ _ h1, T.cl, T.n_n, fv _ _, rfl, _, rfl, by omega, _, _, rfl, rfl, Nat.one_le_two_pow, rfl, _, _, _, Kzk6.full h.now.n, m, rfl, .inl (.inl hNl), ok.n4, y4 _, hm, hr, fun H3 p s3 hp hA => k _ p (s12.trans s3) (s12.free hp) hA⟩
def js (n : Nat) (rs : List Nat) (x y : Nat) : Int := if 2 ^ n <= x \/ 2 ^ n <= y then -22 else if Kzk6.rises n rs = false then -16 else if Kzk1.next n rs x = x /\ Kzk1.next n rs y = y then 0 else -33
def mB (K : PySem.W.Frag) (C : Addr) : Sp := fun vs H Q _ => vs.length = 4 /\ ∃ (a b : Addr) (h : Hall) (d : Ad) (rs : List Nat) (x y : Nat), vs = [.ref a, .ref b, nv x, nv y] /\ WAt C H a h d /\ NL K H b (ff h.now.n rs) /\ Q (.int (js h.now.n rs x y)) H
abbrev dy : KK := fun P w K mg b C => Cal P w K mg b "pair_refused" 3 ["watch", "nexts", "x", "y"] (mB K C)
theorem mK (F : Fa K mg "pair_refused" (top 94)) (T : Txt K mg C) (cE : cR P w K mg base C) (aD : aP P w K mg base C) : dy P w K mg base C := by
 refine okF ["watch", "nexts", "x", "y"] F fun nd f cdv A outer s0 H vs Q E hr h => ?_
 obtain ⟨_, a, b, h, d, rs, x, y, rfl, W, hN, k⟩ := h
 obtain ⟨dx, h1⟩ := W.ob
 have ok := W.ok
 have h4 := ok.n4
 unfold js at k
 refine ⟨_, (aa (aA (tc yN (uO Fx (by rfl) T.zi t4 (a2 (pv 2) (pv 3))) (au aD hr rfl (a1 (pf K (pv 0))))) (ab (af (aK rfl T.bb))) aj)
   (aa (aA (cg (aM (au cE hr rfl (a1 (pv 1))))) (ab (af (aK rfl T.gK))) aj)
   (aa (aA (PW.pt (uL (tc qQ (ix K (pv 1) (pv 2)) (pv 2)) (nQ (tc qQ (ix K (pv 1) (pv 3)) (pv 3))))) (ab (af (aK rfl T.bT))) aj)
   (ab (af (ai 0)))))), ?_⟩
 refine ⟨_, rfl, _, rfl, _, _, rfl, _, rfl, a, C, dx, _, _, rfl, h1, T.cl, T.n_n, fv _ _, rfl, _, rfl, by omega, _, _, rfl, rfl, _, rfl, aJ (fun c1 => ?_) (fun c1 => ?_)⟩
 ·have c1 : 2 ^ h.now.n <= max x y := zAe c1
  rw [if_pos (by omega)] at k
  exact k
 have c1 : ¬ 2 ^ h.now.n <= max x y := fun z => c1 (zAf z)
 have hx : x < 2 ^ h.now.n := by omega
 have hy : y < 2 ^ h.now.n := by omega
 rw [if_neg (by omega)] at k
 refine ⟨_, rfl, rfl, _, _, _, rfl, hN, ok.n4, _, rfl, aJ (fun c2 => ?_) (fun c2 => ?_)⟩
 ·rw [if_pos (by simpa using c2)] at k
  exact k
 rw [if_neg (by simpa using c2)] at k
 refine ⟨_, rfl, _, rfl, _, _, _, _, rfl, rfl, hN, aQ (by rw [aR]; exact hx), _, rfl, _, _, rfl, rfl, _, rfl, aJ (fun c3 => ?_) (fun c3 => ?_)⟩
 ·rw [bE rs hx] at c3
  have c3 : Kzk1.next h.now.n rs x ≠ x := by simpa using c3
  rw [if_neg (fun z => c3 z.1)] at k
  exact g7 k
 ·rw [bE rs hx] at c3
  have c3 : Kzk1.next h.now.n rs x = x := by simpa using c3
  refine ⟨_, rfl, _, rfl, _, _, _, _, rfl, rfl, hN, aQ (by rw [aR]; exact hy), _, rfl, _, _, rfl, rfl, _, rfl, aJ (fun c4 => ?_) (fun c4 => ?_)⟩
  ·rw [bE rs hy] at c4
   have c4 : Kzk1.next h.now.n rs y ≠ y := by simpa using c4
   rw [if_neg (fun z => c4 z.2)] at k
   exact k
  ·rw [bE rs hy] at c4
   have c4 : Kzk1.next h.now.n rs y = y := by simpa using c4
   rw [if_pos ⟨c3, c4⟩] at k
   exact k
theorem A6 {n : Nat} {rs : List Nat} {x y : Nat} (hx : x < 2 ^ n) (hy : y < 2 ^ n) : ((Kzk3.rests n rs).contains x && (Kzk3.rests n rs).contains y) = decide (Kzk1.next n rs x = x /\ Kzk1.next n rs y = y) := by
 rw [zCo, zBg, zBn, List.contains_iff_mem, List.contains_iff_mem, cw, cw]
 simp [hx, hy]
theorem vq {n : Nat} {rs : List Nat} (x y : Nat) (f : Nat -> Nat -> Nat) : (if 2 ^ n <= x \/ 2 ^ n <= y then Kzk1.say (-22) else if Kzk6.rises n rs = false then Kzk1.say (-16) else if ((Kzk3.rests n rs).contains x && (Kzk3.rests n rs).contains y) = true then Kzk1.say (f x y : Nat) else Kzk1.say (-33)) = if js n rs x y < 0 then Kzk1.say (js n rs x y) else Kzk1.say (f x y : Nat) := by
 unfold js
 by_cases c1 : 2 ^ n <= x \/ 2 ^ n <= y
 ·rw [if_pos c1, if_pos c1, if_pos (by decide)]
 rw [if_neg c1, if_neg c1]
 by_cases c2 : Kzk6.rises n rs = false
 ·rw [if_pos c2, if_pos c2, if_pos (by decide)]
 rw [if_neg c2, if_neg c2, A6 (by omega) (by omega)]
 by_cases c3 : Kzk1.next n rs x = x /\ Kzk1.next n rs y = y
 ·rw [if_pos c3, zAf c3, if_pos rfl, if_neg (by decide)]
 ·rw [if_neg c3, zBm c3, if_neg (by decide), if_pos (by decide)]
theorem yy {n : Nat} {rs : List Nat} {x y : Nat} (h : ¬ js n rs x y < 0) : x < 2 ^ n /\ y < 2 ^ n /\ Kzk6.rises n rs = true /\ Kzk1.next n rs x = x /\ Kzk1.next n rs y = y := by
 unfold js at h
 by_cases c1 : 2 ^ n <= x \/ 2 ^ n <= y
 ·rw [if_pos c1] at h; exact absurd (by decide) h
 rw [if_neg c1] at h
 by_cases c2 : Kzk6.rises n rs = false
 ·rw [if_pos c2] at h; exact absurd (by decide) h
 rw [if_neg c2] at h
 by_cases c3 : Kzk1.next n rs x = x /\ Kzk1.next n rs y = y
 ·exact ⟨by omega, by omega, by simpa using c2, c3.1, c3.2⟩
 ·rw [if_neg c3] at h; exact absurd (by decide) h
theorem fB {n : Nat} (rs : List Nat) (h : n <= 4) : (Kzk3.rests n rs).length <= 16 := zAn (zAm _ _) (by unfold Kzk1.states; rw [zAr]; exact aT h)
def Ec (K : PySem.W.Frag) (C : Addr) : Sp := fun vs H Q _ => vs.length = 3 /\ ∃ (a : Addr) (h : Hall) (d : Ad) (x y : Nat), vs = [.ref a, nv x, nv y] /\ 1 <= h.now.n /\ Told C H a h d (Kzk.ask h.now (.join x y)) Q
abbrev xI : KK := fun P w K mg b C => Cal P w K mg b "join" 6 ["watch", "x", "y"] (Ec K C)
theorem E5 (F : Fa K mg "join" (top 95)) (T : Txt K mg C) (bc : bI P w K mg base C) (cj : dh P w K mg base C) (fq : dy P w K mg base C) (aw : aF P w K mg base C) (ah : aB P w K mg base C) : xI P w K mg base C := by
 refine okF ["watch", "x", "y", "nexts", "refused", "state"] F fun nd f cdv A outer s0 H vs Q E hr h => ?_
 obtain ⟨_, a, h, d, x, y, rfl, hn1, W, k⟩ := h
 obtain ⟨dx, h1⟩ := W.ob
 have ok := W.ok
 have hlen := aH h.now
 have bu : Kzk.ask h.now (.join x y) = if js h.now.n (Kzk.rules h.now) x y < 0 then Kzk1.say (js h.now.n (Kzk.rules h.now) x y) else Kzk1.say (Kzk6.join h.now.n (Kzk.rules h.now) x y : Nat) := by
  rw [← vq x y (Kzk6.join h.now.n (Kzk.rules h.now))]
  show (if Kzk1.okTowers h.now.n (Kzk.rules h.now) = false \/ 2 ^ h.now.n <= x \/ 2 ^ h.now.n <= y then _ else _) = _
  rw [bx ok hn1]
  have e : ((true = false) \/ 2 ^ h.now.n <= x \/ 2 ^ h.now.n <= y) = (2 ^ h.now.n <= x \/ 2 ^ h.now.n <= y) := by simp
  simp only [e]
 rw [bu] at k
 generalize hrs : Kzk.rules h.now = rs at *
 refine ⟨_, (aa (st 3 nd (au aw hr rfl (a1 (bD T.cl ah hr (pv 0)))))
   (aa (st 4 nd (au fq hr rfl (aL (pv 0) (aL (pv 3) (aL (pv 1) (aL (pv 2) bC))))))
   (aa (aA (tc B7 (pv 4) (ai 0)) (ab (af (ay (a1 (pv 4))))) aj)
   (ab (af (ay (a1 (cb (oB K) T.vW pq (lf 5 nd (bz (au bc hr rfl (a1 (pv 3)))) (cn (aM (au cj hr rfl (a2 (aZ uU (pv 1) (pv 2)) (pv 5))))) (pv 5)))))))))), ?_⟩
 refine ⟨_, rfl, a, dx, _, rfl, h1, aO _ _, rfl, _, _, _, rfl, W, fun H1 R s1 hR hRl => ?_⟩
 rw [hrs] at hRl
 refine ⟨rfl, _, _, rfl, .inl (.inl hRl), by rw [hlen]; exact ok.n4, fun H2 N s2 hN hNl => ?_⟩
 rw [hlen] at hNl
 have s12 := s1.trans s2
 refine ⟨_, rfl, _, rfl, _, rfl, _, rfl, rfl, _, _, _, _, _, _, _, rfl, W.same s12, .inl (.inl hNl), ?_⟩
 refine ⟨_, rfl, _, _, rfl, rfl, _, rfl, aJ (fun c => ?_) (fun c => ?_)⟩
 ·have c : js h.now.n rs x y < 0 := zAe c
  rw [if_pos c] at k
  exact ⟨_, rfl, by show 1 <= sizeLine; decide, fun p hp => k _ p (ak s12 (s12.free hp)) (s12.free hp) ae⟩
 ·have c : ¬ js h.now.n rs x y < 0 := fun z => c (zAf z)
  rw [if_neg c] at k
  obtain ⟨hx, hy, hr, ex, ey⟩ := yy c
  obtain ⟨j1, j2⟩ := Fy (fZ.mp hr) hx hy ex ey
  refine ⟨_, rfl, rfl, _, _, _, rfl, .inl (.inl hNl), ok.n4, fun H3 S s3 hS hSl => ?_⟩
  have bX := s12.trans s3
  refine ⟨S, rfl, ⟨_, .inl (.inl hSl)⟩, fun D hD => ?_⟩
  refine ku (K := K) (fun s => decide ((x ||| y) &&& s = (x ||| y))) nv (.inl (.inl hSl)) hD (by have := fB rs ok.n4; omega) (fun i z H4 hz s4 R' R'' r1 r2 => ?_) (fun H4 s4 hL => ?_)
  ·exact ⟨rfl, _, rfl, _, rfl, _, _, rfl, rfl, _, rfl, rfl, _, _, rfl, _, rfl, aJ (fun hc => ⟨_, rfl, r1 hc _ (az.refl _)⟩) (fun hc => r2 (by simpa using hc) _ (az.refl _))⟩
  ·refine ⟨_, _, rfl, .inl (.inl hL), List.ne_nil_of_mem j1, ?_⟩
   rw [← vi j1 j2]
   have s5 := bX.trans s4
   exact ⟨by show 1 <= sizeLine; decide, fun p hp => k _ p (ak s5 (s5.free hp)) (s5.free hp) ae⟩
def Ea (K : PySem.W.Frag) (C : Addr) : Sp := fun vs H Q _ => vs.length = 3 /\ ∃ (a : Addr) (h : Hall) (d : Ad) (x y : Nat), vs = [.ref a, nv x, nv y] /\ 1 <= h.now.n /\ Told C H a h d (Kzk.ask h.now (.meet x y)) Q
abbrev xG : KK := fun P w K mg b C => Cal P w K mg b "meet" 6 ["watch", "x", "y"] (Ea K C)
theorem E3 (F : Fa K mg "meet" (top 96)) (T : Txt K mg C) (bc : bI P w K mg base C) (cj : dh P w K mg base C) (fq : dy P w K mg base C) (aw : aF P w K mg base C) (ah : aB P w K mg base C) : xG P w K mg base C := by
 refine okF ["watch", "x", "y", "nexts", "refused", "state"] F fun nd f cdv A outer s0 H vs Q E hr h => ?_
 obtain ⟨_, a, h, d, x, y, rfl, hn1, W, k⟩ := h
 obtain ⟨dx, h1⟩ := W.ob
 have ok := W.ok
 have hlen := aH h.now
 have bu : Kzk.ask h.now (.meet x y) = if js h.now.n (Kzk.rules h.now) x y < 0 then Kzk1.say (js h.now.n (Kzk.rules h.now) x y) else Kzk1.say (Kzk6.meet h.now.n (Kzk.rules h.now) x y : Nat) := by
  rw [← vq x y (Kzk6.meet h.now.n (Kzk.rules h.now))]
  show (if Kzk1.okTowers h.now.n (Kzk.rules h.now) = false \/ 2 ^ h.now.n <= x \/ 2 ^ h.now.n <= y then _ else _) = _
  rw [bx ok hn1]
  have e : ((true = false) \/ 2 ^ h.now.n <= x \/ 2 ^ h.now.n <= y) = (2 ^ h.now.n <= x \/ 2 ^ h.now.n <= y) := by simp
  simp only [e]
 rw [bu] at k
 generalize hrs : Kzk.rules h.now = rs at *
 refine ⟨_, (aa (st 3 nd (au aw hr rfl (a1 (bD T.cl ah hr (pv 0)))))
   (aa (st 4 nd (au fq hr rfl (aL (pv 0) (aL (pv 3) (aL (pv 1) (aL (pv 2) bC))))))
   (aa (aA (tc B7 (pv 4) (ai 0)) (ab (af (ay (a1 (pv 4))))) aj)
   (ab (af (ay (a1 (cb (xA K) T.zi t4 (lf 5 nd (bz (au bc hr rfl (a1 (pv 3)))) (cn (aM (au cj hr rfl (a2 (pv 5) (aZ ll (pv 1) (pv 2)))))) (pv 5)))))))))), ?_⟩
 refine ⟨_, rfl, a, dx, _, rfl, h1, aO _ _, rfl, _, _, _, rfl, W, fun H1 R s1 hR hRl => ?_⟩
 rw [hrs] at hRl
 refine ⟨rfl, _, _, rfl, .inl (.inl hRl), by rw [hlen]; exact ok.n4, fun H2 N s2 hN hNl => ?_⟩
 rw [hlen] at hNl
 have s12 := s1.trans s2
 refine ⟨_, rfl, _, rfl, _, rfl, _, rfl, rfl, _, _, _, _, _, _, _, rfl, W.same s12, .inl (.inl hNl), ?_⟩
 refine ⟨_, rfl, _, _, rfl, rfl, _, rfl, aJ (fun c => ?_) (fun c => ?_)⟩
 ·have c : js h.now.n rs x y < 0 := zAe c
  rw [if_pos c] at k
  exact ⟨_, rfl, by show 1 <= sizeLine; decide, fun p hp => k _ p (ak s12 (s12.free hp)) (s12.free hp) ae⟩
 ·have c : ¬ js h.now.n rs x y < 0 := fun z => c (zAf z)
  rw [if_neg c] at k
  obtain ⟨hx, hy, hr, ex, ey⟩ := yy c
  obtain ⟨j1, j2⟩ := Fn (fZ.mp hr) hx hy ex ey
  refine ⟨_, rfl, rfl, _, _, _, rfl, .inl (.inl hNl), ok.n4, fun H3 S s3 hS hSl => ?_⟩
  have bX := s12.trans s3
  refine ⟨S, rfl, ⟨_, .inl (.inl hSl)⟩, fun D hD => ?_⟩
  refine ku (K := K) (fun s => decide (s &&& (x &&& y) = s)) nv (.inl (.inl hSl)) hD (by have := fB rs ok.n4; omega) (fun i z H4 hz s4 R' R'' r1 r2 => ?_) (fun H4 s4 hL => ?_)
  ·exact ⟨rfl, _, rfl, _, rfl, _, rfl, _, _, rfl, rfl, rfl, _, _, rfl, _, rfl, aJ (fun hc => ⟨_, rfl, r1 hc _ (az.refl _)⟩) (fun hc => r2 (by simpa using hc) _ (az.refl _))⟩
  ·refine ⟨_, _, rfl, .inl (.inl hL), List.ne_nil_of_mem j1, ?_⟩
   rw [← GB j1 j2]
   have s5 := bX.trans s4
   exact ⟨by show 1 <= sizeLine; decide, fun p hp => k _ p (ak s5 (s5.free hp)) (s5.free hp) ae⟩
end
end TW
namespace TW
open PySem PySem.Spec PyProof.Rows L2 TM
open Kzk (Board Hall)
theorem zV (b : Board) (d : Ad) (x : Addr) : bU "rules" (.ref x) (wf b d) = wf b { d with ra := x } := by rfl
theorem WAt.both {C : Addr} {H H2 : Hp} {a : Addr} {h : Hall} {d : Ad} {ps us : List Addr} {bs cs : List Board} (W : WAt C H a h d) (e1 : H2 d.pp = some (.lst (ps.map V.ref))) (e2 : H2 d.up = some (.lst (us.map V.ref))) (e3 : ∀ x, x ≠ d.pp -> x ≠ d.up -> H2 x = H x)
  (hp : jT H ps bs.reverse) (hu : jT H us cs.reverse) (hl : bs.length + cs.length <= 20) (ok : ∀ b ∈ bs ++ cs, OkB b /\ b.n = h.now.n) : Turn C H H2 a ⟨h.now, bs, cs⟩ d d := by
 obtain ⟨dx, h1⟩ := W.ob
 obtain ⟨ps0, h2, h3⟩ := W.pa
 obtain ⟨us0, h4, h5⟩ := W.un
 obtain ⟨⟨n1, n2, n3⟩, ⟨n4, n5⟩, n6⟩ := W.nd
 have tt : g9 H H2 := fun x ys e => by
  rw [e3 x (cU e h2 (by intro z; cases z)) (cU e h4 (by intro z; cases z))]; exact e
 refine ⟨⟨⟨dx, ?_⟩, ?_, ?_, ⟨ps, e1, hp.dF tt⟩, ⟨us, e2, hu.dF tt⟩, W.nd, W.ok, hl, ok⟩, fun x o q n => ?_, fun x hx => .inl hx, fun x e => ?_⟩
 ·rw [e3 a (cU h1 h2 (by intro z; cases z)) (cU h1 h4 (by intro z; cases z))]; exact h1
 ·rw [e3 _ n2 n3]; exact W.ru
 ·rw [e3 _ n4 n5]; exact W.od
 ·rw [e3 x (by rintro rfl; exact n (by simp [Ad.own])) (by rintro rfl; exact n (by simp [Ad.own]))]; exact q
 ·by_cases c1 : x = d.pp
  ·subst c1; rw [e1] at e; cases e
  ·by_cases c2 : x = d.up
   ·subst c2; rw [e2] at e; cases e
   ·rw [← e3 x c1 c2]; exact e
section
variable {P : Program} {w : World} {K : PySem.W.Frag} {mg : Str -> Option Value} {base : Heap} {C : Addr}
def D7 (K : PySem.W.Frag) (C : Addr) : Sp := fun vs H Q _ => vs.length = 2 /\ ∃ (a p : Addr) (h : Hall) (d : Ad) (b : Board), vs = [.ref a, .ref p] /\ WAt C H a h d /\ Pic H p b /\ OkB b /\ b.n = h.now.n ∧
 ∀ (H' : Hp) (d' : Ad), Turn C H H' a ⟨b, h.past, h.ahead⟩ d d' -> Q .non H'
abbrev sI : KK := fun P w K mg b C => mS P w K mg b C "show" 1 ["self", "kept"] (D7 K C)
theorem EZ (F : FaM K C "show" "Watch.show" (inClass (top 123) 6)) (T : Txt K mg C) : sI P w K mg base C := by
 refine okM ["self", "kept"] F fun nd f cdv A outer s0 H vs Q E hr h => ?_
 obtain ⟨_, a, p, h, d, b, rfl, W, hP, okb, hbn, k⟩ := h
 obtain ⟨dx, h1⟩ := W.ob
 obtain ⟨t1, t2, t3, q0, q1, q2, q3⟩ := hP
 obtain ⟨ps, w2, w3⟩ := W.pa
 obtain ⟨us, w4, w5⟩ := W.un
 refine ⟨_, (aa (bS (pv 0) (dZ (eB K) (pv 1) (ai 0) (fun _ _ => rfl)) rfl)
   (aa (bS (pv 0) (dZ (eB K) (pv 1) (ai 1) (fun _ _ => rfl)) rfl)
   (aa (bS (pv 0) (bZ (sP K) (by rfl) T.jS gW (a1 (dZ (eB K) (pv 1) (ai 2) (fun _ _ => rfl)))) rfl)
   (aa (bS (pv 0) (bZ (sP K) (by rfl) T.jS gW (a1 (dZ (eB K) (pv 1) (ai 3) (fun _ _ => rfl)))) rfl)
   (aa (bS (pv 0) (dZ (eB K) (dZ (eB K) (pv 1) (ai 4) (fun _ _ => rfl)) (ai 0) (fun _ _ => rfl)) rfl)
   (aa (bS (pv 0) (dZ (eB K) (dZ (eB K) (pv 1) (ai 4) (fun _ _ => rfl)) (ai 1) (fun _ _ => rfl)) rfl)
   (aa (bS (pv 0) (dZ (eB K) (dZ (eB K) (pv 1) (ai 4) (fun _ _ => rfl)) (ai 2) (fun _ _ => rfl)) rfl)
   (ab (bS (pv 0) (dZ (eB K) (dZ (eB K) (pv 1) (ai 4) (fun _ _ => rfl)) (ai 3) (fun _ _ => rfl)) rfl))))))))), ?_⟩
 refine ⟨_, rfl, _, _, _, _, rfl, rfl, .inl (.inl q0), cq (j := 0) rfl, _, rfl, a, C, dx, _, rfl, h1, T.cl, T.ba, few _ _, ?_⟩
 rw [k9]
 obtain ⟨H1, hH1⟩ : ∃ Hn, Hn = upd H a (.ins C dx (wf { h.now with s := b.s } d)) := ⟨_, rfl⟩
 have a1 : H1 a = some (.ins C dx (wf { h.now with s := b.s } d)) := by rw [hH1]; exact ae
 have b1 : But a H H1 := by rw [hH1]; exact But.upd ⟨fun x o e _ => e, fun x e => e⟩
 have u1 : g9 H H1 := by rw [hH1]; exact cu h1
 rw [← hH1]
 refine ⟨_, rfl, _, _, _, _, rfl, rfl, .inl (.inl (u1 _ _ q0)), cq (j := 1) rfl, _, rfl, a, C, dx, _, rfl, a1, T.cl, T.dI, few _ _, ?_⟩
 rw [nS]
 obtain ⟨H2, hH2⟩ : ∃ Hn, Hn = upd H1 a (.ins C dx (wf { h.now with s := b.s, held := b.held } d)) := ⟨_, rfl⟩
 have a2 : H2 a = some (.ins C dx (wf { h.now with s := b.s, held := b.held } d)) := by rw [hH2]; exact ae
 have b2 : But a H H2 := by rw [hH2]; exact b1.upd
 have u2 : g9 H H2 := by rw [hH2]; exact bG u1 (cu a1)
 rw [← hH2]
 refine ⟨_, rfl, _, _, _, _, rfl, rfl, .inl (.inl (u2 _ _ q0)), cq (j := 2) rfl, _, _, rfl, .inr (.inl (.inl (u2 _ _ q1))), fun ra hra => ?_⟩
 have s2 := aq (o := .lst (b.t.map nv)) hra
 have raa : ra ≠ a := (ax a2 hra).symm
 refine ⟨_, rfl, a, C, dx, _, rfl, s2 _ _ a2, T.cl, T.gz, few _ _, ?_⟩
 rw [zV]
 obtain ⟨H3, hH3⟩ : ∃ Hn, Hn = upd (upd H2 ra (.lst (b.t.map nv))) a (.ins C dx (wf { h.now with s := b.s, held := b.held } { d with ra := ra })) := ⟨_, rfl⟩
 have a3 : H3 a = some (.ins C dx (wf { h.now with s := b.s, held := b.held } { d with ra := ra })) := by rw [hH3]; exact ae
 have b3 : But a H H3 := by rw [hH3]; exact (b2.new hra).upd
 have u3 : g9 H H3 := by rw [hH3]; exact bG (bG u2 (fY s2)) (cu (s2 _ _ a2))
 have r3 : H3 ra = some (.lst (b.t.map nv)) := by rw [hH3, ag raa, ae]
 have ra0 : H ra = none := b2.2 ra hra
 rw [← hH3]
 refine ⟨_, rfl, _, _, _, _, rfl, rfl, .inl (.inl (u3 _ _ q0)), cq (j := 3) rfl, _, _, rfl, .inr (.inl (.inl (u3 _ _ q2))), fun oa hoa => ?_⟩
 have s3 := aq (o := .lst (b.order.map nv)) hoa
 have oaa : oa ≠ a := (ax a3 hoa).symm
 have GY : ra ≠ oa := ax r3 hoa
 refine ⟨_, rfl, a, C, dx, _, rfl, s3 _ _ a3, T.cl, T.gB, few _ _, ?_⟩
 rw [qJ]
 obtain ⟨H4, hH4⟩ : ∃ Hn, Hn = upd (upd H3 oa (.lst (b.order.map nv))) a (.ins C dx (wf { h.now with s := b.s, held := b.held } { d with ra := ra, oa := oa })) := ⟨_, rfl⟩
 have a4 : H4 a = some (.ins C dx (wf { h.now with s := b.s, held := b.held } { d with ra := ra, oa := oa })) := by rw [hH4]; exact ae
 have b4 : But a H H4 := by rw [hH4]; exact (b3.new hoa).upd
 have u4 : g9 H H4 := by rw [hH4]; exact bG (bG u3 (fY s3)) (cu (s3 _ _ a3))
 have r4 : H4 ra = some (.lst (b.t.map nv)) := by rw [hH4, ag raa]; exact s3 _ _ r3
 have o4 : H4 oa = some (.lst (b.order.map nv)) := by rw [hH4, ag oaa, ae]
 have oa0 : H oa = none := b3.2 oa hoa
 rw [← hH4]
 refine ⟨_, rfl, _, _, _, _, rfl, rfl, .inl (.inl (u4 _ _ q0)), cq (j := 4) rfl, _, _, _, _, rfl, rfl, .inl (.inl (u4 _ _ q3)), cq (j := 0) rfl, _, rfl, a, C, dx, _, rfl, a4, T.cl, T.kr, few _ _, ?_⟩
 rw [qI]
 obtain ⟨H5, hH5⟩ : ∃ Hn, Hn = upd H4 a (.ins C dx (wf { h.now with s := b.s, held := b.held, steps := b.steps } { d with ra := ra, oa := oa })) := ⟨_, rfl⟩
 have a5 : H5 a = some (.ins C dx (wf { h.now with s := b.s, held := b.held, steps := b.steps } { d with ra := ra, oa := oa })) := by rw [hH5]; exact ae
 have b5 : But a H H5 := by rw [hH5]; exact b4.upd
 have u5 : g9 H H5 := by rw [hH5]; exact bG u4 (cu a4)
 have r5 : H5 ra = some (.lst (b.t.map nv)) := by rw [hH5, ag raa]; exact r4
 have o5 : H5 oa = some (.lst (b.order.map nv)) := by rw [hH5, ag oaa]; exact o4
 rw [← hH5]
 refine ⟨_, rfl, _, _, _, _, rfl, rfl, .inl (.inl (u5 _ _ q0)), cq (j := 4) rfl, _, _, _, _, rfl, rfl, .inl (.inl (u5 _ _ q3)), cq (j := 1) rfl, _, rfl, a, C, dx, _, rfl, a5, T.cl, T.iB, few _ _, ?_⟩
 rw [nR]
 obtain ⟨H6, hH6⟩ : ∃ Hn, Hn = upd H5 a (.ins C dx (wf { h.now with s := b.s, held := b.held, steps := b.steps, passes := b.passes } { d with ra := ra, oa := oa })) := ⟨_, rfl⟩
 have a6 : H6 a = some (.ins C dx (wf { h.now with s := b.s, held := b.held, steps := b.steps, passes := b.passes } { d with ra := ra, oa := oa })) := by rw [hH6]; exact ae
 have b6 : But a H H6 := by rw [hH6]; exact b5.upd
 have u6 : g9 H H6 := by rw [hH6]; exact bG u5 (cu a5)
 have r6 : H6 ra = some (.lst (b.t.map nv)) := by rw [hH6, ag raa]; exact r5
 have o6 : H6 oa = some (.lst (b.order.map nv)) := by rw [hH6, ag oaa]; exact o5
 rw [← hH6]
 refine ⟨_, rfl, _, _, _, _, rfl, rfl, .inl (.inl (u6 _ _ q0)), cq (j := 4) rfl, _, _, _, _, rfl, rfl, .inl (.inl (u6 _ _ q3)), cq (j := 2) rfl, _, rfl, a, C, dx, _, rfl, a6, T.cl, T.ly, few _ _, ?_⟩
 rw [nU]
 obtain ⟨H7, hH7⟩ : ∃ Hn, Hn = upd H6 a (.ins C dx (wf { h.now with s := b.s, held := b.held, steps := b.steps, passes := b.passes, acts := b.acts } { d with ra := ra, oa := oa })) := ⟨_, rfl⟩
 have a7 : H7 a = some (.ins C dx (wf { h.now with s := b.s, held := b.held, steps := b.steps, passes := b.passes, acts := b.acts } { d with ra := ra, oa := oa })) := by rw [hH7]; exact ae
 have b7 : But a H H7 := by rw [hH7]; exact b6.upd
 have u7 : g9 H H7 := by rw [hH7]; exact bG u6 (cu a6)
 have r7 : H7 ra = some (.lst (b.t.map nv)) := by rw [hH7, ag raa]; exact r6
 have o7 : H7 oa = some (.lst (b.order.map nv)) := by rw [hH7, ag oaa]; exact o6
 rw [← hH7]
 refine ⟨_, rfl, _, _, _, _, rfl, rfl, .inl (.inl (u7 _ _ q0)), cq (j := 4) rfl, _, _, _, _, rfl, rfl, .inl (.inl (u7 _ _ q3)), cq (j := 3) rfl, _, rfl, a, C, dx, _, rfl, a7, T.cl, T.kq, few _ _, ?_⟩
 rw [qH]
 have ef : wf { h.now with s := b.s, held := b.held, steps := b.steps, passes := b.passes, acts := b.acts, changed := b.changed } { d with ra := ra, oa := oa } = wf b { d with ra := ra, oa := oa } := by
  unfold wf; rw [hbn]
 rw [ef]
 have b8 := b7.upd (o := .ins C dx (wf b { d with ra := ra, oa := oa }))
 have u8 := bG u7 (cu (o := .ins C dx (wf b { d with ra := ra, oa := oa })) a7)
 have npp : d.pp ≠ a := cU w2 h1 (by intro z; cases z)
 have nup : d.up ≠ a := cU w4 h1 (by intro z; cases z)
 obtain ⟨⟨n1, n2, n3⟩, ⟨n4, n5⟩, n6⟩ := W.nd
 refine k _ { d with ra := ra, oa := oa } ⟨⟨⟨dx, ae⟩, ?_, ?_, ⟨ps, ?_, w3.dF u8⟩, ⟨us, ?_, w5.dF u8⟩, ⟨⟨GY, (ax w2 ra0).symm, (ax w4 ra0).symm⟩, ⟨(ax w2 oa0).symm, (ax w4 oa0).symm⟩, n6⟩, okb, W.pl, fun c hc => ⟨(W.okp c hc).1, (W.okp c hc).2.trans hbn.symm⟩⟩, fun x o q n => ?_, fun x hx => ?_, b8.2⟩
 ·show upd H7 a _ ra = _
  rw [ag raa]; exact r7
 ·show upd H7 a _ oa = _
  rw [ag oaa]; exact o7
 ·exact b8.1 _ _ w2 npp
 ·exact b8.1 _ _ w4 nup
 ·exact b8.1 x o q (by rintro rfl; exact n (by simp [Ad.own]))
 ·simp only [Ad.own, zAv, List.not_mem_nil, or_false] at hx ⊢
  rcases hx with rfl | rfl | rfl | rfl | rfl
  ·exact .inl (.inl rfl)
  ·exact .inr ra0
  ·exact .inr oa0
  ·exact .inl (.inr (.inr (.inr (.inl rfl))))
  ·exact .inl (.inr (.inr (.inr (.inr rfl))))
theorem qL {H : Hp} {ps : List Addr} {bs : List Board} {b : Board} (h : jT H ps (bs ++ [b])) : ∃ qs p, ps = qs ++ [p] /\ jT H qs bs /\ Pic H p b := by
 have hl := h.1
 rw [zAi, List.length_singleton] at hl
 have hne : ps ≠ [] := by rintro rfl; simp at hl
 refine ⟨ps.dropLast, ps.getLast hne, (List.dropLast_concat_getLast hne).symm, ⟨by rw [List.length_dropLast]; omega, fun i p c e1 e2 => ?_⟩, ?_⟩
 ·have hi : i < bs.length := (zAd.mp e2).1
  refine h.2 i p c ?_ (by rw [zAy hi]; exact e2)
  rw [List.getElem?_dropLast, if_pos (by omega)] at e1; exact e1
 ·refine h.2 bs.length _ b ?_ (by rw [zAx (zAt _), zBt]; rfl)
  rw [← List.getLast?_eq_some_getLast hne, List.getLast?_eq_getElem?, show ps.length - 1 = bs.length by omega]
theorem vm {qs : List Addr} {p : Addr} : ((qs ++ [p]).map V.ref)[((qs ++ [p]).map V.ref).length - 1]? = some (.ref p) := by
 rw [zAa, zAi, List.length_singleton, Nat.add_sub_cancel, zAh, zAx (zAt _), zBt]; rfl
theorem vG {qs : List Addr} {p : Addr} : ((qs ++ [p]).map V.ref).dropLast = qs.map V.ref := by
 rw [zAp]
 show (qs.map V.ref ++ [V.ref p]).dropLast = _
 rw [List.dropLast_concat]
def rA (K : PySem.W.Frag) (C : Addr) : Sp := fun vs H Q _ => vs.length = 1 /\ ∃ (a : Addr) (h : Hall) (d : Ad) (b : Board) (l : List Board), vs = [.ref a] /\ WAt C H a h d /\ h.past = b :: l ∧
 ∀ (H' : Hp) (d' : Ad), Turn C H H' a ⟨b, l, h.now :: h.ahead⟩ d d' -> Q .non H'
abbrev iE : KK := fun P w K mg b C => mS P w K mg b C "take_back" 2 ["self"] (rA K C)
theorem rZ (F : FaM K C "take_back" "Watch.take_back" (inClass (top 123) 8)) (T : Txt K mg C) (x9 : sI P w K mg base C) (gr : gi P w K mg base C) : iE P w K mg base C := by
 refine okM ["self"] F fun nd f cdv A outer s0 H vs Q E hr h => ?_
 obtain ⟨_, a, h, d, b, l, rfl, W, hpa, k⟩ := h
 obtain ⟨dx, h1⟩ := W.ob
 refine ⟨_, (aa (aX (pbm K zBj zBk bH (pf K (pv 0)) (a1 (bD T.cl gr hr (pv 0)))))
   (ab (aX (dY T.cl x9 hr (pv 0) (a1 (JI K PySem.F.slot_list_pop PySem.F.type_list_pop CD (pf K (pv 0)))))))), ?_⟩
 obtain ⟨us0, w4, w5⟩ := W.un
 refine ⟨_, rfl, a, C, dx, _, _, rfl, h1, T.cl, T.fg, fV _ _, .inl ⟨rfl, _, .inl (.inl w4)⟩, _, rfl, a, dx, _, rfl, h1, aO _ _, rfl, a, h, d, rfl, W, fun H1 p0 s1 hp0 C7 => ?_⟩
 have W1 := W.same s1
 obtain ⟨ps, w2, w3⟩ := W1.pa
 obtain ⟨us, w4, w5⟩ := W1.un
 have hpl := W.pl
 rw [hpa] at w3
 rw [List.reverse_cons] at w3
 obtain ⟨qs, p, rfl, w6, w7⟩ := qL w3
 have h1' := s1 _ _ h1
 have hus : us.length = h.ahead.length := by rw [w5.1, List.length_reverse]
 rw [hpa, zAz] at hpl
 refine ⟨_, _, _, rfl, rfl, w4, by rw [zAa]; exact bo (by omega), ?_⟩
 have npu : d.pp ≠ d.up := W.nd.2.2
 have nau : a ≠ d.up := cU h1' w4 (by intro z; cases z)
 have nap : a ≠ d.pp := cU h1' w2 (by intro z; cases z)
 have aU : upd H1 d.up (.lst (us.map V.ref ++ [.ref p0])) a = some (.ins C dx (wf h.now d)) := by rw [ag nau]; exact h1'
 have pU : upd H1 d.up (.lst (us.map V.ref ++ [.ref p0])) d.pp = some (.lst ((qs ++ [p]).map V.ref)) := by rw [ag npu]; exact w2
 refine ⟨_, rfl, a, dx, _, rfl, aU, aO _ _, _, rfl, a, C, dx, _, _, rfl, aU, T.cl, T.gA, fz _ _, .inl ⟨rfl, _, .inl (.inl pU)⟩, _, _, _, rfl, rfl, pU, vm, ?_⟩
 rw [vG]
 have t2 := W1.both (H2 := upd (upd H1 d.up (.lst (us.map V.ref ++ [.ref p0]))) d.pp (.lst (qs.map V.ref))) (ps := qs) (us := us ++ [p0]) (bs := l) (cs := h.now :: h.ahead) ae (by rw [ag npu.symm, ae, zAp]; rfl) (fun x x1 x2 => by rw [ag x1, ag x2]) w6
  (by rw [List.reverse_cons]; exact la w5 C7) (by rw [zAz]; omega) (fun c hc => by
   rcases zBx.mp hc with z | z
   ·exact W.okp c (List.mem_append_left _ (by rw [hpa]; exact zAj _ z))
   ·rcases zAv.mp z with rfl | z
    ·exact ⟨W.ok, rfl⟩
    ·exact W.okp c (List.mem_append_right _ z))
 have okb := W.okp b (List.mem_append_left _ (by rw [hpa]; exact zAg))
 have tw2 : g9 H1 (upd (upd H1 d.up (.lst (us.map V.ref ++ [.ref p0]))) d.pp (.lst (qs.map V.ref))) := bG (eZ w4) (eZ pU)
 refine ⟨rfl, a, p, ⟨h.now, l, h.now :: h.ahead⟩, d, b, rfl, t2.W, w7.dF tw2, okb.1, okb.2, fun H3 d3 t3 => ?_⟩
 exact k H3 d3 ((Turn.same W s1).trans (t2.trans t3))
def uv (K : PySem.W.Frag) (C : Addr) : Sp := fun vs H Q _ => vs.length = 1 /\ ∃ (a : Addr) (h : Hall) (d : Ad) (b : Board) (l : List Board), vs = [.ref a] /\ WAt C H a h d /\ h.ahead = b :: l ∧
 ∀ (H' : Hp) (d' : Ad), Turn C H H' a ⟨b, h.now :: h.past, l⟩ d d' -> Q .non H'
abbrev jI : KK := fun P w K mg b C => mS P w K mg b C "do_again" 2 ["self"] (uv K C)
theorem va (F : FaM K C "do_again" "Watch.do_again" (inClass (top 123) 9)) (T : Txt K mg C) (x9 : sI P w K mg base C) (gr : gi P w K mg base C) : jI P w K mg base C := by
 refine okM ["self"] F fun nd f cdv A outer s0 H vs Q E hr h => ?_
 obtain ⟨_, a, h, d, b, l, rfl, W, hpa, k⟩ := h
 obtain ⟨dx, h1⟩ := W.ob
 refine ⟨_, (aa (aX (pbm K zBj zBk bH (pf K (pv 0)) (a1 (bD T.cl gr hr (pv 0)))))
   (ab (aX (dY T.cl x9 hr (pv 0) (a1 (JI K PySem.F.slot_list_pop PySem.F.type_list_pop CD (pf K (pv 0)))))))), ?_⟩
 obtain ⟨ps0, w4, w5⟩ := W.pa
 refine ⟨_, rfl, a, C, dx, _, _, rfl, h1, T.cl, T.gA, fz _ _, .inl ⟨rfl, _, .inl (.inl w4)⟩, _, rfl, a, dx, _, rfl, h1, aO _ _, rfl, a, h, d, rfl, W, fun H1 p0 s1 hp0 C7 => ?_⟩
 have W1 := W.same s1
 obtain ⟨ps, w2, w3⟩ := W1.un
 obtain ⟨us, w4, w5⟩ := W1.pa
 have hpl := W.pl
 rw [hpa] at w3
 rw [List.reverse_cons] at w3
 obtain ⟨qs, p, rfl, w6, w7⟩ := qL w3
 have h1' := s1 _ _ h1
 have hus : us.length = h.past.length := by rw [w5.1, List.length_reverse]
 rw [hpa, zAz] at hpl
 refine ⟨_, _, _, rfl, rfl, w4, by rw [zAa]; exact bo (by omega), ?_⟩
 have npu : d.up ≠ d.pp := W.nd.2.2.symm
 have nau : a ≠ d.pp := cU h1' w4 (by intro z; cases z)
 have nap : a ≠ d.up := cU h1' w2 (by intro z; cases z)
 have aU : upd H1 d.pp (.lst (us.map V.ref ++ [.ref p0])) a = some (.ins C dx (wf h.now d)) := by rw [ag nau]; exact h1'
 have pU : upd H1 d.pp (.lst (us.map V.ref ++ [.ref p0])) d.up = some (.lst ((qs ++ [p]).map V.ref)) := by rw [ag npu]; exact w2
 refine ⟨_, rfl, a, dx, _, rfl, aU, aO _ _, _, rfl, a, C, dx, _, _, rfl, aU, T.cl, T.fg, fV _ _, .inl ⟨rfl, _, .inl (.inl pU)⟩, _, _, _, rfl, rfl, pU, vm, ?_⟩
 rw [vG]
 have t2 := W1.both (H2 := upd (upd H1 d.pp (.lst (us.map V.ref ++ [.ref p0]))) d.up (.lst (qs.map V.ref))) (ps := us ++ [p0]) (us := qs) (bs := h.now :: h.past) (cs := l) (by rw [ag npu.symm, ae, zAp]; rfl) ae (fun x x1 x2 => by rw [ag x2, ag x1])
  (by rw [List.reverse_cons]; exact la w5 C7) w6 (by rw [zAz]; omega) (fun c hc => by
   rcases zBx.mp hc with z | z
   ·rcases zAv.mp z with rfl | z
    ·exact ⟨W.ok, rfl⟩
    ·exact W.okp c (List.mem_append_left _ z)
   ·exact W.okp c (List.mem_append_right _ (by rw [hpa]; exact zAj _ z)))
 have okb := W.okp b (List.mem_append_right _ (by rw [hpa]; exact zAg))
 have tw2 : g9 H1 (upd (upd H1 d.pp (.lst (us.map V.ref ++ [.ref p0]))) d.up (.lst (qs.map V.ref))) := bG (eZ w4) (eZ pU)
 refine ⟨rfl, a, p, ⟨h.now, h.now :: h.past, l⟩, d, b, rfl, t2.W, w7.dF tw2, okb.1, okb.2, fun H3 d3 t3 => ?_⟩
 exact k H3 d3 ((Turn.same W s1).trans (t2.trans t3))
def pC (C : Addr) (H : Hp) (a : Addr) (h : Hall) (d : Ad) (r : Hall × Kzk1.Ans) (Q : VK) : Prop := WAt C H a h d /\ ∀ (H' : Hp) (p : Addr) (d' : Ad), Turn C H H' a r.1 d d' -> H p = none -> bJ H' p r.2 -> Q (.ref p) H'
def Ej (K : PySem.W.Frag) (C : Addr) : Sp := fun vs H Q _ => vs.length = 1 /\ ∃ (a : Addr) (h : Hall) (d : Ad), vs = [.ref a] /\ pC C H a h d (Kzk.does h .back) Q
abbrev xQ : KK := fun P w K mg b C => Cal P w K mg b "back" 3 ["watch"] (Ej K C)
theorem Fd (F : Fa K mg "back" (top 33)) (T : Txt K mg C) (vQ : iE P w K mg base C) : xQ P w K mg base C := by
 refine okF ["watch"] F fun nd f cdv A outer s0 H vs Q E hr h => ?_
 obtain ⟨_, a, h, d, rfl, W, k⟩ := h
 obtain ⟨dx, h1⟩ := W.ob
 obtain ⟨ps, w2, w3⟩ := W.pa
 have hps : ps.length = h.past.length := by rw [w3.1, List.length_reverse]
 refine ⟨_, (aa (aA (tc dq (ln T (pf K (pv 0))) (ai 0)) (ab (af (ay (a1 (aK rfl T.mr))))) aj)
   (aa (aX (bD T.cl vQ hr (pv 0)))
   (ab (af (ay (a1 (ln T (pf K (pv 0))))))))), ?_⟩
 refine ⟨_, rfl, a, C, dx, _, _, rfl, h1, T.cl, T.gA, fz _ _, _, _, rfl, .inl (.inl (.inl w2)), _, _, rfl, rfl, _, rfl, aJ (fun c => ?_) (fun c => ?_)⟩
 ·have c : h.past = [] := by
   have : (ps.map V.ref).length = 0 := zAe c
   rw [zAa, hps] at this
   exact zAu.mp this
  have e : Kzk.does h .back = (h, Kzk1.say (-6)) := by
   show (match h.past with | [] => _ | p :: l => _) = _
   rw [c]
  rw [e] at k
  exact ⟨by show 1 <= sizeLine; decide, fun p hp => k _ p d (Turn.same W (aq hp)) hp ae⟩
 ·obtain ⟨b, l, hpa⟩ : ∃ b l, h.past = b :: l := by
   cases q : h.past with
   | nil =>
    rw [q] at hps
    rw [zAa, hps] at c
    exact absurd (zAf rfl) c
   | cons b l => exact ⟨b, l, rfl⟩
  have e : Kzk.does h .back = (⟨b, l, h.now :: h.ahead⟩, Kzk1.say (l.length : Nat)) := by
   show (match h.past with | [] => _ | p :: l => _) = _
   rw [hpa]
  rw [e] at k
  refine ⟨_, rfl, a, dx, _, rfl, h1, aO _ _, rfl, a, h, d, b, l, rfl, W, hpa, fun H1 d1 t1 => ?_⟩
  obtain ⟨dx1, g1⟩ := t1.W.ob
  obtain ⟨ps1, g2, g3⟩ := t1.W.pa
  have hp1 : ps1.length = l.length := by rw [g3.1, List.length_reverse]
  refine ⟨_, rfl, a, C, dx1, _, _, rfl, g1, T.cl, T.gA, fz _ _, _, _, rfl, .inl (.inl (.inl g2)), by show 1 <= sizeLine; decide, fun p hp => ?_⟩
  rw [zAa, hp1]
  exact k _ p d1 (t1.then (aq hp)) (t1.live p hp) ae
def Bz (K : PySem.W.Frag) (C : Addr) : Sp := fun vs H Q _ => vs.length = 1 /\ ∃ (a : Addr) (h : Hall) (d : Ad), vs = [.ref a] /\ pC C H a h d (Kzk.does h .again) Q
abbrev sV : KK := fun P w K mg b C => Cal P w K mg b "again" 3 ["watch"] (Bz K C)
theorem Cv (F : Fa K mg "again" (top 34)) (T : Txt K mg C) (ye : jI P w K mg base C) : sV P w K mg base C := by
 refine okF ["watch"] F fun nd f cdv A outer s0 H vs Q E hr h => ?_
 obtain ⟨_, a, h, d, rfl, W, k⟩ := h
 obtain ⟨dx, h1⟩ := W.ob
 obtain ⟨ps, w2, w3⟩ := W.un
 have hps : ps.length = h.ahead.length := by rw [w3.1, List.length_reverse]
 refine ⟨_, (aa (aA (tc dq (ln T (pf K (pv 0))) (ai 0)) (ab (af (ay (a1 (aK rfl T.mr))))) aj)
   (aa (aX (bD T.cl ye hr (pv 0)))
   (ab (af (ay (a1 (ln T (pf K (pv 0))))))))), ?_⟩
 refine ⟨_, rfl, a, C, dx, _, _, rfl, h1, T.cl, T.fg, fV _ _, _, _, rfl, .inl (.inl (.inl w2)), _, _, rfl, rfl, _, rfl, aJ (fun c => ?_) (fun c => ?_)⟩
 ·have c : h.ahead = [] := by
   have : (ps.map V.ref).length = 0 := zAe c
   rw [zAa, hps] at this
   exact zAu.mp this
  have e : Kzk.does h .again = (h, Kzk1.say (-6)) := by
   show (match h.ahead with | [] => _ | p :: l => _) = _
   rw [c]
  rw [e] at k
  exact ⟨by show 1 <= sizeLine; decide, fun p hp => k _ p d (Turn.same W (aq hp)) hp ae⟩
 ·obtain ⟨b, l, hpa⟩ : ∃ b l, h.ahead = b :: l := by
   cases q : h.ahead with
   | nil =>
    rw [q] at hps
    rw [zAa, hps] at c
    exact absurd (zAf rfl) c
   | cons b l => exact ⟨b, l, rfl⟩
  have e : Kzk.does h .again = (⟨b, h.now :: h.past, l⟩, Kzk1.say (l.length : Nat)) := by
   show (match h.ahead with | [] => _ | p :: l => _) = _
   rw [hpa]
  rw [e] at k
  refine ⟨_, rfl, a, dx, _, rfl, h1, aO _ _, rfl, a, h, d, b, l, rfl, W, hpa, fun H1 d1 t1 => ?_⟩
  obtain ⟨dx1, g1⟩ := t1.W.ob
  obtain ⟨ps1, g2, g3⟩ := t1.W.un
  have hp1 : ps1.length = l.length := by rw [g3.1, List.length_reverse]
  refine ⟨_, rfl, a, C, dx1, _, _, rfl, g1, T.cl, T.fg, fV _ _, _, _, rfl, .inl (.inl (.inl g2)), by show 1 <= sizeLine; decide, fun p hp => ?_⟩
  rw [zAa, hp1]
  exact k _ p d1 (t1.then (aq hp)) (t1.live p hp) ae
def D5 (K : PySem.W.Frag) (C : Addr) : Sp := fun vs H Q _ => vs.length = 1 /\ ∃ (a : Addr) (h : Hall) (d : Ad), vs = [.ref a] /\ Told C H a h d (Kzk.ask h.now .sums) Q
abbrev xC : KK := fun P w K mg b C => Cal P w K mg b "sums" 1 ["watch"] (D5 K C)
theorem EX (F : Fa K mg "sums" (top 35)) (T : Txt K mg C) : xC P w K mg base C := by
 refine okF ["watch"] F fun nd f cdv A outer s0 H vs Q E hr h => ?_
 obtain ⟨_, a, h, d, rfl, W, k⟩ := h
 obtain ⟨dx, h1⟩ := W.ob
 refine ⟨_, (ab (af (ay (aL (pf K (pv 0)) (aL (pf K (pv 0)) (aL (pf K (pv 0)) (aL (pf K (pv 0)) bC))))))), ?_⟩
 exact ⟨_, rfl, a, C, dx, _, _, rfl, h1, T.cl, T.kr, m8 _ _, _, rfl, a, C, dx, _, _, rfl, h1, T.cl, T.iB, kR _ _, _, rfl, a, C, dx, _, _, rfl, h1, T.cl, T.ly, mT _ _, _, rfl, a, C, dx, _, _, rfl, h1, T.cl, T.kq, m7 _ _, by show 4 <= sizeLine; decide, fun p hp => k _ p (aq hp) hp (bJ.of ae)⟩
def Bl (K : PySem.W.Frag) (C : Addr) : Sp := fun vs H Q _ => vs.length = 1 /\ ∃ (a : Addr) (h : Hall) (d : Ad), vs = [.ref a] /\ Told C H a h d (Kzk.does h .state).2 Q
abbrev sG : KK := fun P w K mg b C => Cal P w K mg b "state" 1 ["watch"] (Bl K C)
theorem Cd (F : Fa K mg "state" (top 36)) (T : Txt K mg C) : sG P w K mg base C := by
 refine okF ["watch"] F fun nd f cdv A outer s0 H vs Q E hr h => ?_
 obtain ⟨_, a, h, d, rfl, W, k⟩ := h
 obtain ⟨dx, h1⟩ := W.ob
 obtain ⟨ps, w2, w3⟩ := W.pa
 obtain ⟨us, w4, w5⟩ := W.un
 have hps : ps.length = h.past.length := by rw [w3.1, List.length_reverse]
 have hus : us.length = h.ahead.length := by rw [w5.1, List.length_reverse]
 have ok := W.ok
 have h4 := ok.n4
 have hol := ok.ol
 refine ⟨_, (ab (af (aZ cM (ay (aL (pf K (pv 0)) (aL (pf K (pv 0)) (aL (pf K (pv 0)) (aL (ln T (pf K (pv 0))) (aL (ln T (pf K (pv 0))) bC)))))) (pf K (pv 0))))), ?_⟩
 refine ⟨_, rfl, a, C, dx, _, _, rfl, h1, T.cl, T.n_n, fv _ _, _, rfl, a, C, dx, _, _, rfl, h1, T.cl, T.ba, a0 _ _, _, rfl, a, C, dx, _, _, rfl, h1, T.cl, T.dI, eC _ _, _, rfl, a, C, dx, _, _, rfl, h1, T.cl, T.gA, fz _ _, _, _, rfl, .inl (.inl (.inl w2)), _, rfl, a, C, dx, _, _, rfl, h1, T.cl, T.fg, fV _ _, _, _, rfl, .inl (.inl (.inl w4)), by show 5 <= sizeLine; decide, fun g hg => ?_⟩
 have sg := aq (o := .lst [nv h.now.n, nv h.now.s, nv h.now.held, nv (ps.map V.ref).length, nv (us.map V.ref).length]) hg
 refine ⟨_, rfl, a, C, dx, _, _, rfl, sg _ _ h1, T.cl, T.gB, jU _ _, _, _, _, _, rfl, rfl, ae, sg _ _ W.od, ?_, fun p hp => ?_⟩
 ·rw [zAa (f := nv)]; exact bw (by show 5 + h.now.order.length <= _; omega)
 ·refine k _ p (ak sg (sg.free hp)) (sg.free hp) (bJ.of ?_)
  rw [ae, zAa, zAa, hps, hus]
  show some (HO.lst ([nv h.now.n, nv h.now.s, nv h.now.held, nv h.past.length, nv h.ahead.length] ++ h.now.order.map nv)) = some (HO.lst ((h.now.n :: ([h.now.s, h.now.held, h.past.length, h.ahead.length] ++ h.now.order)).map nv))
  rw [List.map_cons, zAp]; rfl
end
end TW
namespace TW
open PySem PySem.Spec PyProof.Rows L2 TM
open Kzk (Board Hall)
theorem xt : ∀ (l r : List Nat), l.Pairwise (· < ·) -> r.Pairwise (· < ·) -> (∀ x, x ∈ l <-> x ∈ r) -> l = r
 | [], [], _, _, _ => rfl
 | [], y :: r, _, _, h => absurd ((h y).mpr zAg) (by simp)
 | x :: l, [], _, _, h => absurd ((h x).mp zAg) (by simp)
 | x :: l, y :: r, hl, hr, h => by
  obtain ⟨l1, l2⟩ := zBu.mp hl
  obtain ⟨r1, r2⟩ := zBu.mp hr
  have e : x = y := by
   rcases zAv.mp ((h x).mp zAg) with z | z
   ·exact z
   ·rcases zAv.mp ((h y).mpr zAg) with z' | z'
    ·exact z'.symm
    ·have := r1 x z
     have := l1 y z'
     omega
  subst e
  rw [xt l r l2 r2 fun z => ?_]
  constructor
  ·intro hz
   rcases zAv.mp ((h z).mp (zAj _ hz)) with q | q
   ·have := l1 z hz; omega
   ·exact q
  ·intro hz
   rcases zAv.mp ((h z).mpr (zAj _ hz)) with q | q
   ·have := r1 z hz; omega
   ·exact q
theorem mZ {l : List Nat} (h1 : l.Pairwise (· <= ·)) (h2 : l.Nodup) : l.Pairwise (· < ·) := (h1.and h2).imp fun {a b} h => by omega
theorem filter_lt (N : Nat) (p : Nat -> Bool) : ((List.range N).filter p).Pairwise (· < ·) := List.Pairwise.filter _ List.pairwise_lt_range
theorem lj (t o : List Nat) (s : Nat) : ∀ k, Kzk3.passes t o k s = it (Kzk3.pass t o) k s
 | 0 => rfl
 | k + 1 => by rw [fE, lj t o s k]; rfl
section
variable {P : Program} {w : World} {K : PySem.W.Frag} {mg : Str -> Option Value} {base : Heap} {C : Addr}
def Bp (K : PySem.W.Frag) (C : Addr) : Sp := fun vs H Q _ => vs.length = 1 /\ ∃ (a : Addr) (h : Hall) (d : Ad), vs = [.ref a] /\ 1 <= h.now.n /\ Told C H a h d (Kzk.ask h.now .rests) Q
abbrev sL : KK := fun P w K mg b C => Cal P w K mg b "rests" 6 ["watch"] (Bp K C)
theorem Ci (F : Fa K mg "rests" (top 82)) (T : Txt K mg C) (bc : bI P w K mg base C) (aw : aF P w K mg base C) (ah : aB P w K mg base C) : sL P w K mg base C := by
 refine okF ["watch", "found"] F fun nd f cdv A outer s0 H vs Q E hr h => ?_
 obtain ⟨_, a, h, d, rfl, hn1, W, k⟩ := h
 obtain ⟨dx, h1⟩ := W.ob
 have ok := W.ok
 have hlen := aH h.now
 have bu : Kzk.ask h.now .rests = Kzk1.told (Kzk3.rests h.now.n (Kzk.rules h.now)) := by
  show (if Kzk1.okTowers h.now.n (Kzk.rules h.now) = false then _ else _) = _
  rw [bx ok hn1]; rfl
 rw [bu] at k
 refine ⟨_, (aa (st 1 nd (au bc hr rfl (a1 (au aw hr rfl (a1 (bD T.cl ah hr (pv 0)))))))
   (ab (af (aZ cM (ay (a1 (ln T (pv 1)))) (pv 1))))), ?_⟩
 refine ⟨_, rfl, a, dx, _, rfl, h1, aO _ _, rfl, _, _, _, rfl, W, fun H1 R s1 hR hRl => ?_⟩
 refine ⟨rfl, _, _, rfl, .inl (.inl hRl), by rw [hlen]; exact ok.n4, fun H2 N s2 hN hNl => ?_⟩
 rw [hlen] at hNl
 have s12 := s1.trans s2
 refine ⟨rfl, _, _, _, rfl, .inl (.inl hNl), ok.n4, fun H3 S s3 hS hSl => ?_⟩
 have s4 := s12.trans s3
 exact ij rfl hSl (by have := fB (Kzk.rules h.now) ok.n4; omega) fun H' p s5 hp hL => k _ p (s4.trans s5) (s4.free hp) (bJ.of hL)
theorem ug {n : Nat} {t o : List Nat} {s k : Nat} (hk : k < 2 ^ n) (h : Kzk1.next n t (Kzk3.passes t o k s) = Kzk3.passes t o k s) (hno : ∀ j, j < k -> Kzk1.next n t (Kzk3.passes t o j s) ≠ Kzk3.passes t o j s) : Kzk3.sweeps n t o s = some k := by
 unfold Kzk3.sweeps
 exact fj (by omega) (by simpa using h) fun j hj => by simpa using hno j hj
theorem uh {n : Nat} {t o : List Nat} {s : Nat} (hs : s < 2 ^ n) (hj : ∀ j ∈ o, j < n) (hno : ∀ j, j < 2 ^ n -> Kzk1.next n t (Kzk3.passes t o j s) ≠ Kzk3.passes t o j s) : Kzk3.sweeps n t o s = none := by
 unfold Kzk3.sweeps
 refine List.find?_eq_none.mpr fun k hk => ?_
 have hk := zAk.mp hk
 have key : Kzk1.next n t (Kzk3.passes t o k s) ≠ Kzk3.passes t o k s := by
  by_cases c : k < 2 ^ n
  ·exact hno k c
  ·have hk : k = 2 ^ n := by omega
   obtain ⟨i, m, orb⟩ := rT (f := Kzk3.pass t o) (N := 2 ^ n) (fun x hx => iS o hx hj) hs
   have hm := orb.le (fun x hx => iS o hx hj) hs
   have hl := orb.lt
   obtain ⟨j, _, j2, e⟩ := orb.inside k (by omega)
   rw [lj, e, ← lj]
   exact hno j (by omega)
 simpa using key
def zC (K : PySem.W.Frag) (C : Addr) : Sp := fun vs H Q _ => vs.length = 1 /\ ∃ (a : Addr) (h : Hall) (d : Ad), vs = [.ref a] /\ 1 <= h.now.n /\ Told C H a h d (Kzk.ask h.now .sweeps) Q
abbrev oE : KK := fun P w K mg b C => Cal P w K mg b "sweeps" 6 ["watch"] (zC K C)
theorem Af (F : Fa K mg "sweeps" (top 83)) (T : Txt K mg C) (aD : aP P w K mg base C) (ck : cH P w K mg base C) (bc : bI P w K mg base C) (aw : aF P w K mg base C) (ah : aB P w K mg base C) : oE P w K mg base C := by
 refine okF ["watch", "rules", "found", "state", "done"] F fun nd f cdv A outer s0 H vs Q E hr h => ?_
 obtain ⟨_, a, h, d, rfl, hn1, W, k⟩ := h
 obtain ⟨dx, h1⟩ := W.ob
 have ok := W.ok
 have hlen := aH h.now
 have h16 := aT ok.n4
 have bu : Kzk.ask h.now .sweeps = match Kzk3.sweeps h.now.n (Kzk.rules h.now) h.now.order h.now.s with | none => Kzk1.say (-33) | some k => ⟨(k : Nat), [Kzk3.passes (Kzk.rules h.now) h.now.order k h.now.s]⟩ := by
  show (if Kzk1.good h.now.n h.now.s (Kzk.rules h.now) = false \/ Kzk3.okOrder h.now.n h.now.order = false then _ else _) = _
  rw [eP ok hn1, ok.oo, if_neg (by simp)]; rfl
 rw [bu] at k
 refine ⟨_, (aa (st 1 nd (bD T.cl ah hr (pv 0)))
   (aa (st 2 nd (au bc hr rfl (a1 (au aw hr rfl (a1 (pv 1))))))
   (aa (st 3 nd (pf K (pv 0)))
   (aa (fo 4 nd (r1 T (au aD hr rfl (a1 (pf K (pv 0))))) (aa (aA (tc (vo K) (pv 3) (pv 2)) (ab (af (ay (a2 (pv 4) (pv 3))))) aj)
   (ab (st 3 nd (au ck hr rfl (a3 (pv 1) (pv 3) (pf K (pv 0))))))))
   (ab (af (ay (a1 (aK rfl T.bT))))))))), ?_⟩
 refine ⟨_, rfl, a, dx, _, rfl, h1, aO _ _, rfl, _, _, _, rfl, W, fun H1 R s1 hR hRl => ?_⟩
 refine ⟨_, rfl, rfl, _, _, rfl, .inl (.inl hRl), by rw [hlen]; exact ok.n4, fun H2 N s2 hN hNl => ?_⟩
 rw [hlen] at hNl
 have s12 := s1.trans s2
 refine ⟨rfl, _, _, _, rfl, .inl (.inl hNl), ok.n4, fun H3 S s3 hS hSl => ?_⟩
 have bX := s12.trans s3
 have FH := s3 _ _ (s2 _ _ hRl)
 refine ⟨_, rfl, a, C, dx, _, _, rfl, bX _ _ h1, T.cl, T.ba, a0 _ _, ?_⟩
 refine ⟨_, rfl, a, C, dx, _, _, rfl, bX _ _ h1, T.cl, T.n_n, fv _ _, rfl, _, rfl, by have := ok.n4; omega, _, rfl, a8 _, a9 (by omega), ?_⟩
 rw [zAl]
 refine bq (fun i σ H' => H' = H3 /\ (∃ v, σ = [some (.ref a), some (.ref R), some (.ref S), some (nv (Kzk3.passes (Kzk.rules h.now) h.now.order i h.now.s)), v]) /\ ∀ j, j < i -> Kzk1.next h.now.n (Kzk.rules h.now) (Kzk3.passes (Kzk.rules h.now) h.now.order j h.now.s) ≠ Kzk3.passes (Kzk.rules h.now) h.now.order j h.now.s) ⟨rfl, ⟨none, rfl⟩, fun j hj => absurd hj (zBq _)⟩ ?_ ?_
 ·rintro i σ H4 hi ⟨rfl, ⟨v, rfl⟩, hno⟩
  rw [bj]
  have hpl := lh (t := Kzk.rules h.now) ok.sb ok.ob i
  refine ⟨_, rfl, _, rfl, _, _, rfl, .inl (.inl (.inl hSl)), rfl, cK _, _, rfl, aJ (fun c => ?_) (fun c => ?_)⟩
  ·rw [if_neg (by decide), cx] at c
   have c : Kzk3.passes (Kzk.rules h.now) h.now.order i h.now.s ∈ Kzk3.rests h.now.n (Kzk.rules h.now) := zAe c
   rw [ug hi (cw.mp c).2 hno] at k
   refine ⟨_, rfl, _, rfl, by show 2 <= sizeLine; decide, fun p hp => k _ p (ak bX (bX.free hp)) (bX.free hp) (bJ.of ae)⟩
  ·rw [if_neg (by decide), cx] at c
   have c : Kzk3.passes (Kzk.rules h.now) h.now.order i h.now.s ∉ Kzk3.rests h.now.n (Kzk.rules h.now) := fun z => c (zAf z)
   refine ⟨_, rfl, _, rfl, _, rfl, a, C, dx, _, _, rfl, bX _ _ h1, T.cl, T.gB, jU _ _, rfl, _, _, _, _, _, rfl, .inl (.inl FH), .inl (.inl (bX _ _ W.od)), by rw [hlen]; exact ok.ob, by rw [hlen]; exact ok.n4, rfl, ⟨some (nv i), ?_⟩, fun j hj => ?_⟩
   ·rw [fE]; rfl
   ·by_cases e : j = i
    ·subst e; exact fun z => c (cw.mpr ⟨hpl, z⟩)
    ·exact hno j (by omega)
 ·rintro σ H4 ⟨rfl, ⟨v, rfl⟩, hno⟩
  rw [uh ok.sb ok.ob hno] at k
  exact ⟨by show 1 <= sizeLine; decide, fun p hp => k _ p (ak bX (bX.free hp)) (bX.free hp) ae⟩
theorem ox {n : Nat} {g : TG} {tt : TT} {te : TE} {vs : List Nat} {σ : L2.St} {H1 : Hp} {D : Addr} {Qd : Hp -> Prop} (p : Nat -> Bool) (f : Nat -> List Nat) (hD : H1 D = none) (hn : n <= 1000000)
  (hs : ∀ i H, i < n -> az H1 H -> ∀ (R : V -> Hp -> Prop) (R' : Hp -> Prop), (p i = true -> ∀ H4 q, az H H4 -> H q = none -> H4 q = some (.lst ((f i).map nv)) -> R (.ref q) H4) -> (p i = false -> ∀ H3, az H H3 -> R' H3) →
   g (nv i) (wipe σ vs) H fun σ2 H2 => wipe σ2 vs = wipe σ vs /\ tt σ2 H2 fun b H3 => if b = true then te σ2 H3 R else R' H3)
  (hd : ∀ H, az H1 H -> LL H D (((List.range n).filter p).map f) -> Qd H) :
  ∃ W : Nat -> Nat -> Hp -> Prop, (∃ m, W 0 m (upd H1 D (.lst []))) /\ ∀ i m H, W i m H →
   ((Itr 0 n).stop i H /\ Qd H) \/ ((Itr 0 n).go i H /\ ∃ Nx : Hp -> Prop, (∀ H', Nx H' -> ∃ m', m' < m /\ W (i + 1) m' H') /\ ∀ x H', (Itr 0 n).yld i H x H' -> g x (wipe σ vs) H' fun σ2 H2 => wipe σ2 vs = wipe σ vs /\ tt σ2 H2 fun b H3 =>
    if b = true then te σ2 H3 fun y H4 => ∃ acc, H4 D = some (.lst acc) /\ acc.length < sizeLine /\ Nx (upd H4 D (.lst (acc ++ [y]))) else Nx H3) := by
 have snoc : ∀ i, ((List.range (i + 1)).filter p).map f = ((List.range i).filter p).map f ++ if p i = true then [f i] else [] := fun i => by
  rw [List.range_succ, zCc, zAp]
  congr 1
  by_cases h : p i = true
  ·simp [h]
  ·simp [h]
 refine oy (fun i H => az H1 H /\ LL H D (((List.range i).filter p).map f)) ⟨aq hD, LL.nil ae⟩ (fun i H hi ⟨s1, hL⟩ => ?_) (fun H ⟨s1, hL⟩ => hd H s1 hL)
 rw [bj]
 obtain ⟨ds, hDd, hDl, hDr⟩ := id hL
 refine hs i H hi s1 _ _ (fun hp H4 q s4 hq hq4 => ?_) (fun hp H3 s3 => ?_)
 ·refine ⟨_, s4 _ _ hDd, ?_, ak (s1.trans s4) hD, ?_⟩
  ·rw [zAa, hDl, zAa]
   refine bo (zAn (zAm _ _) ?_)
   rw [zAr]; omega
  ·rw [snoc, if_pos hp]
   exact (hL.same s4).snoc (s4 _ _ hDd) hq4 (ax hDd hq).symm
 ·refine ⟨s1.trans s3, ?_⟩
  rw [snoc, if_neg (by rw [hp]; decide), zBz]
  exact hL.same s3
theorem fG (n : Nat) : ∀ (f : Nat) (p : List Nat), Kzk3.ordersOn n f p = Kzk2.rowsOn n f p
 | 0, p => rfl
 | f + 1, p => by
  show ((List.range n).filter _).flatMap (fun j => Kzk3.ordersOn n f (p ++ [j])) = ((List.range n).filter _).flatMap (fun j => Kzk2.rowsOn n f (p ++ [j]))
  congr 1
  funext j
  exact fG n f _
theorem tJ (n : Nat) (l : List Nat) : (ext n l).length <= n := by
 unfold ext
 rw [zAa]
 exact zAn (zAm _ _) (by simp)
theorem nJ {n : Nat} (hn : n <= 4) : ∀ m, m <= 4 -> (Kzk2.rowsOn n m []).length <= 4 ^ m
 | 0, _ => by simp [Kzk2.rowsOn]
 | m + 1, h => by
  rw [dU]
  have h1 := iK (ext n) n (tJ n) (Kzk2.rowsOn n m [])
  have h2 := nJ hn m (by omega)
  exact zAn h1 (zAn (Nat.mul_le_mul h2 hn) (by rw [Nat.pow_succ]; exact zAt _))
theorem uC {n m : Nat} (hn : n <= 4) (hm : m <= 4) : (Kzk2.rowsOn n m []).length <= 256 := zAn (nJ hn m hm) (zAn (zCp (by decide) hm) (by decide))
theorem Dj {n : Nat} {l r : List Nat} (h : r ∈ ext n l) : r ≠ [] := by
 obtain ⟨j, _, rfl⟩ := zAq.mp h
 simp
def zF (K : PySem.W.Frag) (C : Addr) : Sp := fun vs H Q _ => vs.length = 1 /\ ∃ n : Nat, vs = [nv n] /\ n <= 4 /\ ∀ (H' : Hp) (p : Addr), az H H' -> H p = none -> LL H' p (Kzk3.orders n) -> Q (.ref p) H'
abbrev kz : KK := fun P w K mg b C => Cal P w K mg b "orders" 1 ["n"] (zF K C)
theorem Ai (F : Fa K mg "orders" (top 84)) (T : Txt K mg C) : kz P w K mg base C := by
 refine okF ["n", "found", "place", "longer", "towers", "j"] F fun nd f cdv A outer s0 H vs Q E hr h => ?_
 obtain ⟨_, n, rfl, hn, k⟩ := h
 refine ⟨_, (aa (st 1 nd (ay (a1 (ay bC))))
   (aa (fo 2 nd (r1 T (pv 0)) (aa (st 3 nd (ay bC))
   (aa (fo 4 nd (bz (pv 1)) (ab (aX (pbm K PySem.F.slot_list_extend PySem.F.type_list_extend iU (pv 3) (a1 (lf 5 nd (r1 T (pv 0)) (cn (tc (yU K) (pv 5) (pv 4))) (aZ cM (pv 4) (ay (a1 (pv 5))))))))))
   (ab (st 1 nd (pv 3))))))
   (ab (af (pv 1))))), ?_⟩
 refine ⟨zBf _, fun e he => ⟨by show 1 <= sizeLine; decide, fun F hF => ?_⟩⟩
 have sF := ak (o := .lst [.ref e]) (aq (o := .lst []) he) (aV hF)
 have hL0 : LL (upd (upd H e (.lst [])) F (.lst [.ref e])) F (Kzk2.rowsOn n 0 []) := by
  have heF : e ≠ F := by rintro rfl; rw [ae] at hF; cases hF
  refine ⟨[e], ae, rfl, fun j x q => ?_⟩
  have hj : j = 0 := by have := (zAd.mp q).1; simp at this; exact this
  subst hj
  have q : e = x := zBl q
  subst q
  rw [ag heF, ae]; rfl
 refine ⟨_, rfl, _, rfl, a8 _, a9 (by omega), ?_⟩
 rw [zAl]
 refine bq (fun m σ H' => az H H' /\ ∃ c v1 v2 v3 v4, H c = none /\ σ = [some (nv n), some (.ref c), v1, v2, v3, v4] /\ LL H' c (Kzk2.rowsOn n m [])) ⟨sF, F, none, none, none, none, aV hF, rfl, hL0⟩ ?_ ?_
 ·rintro m σ H1 hm ⟨s1, c, v1, v2, v3, v4, hc0, rfl, hc⟩
  rw [bj]
  have hsm := uC hn (show m <= 4 by omega)
  refine ⟨zBf _, fun D hD => ?_⟩
  have hD0 := s1.free hD
  obtain ⟨cs, hcc, hcl, hcr⟩ := id hc
  refine ⟨_, rfl, c, rfl, ⟨_, .inl (.inl (aq hD _ _ hcc))⟩, fh (K := K) (a := c) (xs := cs.map V.ref) (fun i σ H' => az H1 H' /\ (∃ v, σ = [some (nv n), some (.ref c), some (nv m), some (.ref D), v, v4]) /\ LL H' D (((Kzk2.rowsOn n m []).take i).flatMap (ext n))) ⟨aq hD, ⟨v3, rfl⟩, LL.nil ae⟩ (fun i σ H' _ ⟨s2, _⟩ => .inl (.inl (s2 _ _ hcc))) ?_ ?_⟩
  ·rintro i y σ H2 hi ⟨s2, ⟨v, rfl⟩, hL⟩
   obtain ⟨x, hx, rfl⟩ : ∃ x, cs[i]? = some x /\ y = .ref x := by
    rw [zAh] at hi
    cases q : cs[i]? with
    | none => rw [q] at hi; cases hi
    | some x => rw [q] at hi; exact ⟨x, rfl, (zBl hi).symm⟩
   have hil : i < (Kzk2.rowsOn n m []).length := by rw [← hcl]; exact (zAd.mp hx).1
   have e2 : (Kzk2.rowsOn n m [])[i]? = some ((Kzk2.rowsOn n m []).getD i []) := by
    rw [zAc hil, zAb, zAc hil]; rfl
   have hxl := hcr i x hx
   generalize (Kzk2.rowsOn n m []).getD i [] = tw at hxl e2
   have htl : tw.length = m := by have := dG n m [] tw (zAs e2); simpa using this
   obtain ⟨ds, hDd, hDl, hDr⟩ := id hL
   have hfl := iK (ext n) n (tJ n) ((Kzk2.rowsOn n m []).take i)
   have Kd : ((Kzk2.rowsOn n m []).take i).length * n <= 256 * 4 := Nat.mul_le_mul (by rw [zBo]; omega) hn
   refine ⟨_, rfl, .inl ⟨rfl, _, .inl (.inl hDd)⟩, _, rfl, _, rfl, a8 _, a9 (by omega), fun G hG => ?_⟩
   rw [zAl]
   refine ox (fun j => !tw.contains j) (fun j => tw ++ [j]) hG (by omega) (fun j H3 hj s3 R R' r1 r2 => ?_) (fun H3 s3 hL3 => ?_)
   ·refine ⟨rfl, _, rfl, _, rfl, _, _, rfl, .inl (.inl (.inl (s3 _ _ (s2 _ _ hxl)))), rfl, cK _, _, rfl, aJ (fun hc1 => ?_) (fun hc1 => ?_)⟩
    ·rw [if_pos rfl, cx] at hc1
     have hc1 : j ∉ tw := by simpa using hc1
     refine ⟨_, rfl, _, rfl, by show 1 <= sizeLine; decide, fun g hg => ⟨_, _, _, _, rfl, rfl, aq hg _ _ (s3 _ _ (s2 _ _ hxl)), ae, ?_, fun q hq => ?_⟩⟩
     ·rw [zAa]; exact bw (by show tw.length + 1 <= _; omega)
     ·have sg := aq (o := .lst [nv j]) hg
      refine r1 (by simpa using hc1) _ q (ak sg (sg.free hq)) (sg.free hq) ?_
      rw [ae, zAp]; rfl
    ·rw [if_pos rfl, cx] at hc1
     have hc1 : j ∈ tw := by simpa using hc1
     exact r2 (by simpa using hc1) _ (az.refl _)
   ·have hL3 : LL H3 G (ext n tw) := hL3
    obtain ⟨gs, hGg, hGl, hGr⟩ := id hL3
    have hel := tJ n tw
    refine ⟨_, _, _, _, rfl, rfl, s3 _ _ hDd, hGg, ?_, ak (s2.trans s3) hD, ⟨some (.ref x), rfl⟩, ?_⟩
    ·rw [zAa, zAa, hDl, hGl]
     exact bw (by omega)
    ·rw [take_snoc e2, List.flatMap_append, List.flatMap_singleton]
     refine (hL.same s3).append hL3 (s3 _ _ hDd) hGg (fun r hr => ?_) (fun r hr => Dj hr)
     obtain ⟨l, _, hl⟩ := List.mem_flatMap.mp hr
     exact Dj hl
  ·rintro σ H2 ⟨s2, ⟨v, rfl⟩, hL⟩
   rw [zAa, hcl, List.take_length, ← dU] at hL
   exact ⟨_, rfl, s1.trans s2, D, some (nv m), some (.ref D), v, v4, hD0, rfl, hL⟩
 ·rintro σ H1 ⟨s1, c, v1, v2, v3, v4, hc0, rfl, hc⟩
  rw [← fG] at hc
  exact ⟨_, rfl, k _ _ s1 hc0 hc⟩
def jr (K : PySem.W.Frag) (C : Addr) : Sp := fun vs H Q _ => vs.length = 2 /\ ∃ (a b : Addr) (rs os : List Nat), vs = [.ref a, .ref b] /\ NL K H a rs /\ rs.length <= 4 /\ NL K H b os /\ (∀ j ∈ os, j < rs.length) ∧
 ∀ (H' : Hp) (p : Addr), az H H' -> H p = none -> H' p = some (.lst (((List.range (2 ^ rs.length)).map (Kzk3.pass rs os)).map nv)) -> Q (.ref p) H'
abbrev dC : KK := fun P w K mg b C => Cal P w K mg b "all_behind_pass" 5 ["rules", "towers"] (jr K C)
theorem jy (F : Fa K mg "all_behind_pass" (top 85)) (T : Txt K mg C) (aD : aP P w K mg base C) (ck : cH P w K mg base C) : dC P w K mg base C := by
 refine okF ["rules", "towers", "state"] F fun nd f cdv A outer s0 H vs Q E hr h => ?_
 obtain ⟨_, a, b, rs, os, rfl, hS, hl, hO, hj, k⟩ := h
 have h16 := aT hl
 refine ⟨_, (ab (af (lc 2 nd (r1 T (au aD hr rfl (a1 (ln T (pv 0))))) (au ck hr rfl (a3 (pv 0) (pv 2) (pv 1)))))), ?_⟩
 refine ⟨_, rfl, _, _, rfl, .inl hS, rfl, _, rfl, ?_, _, rfl, a8 _, a9 ?_, fun D hD => ?_⟩
 ·rw [zAa]; omega
 ·rw [zAa]; omega
 rw [zAl, zAa]
 refine bR (fun _ => true) (fun s => nv (Kzk3.pass rs os s)) hD (by omega) (fun s H2 hs s2 R R' h1 h2 => ?_) (fun H2 s2 hH => ?_)
 ·exact ⟨rfl, _, rfl, _, rfl, _, rfl, rfl, _, _, _, _, _, rfl, s2.seq hS, s2.seq hO, hj, hl, h1 rfl _ (az.refl _)⟩
 ·refine k _ _ s2 hD ?_
  rw [hH, zAw, filter_all]
  rfl
theorem kj {n : Nat} {o : List Nat} (h : o ∈ Kzk3.orders n) : o.length = n /\ ∀ j ∈ o, j < n := by
 unfold Kzk3.orders at h
 rw [fG] at h
 refine ⟨by have := dG n n [] o h; simpa using this, (k4 n n [] o (by simp) (by simp) h).1⟩
theorem ki {n : Nat} (hn : n <= 4) : (Kzk3.orders n).length <= 256 := by
 unfold Kzk3.orders
 rw [fG]; exact uC hn hn
theorem EV {n : Nat} {rs o : List Nat} (hj : ∀ j ∈ o, j < n) : (((List.range (2 ^ n)).map (Kzk3.pass rs o)).map fun z => decide (z ∈ Kzk3.rests n rs)).all id = Kzk3.atOnce n rs o := by
 unfold Kzk3.atOnce Kzk1.states
 rw [zAw, List.all_map]
 rw [zCo, zBa, zBa]
 have key : ∀ s ∈ List.range (2 ^ n), ((id ∘ ((fun z => decide (z ∈ Kzk3.rests n rs)) ∘ Kzk3.pass rs o)) s = true <-> (Kzk1.next n rs (Kzk3.pass rs o s) == Kzk3.pass rs o s) = true) := fun s hs => by
  show decide (Kzk3.pass rs o s ∈ Kzk3.rests n rs) = true <-> _
  rw [zBn, cw, beq_iff_eq]
  exact ⟨fun z => z.2, fun z => ⟨iS o (zAk.mp hs) hj, z⟩⟩
 exact ⟨fun z s hs => (key s hs).mp (z s hs), fun z s hs => (key s hs).mpr (z s hs)⟩
def Ei (K : PySem.W.Frag) (C : Addr) : Sp := fun vs H Q _ => vs.length = 1 /\ ∃ (a : Addr) (h : Hall) (d : Ad), vs = [.ref a] /\ 1 <= h.now.n /\ Told C H a h d (Kzk.ask h.now .best) Q
abbrev xP : KK := fun P w K mg b C => Cal P w K mg b "best" 6 ["watch"] (Ei K C)
theorem Fc (F : Fa K mg "best" (top 86)) (T : Txt K mg C) (pk : kz P w K mg base C) (kL : dC P w K mg base C) (bc : bI P w K mg base C) (aw : aF P w K mg base C) (ah : aB P w K mg base C) : xP P w K mg base C := by
 refine okF ["watch", "rules", "found", "good", "towers", "state"] F fun nd f cdv A outer s0 H vs Q E hr h => ?_
 obtain ⟨_, a, h, d, rfl, hn1, W, k⟩ := h
 obtain ⟨dx, h1⟩ := W.ob
 have ok := W.ok
 have hlen := aH h.now
 have h4 := ok.n4
 have h16 := aT ok.n4
 have bu : Kzk.ask h.now .best = match Kzk3.good_ h.now.n (Kzk.rules h.now) with | [] => Kzk1.say (-33) | o :: l => ⟨(l.length + 1 : Nat), o⟩ := by
  show (if Kzk1.okTowers h.now.n (Kzk.rules h.now) = false then _ else _) = _
  rw [bx ok hn1]; rfl
 rw [bu] at k
 have hgd : Kzk3.good_ h.now.n (Kzk.rules h.now) = (Kzk3.orders h.now.n).filter (Kzk3.atOnce h.now.n (Kzk.rules h.now)) := rfl
 rw [hgd] at k
 have hsm := ki h4
 refine ⟨_, (aa (st 1 nd (bD T.cl ah hr (pv 0)))
   (aa (st 2 nd (au bc hr rfl (a1 (au aw hr rfl (a1 (pv 1))))))
   (aa (st 3 nd (ay bC))
   (aa (fo 4 nd (bz (au pk hr rfl (a1 (pf K (pv 0))))) (ab (aA (aM (cb (yW K) T.zj t5 (lc 5 nd (bz (au kL hr rfl (a2 (pv 1) (pv 4)))) (ec (vo K) (pv 5) (pv 2))))) (ab (aX (pbm K zBj zBk bH (pv 3) (a1 (pv 4))))) aj)))
   (aa (aA (tc dq (ln T (pv 3)) (ai 0)) (ab (af (ay (a1 (aK rfl T.bT))))) aj)
   (ab (af (aZ cM (ay (a1 (ln T (pv 3)))) (ix K (pv 3) (ai 0)))))))))), ?_⟩
 refine ⟨_, rfl, a, dx, _, rfl, h1, aO _ _, rfl, _, _, _, rfl, W, fun H1 R s1 hR hRl => ?_⟩
 refine ⟨_, rfl, rfl, _, _, rfl, .inl (.inl hRl), by rw [hlen]; exact ok.n4, fun H2 N s2 hN hNl => ?_⟩
 rw [hlen] at hNl
 have s12 := s1.trans s2
 refine ⟨rfl, _, _, _, rfl, .inl (.inl hNl), ok.n4, fun H3 S s3 hS hSl => ?_⟩
 have bX := s12.trans s3
 have FH := s3 _ _ (s2 _ _ hRl)
 refine ⟨zBf _, fun D hD => ?_⟩
 have sD := aq (o := .lst []) hD
 refine ⟨_, rfl, a, C, dx, _, _, rfl, sD _ _ (bX _ _ h1), T.cl, T.n_n, fv _ _, rfl, _, rfl, h4, fun H4 G s4 hG hGl => ?_⟩
 obtain ⟨gs, hGg, C8, hGr⟩ := id hGl
 have hGD : G ≠ D := by rintro rfl; rw [ae] at hG; cases hG
 have hDs : ∀ (x : Addr) (o : HO), H3 x = some o -> x ≠ D := fun x o e => ax e hD
 refine ⟨G, rfl, ⟨_, .inl (.inl hGg)⟩, fh (K := K) (a := G) (xs := gs.map V.ref) (fun i σ H' => (∀ x o, H4 x = some o -> x ≠ D -> H' x = some o) /\ (∃ v, σ = [some (.ref a), some (.ref R), some (.ref S), some (.ref D), v, none]) /\ LL H' D (((Kzk3.orders h.now.n).take i).filter (Kzk3.atOnce h.now.n (Kzk.rules h.now)))) ⟨fun x o e _ => e, ⟨none, rfl⟩, LL.nil (s4 _ _ ae)⟩ (fun i σ H' _ ⟨s5, _⟩ => .inl (.inl (s5 _ _ hGg hGD))) ?_ ?_⟩
 ·rintro i y σ H5 hi ⟨s5, ⟨v, rfl⟩, hL⟩
  obtain ⟨x, hx, rfl⟩ : ∃ x, gs[i]? = some x /\ y = .ref x := by
   rw [zAh] at hi
   cases q : gs[i]? with
   | none => rw [q] at hi; cases hi
   | some x => rw [q] at hi; exact ⟨x, rfl, (zBl hi).symm⟩
  have hil : i < (Kzk3.orders h.now.n).length := by rw [← C8]; exact (zAd.mp hx).1
  have e2 : (Kzk3.orders h.now.n)[i]? = some ((Kzk3.orders h.now.n).getD i []) := by
   rw [zAc hil, zAb, zAc hil]; rfl
  have hxl := hGr i x hx
  generalize (Kzk3.orders h.now.n).getD i [] = o at hxl e2
  obtain ⟨o1, o2⟩ := kj (zAs e2)
  have hxD : x ≠ D := by
   rintro rfl
   have q := (s4 _ _ ae).symm.trans hxl
   have := congrArg List.length (HO.lst.inj (zBl q))
   rw [zAa, o1] at this
   simp at this
   omega
  have hR5 := s5 _ _ (s4 _ _ (sD _ _ FH)) (hDs _ _ FH)
  have hS5 := s5 _ _ (s4 _ _ (sD _ _ hSl)) (hDs _ _ hSl)
  refine ⟨_, rfl, _, rfl, rfl, _, _, _, _, rfl, .inl (.inl hR5), by rw [hlen]; exact h4, .inl (.inl (s5 _ _ hxl hxD)), by rw [hlen]; exact o2, fun H6 B s6 hB hBl => ?_⟩
  rw [hlen] at hBl
  refine ⟨B, rfl, ⟨_, .inl (.inl hBl)⟩, fun E hE => ?_⟩
  refine ku (K := K) (fun _ => true) (fun z => .bl (decide (z ∈ Kzk3.rests h.now.n (Kzk.rules h.now)))) (.inl (.inl hBl)) hE (by rw [zAa, zAr]; omega) (fun j z H7 hz s7 R' R'' r1 r2 => ?_) (fun H7 s7 hE7 => ?_)
  ·refine ⟨rfl, _, rfl, _, rfl, _, _, rfl, .inl (.inl (.inl (s7 _ _ (s6 _ _ hS5)))), rfl, cK _, ?_⟩
   rw [if_neg (by decide), cx]
   exact r1 rfl _ (az.refl _)
  ·rw [filter_all] at hE7
   have eb : (((List.range (2 ^ h.now.n)).map (Kzk3.pass (Kzk.rules h.now) o)).map fun z => V.bl (decide (z ∈ Kzk3.rests h.now.n (Kzk.rules h.now)))) = (((List.range (2 ^ h.now.n)).map (Kzk3.pass (Kzk.rules h.now) o)).map fun z => decide (z ∈ Kzk3.rests h.now.n (Kzk.rules h.now))).map V.bl := by
    simp only [zAw]; rfl
   rw [eb] at hE7
   refine ⟨_, _, rfl, .inl (.inl hE7), ?_⟩
   rw [EV o2]
   have s67 := s6.trans s7
   obtain ⟨ds, hDd, hDl, hDr⟩ := id hL
   refine ⟨_, rfl, aJ (fun hc => ?_) (fun hc => ?_)⟩
   ·have hx7 := s67 _ _ (s5 _ _ hxl hxD)
    refine ⟨_, rfl, .inl ⟨rfl, _, .inl (.inl (s67 _ _ hDd))⟩, _, rfl, _, _, _, rfl, rfl, s67 _ _ hDd, ?_, fun z u e hz => ?_, ⟨some (.ref x), rfl⟩, ?_⟩
    ·rw [zAa, hDl]
     refine bo (zAn (zAm _ _) ?_)
     rw [zBo]; omega
    ·rw [ag hz]; exact s67 _ _ (s5 z u e hz)
    ·rw [take_snoc e2, zCc, zBd, if_pos hc, zCd]
     exact (hL.same s67).snoc (s67 _ _ hDd) hx7 hxD
   ·refine ⟨fun z u e hz => s67 _ _ (s5 z u e hz), ⟨some (.ref x), rfl⟩, ?_⟩
    rw [take_snoc e2, zCc, zBd, if_neg hc, zCd, zBz]
    exact hL.same s67
 ·rintro σ H5 ⟨s5, ⟨v, rfl⟩, hL⟩
  rw [zAa, C8, List.take_length] at hL
  have s6 : az H H5 := fun x u e => s5 _ _ (s4 _ _ (sD _ _ (bX _ _ e))) (ax e (bX.free hD))
  have fR : ∀ o ∈ (Kzk3.orders h.now.n).filter (Kzk3.atOnce h.now.n (Kzk.rules h.now)), o.length <= 100 := fun o ho => by
   have := (kj (zBe.mp ho).1).1
   omega
  have hgl : ((Kzk3.orders h.now.n).filter (Kzk3.atOnce h.now.n (Kzk.rules h.now))).length <= 256 := zAn (zAm _ _) hsm
  generalize (Kzk3.orders h.now.n).filter (Kzk3.atOnce h.now.n (Kzk.rules h.now)) = gd at *
  obtain ⟨ds, hDd, hDl, hDr⟩ := id hL
  refine ⟨_, rfl, _, _, rfl, .inl (.inl (.inl hDd)), _, _, rfl, rfl, _, rfl, aJ (fun hc => ?_) (fun hc => ?_)⟩
  ·have hc : gd = [] := by
    have : (ds.map V.ref).length = 0 := zAe hc
    rw [zAa, hDl] at this
    exact zAu.mp this
   subst hc
   exact ⟨by show 1 <= sizeLine; decide, fun p hp => k _ p (ak s6 (s6.free hp)) (s6.free hp) ae⟩
  ·obtain ⟨o, r, rfl⟩ : ∃ o r, gd = o :: r := by
    cases gd with
    | nil =>
     rw [zAa, hDl] at hc
     exact absurd (zAf rfl) hc
    | cons o r => exact ⟨o, r, rfl⟩
   have hol := fR o zAg
   obtain ⟨ys, x, hy1, hy2, hy3, hy4⟩ := hL.row (K := K) (j := 0) (by simp)
   have hy4 : H5 x = some (.lst (o.map nv)) := hy4
   refine ⟨_, rfl, _, _, rfl, .inl (.inl (.inl hDd)), by show 1 <= sizeLine; decide, fun g hg => ?_⟩
   have sg := aq (o := .lst [nv (ds.map V.ref).length]) hg
   refine ⟨_, rfl, _, _, _, _, rfl, rfl, sg.seq hy1, hy3, _, _, _, _, rfl, rfl, ae, sg _ _ hy4, ?_, fun p hp => ?_⟩
   ·rw [zAa (f := nv)]; exact bw (by show 1 + o.length <= _; omega)
   ·have s7 := s6.trans sg
    refine k _ p (ak s7 (s7.free hp)) (s7.free hp) (bJ.of ?_)
    rw [ae, zAa, hDl]; rfl
def zJ (K : PySem.W.Frag) (C : Addr) : Sp := fun vs H Q _ => vs.length = 1 /\ ∃ (a : Addr) (h : Hall) (d : Ad), vs = [.ref a] /\ 1 <= h.now.n /\ Told C H a h d (Kzk.ask h.now .brings) Q
abbrev oK : KK := fun P w K mg b C => Cal P w K mg b "brings" 6 ["watch"] (zJ K C)
theorem Am (F : Fa K mg "brings" (top 87)) (T : Txt K mg C) (pk : kz P w K mg base C) (ck : cH P w K mg base C) (ah : aB P w K mg base C) : oK P w K mg base C := by
 refine okF ["watch", "rules", "found", "towers"] F fun nd f cdv A outer s0 H vs Q E hr h => ?_
 obtain ⟨_, a, h, d, rfl, hn1, W, k⟩ := h
 obtain ⟨dx, h1⟩ := W.ob
 have ok := W.ok
 have hlen := aH h.now
 have h4 := ok.n4
 have h16 := aT ok.n4
 have bu : Kzk.ask h.now .brings = Kzk1.told (Kzk3.brings h.now.n (Kzk.rules h.now) h.now.s) := by
  show (if Kzk1.good h.now.n h.now.s (Kzk.rules h.now) = false then _ else _) = _
  rw [eP ok hn1]; rfl
 rw [bu] at k
 have hsm := ki h4
 refine ⟨_, (aa (st 1 nd (bD T.cl ah hr (pv 0)))
   (aa (st 2 nd (cb (jD K w) T.iQ gu (bZ (CM K w) (by rfl) T.DM yh (a1 (lc 3 nd (bz (au pk hr rfl (a1 (pf K (pv 0))))) (au ck hr rfl (a3 (pv 1) (pf K (pv 0)) (pv 3))))))))
   (ab (af (aZ cM (ay (a1 (ln T (pv 2)))) (pv 2)))))), ?_⟩
 refine ⟨_, rfl, a, dx, _, rfl, h1, aO _ _, rfl, _, _, _, rfl, W, fun H1 R s1 hR hRl => ?_⟩
 refine ⟨_, rfl, a, C, dx, _, _, rfl, s1 _ _ h1, T.cl, T.n_n, fv _ _, rfl, _, rfl, h4, fun H2 G s2 hG hGl => ?_⟩
 obtain ⟨gs, hGg, C8, hGr⟩ := id hGl
 have s12 := s1.trans s2
 refine ⟨G, rfl, ⟨_, .inl (.inl hGg)⟩, fun D hD => ?_⟩
 refine yQ (K := K) (fun _ => true) (fun o => nv (Kzk3.pass (Kzk.rules h.now) o h.now.s)) hGl hD (by omega) (fun i x l H3 hi s3 hx R' R'' r1 r2 => ?_) (fun H3 s3 hL => ?_)
 ·obtain ⟨o1, o2⟩ := kj (zAs hi)
  exact ⟨rfl, _, rfl, _, rfl, a, C, dx, _, _, rfl, s3 _ _ (s12 _ _ h1), T.cl, T.ba, a0 _ _, _, rfl, rfl, _, _, _, _, _, rfl, .inl (.inl (s3 _ _ (s2 _ _ hRl))), .inl (.inl hx), by rw [hlen]; exact o2, by rw [hlen]; exact h4, r1 rfl _ (az.refl _)⟩
 ·rw [filter_all] at hL
  have e : (Kzk3.orders h.now.n).map (fun o => nv (Kzk3.pass (Kzk.rules h.now) o h.now.s)) = ((Kzk3.orders h.now.n).map fun o => Kzk3.pass (Kzk.rules h.now) o h.now.s).map nv := by rw [zAw]; rfl
  rw [e] at hL
  have hlt : ∀ x ∈ (Kzk3.orders h.now.n).map fun o => Kzk3.pass (Kzk.rules h.now) o h.now.s, x < 2 ^ h.now.n := fun x hx => by
   obtain ⟨o, ho, rfl⟩ := zAq.mp hx
   exact iS o ok.sb (kj ho).2
  have bX := s12.trans s3
  refine ⟨D, _, rfl, .inl (.inl hL), fun x hx => zBh (hlt x hx) h16, fun p hp => ?_⟩
  have s4 := ak (o := vY w p ((Kzk3.orders h.now.n).map fun o => Kzk3.pass (Kzk.rules h.now) o h.now.s)) bX (bX.free hp)
  refine ⟨p, _, rfl, ae, fun l' q hnd hm ho hq => ?_⟩
  have s5 := ak (o := .lst (l'.map nv)) s4 (s4.free hq)
  have el : l' = Kzk3.brings h.now.n (Kzk.rules h.now) h.now.s := by
   refine xt _ _ (mZ ho hnd) (filter_lt _ _) fun x => ?_
   rw [hm x]
   unfold Kzk3.brings Kzk1.states
   rw [zBe, zAk]
   constructor
   ·intro hx; exact ⟨hlt x hx, by simpa using hx⟩
   ·intro hx; simpa using hx.2
  subst el
  have hbl : (Kzk3.brings h.now.n (Kzk.rules h.now) h.now.s).length <= 16 := zAn (zAm _ _) (by unfold Kzk1.states; rw [zAr]; exact h16)
  exact ij rfl ae (by omega) fun H' p' s6 hp' hL' => k _ p' (s5.trans s6) (s5.free hp') (bJ.of hL')
end
end TW
namespace TW
open PySem PySem.Spec PyProof.Rows L2 TM
open Kzk (Board Hall)
def Fst (n : Nat) (t : List Nat) (s k x : Nat) : Prop := Co n t s k x /\ ∀ j, j < k -> ¬ Co n t s j x
theorem De {n : Nat} {t : List Nat} {s : Nat} : ∀ {m x : Nat}, Co n t s m x -> ∃ k, k <= m /\ Fst n t s k x := by
 intro m
 induction m using Nat.strongRecOn with
 | _ m ih =>
  intro x h
  by_cases c : ∃ j, j < m /\ Co n t s j x
  ·obtain ⟨j, hj, hc⟩ := c
   obtain ⟨k, h1, h2⟩ := ih j hj hc
   exact ⟨k, by omega, h2⟩
  ·exact ⟨m, zAt _, h, fun j hj hc => c ⟨j, hj, hc⟩⟩
theorem Ii {n : Nat} {t : List Nat} {s k x : Nat} (hs : s < 2 ^ n) (h : Fst n t s k x) : k < 2 ^ n := by
 obtain ⟨m, hm, hc⟩ := tT hs ⟨k, h.1⟩
 apply zAo
 intro hn
 exact h.2 m (by omega) hc
theorem kD {n : Nat} {t : List Nat} {s m x : Nat} : ((∃ y, Fst n t s m y /\ ∃ j ∈ Kzk4.moves n t y, Kzk3.one t y j = x) /\ ¬ Co n t s m x) <-> Fst n t s (m + 1) x := by
 constructor
 ·rintro ⟨⟨y, hy, q⟩, hn⟩
  refine ⟨.inr ⟨y, hy.1, q⟩, fun j hj hc => hn (hc.le (by omega))⟩
 ·rintro ⟨h1, h2⟩
  have hn := h2 m (zBs _)
  rcases h1 with h | ⟨y, hy, q⟩
  ·exact absurd h hn
  ·refine ⟨⟨y, ⟨hy, fun j hj hc => ?_⟩, q⟩, hn⟩
   exact hn (Co.le (k := j + 1) (.inr ⟨y, hc, q⟩) hj)
theorem vD {n : Nat} {t : List Nat} {s m : Nat} (h : ∀ x, ¬ Fst n t s m x) : ∀ j x, ¬ Fst n t s (m + j) x
 | 0, x => h x
 | j + 1, x => fun z => by
  obtain ⟨⟨y, hy, _⟩, _⟩ := kD.mpr z
  exact vD h j y hy
def dd (ds : List (Nat × Nat)) : List (Key × V) := dn (ds.map fun e => (e.1, nv e.2))
theorem FP (ds : List (Nat × Nat)) (x k : Nat) : dd (ds ++ [(x, k)]) = dd ds ++ [(Sum.inl (x : Int), nv k)] := by
 unfold dd dn
 rw [zAp, zAp]; rfl
theorem Io (ds : List (Nat × Nat)) : (dd ds).length = ds.length := by unfold dd dn; simp
theorem key_ne {x y : Nat} (h : x ≠ y) : ¬ (Sum.inl (x : Int) : Key) = Sum.inl (y : Int) := fun e => h (by have := Sum.inl.inj e; omega)
theorem hW {x : Nat} : ∀ {ds : List (Nat × Nat)}, fw (dd ds) (Sum.inl (x : Int)) = none <-> x ∉ ds.map (·.1)
 | [] => by simp [dd, fw]
 | e :: ds => by
  have ih := hW (x := x) (ds := ds)
  show fw ((Sum.inl (e.1 : Int), nv e.2) :: dd ds) _ = none <-> _
  by_cases c : e.1 = x
  ·rw [hX (by rw [c])]
   simp [c]
  ·rw [h7 (key_ne c), ih, List.map_cons, zAv]
   constructor
   ·intro h z
    rcases z with z | z
    ·exact c z.symm
    ·exact h z
   ·intro h z; exact h (.inr z)
theorem nc {x k : Nat} : ∀ {ds : List (Nat × Nat)}, (ds.map (·.1)).Nodup -> (x, k) ∈ ds -> fw (dd ds) (Sum.inl (x : Int)) = some (nv k)
 | [], _, h => absurd h (by simp)
 | e :: ds, nd, h => by
  obtain ⟨n1, n2⟩ := zBv.mp (by rw [List.map_cons] at nd; exact nd)
  show fw ((Sum.inl (e.1 : Int), nv e.2) :: dd ds) _ = _
  rcases zAv.mp h with rfl | h
  ·exact hX rfl
  ·have c : e.1 ≠ x := fun z => n1 (z ▸ zAq.mpr ⟨_, h, rfl⟩)
   rw [h7 (key_ne c)]
   exact nc n2 h
structure Bf (n : Nat) (t : List Nat) (s m : Nat) (ds : List (Nat × Nat)) : Prop where
 nd : (ds.map (·.1)).Nodup
 mem : ∀ x k, (x, k) ∈ ds <-> k <= m /\ Fst n t s k x
theorem Bf.key {n : Nat} {t : List Nat} {s m : Nat} {ds : List (Nat × Nat)} (b : Bf n t s m ds) {x : Nat} : x ∈ ds.map (·.1) <-> Co n t s m x := by
 constructor
 ·intro h
  obtain ⟨⟨y, k⟩, he, rfl⟩ := zAq.mp h
  obtain ⟨h1, h2⟩ := (b.mem _ _).mp he
  exact h2.1.le h1
 ·intro h
  obtain ⟨k, h1, h2⟩ := De h
  exact zAq.mpr ⟨(x, k), (b.mem x k).mpr ⟨h1, h2⟩, rfl⟩
structure Nw (n : Nat) (t : List Nat) (s m : Nat) (ds : List (Nat × Nat)) (PR : Nat -> Prop) (new : List Nat) : Prop where
 nd : (ds.map (·.1) ++ new).Nodup
 mem : ∀ x, x ∈ new <-> PR x /\ ¬ Co n t s m x
theorem Nw.len {n : Nat} {t : List Nat} {s m : Nat} {ds : List (Nat × Nat)} {PR : Nat -> Prop} {new : List Nat} (b : Bf n t s m ds) (w : Nw n t s m ds PR new) (hs : s < 2 ^ n) (hp : ∀ x, PR x -> x < 2 ^ n) : ds.length + new.length <= 2 ^ n := by
 have := gy (2 ^ n) (ds.map (·.1) ++ new) w.nd fun x hx => by
  rcases zBx.mp hx with z | z
  ·exact Co.lt hs (b.key.mp z)
  ·exact hp x ((w.mem x).mp z).1
 rwa [zAi, zAa] at this
theorem kx (ds : List (Nat × Nat)) (new : List Nat) (m : Nat) : (ds ++ new.map fun x => (x, m + 1)).map (·.1) = ds.map (·.1) ++ new := by
 rw [zAp, zAw]
 congr 1
 have : new.map ((·.1) ∘ fun x => (x, m + 1)) = new.map id := List.map_congr_left fun _ _ => rfl
 rw [this, List.map_id]
theorem Bf.next {n : Nat} {t : List Nat} {s m : Nat} {ds : List (Nat × Nat)} {new : List Nat} (b : Bf n t s m ds) (w : Nw n t s m ds (fun x => ∃ y, Fst n t s m y /\ ∃ j ∈ Kzk4.moves n t y, Kzk3.one t y j = x) new) : Bf n t s (m + 1) (ds ++ new.map fun x => (x, m + 1)) := by
 refine ⟨by rw [kx]; exact w.nd, fun x k => ?_⟩
 rw [zBx, b.mem]
 constructor
 ·rintro (⟨h1, h2⟩ | h)
  ·exact ⟨by omega, h2⟩
  ·obtain ⟨y, hy, e⟩ := zAq.mp h
   obtain ⟨rfl, rfl⟩ := Prod.mk.inj e
   exact ⟨zAt _, kD.mp ((w.mem y).mp hy)⟩
 ·rintro ⟨h1, h2⟩
  by_cases c : k <= m
  ·exact .inl ⟨c, h2⟩
  ·obtain rfl : k = m + 1 := by omega
   exact .inr (zAq.mpr ⟨x, (w.mem x).mpr (kD.mpr h2), rfl⟩)
section
variable {P : Program} {w : World} {K : PySem.W.Frag} {mg : Str -> Option Value} {base : Heap} {C : Addr}
def Bs (K : PySem.W.Frag) (C : Addr) : Sp := fun vs H Q _ => vs.length = 1 /\ ∃ (a : Addr) (h : Hall) (d : Ad), vs = [.ref a] /\ 1 <= h.now.n /\ Told C H a h d (Kzk.ask h.now .moves) Q
abbrev sO : KK := fun P w K mg b C => Cal P w K mg b "moves" 6 ["watch"] (Bs K C)
theorem Cm (F : Fa K mg "moves" (top 73)) (T : Txt K mg C) (bB : cc P w K mg base C) (ah : aB P w K mg base C) : sO P w K mg base C := by
 refine okF ["watch", "found"] F fun nd f cdv A outer s0 H vs Q E hr h => ?_
 obtain ⟨_, a, h, d, rfl, hn1, W, k⟩ := h
 obtain ⟨dx, h1⟩ := W.ob
 have ok := W.ok
 have hlen := aH h.now
 have h4 := ok.n4
 have bu : Kzk.ask h.now .moves = Kzk1.told (Kzk4.moves h.now.n (Kzk.rules h.now) h.now.s) := by
  show (if Kzk1.good h.now.n h.now.s (Kzk.rules h.now) = false then _ else _) = _
  rw [eP ok hn1]; rfl
 rw [bu] at k
 refine ⟨_, (aa (st 1 nd (au bB hr rfl (a2 (bD T.cl ah hr (pv 0)) (pf K (pv 0)))))
   (ab (af (aZ cM (ay (a1 (ln T (pv 1)))) (pv 1))))), ?_⟩
 refine ⟨_, rfl, a, dx, _, rfl, h1, aO _ _, rfl, _, _, _, rfl, W, fun H1 R s1 hR hRl => ?_⟩
 refine ⟨_, rfl, a, C, dx, _, _, rfl, s1 _ _ h1, T.cl, T.ba, a0 _ _, rfl, _, _, _, rfl, .inl (.inl hRl), by rw [hlen]; exact h4, fun H2 M s2 hM hMl => ?_⟩
 rw [hlen] at hMl
 have s12 := s1.trans s2
 exact ij rfl hMl (by have := CG h.now.n (Kzk.rules h.now) h.now.s; omega) fun H' p s5 hp hL => k _ p (s12.trans s5) (s12.free hp) (bJ.of hL)
structure Found (n : Nat) (t : List Nat) (s : Nat) (ds : List (Nat × Nat)) : Prop where
 nd : (ds.map (·.1)).Nodup
 mem : ∀ x k, (x, k) ∈ ds <-> Fst n t s k x
def pM (K : PySem.W.Frag) (C : Addr) : Sp := fun vs H Q _ => vs.length = 2 /\ ∃ (a : Addr) (n : Nat) (rs : List Nat) (s : Nat), vs = [.ref a, nv s] /\ NL K H a rs /\ rs.length = n /\ n <= 4 /\ s < 2 ^ n ∧
 ∀ (H' : Hp) (p : Addr) (ds : List (Nat × Nat)), az H H' -> H p = none -> Found n rs s ds -> H' p = some (.dK (dd ds)) -> Q (.ref p) H'
abbrev eN : KK := fun P w K mg b C => Cal P w K mg b "changes_to" 4 ["rules", "state"] (pM K C)
theorem qd (F : Fa K mg "changes_to" (top 74)) (T : Txt K mg C) (bB : cc P w K mg base C) (cQ : d5 P w K mg base C) : eN P w K mg base C := by
 refine okF ["rules", "state", "few", "wave", "coming", "now", "j", "other"] F fun nd f cdv A outer s0 H vs Q E hr h => ?_
 obtain ⟨_, a, n, rs, s, rfl, hS, hrl, hn, hs, k⟩ := h
 have h16 := aT hn
 refine ⟨_, (aa (st 2 nd (EN (BW (pv 1) (ai 0) EI) rfl rfl (fun h => nomatch h) (by decide)))
   (aa (st 3 nd (ay (a1 (pv 1))))
   (aa (dX PassesOwn.never (tc gb (ln T (pv 3)) (ai 0)) (aa (st 4 nd (ay bC))
   (aa (fo 5 nd (bz (pv 3)) (ab (fo 6 nd (bz (au bB hr rfl (a2 (pv 0) (pv 5)))) (aa (st 7 nd (au cQ hr rfl (a2 (pv 5) (pv 6))))
   (ab (aA (BS (qN (vw hr) (pv 7) (pv 2))) (aa (EH (vw hr) (pv 2) (pv 7) (aZ nZ (yJ (vw hr) (pv 2) (pv 5) (fun _ _ => rfl)) (ai 1)) rfl)
   (ab (aX (pbm K zBj zBk bH (pv 4) (a1 (pv 7)))))) aj))))))
   (ab (st 3 nd (pv 4))))))
   (ab (af (pv 2)))))), ?_⟩
 refine fun F hF => ⟨_, rfl, ae, [(Sum.inl (s : Int), nv 0)], rfl, (by show 1 <= 15; decide), ?_⟩
 have e0 : upd (upd H F (.dK [])) F (.dK (lz [] [(Sum.inl (s : Int), nv 0)])) = upd H F (.dK (dd [(s, 0)])) := by rw [L2.mU]; rfl
 rw [e0]
 refine ⟨_, rfl, by show 1 <= sizeLine; decide, fun wa hwa => ?_⟩
 have hwF : wa ≠ F := by rintro rfl; rw [ae] at hwa; cases hwa
 have sF := aq (o := .dK (dd [(s, 0)])) hF
 have sW := ak (o := .lst [nv s]) sF (aV hwa)
 have b0 : Bf n rs s 0 [(s, 0)] := by
  refine ⟨by simp, fun x k => ?_⟩
  rw [zBw]
  constructor
  ·intro e
   obtain ⟨rfl, rfl⟩ := Prod.mk.inj e
   exact ⟨zAt _, rfl, fun j hj => absurd hj (zBq _)⟩
  ·rintro ⟨h1, h2⟩
   obtain rfl : k = 0 := by omega
   rw [show x = s from h2.1]
 refine ⟨fun μ σ H' => az H H' /\ ∃ m wa wv ds v4 v5 v6 v7, 2 ^ n - m = μ /\ wa ≠ F /\ H wa = none /\ σ = [some (.ref a), some (nv s), some (.ref F), some (.ref wa), v4, v5, v6, v7] /\ H' F = some (.dK (dd ds)) /\ H' wa = some (.lst (wv.map nv)) /\ Bf n rs s m ds /\ wv.Nodup /\ (∀ x, x ∈ wv <-> Fst n rs s m x), ⟨2 ^ n, sW, 0, wa, [s], [(s, 0)], none, none, none, none, rfl, hwF, aV hwa, rfl, by rw [ag hwF.symm, ae], ae, b0, by simp, fun x => ?_⟩, ?_⟩
 ·rw [zBw]
  exact ⟨fun e => ⟨e, fun j hj => absurd hj (zBq _)⟩, fun e => e.1⟩
 rintro μ σ H2 ⟨s2, m, wa, wv, ds, v4, v5, v6, v7, rfl, hwF, LZ, rfl, hFd, hwd, bf, wnd, wb⟩
 have hwl : wv.length <= 16 := zAn (gy (2 ^ n) wv wnd fun x hx => Co.lt hs ((wb x).mp hx).1) h16
 refine ⟨_, rfl, _, _, rfl, .inl (.inl (.inl hwd)), _, _, rfl, rfl, _, rfl, aJ (fun c1 => ?_) (fun c1 => ?_)⟩
 ·have c1 : 0 < wv.length := by rw [zAa] at c1; exact zAe c1
  have hm : m < 2 ^ n := by
   obtain ⟨x, hx⟩ := List.exists_mem_of_length_pos c1
   exact Ii hs ((wb x).mp hx)
  refine ⟨fun σ' H' => az H H' /\ ∃ wa wv ds v4 v5 v6 v7, wa ≠ F /\ H wa = none /\ σ' = [some (.ref a), some (nv s), some (.ref F), some (.ref wa), v4, v5, v6, v7] /\ H' F = some (.dK (dd ds)) /\ H' wa = some (.lst (wv.map nv)) /\ Bf n rs s (m + 1) ds /\ wv.Nodup /\ (∀ x, x ∈ wv <-> Fst n rs s (m + 1) x), fun σ' H' ⟨z0, wa', wv', ds', u4, u5, u6, u7, z1, z2, z3, z4, z5, z6, z7, z8⟩ => ⟨2 ^ n - (m + 1), by omega, z0, m + 1, wa', wv', ds', u4, u5, u6, u7, rfl, z1, z2, z3, z4, z5, z6, z7, z8⟩, ?_⟩
  refine ⟨zBf _, fun D hD => ?_⟩
  have hDF : D ≠ F := (ax hFd hD).symm
  have hDw : D ≠ wa := (ax hwd hD).symm
  have sD := aq (o := .lst []) hD
  have hD0 := s2.free hD
  refine ⟨_, rfl, wa, rfl, ⟨_, .inl (.inl (sD _ _ hwd))⟩, fh (K := K) (a := wa) (xs := wv.map nv) (fun i σ H' => ∃ new u5 u6 u7, (∀ x o, H2 x = some o -> x ≠ F -> H' x = some o) /\ σ = [some (.ref a), some (nv s), some (.ref F), some (.ref wa), some (.ref D), u5, u6, u7] /\ H' F = some (.dK (dd (ds ++ new.map fun x => (x, m + 1)))) /\ H' D = some (.lst (new.map nv)) ∧
   Nw n rs s m ds (fun x => ∃ y ∈ wv.take i, ∃ j ∈ Kzk4.moves n rs y, Kzk3.one rs y j = x) new) ⟨[], v5, v6, v7, fun x o e _ => sD _ _ e, rfl, by rw [ag hDF.symm, hFd]; simp, ae, ⟨by simpa using bf.nd, fun x => by simp⟩⟩ (fun i σ H' _ ⟨_, _, _, _, s3, _⟩ => .inl (.inl (s3 _ _ hwd hwF))) ?_ ?_⟩
  ·rintro i y σ H3 hi ⟨new, u5, u6, u7, s3, rfl, hF3, hD3, nw⟩
   obtain ⟨z, hz, rfl⟩ := tu hi
   have hzw : z ∈ wv := zAs hz
   have hzf := (wb z).mp hzw
   have hzl : z < 2 ^ n := Co.lt hs hzf.1
   have hS3 : NL K H3 a rs := by
    have hh : ∀ b u, H b = some u -> H3 b = some u := fun b u e => s3 _ _ (s2 _ _ e) (ax e hF)
    exact az.seq hh hS
   refine ⟨_, rfl, _, rfl, rfl, _, _, _, rfl, hS3, by omega, fun H4 M s4 hM hMl => ?_⟩
   rw [hrl] at hMl
   have hMF : M ≠ F := (ax hF3 hM).symm
   have hMD : M ≠ D := (ax hD3 hM).symm
   refine ⟨M, rfl, ⟨_, .inl (.inl hMl)⟩, fh (K := K) (a := M) (xs := (Kzk4.moves n rs z).map nv) (fun q σ H' => ∃ new u6 u7, (∀ x o, H4 x = some o -> x ≠ F -> x ≠ D -> H' x = some o) /\ σ = [some (.ref a), some (nv s), some (.ref F), some (.ref wa), some (.ref D), some (nv z), u6, u7] /\ H' F = some (.dK (dd (ds ++ new.map fun x => (x, m + 1)))) /\ H' D = some (.lst (new.map nv)) ∧
    Nw n rs s m ds (fun x => (∃ y ∈ wv.take i, ∃ j ∈ Kzk4.moves n rs y, Kzk3.one rs y j = x) \/ ∃ j ∈ (Kzk4.moves n rs z).take q, Kzk3.one rs z j = x) new) ⟨new, u6, u7, fun x o e _ _ => e, rfl, s4 _ _ hF3, s4 _ _ hD3, ⟨nw.nd, fun x => by rw [nw.mem x]; simp⟩⟩ (fun q σ H' _ ⟨_, _, _, s5, _⟩ => .inl (.inl (s5 _ _ hMl hMF hMD))) ?_ ?_⟩
   ·rintro q y σ H5 hq ⟨new, u6, u7, s5, rfl, hF5, hD5, nw5⟩
    obtain ⟨j, hj, rfl⟩ := tu hq
    have hjm : j ∈ Kzk4.moves n rs z := zAs hj
    obtain ⟨hjn, ej⟩ := eU hjm
    have hol : Kzk3.one rs z j < 2 ^ n := iy hzl hjn
    have hPR : ∀ x, ((∃ y ∈ wv.take i, ∃ j ∈ Kzk4.moves n rs y, Kzk3.one rs y j = x) \/ ∃ j ∈ (Kzk4.moves n rs z).take q, Kzk3.one rs z j = x) -> x < 2 ^ n := by
     rintro x (⟨y, hy, j, hj, rfl⟩ | ⟨j, hj, rfl⟩)
     ·exact iy (Co.lt hs ((wb y).mp (List.mem_of_mem_take hy)).1) (eU hj).1
     ·exact iy hzl (eU (List.mem_of_mem_take hj)).1
    have hlen := Nw.len bf nw5 hs hPR
    refine ⟨_, rfl, _, rfl, rfl, _, _, rfl, by omega, ?_⟩
    rw [ej]
    generalize hx : Kzk3.one rs z j = x at hol
    refine ⟨_, rfl, _, rfl, F, _, rfl, lX.k (k := Sum.inl (x : Int)) hF5, _, rfl, aJ (fun c2 => ?_) (fun c2 => ?_)⟩
    ·have c2 : fw (dd (ds ++ new.map fun x => (x, m + 1))) (Sum.inl (x : Int)) = none := by simpa using c2
     have c3 := hW.mp c2
     rw [kx, zBx] at c3
     have Lb : ((ds ++ new.map fun x => (x, m + 1)).map (·.1)).Nodup := by rw [kx]; exact nw5.nd
     have hv : fw (dd (ds ++ new.map fun x => (x, m + 1))) (Sum.inl (z : Int)) = some (nv m) := nc Lb (List.mem_append_left _ ((bf.mem z m).mpr ⟨zAt _, hzf⟩))
     have hg : lX H5 F (nv z) (some (nv m)) := hv ▸ lX.k (k := Sum.inl (z : Int)) hF5
     have hdl : (dd (ds ++ new.map fun x => (x, m + 1))).length < sizeLine := by
      rw [Io, zAi, zAa]; exact bo (by omega)
     refine ⟨_, rfl, _, rfl, F, _, rfl, hg, _, _, rfl, rfl, _, rfl, _, rfl, F, _, rfl, DR.k (k := Sum.inl (x : Int)) hF5 hdl, ?_⟩
     have hDn : upd H5 F (.dK (putK (dd (ds ++ new.map fun x => (x, m + 1))) (Sum.inl (x : Int)) (nv (m + 1)))) D = some (.lst (new.map nv)) := by rw [ag hDF]; exact hD5
     refine ⟨_, rfl, .inl ⟨rfl, _, .inl (.inl hDn)⟩, _, rfl, _, _, _, rfl, rfl, hDn, by rw [zAa]; exact bo (by omega), ?_⟩
     refine ⟨new ++ [x], some (nv j), some (nv x), fun y o e y1 y2 => ?_, rfl, ?_, ?_, ?_⟩
     ·rw [ag y2, ag y1]; exact s5 y o e y1 y2
     ·rw [ag hDF.symm, ae, BR _ c2, zAp, ← zBy]
      show some (HO.dK (dd _ ++ [(Sum.inl (x : Int), nv (m + 1))])) = some (HO.dK (dd (_ ++ [(x, m + 1)])))
      rw [FP]
     ·rw [ae, zAp]; rfl
     ·refine ⟨?_, fun y => ?_⟩
      ·rw [← zBy, List.nodup_append]
       refine ⟨nw5.nd, by simp, fun u hu v hv2 e => c3 ?_⟩
       have : v = x := by simpa using hv2
       rw [← this, ← e]
       exact zBx.mp hu
      ·rw [zBx, zBw, nw5.mem y, take_snoc hj]
       constructor
       ·rintro (⟨h1 | ⟨j', h1, h2⟩, h3⟩ | rfl)
        ·exact ⟨.inl h1, h3⟩
        ·exact ⟨.inr ⟨j', List.mem_append_left _ h1, h2⟩, h3⟩
        ·exact ⟨.inr ⟨j, List.mem_append_right _ (by simp), hx⟩, fun z => c3 (.inl (bf.key.mpr z))⟩
       ·rintro ⟨h1 | ⟨j', h1, h2⟩, h3⟩
        ·exact .inl ⟨.inl h1, h3⟩
        ·rcases zBx.mp h1 with h1 | h1
         ·exact .inl ⟨.inr ⟨j', h1, h2⟩, h3⟩
         ·have : j' = j := by simpa using h1
          subst this
          exact .inr (h2.symm.trans hx)
    ·have c2 : ¬ fw (dd (ds ++ new.map fun x => (x, m + 1))) (Sum.inl (x : Int)) = none := fun z => c2 (by rw [z]; rfl)
     have c3 : x ∈ ds.map (·.1) \/ x ∈ new := by
      apply zAo
      intro hno
      exact c2 (hW.mpr (by rw [kx, zBx]; exact hno))
     refine ⟨new, some (nv j), some (nv x), s5, rfl, hF5, hD5, nw5.nd, fun y => ?_⟩
     rw [nw5.mem y, take_snoc hj]
     constructor
     ·rintro ⟨h1 | ⟨j', h1, h2⟩, h3⟩
      ·exact ⟨.inl h1, h3⟩
      ·exact ⟨.inr ⟨j', List.mem_append_left _ h1, h2⟩, h3⟩
     ·rintro ⟨h1 | ⟨j', h1, h2⟩, h3⟩
      ·exact ⟨.inl h1, h3⟩
      ·rcases zBx.mp h1 with h1 | h1
       ·exact ⟨.inr ⟨j', h1, h2⟩, h3⟩
       ·have : j' = j := by simpa using h1
        subst this
        have ey : y = x := h2.symm.trans hx
        subst ey
        rcases c3 with q1 | q1
        ·exact absurd (bf.key.mp q1) h3
        ·exact ⟨((nw5.mem y).mp q1).1, h3⟩
   ·rintro σ H5 ⟨new, u6, u7, s5, rfl, hF5, hD5, nw5⟩
    refine ⟨new, some (nv z), u6, u7, fun x o e hx => ?_, rfl, hF5, hD5, nw5.nd, fun x => ?_⟩
    ·by_cases hxD : x = D
     ·subst hxD; rw [hD] at e; cases e
     ·exact s5 _ _ (s4 _ _ (s3 _ _ e hx)) hx hxD
    ·rw [nw5.mem x, zAa, List.take_length, take_snoc hz]
     constructor
     ·rintro ⟨⟨y, h1, h2⟩ | h1, h3⟩
      ·exact ⟨⟨y, List.mem_append_left _ h1, h2⟩, h3⟩
      ·exact ⟨⟨z, List.mem_append_right _ (by simp), h1⟩, h3⟩
     ·rintro ⟨⟨y, h1, h2⟩, h3⟩
      rcases zBx.mp h1 with h1 | h1
      ·exact ⟨.inl ⟨y, h1, h2⟩, h3⟩
      ·have : y = z := by simpa using h1
       subst this
       exact ⟨.inr h2, h3⟩
  ·rintro σ H3 ⟨new, u5, u6, u7, s3, rfl, hF3, hD3, nw⟩
   rw [zAa, List.take_length] at nw
   have nw' : Nw n rs s m ds (fun x => ∃ y, Fst n rs s m y /\ ∃ j ∈ Kzk4.moves n rs y, Kzk3.one rs y j = x) new := ⟨nw.nd, fun x => by
    rw [nw.mem x]
    constructor
    ·rintro ⟨⟨y, h1, h2⟩, h3⟩; exact ⟨⟨y, (wb y).mp h1, h2⟩, h3⟩
    ·rintro ⟨⟨y, h1, h2⟩, h3⟩; exact ⟨⟨y, (wb y).mpr h1, h2⟩, h3⟩⟩
   refine ⟨_, rfl, fun b u e => s3 _ _ (s2 _ _ e) (ax e hF), D, new, _, some (.ref D), u5, u6, u7, hDF, hD0, rfl, hF3, hD3, bf.next nw', (List.nodup_append.mp nw.nd).2.1, fun x => ?_⟩
   rw [nw'.mem x]; exact kD
 ·have c1 : wv = [] := by
   rw [zAa] at c1
   have c1 : ¬ 0 < wv.length := fun z => c1 (zAf z)
   exact zAu.mp (by omega)
  subst c1
  have hno : ∀ x, ¬ Fst n rs s m x := fun x z => absurd ((wb x).mpr z) (by simp)
  refine ⟨_, rfl, k _ F ds s2 hF ⟨bf.nd, fun x k => ?_⟩ hFd⟩
  rw [bf.mem]
  constructor
  ·exact fun z => z.2
  ·intro z
   refine ⟨?_, z⟩
   apply zAo
   intro hk
   have := vD hno (k - m) x
   rw [show m + (k - m) = k by omega] at this
   exact this z
end
end TW
namespace TW
open PySem PySem.Spec PyProof.Rows L2 TM
open Kzk (Board Hall)
theorem pil {X : Cx} (K : PySem.W.Frag) {l tg : Expr} {tl : TE} (hl : PE X l tl) (h : X.K = K := by rfl) : PI X tg l (GH K tl) := h ▸ bz hl
theorem gw {n : Nat} {t : List Nat} {s : Nat} (hs : s < 2 ^ n) : (Kzk4.reach n t s).Pairwise (· < ·) := by
 have := wM (t := t) hs (p := fun x => (Kzk4.reach n t s).contains x) fun x _ => by rw [List.contains_iff_mem, gf hs]
 rw [this]
 exact filter_lt _ _
theorem j3 {n : Nat} {t : List Nat} {s x : Nat} (hs : s < 2 ^ n) (h : x ∈ Kzk4.reach n t s) : x < 2 ^ n := by
 obtain ⟨k, hk⟩ := (gf hs).mp h
 exact Co.lt hs hk
theorem nO {n : Nat} {t : List Nat} {s : Nat} (hs : s < 2 ^ n) : s ∈ Kzk4.reach n t s := (gf hs).mpr (qw.refl n t s)
theorem ik {n : Nat} {t : List Nat} {s : Nat} (hn : n <= 4) (hs : s < 2 ^ n) : (Kzk4.reach n t s).length <= 16 :=
 zAn (gy (2 ^ n) _ ((gw hs).imp fun {a b} h => by omega) fun x hx => j3 hs hx) (aT hn)
theorem Found.key {n : Nat} {t : List Nat} {s : Nat} {ds : List (Nat × Nat)} (b : Found n t s ds) {x : Nat} : x ∈ ds.map (·.1) <-> qw n t s x := by
 constructor
 ·intro h
  obtain ⟨⟨y, k⟩, he, rfl⟩ := zAq.mp h
  exact ⟨k, ((b.mem _ _).mp he).1⟩
 ·rintro ⟨m, h⟩
  obtain ⟨k, h1, h2⟩ := De h
  exact zAq.mpr ⟨(x, k), (b.mem x k).mpr h2, rfl⟩
theorem Found.len {n : Nat} {t : List Nat} {s : Nat} {ds : List (Nat × Nat)} (b : Found n t s ds) (hs : s < 2 ^ n) : ds.length <= 2 ^ n := by
 have := gy (2 ^ n) (ds.map (·.1)) b.nd fun x hx => by
  obtain ⟨k, hk⟩ := b.key.mp hx
  exact Co.lt hs hk
 rwa [zAa] at this
abbrev mW (n : Nat) (rs : List Nat) : List (List Nat) := (List.range (2 ^ n)).map (Kzk4.reach n rs)
theorem fC (n : Nat) (rs : List Nat) : (mW n rs).length = 2 ^ n := by simp
theorem wL {n : Nat} (rs : List Nat) {s : Nat} (h : s < 2 ^ n) : (mW n rs).getD s [] = Kzk4.reach n rs s := by
 rw [zAb, zAh, List.getElem?_range h]; rfl
theorem LL.at {K : PySem.W.Frag} {H : Hp} {a : Addr} {n : Nat} {rs : List Nat} {s : Nat} (h : LL H a (mW n rs)) (hs : s < 2 ^ n) :
  ∃ (ys : List V) (x : Addr), SqL K H a ys /\ atI ys (s : Int) = some (.ref x) /\ H x = some (.lst ((Kzk4.reach n rs s).map nv)) := by
 obtain ⟨ys, x, h1, h2, h3, h4⟩ := h.row (K := K) (j := s) (by rw [fC]; exact hs)
 rw [wL rs hs] at h4
 exact ⟨ys, x, h1, h3, h4⟩
theorem nN {n : Nat} {t : List Nat} {x : Nat} (hx : x < 2 ^ n) : Kzk4.moves n t x = [] <-> Kzk1.next n t x = x := by
 rw [ot, zCg]
 constructor
 ·intro h
  refine t6 (aS n t x) hx fun j hj => ?_
  have := h j (zAk.mpr hj)
  have e : Kzk1.isUp t j x = Kzk1.bit x j := by simpa using this
  rw [← e, d7]
  unfold Kzk1.next
  rw [bA]
  simp [hj]
 ·intro h j hj
  have hj := zAk.mp hj
  have e : Kzk1.bit (Kzk1.next n t x) j = Kzk1.isUp t j x := by
   rw [d7]
   unfold Kzk1.next
   rw [bA]
   simp [hj]
  rw [h] at e
  simp [e]
section
variable {P : Program} {w : World} {K : PySem.W.Frag} {mg : Str -> Option Value} {base : Heap} {C : Addr}
def wF (K : PySem.W.Frag) (C : Addr) : Sp := fun vs H Q _ => vs.length = 2 /\ ∃ (a : Addr) (n : Nat) (rs : List Nat) (s : Nat), vs = [.ref a, nv s] /\ NL K H a rs /\ rs.length = n /\ n <= 4 /\ s < 2 ^ n ∧
 ∀ (H' : Hp) (p : Addr), az H H' -> H p = none -> H' p = some (.lst ((Kzk4.reach n rs s).map nv)) -> Q (.ref p) H'
abbrev i4 : KK := fun P w K mg b C => Cal P w K mg b "come_to" 5 ["rules", "state"] (wF K C)
theorem xi (F : Fa K mg "come_to" (top 75)) (T : Txt K mg C) (gT : eN P w K mg base C) : i4 P w K mg base C := by
 refine okF ["rules", "state"] F fun nd f cdv A outer s0 H vs Q E hr h => ?_
 obtain ⟨_, a, n, rs, s, rfl, hS, hrl, hn, hs, k⟩ := h
 have h16 := aT hn
 refine ⟨_, (ab (af (cb (xy K w) T.iQ gu (au gT hr rfl (a2 (pv 0) (pv 1)))))), ?_⟩
 refine ⟨_, rfl, _, rfl, rfl, _, _, _, _, rfl, hS, hrl, hn, hs, fun H1 F ds s1 hF fd hFd => ?_⟩
 refine ⟨F, (ds.map fun e : Nat × Nat => ((e.1, nv e.2) : Nat × V)), rfl, hFd, by rw [zAa]; have := fd.len hs; omega, fun l' p hp ho hq => ?_⟩
 have ek : (ds.map fun e : Nat × Nat => ((e.1, nv e.2) : Nat × V)).map (·.1) = ds.map (·.1) := by rw [zAw]; rfl
 rw [ek] at hp
 have el : l' = Kzk4.reach n rs s := by
  refine xt _ _ (mZ ho (hp.nodup_iff.mpr fd.nd)) (gw hs) fun x => ?_
  rw [hp.mem_iff, fd.key, gf hs]
 subst el
 exact k _ p (ak s1 (s1.free hq)) (s1.free hq) ae
def nA (K : PySem.W.Frag) (C : Addr) : Sp := fun vs H Q _ => vs.length = 1 /\ ∃ (a : Addr) (n : Nat) (rs : List Nat), vs = [.ref a] /\ NL K H a rs /\ rs.length = n /\ n <= 4 ∧
 ∀ (H' : Hp) (p : Addr), az H H' -> H p = none -> LL H' p (mW n rs) -> Q (.ref p) H'
abbrev dR : KK := fun P w K mg b C => Cal P w K mg b "all_come_to" 6 ["rules"] (nA K C)
theorem oj (F : Fa K mg "all_come_to" (top 76)) (T : Txt K mg C) (aD : aP P w K mg base C) (lU : i4 P w K mg base C) : dR P w K mg base C := by
 refine okF ["rules", "state"] F fun nd f cdv A outer s0 H vs Q E hr h => ?_
 obtain ⟨_, a, n, rs, rfl, hS, hrl, hn, k⟩ := h
 have h16 := aT hn
 refine ⟨_, (ab (af (lc 1 nd (r1 T (au aD hr rfl (a1 (ln T (pv 0))))) (au lU hr rfl (a2 (pv 0) (pv 1)))))), ?_⟩
 refine ⟨_, rfl, _, _, rfl, .inl hS, rfl, _, rfl, ?_, _, rfl, a8 _, a9 ?_, fun D hD => ?_⟩
 ·rw [zAa]; omega
 ·rw [zAa, hrl]; omega
 rw [zAl, zAa, hrl]
 refine ox (fun _ => true) (Kzk4.reach n rs) hD (by omega) (fun j H2 hj s2 R R' r1 r2 => ?_) (fun H2 s2 hL => ?_)
 ·exact ⟨rfl, _, rfl, _, rfl, rfl, _, _, _, _, rfl, s2.seq hS, hrl, hn, hj, fun H3 q s3 hq hL => r1 rfl _ q s3 hq hL⟩
 ·rw [filter_all] at hL
  exact k _ _ s2 hD hL
def Bq (K : PySem.W.Frag) (C : Addr) : Sp := fun vs H Q _ => vs.length = 1 /\ ∃ (a : Addr) (h : Hall) (d : Ad), vs = [.ref a] /\ 1 <= h.now.n /\ Told C H a h d (Kzk.ask h.now .reach) Q
abbrev sM : KK := fun P w K mg b C => Cal P w K mg b "reach" 6 ["watch"] (Bq K C)
theorem Cj (F : Fa K mg "reach" (top 77)) (T : Txt K mg C) (lU : i4 P w K mg base C) (ah : aB P w K mg base C) : sM P w K mg base C := by
 refine okF ["watch", "found"] F fun nd f cdv A outer s0 H vs Q E hr h => ?_
 obtain ⟨_, a, h, d, rfl, hn1, W, k⟩ := h
 obtain ⟨dx, h1⟩ := W.ob
 have ok := W.ok
 have hlen := aH h.now
 have h4 := ok.n4
 have bu : Kzk.ask h.now .reach = Kzk1.told (Kzk4.reach h.now.n (Kzk.rules h.now) h.now.s) := by
  show (if Kzk1.good h.now.n h.now.s (Kzk.rules h.now) = false then _ else _) = _
  rw [eP ok hn1]; rfl
 rw [bu] at k
 refine ⟨_, (aa (st 1 nd (au lU hr rfl (a2 (bD T.cl ah hr (pv 0)) (pf K (pv 0)))))
   (ab (af (aZ cM (ay (a1 (ln T (pv 1)))) (pv 1))))), ?_⟩
 refine ⟨_, rfl, a, dx, _, rfl, h1, aO _ _, rfl, _, _, _, rfl, W, fun H1 R s1 hR hRl => ?_⟩
 refine ⟨_, rfl, a, C, dx, _, _, rfl, s1 _ _ h1, T.cl, T.ba, a0 _ _, rfl, _, _, _, _, rfl, .inl (.inl hRl), hlen, h4, ok.sb, fun H2 M s2 hM hMl => ?_⟩
 have s12 := s1.trans s2
 exact ij rfl hMl (by have := ik (t := Kzk.rules h.now) h4 ok.sb; omega) fun H' p s5 hp hL => k _ p (s12.trans s5) (s12.free hp) (bJ.of hL)
def GS (K : PySem.W.Frag) (C : Addr) : Sp := fun vs H Q _ => vs.length = 2 /\ ∃ (a : Addr) (h : Hall) (d : Ad) (x : Nat), vs = [.ref a, nv x] /\ 1 <= h.now.n /\ Told C H a h d (Kzk.ask h.now (.far x)) Q
abbrev CP : KK := fun P w K mg b C => Cal P w K mg b "far" 6 ["watch", "x"] (GS K C)
theorem HD (F : Fa K mg "far" (top 78)) (T : Txt K mg C) (gT : eN P w K mg base C) (ah : aB P w K mg base C) (aD : aP P w K mg base C) : CP P w K mg base C := by
 refine okF ["watch", "x", "few"] F fun nd f cdv A outer s0 H vs Q E hr h => ?_
 obtain ⟨_, a, h, d, x, rfl, hn1, W, k⟩ := h
 obtain ⟨dx, h1⟩ := W.ob
 have ok := W.ok
 have hlen := aH h.now
 have h4 := ok.n4
 have bu : Kzk.ask h.now (.far x) = if 2 ^ h.now.n <= x then Kzk1.say (-22) else match Kzk4.far h.now.n (Kzk.rules h.now) h.now.s x with | none => Kzk1.say (-33) | some k => Kzk1.say (k : Nat) := by
  show (if Kzk1.good h.now.n h.now.s (Kzk.rules h.now) = false \/ 2 ^ h.now.n <= x then _ else _) = _
  rw [eP ok hn1]
  by_cases c : 2 ^ h.now.n <= x
  ·rw [if_pos (.inr c), if_pos c]
  ·rw [if_neg (by simp; omega), if_neg c]; rfl
 rw [bu] at k
 refine ⟨_, (aa (aA (tc yN (pv 1) (au aD hr rfl (a1 (pf K (pv 0))))) (ab (af (ay (a1 (aK rfl T.bb))))) aj)
   (aa (st 2 nd (au gT hr rfl (a2 (bD T.cl ah hr (pv 0)) (pf K (pv 0)))))
   (aa (aA (BS (qN (vw hr) (pv 1) (pv 2))) (ab (af (ay (a1 (aK rfl T.bT))))) aj)
   (ab (af (ay (a1 (yJ (vw hr) (pv 2) (pv 1) (fun _ _ => rfl))))))))), ?_⟩
 refine ⟨_, rfl, _, rfl, a, C, dx, _, _, rfl, h1, T.cl, T.n_n, fv _ _, rfl, _, rfl, by omega, _, _, rfl, rfl, _, rfl, aJ (fun c1 => ?_) (fun c1 => ?_)⟩
 ·rw [if_pos (zAe c1)] at k
  exact ⟨by show 1 <= sizeLine; decide, fun p hp => k _ p (aq hp) hp ae⟩
 rw [if_neg (fun z => c1 (zAf z))] at k
 refine ⟨_, rfl, a, dx, _, rfl, h1, aO _ _, rfl, _, _, _, rfl, W, fun H1 R s1 hR hRl => ?_⟩
 refine ⟨_, rfl, a, C, dx, _, _, rfl, s1 _ _ h1, T.cl, T.ba, a0 _ _, rfl, _, _, _, _, rfl, .inl (.inl hRl), hlen, h4, ok.sb, fun H2 F ds s2 hF fd hFd => ?_⟩
 have s12 := s1.trans s2
 refine ⟨_, rfl, _, rfl, F, _, rfl, lX.k (k := Sum.inl (x : Int)) hFd, _, rfl, aJ (fun c2 => ?_) (fun c2 => ?_)⟩
 ·have c2 : fw (dd ds) (Sum.inl (x : Int)) = none := by simpa using c2
  have hno : ¬ qw h.now.n (Kzk.rules h.now) h.now.s x := fun z => hW.mp c2 (fd.key.mpr z)
  rw [Di ok.sb hno] at k
  exact ⟨by show 1 <= sizeLine; decide, fun p hp => k _ p (ak s12 (s12.free hp)) (s12.free hp) ae⟩
 ·have c2 : ¬ fw (dd ds) (Sum.inl (x : Int)) = none := fun z => c2 (by rw [z]; rfl)
  have K3 : x ∈ ds.map (·.1) := by
   apply zAo
   intro hno
   exact c2 (hW.mpr hno)
  obtain ⟨⟨y, m⟩, he, rfl⟩ := zAq.mp K3
  have hf := (fd.mem _ _).mp he
  rw [Dh ok.sb hf.1 hf.2] at k
  have hg : lX H2 F (nv y) (some (nv m)) := nc fd.nd he ▸ lX.k (k := Sum.inl (y : Int)) hFd
  exact ⟨_, rfl, _, rfl, F, _, rfl, hg, by show 1 <= sizeLine; decide, fun p hp => k _ p (ak s12 (s12.free hp)) (s12.free hp) ae⟩
def lZ (n : Nat) (rs : List Nat) (s : Nat) : Bool := Kzk4.inTrap n rs s && (Kzk4.reach n rs s).all fun x => decide (s <= x)
def mw (n : Nat) (rs : List Nat) (i : Nat) : List Nat := (List.range i).filter (lZ n rs)
theorem kU (n : Nat) (rs : List Nat) (i : Nat) : mw n rs (i + 1) = mw n rs i ++ if lZ n rs i = true then [i] else [] := by
 unfold mw
 rw [List.range_succ, zCc]
 congr 1
 by_cases h : lZ n rs i = true
 ·simp [h]
 ·simp [h]
theorem ud (n : Nat) (rs : List Nat) (i : Nat) : (mw n rs i).length <= i := zAn (zAm _ _) (by rw [zAr]; exact zAt _)
theorem oR {n : Nat} {rs : List Nat} {s : Nat} (hs : s < 2 ^ n) : decide ((Kzk4.reach n rs s).getD 0 0 = s) = (Kzk4.reach n rs s).all fun x => decide (s <= x) := by
 have h1 := gw (t := rs) hs
 have h2 := nO (t := rs) hs
 cases e : Kzk4.reach n rs s with
 | nil => rw [e] at h2; cases h2
 | cons y r =>
  rw [e] at h1 h2
  obtain ⟨q1, q2⟩ := zBu.mp h1
  rw [zCo, zBn, zBa]
  constructor
  ·intro hy x hx
   have hy : y = s := hy
   subst hy
   rcases zAv.mp hx with rfl | hx
   ·simp
   ·have := q1 x hx
    exact zAf (by omega)
  ·intro h
   have hy := zAe (h y zAg)
   rcases zAv.mp h2 with z | z
   ·exact z.symm
   ·have := q1 s z
    omega
def Bk (K : PySem.W.Frag) (C : Addr) : Sp := fun vs H Q _ => vs.length = 1 /\ ∃ (a : Addr) (h : Hall) (d : Ad), vs = [.ref a] /\ 1 <= h.now.n /\ Told C H a h d (Kzk.ask h.now .traps) Q
abbrev sE : KK := fun P w K mg b C => Cal P w K mg b "traps" 7 ["watch"] (Bk K C)
theorem Cc (F : Fa K mg "traps" (top 79)) (T : Txt K mg C) (fT : dR P w K mg base C) (ah : aB P w K mg base C) : sE P w K mg base C := by
 refine okF ["watch", "reached", "found", "told", "state", "back_here", "other"] F fun nd f cdv A outer s0 H vs Q E hr h => ?_
 obtain ⟨_, a, h, d, rfl, hn1, W, k⟩ := h
 obtain ⟨dx, h1⟩ := W.ob
 have ok := W.ok
 have hlen := aH h.now
 have h4 := ok.n4
 have h16 := aT h4
 have bu : Kzk.ask h.now .traps = ⟨((Kzk4.traps h.now.n (Kzk.rules h.now)).length : Nat), (Kzk4.traps h.now.n (Kzk.rules h.now)).flatMap fun s => [s, (Kzk4.reach h.now.n (Kzk.rules h.now) s).length]⟩ := by
  show (if Kzk1.okTowers h.now.n (Kzk.rules h.now) = false then _ else _) = _
  rw [bx ok hn1]; rfl
 rw [bu] at k
 generalize hn : h.now.n = n at *
 generalize hrs : Kzk.rules h.now = rs at *
 refine ⟨_, (aa (st 1 nd (au fT hr rfl (a1 (bD T.cl ah hr (pv 0)))))
   (aa (st 2 nd (ai 0))
   (aa (st 3 nd (ay bC))
   (aa (fo 4 nd (r1 T (ln T (pv 1))) (aa (st 5 nd (cb (yW K) T.zj t5 (lc 6 nd (bz (ix K (pv 1) (pv 4))) (ec (vo K) (pv 4) (ix K (pv 1) (pv 6))))))
   (ab (aA (PW.pt (dH (aM (pv 5)) (dt (tc dq (ix K (ix K (pv 1) (pv 4)) (ai 0)) (pv 4))))) (aa (iu (i := 2) nd rfl (Or.inl rfl) (ai 1) fJ)
   (aa (aX (pbm K zBj zBk bH (pv 3) (a1 (pv 4))))
   (ab (aX (pbm K zBj zBk bH (pv 3) (a1 (ln T (ix K (pv 1) (pv 4))))))))) aj))))
   (ab (af (aZ cM (ay (a1 (pv 2))) (pv 3)))))))), ?_⟩
 refine ⟨_, rfl, a, dx, _, rfl, h1, aO _ _, rfl, _, _, _, rfl, W, fun H1 R s1 hR hRl => ?_⟩
 rw [hrs] at hRl
 refine ⟨rfl, _, _, _, rfl, .inl (.inl hRl), hlen, h4, fun H2 N s2 hN hNl => ?_⟩
 have s12 := s1.trans s2
 refine ⟨zBf _, fun D hD => ?_⟩
 have hD0 := s12.free hD
 have sD := aq (o := .lst []) hD
 obtain ⟨ys, hy1, hy2⟩ := (hNl.same sD).len (K := K)
 refine ⟨_, rfl, _, _, rfl, .inl hy1, _, rfl, a8 _, a9 (by rw [hy2, fC]; omega), ?_⟩
 rw [zAl, hy2, fC]
 refine bq (fun i σ H' => az H2 H' /\ (∃ v w, σ = [some (.ref a), some (.ref N), some (nv (mw n rs i).length), some (.ref D), v, w, none]) /\ H' D = some (.lst (((mw n rs i).flatMap fun s => [s, (Kzk4.reach n rs s).length]).map nv))) ⟨sD, ⟨none, none, rfl⟩, ae⟩ ?_ ?_
 ·rintro i σ H3 hi ⟨s3, ⟨v, w', rfl⟩, hL⟩
  rw [bj]
  obtain ⟨zs1, x1, g1, g2, g3⟩ := hNl.at (K := K) hi
  have hxD : x1 ≠ D := ax g3 hD
  have K7 := ik (t := rs) h4 hi
  refine ⟨_, rfl, _, rfl, _, _, _, _, rfl, rfl, s3.seq g1, g2, x1, rfl, ⟨_, .inl (.inl (s3 _ _ g3))⟩, fun E hE => ?_⟩
  refine ku (K := K) (fun _ => true) (fun z => .bl (decide (i ∈ Kzk4.reach n rs z))) (.inl (.inl (s3 _ _ g3))) hE (by omega) (fun j z H4 hz s4 R' R'' r1 r2 => ?_) (fun H4 s4 hE4 => ?_)
  ·have hzl : z < 2 ^ n := j3 hi (zAs hz)
   obtain ⟨zs2, x2, f1, f2, f3⟩ := hNl.at (K := K) hzl
   have s34 := s3.trans s4
   refine ⟨rfl, _, rfl, _, rfl, _, rfl, _, _, _, _, rfl, rfl, s34.seq f1, f2, _, _, rfl, .inl (.inl (.inl (s34 _ _ f3))), rfl, cK _, ?_⟩
   rw [if_neg (by decide), cx]
   exact r1 rfl _ (az.refl _)
  ·rw [filter_all] at hE4
   have eb : ((Kzk4.reach n rs i).map fun z => V.bl (decide (i ∈ Kzk4.reach n rs z))) = ((Kzk4.reach n rs i).map fun z => decide (i ∈ Kzk4.reach n rs z)).map V.bl := by rw [zAw]; rfl
   rw [eb] at hE4
   refine ⟨_, _, rfl, .inl (.inl hE4), ?_⟩
   have ea : ((Kzk4.reach n rs i).map fun z => decide (i ∈ Kzk4.reach n rs z)).all id = Kzk4.inTrap n rs i := by
    unfold Kzk4.inTrap
    rw [List.all_map]
    congr 1
    funext z
    rw [zCo]
    simp
   rw [ea]
   have s34 := s3.trans s4
   have hL4 := s4 _ _ hL
   have hl1 := ud n rs i
   have hl2 := gm (fun s => (Kzk4.reach n rs s).length) (mw n rs i)
   have no : lZ n rs i = false -> az H2 H4 /\ (∃ v w, ([some (.ref a), some (.ref N), some (nv (mw n rs i).length), some (.ref D), some (nv i), some (V.bl (Kzk4.inTrap n rs i)), none] : L2.St) = [some (.ref a), some (.ref N), some (nv (mw n rs (i + 1)).length), some (.ref D), v, w, none]) /\ H4 D = some (.lst (((mw n rs (i + 1)).flatMap fun s => [s, (Kzk4.reach n rs s).length]).map nv)) := fun z => by
    rw [kU, z, if_neg (by decide), zBz]
    exact ⟨s34, ⟨some (nv i), some (V.bl (Kzk4.inTrap n rs i)), rfl⟩, hL4⟩
   refine ⟨_, rfl, _, rfl, aJ (fun c1 => ?_) (fun c1 => ?_)⟩
   ·have c1 : Kzk4.inTrap n rs i = true := c1
    have hne : 0 < (Kzk4.reach n rs i).length := List.length_pos_of_mem (nO hi)
    refine ⟨_, rfl, _, rfl, _, _, _, _, rfl, rfl, s34.seq g1, g2, _, _, _, _, rfl, rfl, .inl (.inl (s34 _ _ g3)), aQ hne, _, rfl, _, _, rfl, rfl, _, rfl, aJ (fun c2 => ?_) (fun c2 => ?_)⟩
    ·rw [oR hi] at c2
     have hq : lZ n rs i = true := by unfold lZ; rw [c1, c2]; rfl
     refine ⟨_, rfl, _, _, rfl, rfl, ?_⟩
     refine ⟨_, rfl, .inl ⟨rfl, _, .inl (.inl hL4)⟩, _, rfl, _, _, _, rfl, rfl, hL4, by rw [zAa, hl2]; exact bo (by omega), ?_⟩
     have sD4 : az H2 (upd H4 D (.lst (((mw n rs i).flatMap fun s => [s, (Kzk4.reach n rs s).length]).map nv ++ [nv i]))) := ak s34 hD
     refine ⟨_, rfl, .inl ⟨rfl, _, .inl (.inl ae)⟩, _, rfl, _, rfl, _, _, _, _, rfl, rfl, sD4.seq g1, g2, _, _, rfl, .inl (.inl (.inl (sD4 _ _ g3))), _, _, _, rfl, rfl, ae, by rw [zAi, zAa, hl2]; exact bo (by show _ + 1 <= _; omega), ?_⟩
     refine ⟨ak sD4 hD, ⟨some (nv i), some (V.bl (Kzk4.inTrap n rs i)), ?_⟩, ?_⟩
     ·rw [kU, if_pos hq, zAi]; rfl
     ·rw [ae, kU, if_pos hq, List.flatMap_append, zAp, zAa, zBy]; rfl
    ·rw [oR hi] at c2
     have c2 : ((Kzk4.reach n rs i).all fun x => decide (i <= x)) = false := by simpa using c2
     exact no (by unfold lZ; rw [c1, c2]; rfl)
   ·have c1 : Kzk4.inTrap n rs i = false := by simpa using c1
    exact jL (no (by unfold lZ; rw [c1]; rfl))
 ·rintro σ H3 ⟨s3, ⟨v, w', rfl⟩, hL⟩
  have e : mw n rs (2 ^ n) = Kzk4.traps n rs := rfl
  rw [e] at hL ⊢
  have hl1 := ud n rs (2 ^ n)
  rw [e] at hl1
  have hl2 := gm (fun s => (Kzk4.reach n rs s).length) (Kzk4.traps n rs)
  refine ⟨_, rfl, by show 1 <= sizeLine; decide, fun g hg => ⟨_, rfl, _, _, _, _, rfl, rfl, ae, aq hg _ _ hL, ?_, fun p hp => ?_⟩⟩
  ·rw [zAa, hl2]; exact bw (by show 1 + _ <= _; omega)
  have s4 := s12.trans s3
  have s6 := ak (o := .lst [nv (Kzk4.traps n rs).length]) s4 (s4.free hg)
  refine k _ p (ak s6 (s6.free hp)) (s6.free hp) (bJ.of ?_)
  rw [ae]; rfl
def GR (K : PySem.W.Frag) (C : Addr) : Sp := fun vs H Q _ => vs.length = 1 /\ ∃ (a : Addr) (h : Hall) (d : Ad), vs = [.ref a] /\ 1 <= h.now.n /\ Told C H a h d (Kzk.ask h.now .may) Q
theorem HJ {n : Nat} {rs : List Nat} {s : Nat} (hs : s < 2 ^ n) : ((Kzk3.rests n rs).map fun r => decide (r ∈ Kzk4.reach n rs s)).any id = Kzk4.mayRest n rs s := by
 unfold Kzk4.mayRest
 rw [List.any_map, zCo, zCh, zCh]
 constructor
 ·rintro ⟨r, h1, h2⟩
  exact ⟨r, zAe h2, by simpa using (cw.mp h1).2⟩
 ·rintro ⟨r, h1, h2⟩
  exact ⟨r, cw.mpr ⟨j3 hs h1, by simpa using h2⟩, zAf h1⟩
abbrev CO : KK := fun P w K mg b C => Cal P w K mg b "may" 7 ["watch"] (GR K C)
theorem HC (F : Fa K mg "may" (top 80)) (T : Txt K mg C) (bB : cc P w K mg base C) (fT : dR P w K mg base C) (ah : aB P w K mg base C) : CO P w K mg base C := by
 refine okF ["watch", "rules", "reached", "resting", "leading", "state", "rest"] F fun nd f cdv A outer s0 H vs Q E hr h => ?_
 obtain ⟨_, a, h, d, rfl, hn1, W, k⟩ := h
 obtain ⟨dx, h1⟩ := W.ob
 have ok := W.ok
 have hlen := aH h.now
 have h4 := ok.n4
 have h16 := aT h4
 have hsb := ok.sb
 have bu : Kzk.ask h.now .may = Kzk1.say (if Kzk4.surely h.now.n (Kzk.rules h.now) h.now.s then 2 else if Kzk4.mayRest h.now.n (Kzk.rules h.now) h.now.s then 1 else 0) := by
  show (if Kzk1.good h.now.n h.now.s (Kzk.rules h.now) = false then _ else _) = _
  rw [eP ok hn1]; rfl
 rw [bu] at k
 refine ⟨_, (aa (st 1 nd (bD T.cl ah hr (pv 0)))
   (aa (st 2 nd (au fT hr rfl (a1 (pv 1))))
   (aa (st 3 nd (lf 5 nd (r1 T (ln T (pv 2))) (cn (tc dq (ln T (au bB hr rfl (a2 (pv 1) (pv 5)))) (ai 0))) (pv 5)))
   (aa (st 4 nd (lf 5 nd (r1 T (ln T (pv 2))) (cn (aM (cb (GD K) T.GN DJ (lc 6 nd (pil K (pv 3)) (ec (vo K) (pv 6) (ix K (pv 2) (pv 5))))))) (pv 5)))
   (aa (aA (aM (cb (yW K) T.zj t5 (lc 5 nd (bz (ix K (pv 2) (pf K (pv 0)))) (ec (vo K) (pv 5) (pv 4))))) (ab (af (ay (a1 (aK rfl T.mM))))) aj)
   (aa (aA (tc (vo K) (pf K (pv 0)) (pv 4)) (ab (af (ay (a1 (aK rfl T.lL))))) aj)
   (ab (af (ay (a1 (aK rfl T.AI))))))))))), ?_⟩
 refine ⟨_, rfl, a, dx, _, rfl, h1, aO _ _, rfl, _, _, _, rfl, W, fun H1 R s1 hR hRl => ?_⟩
 refine ⟨_, rfl, rfl, _, _, _, rfl, .inl (.inl hRl), hlen, h4, fun H2 N s2 hN hNl => ?_⟩
 have s12 := s1.trans s2
 generalize hn : h.now.n = n at *
 generalize hrs : Kzk.rules h.now = rs at *
 obtain ⟨ys, hy1, hy2⟩ := hNl.len (K := K)
 rw [fC] at hy2
 refine ⟨_, rfl, _, _, rfl, .inl hy1, _, rfl, a8 _, a9 (by rw [hy2]; omega), fun A1 hA1 => ?_⟩
 rw [zAl, hy2]
 refine bR (fun x => Kzk1.next n rs x == x) nv hA1 (by omega) (fun j H3 hj s3 R' R'' r1 r2 => ?_) (fun H3 s3 hH3 => ?_)
 ·refine ⟨rfl, _, rfl, _, rfl, rfl, _, _, _, rfl, .inl (.inl (s3 _ _ (s2 _ _ hRl))), by omega, fun H4 M s4 hM hMl => ?_⟩
  rw [hlen] at hMl
  refine ⟨_, _, rfl, .inl (.inl (.inl hMl)), _, _, rfl, rfl, _, rfl, aJ (fun hc => ?_) (fun hc => ?_)⟩
  ·rw [zAa] at hc
   have hc : Kzk4.moves n rs j = [] := zAu.mp (zAe hc)
   exact ⟨_, rfl, r1 (by simpa using (nN hj).mp hc) _ s4⟩
  ·rw [zAa] at hc
   have hc : ¬ Kzk4.moves n rs j = [] := fun z => hc (zAf (by rw [z]; rfl))
   exact r2 (by simpa using fun z => hc ((nN hj).mpr z)) _ s4
 have hH3 : H3 A1 = some (.lst ((Kzk3.rests n rs).map nv)) := hH3
 have bX := s12.trans s3
 have K7 := fB rs h4
 refine ⟨_, rfl, _, _, rfl, .inl (s3.seq hy1), _, rfl, a8 _, a9 (by rw [hy2]; omega), fun A2 hA2 => ?_⟩
 rw [zAl, hy2]
 refine bR (Kzk4.mayRest n rs) nv hA2 (by omega) (fun j H4 hj s4 R' R'' r1 r2 => ?_) (fun H4 s4 hH4 => ?_)
 ·refine ⟨rfl, _, rfl, A1, rfl, ⟨_, .inl (.inl (s4 _ _ hH3))⟩, fun E hE => ?_⟩
  refine ku (K := K) (fun _ => true) (fun r => .bl (decide (r ∈ Kzk4.reach n rs j))) (.inl (.inl (s4 _ _ hH3))) hE (by omega) (fun i z H5 hz s5 R3 R4 q1 q2 => ?_) (fun H5 s5 hE5 => ?_)
  ·obtain ⟨zs2, x2, f1, f2, f3⟩ := hNl.at (K := K) hj
   have Jp := (s3.trans s4).trans s5
   refine ⟨rfl, _, rfl, _, rfl, _, rfl, _, _, _, _, rfl, rfl, Jp.seq f1, f2, _, _, rfl, .inl (.inl (.inl (Jp _ _ f3))), rfl, cK _, ?_⟩
   rw [if_neg (by decide), cx]
   exact q1 rfl _ (az.refl _)
  ·rw [filter_all] at hE5
   have eb : ((Kzk3.rests n rs).map fun r => V.bl (decide (r ∈ Kzk4.reach n rs j))) = ((Kzk3.rests n rs).map fun r => decide (r ∈ Kzk4.reach n rs j)).map V.bl := by rw [zAw]; rfl
   rw [eb] at hE5
   refine ⟨_, _, rfl, .inl (.inl hE5), ?_⟩
   rw [HJ hj]
   exact ⟨_, rfl, aJ (fun hc => ⟨_, rfl, r1 hc _ s5⟩) (fun hc => r2 (by simpa using hc) _ s5)⟩
 have s34 := s3.trans s4
 have uB := s12.trans s34
 have hle : ((List.range (2 ^ n)).filter (Kzk4.mayRest n rs)).length <= 16 := zAn (zAm _ _) (by rw [zAr]; exact h16)
 have fR : ∀ x, x < 2 ^ n -> decide (x ∈ (List.range (2 ^ n)).filter (Kzk4.mayRest n rs)) = Kzk4.mayRest n rs x := fun x hx => by
  rw [zCo, zBn, zBe, zAk]
  exact ⟨fun z => z.2, fun z => ⟨hx, z⟩⟩
 obtain ⟨zs2, x2, f1, f2, f3⟩ := hNl.at (K := K) hsb
 have LS := ik (t := rs) h4 hsb
 refine ⟨_, rfl, _, rfl, a, C, dx, _, _, rfl, uB _ _ h1, T.cl, T.ba, a0 _ _, _, _, _, _, rfl, rfl, s34.seq f1, f2, x2, rfl, ⟨_, .inl (.inl (s34 _ _ f3))⟩, fun E hE => ?_⟩
 refine ku (K := K) (fun _ => true) (fun z => .bl (Kzk4.mayRest n rs z)) (.inl (.inl (s34 _ _ f3))) hE (by omega) (fun i z H5 hz s5 R3 R4 q1 q2 => ?_) (fun H5 s5 hE5 => ?_)
 ·have hzl : z < 2 ^ n := j3 hsb (zAs hz)
  refine ⟨rfl, _, rfl, _, rfl, _, _, rfl, .inl (.inl (.inl (s5 _ _ hH4))), rfl, cK _, ?_⟩
  rw [if_neg (by decide), cx, fR z hzl]
  exact q1 rfl _ (az.refl _)
 ·rw [filter_all] at hE5
  have eb : ((Kzk4.reach n rs h.now.s).map fun z => V.bl (Kzk4.mayRest n rs z)) = ((Kzk4.reach n rs h.now.s).map (Kzk4.mayRest n rs)).map V.bl := by rw [zAw]; rfl
  rw [eb] at hE5
  refine ⟨_, _, rfl, .inl (.inl hE5), ?_⟩
  have ea : ((Kzk4.reach n rs h.now.s).map (Kzk4.mayRest n rs)).all id = Kzk4.surely n rs h.now.s := by
   unfold Kzk4.surely
   rw [List.all_map]; rfl
  rw [ea]
  have s6 := uB.trans s5
  refine ⟨_, rfl, aJ (fun c1 => ?_) (fun c1 => ?_)⟩
  ·rw [if_pos c1] at k
   exact ⟨by show 1 <= sizeLine; decide, fun p hp => k _ p (ak s6 (s6.free hp)) (s6.free hp) ae⟩
  ·rw [if_neg c1] at k
   refine ⟨_, rfl, a, C, dx, _, _, rfl, s6 _ _ h1, T.cl, T.ba, a0 _ _, _, rfl, _, _, rfl, .inl (.inl (.inl (s5 _ _ hH4))), rfl, cK _, _, rfl, aJ (fun c2 => ?_) (fun c2 => ?_)⟩
   ·rw [if_neg (by decide), cx, fR _ hsb] at c2
    rw [if_pos c2] at k
    exact ⟨by show 1 <= sizeLine; decide, fun p hp => k _ p (ak s6 (s6.free hp)) (s6.free hp) ae⟩
   ·rw [if_neg (by decide), cx, fR _ hsb] at c2
    rw [if_neg c2] at k
    exact ⟨by show 1 <= sizeLine; decide, fun p hp => k _ p (ak s6 (s6.free hp)) (s6.free hp) ae⟩
end
end TW
namespace TW
open PySem PySem.Spec PyProof.Rows L2 TM
open Kzk (Board Hall)
theorem kP {n v h : Nat} (hv : v < 2 ^ n) : Kzk5.within n v h = decide (v &&& h = v) := by
 rw [zCo, zBn, fU hv]
 exact fX
def Img (n : Nat) (rs : List Nat) (k x : Nat) : Prop := ∃ s, s < 2 ^ n /\ it (Kzk1.next n rs) k s = x
theorem sZ (f : Nat -> Nat) (s : Nat) : ∀ k, it f k (f s) = it f (k + 1) s
 | 0 => rfl
 | k + 1 => by show f (it f k (f s)) = f (it f (k + 1) s); rw [sZ f s k]
theorem vv {n : Nat} {rs : List Nat} {k x : Nat} (h : Img n rs (k + 1) x) : Img n rs k x := by
 obtain ⟨s, hs, e⟩ := h
 exact ⟨Kzk1.next n rs s, aS n rs s, by rw [sZ]; exact e⟩
theorem oO {n : Nat} {rs : List Nat} {k x : Nat} : Img n rs (k + 1) x <-> ∃ y, Img n rs k y /\ Kzk1.next n rs y = x := by
 constructor
 ·rintro ⟨s, hs, e⟩; exact ⟨_, ⟨s, hs, rfl⟩, e⟩
 ·rintro ⟨y, ⟨s, hs, rfl⟩, e⟩; exact ⟨s, hs, e⟩
theorem HX {n : Nat} {rs : List Nat} {k x : Nat} (h : Img n rs k x) : x < 2 ^ n := by
 obtain ⟨s, hs, rfl⟩ := h
 exact cZ (fun x _ => aS n rs x) hs k
theorem vt {n : Nat} {rs : List Nat} {k : Nat} (h : ∀ x, Img n rs k x -> Img n rs (k + 1) x) : ∀ j x, Img n rs k x <-> Img n rs (k + j) x
 | 0, x => Iff.rfl
 | j + 1, x => by
  have ih := vt h j
  constructor
  ·intro hx
   obtain ⟨y, hy, e⟩ := oO.mp (h x hx)
   exact oO.mpr ⟨y, (ih y).mp hy, e⟩
  ·intro hx
   exact (ih x).mpr (vv hx)
structure Last (n : Nat) (rs l : List Nat) : Prop where
 ord : l.Pairwise (· < ·)
 mem : ∀ x, x ∈ l <-> Img n rs (2 ^ n) x
theorem Av {n : Nat} {rs l : List Nat} (h : Last n rs l) {x : Nat} (hx : x ∈ l) : Kzk1.next n rs x ∈ l := by
 obtain ⟨s, hs, e⟩ := (h.mem x).mp hx
 refine (h.mem _).mpr ⟨Kzk1.next n rs s, aS n rs s, ?_⟩
 rw [sZ]
 show Kzk1.next n rs (it (Kzk1.next n rs) (2 ^ n) s) = _
 rw [e]
theorem yR {n : Nat} {rs l : List Nat} (h : Last n rs l) : l ≠ [] := fun e => by
 have := (h.mem _).mpr ⟨0, zCe n, rfl⟩
 rw [e] at this; cases this
theorem vn {n : Nat} {rs : List Nat} {x : Nat} (h : Last n rs [x]) : Kzk5.comesTo n rs = some x := by
 have all : ∀ s, s < 2 ^ n -> Kzk1.after n rs (2 ^ n) s = x := fun s hs => by
  have := (h.mem (it (Kzk1.next n rs) (2 ^ n) s)).mpr ⟨s, hs, rfl⟩
  rw [bg]
  simpa using this
 have hx : Kzk1.next n rs x = x := by simpa using Av h (x := x) (by simp)
 unfold Kzk5.comesTo
 rw [all 0 (zCe n)]
 show (if (Kzk1.next n rs x == x && _) = true then some x else none) = some x
 rw [if_pos]
 rw [zBg, zBa]
 exact ⟨by simpa using hx, fun s hs => by simpa using all s (zAk.mp hs)⟩
theorem qT {n : Nat} {rs l : List Nat} (h : Last n rs l) (hl : 1 < l.length) : Kzk5.comesTo n rs = none := by
 unfold Kzk5.comesTo
 show (if (_ && _) = true then some (Kzk1.after n rs (2 ^ n) 0) else none) = none
 rw [if_neg]
 intro z
 rw [zBg, zBa] at z
 have key : ∀ x ∈ l, x = Kzk1.after n rs (2 ^ n) 0 := fun x hx => by
  obtain ⟨s, hs, e⟩ := (h.mem x).mp hx
  have := z.2 s (zAk.mpr hs)
  rw [← e, ← bg]
  simpa using this
 match l, hl with
 | a :: b :: r, _ =>
  have h1 := key a (by simp)
  have h2 := key b (by simp)
  have := (zBu.mp h.ord).1 b (by simp)
  omega
theorem Fu {n : Nat} {rs l : List Nat} (h : Last n rs l) : decide (l.length = 1) = (Kzk5.comesTo n rs).isSome := by
 by_cases c : l.length = 1
 ·obtain ⟨x, rfl⟩ := List.length_eq_one_iff.mp c
  rw [vn h]; rfl
 ·have h0 := zBc.mpr (yR h)
  rw [qT h (by omega), zBm c]; rfl
theorem vz (n : Nat) (rs : List Nat) (h v : Nat) : (Kzk5.held n rs h v).length = n := by unfold Kzk5.held; simp
theorem tF (n : Nat) (rs : List Nat) : Kzk5.settles n rs (2 ^ n - 1) = true := by
 unfold Kzk5.settles
 rw [zBa]
 intro v hv
 have hv := zAk.mp hv
 rw [Bool.or_eq_true]
 right
 have hnx : ∀ s, s < 2 ^ n -> Kzk1.next n (Kzk5.held n rs (2 ^ n - 1) v) s = v := fun s hs => by
  refine t6 (aS _ _ _) hv fun j hj => ?_
  rw [d7]
  unfold Kzk1.next
  rw [bA]
  have hb : Kzk1.bit (2 ^ n - 1) j = true := by rw [d7, Nat.testBit_two_pow_sub_one]; simpa using hj
  have e : (Kzk5.held n rs (2 ^ n - 1) v).getD j 0 = if Kzk1.bit v j then 2 ^ 2 ^ n - 1 else 0 := by
   unfold Kzk5.held
   rw [zAb, zAh, List.getElem?_range hj]
   show (if Kzk1.bit (2 ^ n - 1) j = true then _ else _) = _
   rw [if_pos hb]
  unfold Kzk1.isUp
  rw [e]
  cases q : Kzk1.bit v j
  ·simp [d7]
  ·rw [if_pos rfl, d7, Nat.testBit_two_pow_sub_one]
   simp [hj, hs]
 have haf : ∀ k s, s < 2 ^ n -> it (Kzk1.next n (Kzk5.held n rs (2 ^ n - 1) v)) (k + 1) s = v := fun k s hs => hnx _ (cZ (fun x _ => aS _ _ x) hs k)
 obtain ⟨m, hm⟩ : ∃ m, 2 ^ n = m + 1 := ⟨2 ^ n - 1, by have := zCe n; omega⟩
 have ha : ∀ s, s < 2 ^ n -> Kzk1.after n (Kzk5.held n rs (2 ^ n - 1) v) (2 ^ n) s = v := fun s hs => by rw [bg]; have q := haf m s hs; rw [← hm] at q; exact q
 unfold Kzk5.comesTo
 rw [ha 0 (zCe n)]
 show Option.isSome (if (_ && _) = true then some v else none) = true
 rw [if_pos]
 ·rfl
 ·rw [zBg, zBa]
  exact ⟨by simpa using hnx v hv, fun s hs => by simpa using ha s (zAk.mp hs)⟩
section
variable {P : Program} {w : World} {K : PySem.W.Frag} {mg : Str -> Option Value} {base : Heap} {C : Addr}
theorem mv : ∀ (r : List Nat) (m : Nat), m ∈ r -> ∃ i : Nat, r[i]? = some m /\ ∀ (j y : Nat), j < i -> r[j]? = some y -> y ≠ m
 | [], m, h => by cases h
 | a :: r, m, hm => by
  by_cases c : a = m
  ·subst c; exact ⟨0, rfl, fun j y hj => absurd hj (zBq _)⟩
  ·rcases zAv.mp hm with z | z
   ·exact absurd z.symm c
   ·obtain ⟨i, h1, h2⟩ := mv r m z
    refine ⟨i + 1, h1, fun j y hj hy => ?_⟩
    cases j with
    | zero => have : a = y := zBl hy; rw [← this]; exact c
    | succ j => exact h2 j y (by omega) hy
def uj (K : PySem.W.Frag) (C : Addr) : Sp := fun vs H Q _ => vs.length = 1 /\ ∃ (a : Addr) (l : List Nat), vs = [.ref a] /\ NL K H a l /\ l ≠ [] /\ l.length <= 100 ∧
 ∀ (H' : Hp) (p : Addr) (i x : Nat), az H H' -> H p = none -> l[i]? = some x -> (∀ y ∈ l, ones x <= ones y) -> (∀ j y, j < i -> l[j]? = some y -> ones x < ones y) -> H' p = some (.lst [nv (ones x), nv x]) -> Q (.ref p) H'
abbrev gE : KK := fun P w K mg b C => Cal P w K mg b "smallest" 2 ["sets"] (uj K C)
theorem uW (F : Fa K mg "smallest" (top 59)) (T : Txt K mg C) (cD : dg P w K mg base C) : gE P w K mg base C := by
 refine okF ["sets", "sizes", "few", "towers"] F fun nd f cdv A outer s0 H vs Q E hr h => ?_
 obtain ⟨_, a, l, rfl, hA, hne, hl, k⟩ := h
 refine ⟨_, (aa (sf 1 3 nd (bz (pv 0)) rR (au cD hr rfl (a1 (pv 3))))
   (aa (st 2 nd (cb (oB K) T.vW pq (pv 1)))
   (ab (af (ay (a2 (pv 2) (ix K (pv 0) (pbm K PySem.F.slot_list_index PySem.F.type_list_index (yV K) (pv 1) (a1 (pv 2)))))))))), ?_⟩
 refine ⟨_, rfl, a, rfl, ⟨_, hA⟩, fun D hD => ?_⟩
 refine ku (K := K) (fun _ => true) (fun z => nv (ones z)) hA hD (by omega) (fun i z H2 hz s2 R R' r1 r2 => ⟨rfl, _, rfl, rfl, _, rfl, r1 rfl _ (az.refl _)⟩) (fun H1 s1 hL => ?_)
 rw [filter_all] at hL
 have e : l.map (fun z => nv (ones z)) = (l.map ones).map nv := by rw [zAw]; rfl
 rw [e] at hL
 have J8 : l.map ones ≠ [] := by simpa using hne
 have hm := iW J8
 have hle : ∀ y ∈ l.map ones, Kzk1.least (l.map ones) <= y := fun y hy => least_le hy
 obtain ⟨i, hi, hfi⟩ := mv (l.map ones) (Kzk1.least (l.map ones)) hm
 obtain ⟨x, hx, ex⟩ : ∃ x : Nat, l[i]? = some x /\ ones x = Kzk1.least (l.map ones) := by
  rw [zAh] at hi
  cases q : l[i]? with
  | none => rw [q] at hi; cases hi
  | some x => rw [q] at hi; exact ⟨x, rfl, zBl hi⟩
 have hil := (zAd.mp hx).1
 refine ⟨_, rfl, _, _, rfl, .inl (.inl hL), J8, ?_⟩
 refine ⟨_, rfl, _, rfl, _, rfl, .inl ⟨rfl, _, .inl (.inl hL)⟩, _, rfl, _, _, _, i, nv (Kzk1.least (l.map ones)), rfl, rfl, .inl (.inl hL), rfl, cK _, ?_, ?_, ?_, ?_⟩
 ·rw [zAh, hi]; rfl
 ·rw [lQ]; simp
 ·intro b z' hb hz
  rw [zAh] at hz
  cases q : (l.map ones)[b]? with
  | none => rw [q] at hz; cases hz
  | some y =>
   rw [q] at hz
   have hz : nv y = z' := zBl hz
   rw [← hz, lQ]
   exact zBm (hfi b y hb q)
 ·refine ⟨_, _, _, _, rfl, rfl, s1.seq hA, aQ hil, by show 2 <= sizeLine; decide, fun p hp => ?_⟩
  have eg : l.getD i 0 = x := by rw [zAb, hx]; rfl
  refine k _ p i x (ak s1 (s1.free hp)) (s1.free hp) hx (fun y hy => ?_) (fun j y hj hy => ?_) ?_
  ·rw [ex]; exact hle _ (zAq.mpr ⟨y, hy, rfl⟩)
  ·have h1 := hle _ (zAq.mpr ⟨y, zAs hy, rfl⟩)
   have h2 := hfi j (ones y) hj (by rw [zAh, hy]; rfl)
   omega
  ·rw [ae, eg, ex]
def pJ (K : PySem.W.Frag) (C : Addr) : Sp := fun vs H Q _ => vs.length = 2 /\ ∃ (b : Addr) (t : Nat) (ring : List Nat), vs = [nv t, .ref b] /\ NL K H b ring /\ ring.length <= 100 /\ ∀ H' : Hp, az H H' -> Q (.bl (ring.any (Kzk1.bit t))) H'
abbrev gF : KK := fun P w K mg b C => Cal P w K mg b "has_one_of" 2 ["towers", "ring"] (pJ K C)
theorem p8 (F : Fa K mg "has_one_of" (top 60)) (T : Txt K mg C) (cp : dQ P w K mg base C) : gF P w K mg base C := by
 refine okF ["towers", "ring", "j"] F fun nd f cdv A outer s0 H vs Q E hr h => ?_
 obtain ⟨_, b, t, ring, rfl, hB, hl, k⟩ := h
 refine ⟨_, (ab (af (cb (GD K) T.GN DJ (lc 2 nd (bz (pv 1)) (au cp hr rfl (a2 (pv 0) (pv 2))))))), ?_⟩
 refine ⟨_, rfl, b, rfl, ⟨_, hB⟩, fun D hD => ?_⟩
 refine ku (K := K) (fun _ => true) (fun z => .bl (Kzk1.bit t z)) hB hD (by omega) (fun i z H2 hz s2 R R' r1 r2 => ⟨rfl, _, rfl, _, rfl, rfl, _, _, rfl, r1 rfl _ (az.refl _)⟩) (fun H1 s1 hL => ?_)
 rw [filter_all] at hL
 have e : ring.map (fun z => V.bl (Kzk1.bit t z)) = (ring.map (Kzk1.bit t)).map V.bl := by rw [zAw]; rfl
 rw [e] at hL
 refine ⟨_, _, rfl, .inl (.inl hL), ?_⟩
 have e2 : (ring.map (Kzk1.bit t)).any id = ring.any (Kzk1.bit t) := by rw [List.any_map]; rfl
 rw [e2]
 exact k _ s1
theorem uz {n : Nat} {q : Nat -> Bool} {i x : Nat} (hx : ((List.range (2 ^ n)).filter q)[i]? = some x) (h1 : ∀ y ∈ (List.range (2 ^ n)).filter q, ones x <= ones y) (h2 : ∀ j y, j < i -> ((List.range (2 ^ n)).filter q)[j]? = some y -> ones x < ones y) :
  (((List.range (2 ^ n)).filter q).find? fun h => ((List.range (2 ^ n)).filter q).all fun x => decide (Kzk5.size n h <= Kzk5.size n x)) = some x /\ Kzk5.size n x = ones x := by
 have hsz : ∀ y, y < 2 ^ n -> ones y = Kzk5.size n y := fun y hy => eT n y hy
 obtain ⟨m1, m2⟩ := zBe.mp (zAs hx)
 have m1 := zAk.mp m1
 refine ⟨AK m1 m2 (fun y hy hq => ?_) (fun y hy hq => ?_), (hsz x m1).symm⟩
 ·rw [← hsz x m1, ← hsz y hy]
  exact h1 y (zBe.mpr ⟨zAk.mpr hy, hq⟩)
 ·have hy2 : y < 2 ^ n := by omega
  have hm : y ∈ (List.range (2 ^ n)).filter q := zBe.mpr ⟨zAk.mpr hy2, hq⟩
  obtain ⟨j, hj⟩ := List.mem_iff_getElem?.mp hm
  rw [← hsz x m1, ← hsz y hy2]
  refine h2 j y ?_ hj
  apply zAo
  intro hji
  obtain ⟨jl, je⟩ := zAd.mp hj
  obtain ⟨il, ie⟩ := zAd.mp hx
  rcases Nat.lt_or_ge i j with c | c
  ·have := List.pairwise_iff_getElem.mp (filter_lt (2 ^ n) q) i j il jl c
   rw [ie, je] at this
   omega
  ·have : i = j := by omega
   subst this
   rw [ie] at je
   omega
def my (K : PySem.W.Frag) (C : Addr) : Sp := fun vs H Q _ => vs.length = 2 /\ ∃ (a : Addr) (n : Nat) (xss : List (List Nat)), vs = [.ref a, nv n] /\ LL H a xss /\ n <= 4 /\ xss.length <= 4096 /\ (∀ r ∈ xss, r ≠ [] /\ r.length <= 100 /\ ∀ j ∈ r, j < n) ∧
 ∀ (H' : Hp) (p : Addr), az H H' -> H p = none -> bJ H' p ⟨(Kzk5.size n (Kzk5.cut n xss) : Nat), [Kzk5.cut n xss]⟩ -> Q (.ref p) H'
abbrev dw : KK := fun P w K mg b C => Cal P w K mg b "smallest_cut" 3 ["found", "n"] (my K C)
theorem mI (F : Fa K mg "smallest_cut" (top 61)) (T : Txt K mg C) (jR : gE P w K mg base C) (aD : aP P w K mg base C) (tW : gF P w K mg base C) : dw P w K mg base C := by
 refine okF ["found", "n", "sets", "towers", "ring"] F fun nd f cdv A outer s0 H vs Q E hr h => ?_
 obtain ⟨_, a, n, xss, rfl, hA, hn, hxl, hrg, k⟩ := h
 have h16 := aT hn
 obtain ⟨as, hAa, hAl, hAr⟩ := id hA
 obtain ⟨q, hq⟩ : ∃ q : Nat -> Bool, q = fun h => xss.all fun r => r.any (Kzk1.bit h) := ⟨_, rfl⟩
 refine ⟨_, (aa (st 2 nd (ay bC))
   (aa (fo 3 nd (r1 T (au aD hr rfl (a1 (pv 1)))) (ab (aA (aM (cb (yW K) T.zj t5 (lc 4 nd (bz (pv 0)) (au tW hr rfl (a2 (pv 3) (pv 4)))))) (ab (aX (pbm K zBj zBk bH (pv 2) (a1 (pv 3))))) aj)))
   (ab (af (au jR hr rfl (a1 (pv 2))))))), ?_⟩
 refine ⟨zBf _, fun D hD => ?_⟩
 have sD := aq (o := .lst []) hD
 refine ⟨_, rfl, rfl, _, rfl, by omega, _, rfl, a8 _, a9 (by omega), ?_⟩
 rw [zAl]
 refine bq (fun i σ H' => az H H' /\ (∃ v, σ = [some (.ref a), some (nv n), some (.ref D), v, none]) /\ H' D = some (.lst (((List.range i).filter q).map nv))) ⟨sD, ⟨none, rfl⟩, ae⟩ ?_ ?_
 ·rintro i σ H1 hi ⟨s1, ⟨v, rfl⟩, hL⟩
  rw [bj]
  refine ⟨_, rfl, a, rfl, ⟨_, .inl (.inl (s1 _ _ hAa))⟩, fun E hE => ?_⟩
  refine yQ (K := K) (fun _ => true) (fun r => .bl (r.any (Kzk1.bit i))) (hA.same s1) hE (by omega) (fun j x l H2 hj s2 hx R R' r1 r2 => ?_) (fun H2 s2 hE2 => ?_)
  ·exact ⟨rfl, _, rfl, _, rfl, rfl, _, _, _, rfl, .inl (.inl hx), (hrg l (zAs hj)).2.1, fun H3 s3 => r1 rfl _ s3⟩
  ·rw [filter_all] at hE2
   have e : xss.map (fun r => V.bl (r.any (Kzk1.bit i))) = (xss.map fun r => r.any (Kzk1.bit i)).map V.bl := by rw [zAw]; rfl
   rw [e] at hE2
   refine ⟨_, _, rfl, .inl (.inl hE2), ?_⟩
   have e2 : (xss.map fun r => r.any (Kzk1.bit i)).all id = q i := by rw [hq, List.all_map]; rfl
   rw [e2]
   have s12 := s1.trans s2
   have hsn := jt q nv i
   refine ⟨_, rfl, aJ (fun c => ?_) (fun c => ?_)⟩
   ·refine ⟨_, rfl, .inl ⟨rfl, _, .inl (.inl (s2 _ _ hL))⟩, _, rfl, _, _, _, rfl, rfl, s2 _ _ hL, ?_, ak s12 hD, ⟨some (nv i), rfl⟩, ?_⟩
    ·rw [zAa]
     refine bo (zAn (zAm _ _) ?_)
     rw [zAr]; omega
    ·rw [ae, hsn, if_pos c]
   ·refine ⟨s12, ⟨some (nv i), rfl⟩, ?_⟩
    rw [hsn, if_neg c]; exact s2 _ _ hL
 ·rintro σ H1 ⟨s1, ⟨v, rfl⟩, hL⟩
  have C1 : 2 ^ n - 1 ∈ (List.range (2 ^ n)).filter q := by
   have h2 := zCe n
   refine zBe.mpr ⟨zAk.mpr (by omega), ?_⟩
   rw [hq]
   show (xss.all fun r => r.any (Kzk1.bit (2 ^ n - 1))) = true
   rw [zBa]
   intro r hrm
   obtain ⟨r1, r2, r3⟩ := hrg r hrm
   rw [zCh]
   obtain ⟨j, hj⟩ := List.exists_mem_of_ne_nil r r1
   refine ⟨j, hj, ?_⟩
   rw [d7, Nat.testBit_two_pow_sub_one]
   simpa using r3 j hj
  refine ⟨_, rfl, rfl, _, _, rfl, .inl (.inl hL), List.ne_nil_of_mem C1, zAn (zAm _ _) (by rw [zAr]; omega), fun H2 p i x s2 hp hx h1 h2 hP => ?_⟩
  obtain ⟨e1, e2⟩ := uz hx h1 h2
  have ec : Kzk5.cut n xss = x := by
   unfold Kzk5.cut Kzk1.states
   rw [← hq]
   show (List.find? _ ((List.range (2 ^ n)).filter q)).getD 0 = x
   rw [e1]; rfl
  rw [ec, e2] at k
  exact k _ p (s1.trans s2) (s1.free hp) (bJ.of hP)
def GU (K : PySem.W.Frag) (C : Addr) : Sp := fun vs H Q _ => vs.length = 1 /\ ∃ (a : Addr) (h : Hall) (d : Ad), vs = [.ref a] /\ 1 <= h.now.n /\ Told C H a h d (Kzk.ask h.now .cut) Q
theorem yx {n : Nat} {rs r : List Nat} (hn : n <= 4) (h : r ∈ Kzk2.all n (Kzk2.kinds n rs)) : r ≠ [] /\ r.length <= 100 /\ ∀ j ∈ r, j < n := by
 obtain ⟨⟨f1, f2, f3⟩, _⟩ := gv h
 exact ⟨f1, by omega, f3⟩
abbrev CQ : KK := fun P w K mg b C => Cal P w K mg b "cut" 6 ["watch"] (GU K C)
theorem HE (F : Fa K mg "cut" (top 62)) (T : Txt K mg C) (fm : dw P w K mg base C) (gO : iZ P w K mg base C) (bP : cA P w K mg base C) (ah : aB P w K mg base C) : CQ P w K mg base C := by
 refine okF ["watch"] F fun nd f cdv A outer s0 H vs Q E hr h => ?_
 obtain ⟨_, a, h, d, rfl, hn1, W, k⟩ := h
 obtain ⟨dx, h1⟩ := W.ob
 have ok := W.ok
 have hlen := aH h.now
 have h4 := ok.n4
 have bu : Kzk.ask h.now .cut = ⟨(Kzk5.size h.now.n (Kzk5.cut h.now.n (Kzk5.rings h.now.n (Kzk.rules h.now))) : Nat), [Kzk5.cut h.now.n (Kzk5.rings h.now.n (Kzk.rules h.now))]⟩ := by
  show (if Kzk1.okTowers h.now.n (Kzk.rules h.now) = false then _ else _) = _
  rw [bx ok hn1]; rfl
 rw [bu] at k
 refine ⟨_, (ab (af (au fm hr rfl (a2 (au gO hr rfl (a1 (au bP hr rfl (a1 (bD T.cl ah hr (pv 0)))))) (pf K (pv 0)))))), ?_⟩
 refine ⟨_, rfl, a, dx, _, rfl, h1, aO _ _, rfl, _, _, _, rfl, W, fun H1 R s1 hR hRl => ?_⟩
 refine ⟨rfl, _, _, rfl, .inl (.inl hRl), by rw [hlen]; exact h4, fun H2 N s2 hN hNl => ?_⟩
 rw [hlen] at hNl
 refine ⟨rfl, _, _, _, rfl, hNl, d4 _ _, h4, fun H3 G s3 hG hGl => ?_⟩
 have bX := (s1.trans s2).trans s3
 exact ⟨_, rfl, a, C, dx, _, _, rfl, bX _ _ h1, T.cl, T.n_n, fv _ _, rfl, _, _, _, rfl, hGl, h4, i8 _ h4, fun r hr => yx h4 hr, fun H4 p s4 hp hA => k _ p (bX.trans s4) (bX.free hp) hA⟩
def uw (K : PySem.W.Frag) (C : Addr) : Sp := fun vs H Q _ => vs.length = 1 /\ ∃ (a : Addr) (h : Hall) (d : Ad), vs = [.ref a] /\ 1 <= h.now.n /\ Told C H a h d (Kzk.ask h.now .cutEven) Q
abbrev jJ : KK := fun P w K mg b C => Cal P w K mg b "cut_even" 6 ["watch"] (uw K C)
theorem vb (F : Fa K mg "cut_even" (top 63)) (T : Txt K mg C) (fm : dw P w K mg base C) (gS : eM P w K mg base C) (bP : cA P w K mg base C) (ah : aB P w K mg base C) : jJ P w K mg base C := by
 refine okF ["watch"] F fun nd f cdv A outer s0 H vs Q E hr h => ?_
 obtain ⟨_, a, h, d, rfl, hn1, W, k⟩ := h
 obtain ⟨dx, h1⟩ := W.ob
 have ok := W.ok
 have hlen := aH h.now
 have h4 := ok.n4
 have bu : Kzk.ask h.now .cutEven = ⟨(Kzk5.size h.now.n (Kzk5.cut h.now.n (evs h.now.n (Kzk.rules h.now))) : Nat), [Kzk5.cut h.now.n (evs h.now.n (Kzk.rules h.now))]⟩ := by
  show (if Kzk1.okTowers h.now.n (Kzk.rules h.now) = false then _ else _) = _
  rw [bx ok hn1]; rfl
 rw [bu] at k
 refine ⟨_, (ab (af (au fm hr rfl (a2 (au gS hr rfl (a1 (au bP hr rfl (a1 (bD T.cl ah hr (pv 0)))))) (pf K (pv 0)))))), ?_⟩
 refine ⟨_, rfl, a, dx, _, rfl, h1, aO _ _, rfl, _, _, _, rfl, W, fun H1 R s1 hR hRl => ?_⟩
 refine ⟨rfl, _, _, rfl, .inl (.inl hRl), by rw [hlen]; exact h4, fun H2 N s2 hN hNl => ?_⟩
 rw [hlen] at hNl
 refine ⟨rfl, _, _, _, rfl, hNl, h4, fun H3 G s3 hG hGl => ?_⟩
 have bX := (s1.trans s2).trans s3
 exact ⟨_, rfl, a, C, dx, _, _, rfl, bX _ _ h1, T.cl, T.n_n, fv _ _, rfl, _, _, _, rfl, hGl, h4, zAn (zAm _ _) (i8 _ h4), fun r hr => yx h4 (zBe.mp hr).1, fun H4 p s4 hp hA => k _ p (bX.trans s4) (bX.free hp) hA⟩
def jY (K : PySem.W.Frag) (C : Addr) : Sp := fun vs H Q _ => vs.length = 1 /\ ∃ (a : Addr) (n : Nat) (rs : List Nat), vs = [.ref a] /\ NL K H a rs /\ rs.length = n /\ n <= 4 ∧
 ∀ (H' : Hp) (p : Addr) (l : List Nat), az H H' -> H p = none -> Last n rs l -> H' p = some (.lst (l.map nv)) -> Q (.ref p) H'
abbrev cS : KK := fun P w K mg b C => Cal P w K mg b "lasting_states" 4 ["rules"] (jY K C)
theorem kn (F : Fa K mg "lasting_states" (top 64)) (T : Txt K mg C) (aw : aF P w K mg base C) : cS P w K mg base C := by
 refine okF ["rules", "nexts", "states", "behind", "state"] F fun nd f cdv A outer s0 H vs Q E hr h => ?_
 obtain ⟨_, a, n, rs, rfl, hS, hrl, hn, k⟩ := h
 have h16 := aT hn
 have h2p := zCe n
 refine ⟨_, (aa (st 1 nd (au aw hr rfl (a1 (pv 0))))
   (aa (st 2 nd (bZ (fS rfl) (by rfl) T.jS gW (aL (lg rfl T.i7 (a1 (ln T (pv 1)))) bC)))
   (aa (st 3 nd (cb (jD K w) T.iQ gu (bZ (CM K w) (by rfl) T.DM yh (a1 (pv 1)))))
   (aa (dX PassesOwn.never (tc nY (ln T (pv 3)) (ln T (pv 2))) (aa (st 2 nd (pv 3))
   (ab (st 3 nd (cb (jD K w) T.iQ gu (bZ (CM K w) (by rfl) T.DM yh (a1 (lc 4 nd (bz (pv 2)) (ix K (pv 1) (pv 4))))))))))
   (ab (af (pv 2))))))), ?_⟩
 refine ⟨_, rfl, rfl, _, _, rfl, hS, by omega, fun H1 N s1 hN hNl => ?_⟩
 rw [hrl] at hNl
 refine ⟨_, rfl, _, _, rfl, .inl (.inl (.inl hNl)), _, rfl, fun r hr1 => ⟨r, _, rfl, ae, by rw [zAa, aR]; omega, fun G hG => ?_⟩⟩
 rw [zAa, aR] at hG ⊢
 have s2 : az H1 (upd (upd H1 r (.rng 0 ((2 ^ n : Nat) : Int))) G (.lst ((List.range (2 ^ n)).map nv))) := ak (aq hr1) (aV hG)
 generalize hH2 : upd (upd H1 r (.rng 0 ((2 ^ n : Nat) : Int))) G (.lst ((List.range (2 ^ n)).map nv)) = H2 at s2 ⊢
 have hG2 : H2 G = some (.lst ((List.range (2 ^ n)).map nv)) := by rw [← hH2]; exact ae
 have hG0 : H G = none := s1.free (aV hG)
 have hnx : ∀ x ∈ ff n rs, x < 2 ^ n := fun x hx => by
  obtain ⟨y, _, rfl⟩ := zAq.mp hx
  exact aS n rs y
 refine ⟨_, rfl, _, _, rfl, .inl (.inl (s2 _ _ hNl)), fun x hx => zBh (hnx x hx) h16, fun p hp => ⟨p, _, rfl, ae, fun l1 q hnd hm ho hq => ?_⟩⟩
 have s3 := ak (o := vY w p (ff n rs)) s2 (s2.free hp)
 have s4 := ak (o := .lst (l1.map nv)) s3 (s3.free hq)
 have i0 : ∀ x, x ∈ List.range (2 ^ n) <-> Img n rs 0 x := fun x => by
  rw [zAk]
  exact ⟨fun h => ⟨x, h, rfl⟩, fun ⟨s, hs, e⟩ => by rw [← e]; exact hs⟩
 have i1 : ∀ x, x ∈ l1 <-> Img n rs 1 x := fun x => by
  rw [hm x, zAq]
  constructor
  ·rintro ⟨y, hy, e⟩; exact ⟨y, zAk.mp hy, e⟩
  ·rintro ⟨y, hy, e⟩; exact ⟨y, zAk.mpr hy, e⟩
 have hNq : ∀ (H' : Hp), az H1 H' -> NL K H' N (ff n rs) := fun H' ss => .inl (.inl (ss _ _ hNl))
 refine ⟨fun μ σ H' => az H1 H' /\ ∃ k st bh ls lb v, ls.length = μ /\ σ = [some (.ref a), some (.ref N), some (.ref st), some (.ref bh), v] /\ H st = none /\ H bh = none /\ H' st = some (.lst (ls.map nv)) /\ H' bh = some (.lst (lb.map nv)) /\ ls.Pairwise (· < ·) /\ lb.Pairwise (· < ·) /\ k + ls.length <= 2 ^ n /\ (∀ x, x ∈ ls <-> Img n rs k x) /\ (∀ x, x ∈ lb <-> Img n rs (k + 1) x),
  ⟨2 ^ n, s4, 0, G, q, List.range (2 ^ n), l1, none, by simp, rfl, hG0, s1.free (s3.free hq), ?_, ae, List.pairwise_lt_range, mZ ho hnd, by simp, i0, i1⟩, ?_⟩
 ·exact (ak (o := .lst (l1.map nv)) (aq (o := vY w p (ff n rs)) hp) (aV hq)) _ _ hG2
 rintro μ σ H3 ⟨s5, kk, st, bh, ls, lb, v, rfl, rfl, K5, Ll, hst, hbh, o1, o2, hkl, m1, m2⟩
 have FC : ∀ x ∈ lb, x ∈ ls := fun x hx => (m1 x).mpr (vv ((m2 x).mp hx))
 have Kb : lb.Nodup := o2.imp fun {a b} q => by omega
 have hle := sub_len lb ls Kb FC
 refine ⟨_, rfl, _, _, rfl, .inl (.inl (.inl hbh)), _, rfl, _, _, rfl, .inl (.inl (.inl hst)), _, _, rfl, rfl, _, rfl, aJ (fun c => ?_) (fun c => ?_)⟩
 ·have c : lb.length < ls.length := by rw [zAa, zAa] at c; exact zAe c
  refine ⟨fun σ' H' => az H1 H' /\ ∃ bh' lb' v, σ' = [some (.ref a), some (.ref N), some (.ref bh), some (.ref bh'), v] /\ H bh' = none /\ H' bh = some (.lst (lb.map nv)) /\ H' bh' = some (.lst (lb'.map nv)) /\ lb'.Pairwise (· < ·) /\ (∀ x, x ∈ lb' <-> Img n rs (kk + 1 + 1) x), fun σ' H' ⟨z0, bh', lb', v', z1, z2, z3, z4, z5, z6⟩ => ⟨lb.length, c, z0, kk + 1, bh, bh', lb, lb', v', rfl, z1, Ll, z2, z3, z4, o2, z5, by omega, m2, z6⟩, ?_⟩
  refine ⟨_, rfl, _, rfl, bh, rfl, ⟨_, .inl (.inl hbh)⟩, fun D hD => ?_⟩
  refine ku (K := K) (fun _ => true) (fun z => nv (Kzk1.next n rs z)) (.inl (.inl hbh)) hD (by omega) (fun i z H4 hz s6 R R' r1 r2 => ?_) (fun H4 s6 hL => ?_)
  ·have hzl : z < 2 ^ n := HX ((m2 z).mp (zAs hz))
   refine ⟨rfl, _, rfl, _, rfl, _, _, _, _, rfl, rfl, hNq _ (s5.trans s6), aQ (by rw [aR]; exact hzl), ?_⟩
   rw [bE rs hzl]
   exact r1 rfl _ (az.refl _)
  ·rw [filter_all] at hL
   have e : lb.map (fun z => nv (Kzk1.next n rs z)) = (lb.map (Kzk1.next n rs)).map nv := by rw [zAw]; rfl
   rw [e] at hL
   have s56 := s5.trans s6
   refine ⟨_, _, rfl, .inl (.inl hL), fun x hx => ?_, fun p hp => ⟨p, _, rfl, ae, fun l2 q hnd hm ho hq => ?_⟩⟩
   ·obtain ⟨y, _, rfl⟩ := zAq.mp hx
    exact zBh (aS n rs y) h16
   ·have t1 : az H3 (upd (upd H4 p (vY w p (lb.map (Kzk1.next n rs)))) q (.lst (l2.map nv))) := ak (ak s6 (s6.free hp)) (s6.free (aV hq))
    refine ⟨s5.trans t1, q, l2, v, rfl, s1.free (s56.free (aV hq)), t1 _ _ hbh, ae, mZ ho hnd, fun x => ?_⟩
    rw [hm x, zAq, oO]
    constructor
    ·rintro ⟨y, hy, e⟩; exact ⟨y, (m2 y).mp hy, e⟩
    ·rintro ⟨y, hy, e⟩; exact ⟨y, (m2 y).mpr hy, e⟩
 ·have c : ls.length <= lb.length := by
   rw [zAa, zAa] at c
   have : ¬ lb.length < ls.length := fun z => c (zAf z)
   omega
  have J4 : ∀ x, Img n rs kk x -> Img n rs (kk + 1) x := fun x hx => by
   apply zAo
   intro hno
   have := sub_len (x :: lb) ls (zBv.mpr ⟨fun z => hno ((m2 x).mp z), Kb⟩) fun y hy => by
    rcases zAv.mp hy with rfl | hy
    ·exact (m1 y).mpr hx
    ·exact FC y hy
   rw [zAz] at this
   omega
  refine ⟨_, rfl, k _ st ls (s1.trans s5) K5 ⟨o1, fun x => ?_⟩ hst⟩
  rw [m1 x, vt J4 (2 ^ n - kk) x, show kk + (2 ^ n - kk) = 2 ^ n by omega]
def pP (K : PySem.W.Frag) (C : Addr) : Sp := fun vs H Q _ => vs.length = 1 /\ ∃ (a : Addr) (n : Nat) (rs : List Nat), vs = [.ref a] /\ NL K H a rs /\ rs.length = n /\ n <= 4 /\ ∀ H' : Hp, az H H' -> Q (.bl (Kzk5.comesTo n rs).isSome) H'
abbrev gH : KK := fun P w K mg b C => Cal P w K mg b "all_settle" 5 ["rules"] (pP K C)
theorem qg (F : Fa K mg "all_settle" (top 65)) (T : Txt K mg C) (dN : cS P w K mg base C) : gH P w K mg base C := by
 refine okF ["rules"] F fun nd f cdv A outer s0 H vs Q E hr h => ?_
 obtain ⟨_, a, n, rs, rfl, hS, hrl, hn, k⟩ := h
 refine ⟨_, (ab (af (ec dq (ln T (au dN hr rfl (a1 (pv 0)))) (ai 1)))), ?_⟩
 refine ⟨_, rfl, rfl, _, _, _, rfl, hS, hrl, hn, fun H1 L l s1 hL hl hLl => ?_⟩
 refine ⟨_, _, rfl, .inl (.inl (.inl hLl)), _, _, rfl, rfl, ?_⟩
 show Q (.bl (decide ((l.map nv).length = 1))) H1
 rw [zAa, Fu hl]
 exact k _ s1
def nq (K : PySem.W.Frag) (C : Addr) : Sp := fun vs H Q _ => vs.length = 2 /\ ∃ (a : Addr) (n : Nat) (rs : List Nat) (t : Nat), vs = [.ref a, nv t] /\ NL K H a rs /\ rs.length = n /\ n <= 4 /\ ∀ H' : Hp, az H H' -> Q (.bl (Kzk5.settles n rs t)) H'
abbrev fO : KK := fun P w K mg b C => Cal P w K mg b "settles_all" 6 ["rules", "towers"] (nq K C)
theorem n8 (F : Fa K mg "settles_all" (top 66)) (T : Txt K mg C) (aD : aP P w K mg base C) (tZ : gH P w K mg base C) (dE : dz P w K mg base C) (cj : dh P w K mg base C) : fO P w K mg base C := by
 refine okF ["rules", "towers", "state"] F fun nd f cdv A outer s0 H vs Q E hr h => ?_
 obtain ⟨_, a, n, rs, t, rfl, hS, hrl, hn, k⟩ := h
 have h16 := aT hn
 refine ⟨_, (aa (fo 2 nd (r1 T (au aD hr rfl (a1 (ln T (pv 0))))) (ab (aA (PW.pt (dH (aM (au cj hr rfl (a2 (pv 2) (pv 1)))) (dt (cg (aM (au tZ hr rfl (a1 (au dE hr rfl (a3 (pv 0) (pv 1) (pv 2)))))))))) (ab (af yK)) aj)))
   (ab (af yK))), ?_⟩
 refine ⟨_, rfl, _, _, rfl, .inl hS, rfl, _, rfl, ?_, _, rfl, a8 _, a9 ?_, ?_⟩
 ·rw [zAa]; omega
 ·rw [zAa, hrl]; omega
 rw [zAl, zAa, hrl]
 refine bq (fun i σ H' => az H H' /\ (∃ v, σ = [some (.ref a), some (nv t), v]) /\ ∀ v, v < i -> (!Kzk5.within n v t || (Kzk5.comesTo n (Kzk5.held n rs t v)).isSome) = true) ⟨az.refl _, ⟨none, rfl⟩, fun v hv => absurd hv (zBq _)⟩ ?_ ?_
 ·rintro i σ H1 hi ⟨s1, ⟨v, rfl⟩, hok⟩
  rw [bj]
  have yes : ∀ (H' : Hp), az H1 H' -> (!Kzk5.within n i t || (Kzk5.comesTo n (Kzk5.held n rs t i)).isSome) = true -> az H H' /\ (∃ v, ([some (.ref a), some (nv t), some (nv i)] : L2.St) = [some (.ref a), some (nv t), v]) /\ ∀ v, v < i + 1 -> (!Kzk5.within n v t || (Kzk5.comesTo n (Kzk5.held n rs t v)).isSome) = true := fun H' ss hy => ⟨s1.trans ss, ⟨some (nv i), rfl⟩, fun v hv => by
   by_cases e : v = i
   ·subst e; exact hy
   ·exact hok v (by omega)⟩
  refine ⟨_, rfl, _, rfl, rfl, _, _, rfl, _, rfl, aJ (fun c1 => ?_) (fun c1 => ?_)⟩
  ·have c1 : decide (i &&& t = i) = true := c1
   rw [← kP hi] at c1
   refine ⟨_, rfl, _, rfl, _, rfl, rfl, _, _, _, _, rfl, s1.seq hS, by omega, fun H2 L s2 hL hLl => ?_⟩
   rw [hrl] at hLl
   refine ⟨rfl, _, _, _, rfl, .inl (.inl hLl), vz _ _ _ _, hn, fun H3 s3 => ⟨_, rfl, aJ (fun c2 => ?_) (fun c2 => ?_)⟩⟩
   ·have c2 : (Kzk5.comesTo n (Kzk5.held n rs t i)).isSome = false := by
     cases q : (Kzk5.comesTo n (Kzk5.held n rs t i)).isSome
     ·rfl
     ·rw [q] at c2; cases c2
    have hf : Kzk5.settles n rs t = false := by
     apply Bool.eq_false_iff.mpr
     intro z
     have := zBa.mp z i (zAk.mpr hi)
     rw [c1, c2] at this
     cases this
    have k2 := k H3 ((s1.trans s2).trans s3)
    rw [hf] at k2
    exact k2
   ·have c2 : (Kzk5.comesTo n (Kzk5.held n rs t i)).isSome = true := by
     cases q : (Kzk5.comesTo n (Kzk5.held n rs t i)).isSome
     ·rw [q] at c2; exact absurd rfl c2
     ·rfl
    exact yes _ (s2.trans s3) (by rw [c2]; simp)
  ·have c1 : decide (i &&& t = i) = false := by simpa using c1
   rw [← kP hi] at c1
   exact jL (yes _ (az.refl _) (by rw [c1]; rfl))
 ·rintro σ H1 ⟨s1, ⟨v, rfl⟩, hok⟩
  have ht : Kzk5.settles n rs t = true := zBa.mpr fun v hv => hok v (zAk.mp hv)
  have k2 := k H1 s1
  rw [ht] at k2
  exact k2
def zH (K : PySem.W.Frag) (C : Addr) : Sp := fun vs H Q _ => vs.length = 1 /\ ∃ (a : Addr) (h : Hall) (d : Ad), vs = [.ref a] /\ 1 <= h.now.n /\ Told C H a h d (Kzk.ask h.now .fewest) Q
abbrev oI : KK := fun P w K mg b C => Cal P w K mg b "fewest" 7 ["watch"] (zH K C)
theorem Ak (F : Fa K mg "fewest" (top 67)) (T : Txt K mg C) (jR : gE P w K mg base C) (aD : aP P w K mg base C) (qp : fO P w K mg base C) (ah : aB P w K mg base C) : oI P w K mg base C := by
 refine okF ["watch", "rules", "towers"] F fun nd f cdv A outer s0 H vs Q E hr h => ?_
 obtain ⟨_, a, h, d, rfl, hn1, W, k⟩ := h
 obtain ⟨dx, h1⟩ := W.ob
 have ok := W.ok
 have hlen := aH h.now
 have h4 := ok.n4
 have h16 := aT h4
 have bu : Kzk.ask h.now .fewest = ⟨(Kzk5.size h.now.n (Kzk5.fewest h.now.n (Kzk.rules h.now)) : Nat), [Kzk5.fewest h.now.n (Kzk.rules h.now)]⟩ := by
  show (if Kzk1.okTowers h.now.n (Kzk.rules h.now) = false then _ else _) = _
  rw [bx ok hn1]; rfl
 rw [bu] at k
 refine ⟨_, (aa (st 1 nd (bD T.cl ah hr (pv 0)))
   (ab (af (au jR hr rfl (a1 (lf 2 nd (r1 T (au aD hr rfl (a1 (pf K (pv 0))))) (cn (aM (au qp hr rfl (a2 (pv 1) (pv 2))))) (pv 2))))))), ?_⟩
 refine ⟨_, rfl, a, dx, _, rfl, h1, aO _ _, rfl, _, _, _, rfl, W, fun H1 R s1 hR hRl => ?_⟩
 refine ⟨_, rfl, a, C, dx, _, _, rfl, s1 _ _ h1, T.cl, T.n_n, fv _ _, rfl, _, rfl, by omega, _, rfl, a8 _, a9 (by omega), fun D hD => ?_⟩
 rw [zAl]
 refine bR (Kzk5.settles h.now.n (Kzk.rules h.now)) nv hD (by omega) (fun j H2 hj s2 R' R'' r1 r2 => ?_) (fun H2 s2 hL => ?_)
 ·exact ⟨rfl, _, rfl, _, rfl, rfl, _, _, _, _, rfl, .inl (.inl (s2 _ _ hRl)), hlen, h4, fun H3 s3 => ⟨_, rfl, aJ (fun c => ⟨_, rfl, r1 c _ s3⟩) (fun c => r2 (by simpa using c) _ s3)⟩⟩
 ·have C1 : 2 ^ h.now.n - 1 ∈ (List.range (2 ^ h.now.n)).filter (Kzk5.settles h.now.n (Kzk.rules h.now)) := by
   have h2 := zCe h.now.n
   exact zBe.mpr ⟨zAk.mpr (by omega), tF _ _⟩
  have s12 := s1.trans s2
  refine ⟨rfl, _, _, rfl, .inl (.inl hL), List.ne_nil_of_mem C1, zAn (zAm _ _) (by rw [zAr]; omega), fun H3 p i x s3 hp hx g1 g2 hP => ?_⟩
  obtain ⟨e1, e2⟩ := uz hx g1 g2
  have ec : Kzk5.fewest h.now.n (Kzk.rules h.now) = x := by
   unfold Kzk5.fewest Kzk1.states
   show (List.find? _ ((List.range (2 ^ h.now.n)).filter (Kzk5.settles h.now.n (Kzk.rules h.now)))).getD 0 = x
   rw [e1]; rfl
  rw [ec, e2] at k
  exact k _ p (s12.trans s3) (s12.free hp) (bJ.of hP)
def Bw (K : PySem.W.Frag) (C : Addr) : Sp := fun vs H Q _ => vs.length = 3 /\ ∃ (a : Addr) (h : Hall) (d : Ad) (x v : Nat), vs = [.ref a, nv x, nv v] /\ 1 <= h.now.n /\ Told C H a h d (Kzk.ask h.now (.comes x v)) Q
theorem FG {b : Board} (ok : OkB b) (h1 : 1 <= b.n) (x v : Nat) : Kzk5.okHeld b.n x v (Kzk.rules b) = (decide (x < 2 ^ b.n) && decide (v &&& x = v)) := by
 unfold Kzk5.okHeld
 rw [bx ok h1, Bool.true_and]
 by_cases c1 : x < 2 ^ b.n
 ·by_cases c2 : v < 2 ^ b.n
  ·rw [kP c2]; simp [c1, c2]
  ·have : ¬ v &&& x = v := fun e => c2 (by rw [← e]; exact zBi Nat.and_le_right c1)
   simp [c1, c2, this]
 ·simp [c1]
abbrev sT : KK := fun P w K mg b C => Cal P w K mg b "comes" 6 ["watch", "h", "v"] (Bw K C)
theorem Cs (F : Fa K mg "comes" (top 68)) (T : Txt K mg C) (dN : cS P w K mg base C) (dE : dz P w K mg base C) (ah : aB P w K mg base C) (cj : dh P w K mg base C) (aD : aP P w K mg base C) : sT P w K mg base C := by
 refine okF ["watch", "h", "v", "lasting"] F fun nd f cdv A outer s0 H vs Q E hr h => ?_
 obtain ⟨_, a, h, d, x, v, rfl, hn1, W, k⟩ := h
 obtain ⟨dx, h1⟩ := W.ob
 have ok := W.ok
 have hlen := aH h.now
 have h4 := ok.n4
 have bu : Kzk.ask h.now (.comes x v) = if (decide (x < 2 ^ h.now.n) && decide (v &&& x = v)) = false then Kzk1.say (-22) else match Kzk5.comesTo h.now.n (Kzk5.held h.now.n (Kzk.rules h.now) x v) with | none => Kzk1.say (-33) | some y => Kzk1.say (y : Nat) := by
  rw [← FG ok hn1]; rfl
 rw [bu] at k
 refine ⟨_, (aa (aA (PW.pt (uL (tc yN (pv 1) (au aD hr rfl (a1 (pf K (pv 0))))) (nQ (cg (aM (au cj hr rfl (a2 (pv 2) (pv 1)))))))) (ab (af (ay (a1 (aK rfl T.bb))))) aj)
   (aa (st 3 nd (au dN hr rfl (a1 (au dE hr rfl (a3 (bD T.cl ah hr (pv 0)) (pv 1) (pv 2))))))
   (aa (aA (tc gb (ln T (pv 3)) (ai 1)) (ab (af (ay (a1 (aK rfl T.bT))))) aj)
   (ab (af (pv 3)))))), ?_⟩
 refine ⟨_, rfl, _, rfl, a, C, dx, _, _, rfl, h1, T.cl, T.n_n, fv _ _, rfl, _, rfl, by omega, _, _, rfl, rfl, _, rfl, aJ (fun c1 => ?_) (fun c1 => ?_)⟩
 ·have c1 : 2 ^ h.now.n <= x := zAe c1
  rw [if_pos (by rw [zBm (by omega)]; rfl)] at k
  exact g7 ⟨by show 1 <= sizeLine; decide, fun p hp => k _ p (aq hp) hp ae⟩
 have c1 : x < 2 ^ h.now.n := by
  have : ¬ 2 ^ h.now.n <= x := fun z => c1 (zAf z)
  omega
 refine ⟨_, rfl, _, rfl, rfl, _, _, rfl, _, rfl, aJ (fun c2 => ?_) (fun c2 => ?_)⟩
 ·have c2 : decide (v &&& x = v) = false := by simpa using c2
  rw [if_pos (by rw [c2, Bool.and_false])] at k
  exact ⟨by show 1 <= sizeLine; decide, fun p hp => k _ p (aq hp) hp ae⟩
 have c2 : decide (v &&& x = v) = true := by simpa using c2
 rw [if_neg (by rw [c2, zAf c1]; decide)] at k
 refine ⟨_, rfl, a, dx, _, rfl, h1, aO _ _, rfl, _, _, _, rfl, W, fun H1 R s1 hR hRl => ?_⟩
 refine ⟨_, rfl, _, rfl, rfl, _, _, _, _, rfl, .inl (.inl hRl), by omega, fun H2 L s2 hL hLl => ?_⟩
 rw [hlen] at hLl
 have s12 := s1.trans s2
 refine ⟨rfl, _, _, _, rfl, .inl (.inl hLl), vz _ _ _ _, h4, fun H3 Z l s3 hZ hl hZl => ?_⟩
 have bX := s12.trans s3
 have h0 := zBc.mpr (yR hl)
 refine ⟨_, rfl, _, _, rfl, .inl (.inl (.inl hZl)), _, _, rfl, rfl, _, rfl, aJ (fun c => ?_) (fun c => ?_)⟩
 ·rw [zAa] at c
  rw [qT hl (zAe c)] at k
  exact ⟨by show 1 <= sizeLine; decide, fun p hp => k _ p (ak bX (bX.free hp)) (bX.free hp) ae⟩
 ·rw [zAa] at c
  have c : ¬ 1 < l.length := fun z => c (zAf z)
  obtain ⟨y, rfl⟩ := List.length_eq_one_iff.mp (show l.length = 1 by omega)
  rw [vn hl] at k
  exact ⟨_, rfl, k _ Z bX (s12.free hZ) (bJ.of hZl)⟩
end
end TW
namespace TW
open PySem PySem.Spec PyProof.Rows L2 TM
open Kzk (Board Hall)
def lK (s : Option Hall) : Hall := s.getD ⟨Kzk.empty 0, [], []⟩
def okS (s : Option Hall) : Prop := ∀ h, s = some h -> 1 <= h.now.n
def md (K : PySem.W.Frag) (C : Addr) : Sp := fun vs H Q _ => vs.length = 3 /\ ∃ (a g : Addr) (s : Option Hall) (d : Ad) (n : Nat) (given : List Nat) (s' : Option Hall) (ans : Kzk1.Ans), vs = [.ref a, nv n, .ref g] /\ NL K H g given /\ WAt C H a (lK s) d /\ okS s /\ okC (n, given) /\ (n = 10 -> given.length <= 8) ∧
 (KzkNeutral.callOf (encC (n, given))).bind (Kzk.acts s) = some (s', ans) /\ ∀ (H' : Hp) (p : Addr) (d' : Ad), Turn C H H' a (lK s') d d' -> okS s' -> H p = none -> bJ H' p ans -> Q (.ref p) H'
def ny (K : PySem.W.Frag) (C : Addr) : Sp := fun vs H Q _ => vs.length = 1 /\ ∃ (c : Addr) (l : List Nat) (ds : List kO), vs = [.ref c] /\ NL K H c l /\ DT l ds /\ l.length <= 1500 /\ ∀ (H' : Hp) (p : Addr), H' p = some (.lst ((PyKzk.answers (ci l)).map V.int)) -> Q (.ref p) H'
theorem FR {l : List Nat} {p k : Nat} {g r : List Nat} (h : l.drop p = g ++ r) (hk : g.length = k) (hp : p <= l.length) : vK (l.map nv) (some (p : Int)) (some ((p + k : Nat) : Int)) = g.map nv := by
 have hlen : l.length - p = g.length + r.length := by rw [← List.length_drop, h, zAi]
 unfold vK
 rw [HT.rL, HT.rL, zAa, Nat.min_eq_left hp, Nat.min_eq_left (by omega), ← List.map_drop, h, zAp, show p + k - p = g.length by omega, List.take_append_of_le_length (by simp), List.take_of_length_le (by simp)]
theorem tM {l r : List Nat} {p x : Nat} (h : l.drop p = x :: r) : p < l.length /\ l.getD p 0 = x /\ l.drop (p + 1) = r := by
 have hp : p < l.length := by
  apply zAo
  intro hn
  rw [List.drop_eq_nil_of_le (by omega)] at h
  cases h
 refine ⟨hp, ?_, ?_⟩
 ·rw [List.drop_eq_getElem_cons hp] at h
  rw [zAb, zAc hp]
  exact (List.cons.inj h).1
 ·rw [List.drop_eq_getElem_cons hp] at h
  exact (List.cons.inj h).2
theorem zw (a : List Int) (l : List (List Int)) : PyFlat.told (a :: l) = ((a.length : Int) :: a) ++ PyFlat.told l := by
 unfold PyFlat.told
 rw [List.flatMap_cons]
section
variable {P : Program} {w : World} {K : PySem.W.Frag} {mg : Str -> Option Value} {base : Heap} {C : Addr}
structure Lp (K : PySem.W.Frag) (C : Addr) (H0 : Hp) (l : List Nat) (A : List Int) (a D : Addr) (rest : List kO) (s : Option Hall) (d : Ad) (ov : List Int) (pl : Nat) (H : Hp) : Prop where
 same : az H0 H
 W : WAt C H a (lK s) d
 ok : okS s
 fr : ∀ x ∈ d.own a, H0 x = none
 nD : D ∉ d.own a
 D0 : H0 D = none
 out : H D = some (.lst (ov.map V.int))
 drop : l.drop pl = rest.flatMap jk
 ple : pl <= l.length
 okr : ∀ c ∈ rest, okC c /\ (c.1 = 10 -> c.2.length <= 8)
 may : KzkNeutral.may s (rest.map encC) = true
 ans : A = ov ++ PyFlat.told (PyFlat.played KzkNeutral.step s (rest.map encC))
abbrev jK : KK := fun P w K mg b C => Cal P w K mg b "answered" 9 ["watch", "number", "given"] (md K C)
theorem nI : gY ["calls", "watch", "out", "place", "number", "size", "answer"] ["calls"] (bF (top 148)) := ⟨rfl, rfl, rfl, by decide +kernel, rfl, by decide +kernel, by decide +kernel⟩
theorem xk {f : Addr} {fd : FuncData} (F : Fun K "answers" "answers" (top 148) f fd) (T : Txt K mg C) (yg : jK P w K mg base C) (Gi : sY P w K mg base C) : jc P w K mg base CX0 10 f fd ["calls"] (ny K C) := by
 refine F.ok nI (fun vs H Q E h => h.1) (fun cdv A outer s0 H vs Q E hr h => ?_)
 have nd := nI.nd
 obtain ⟨_, c, l, ds, rfl, hC, ask, hl, k⟩ := h
 obtain ⟨sa, tE, hSz⟩ := T.tE
 refine ⟨_, (aa (st 1 nd (Hk Gi hr rfl))
   (aa (st 2 nd (ay bC))
   (aa (st 3 nd (ai 0))
   (aa (dX PassesOwn.never (tc nY (pv 3) (ln T (pv 0))) (aa (st 4 nd (ix K (pv 0) (pv 3)))
   (aa (iu (i := 3) nd rfl (Or.inl rfl) (ai 1) fJ)
   (aa (st 5 nd (dZ (eB K) (aK rfl tE) (pv 4) (fun _ _ => rfl)))
   (aa (aA (tc dq (pv 4) (aK rfl T.FJ)) (aa (st 5 nd (ix K (pv 0) (pv 3)))
   (ab (iu (i := 3) nd rfl (Or.inl rfl) (ai 1) fJ))) aj)
   (aa (st 6 nd (au yg hr rfl (a3 (pv 1) (pv 4) (uN (yT K) (pv 0) (rS (pv 3)) (rS (aZ nZ (pv 3) (pv 5)))))))
   (aa (iu (i := 3) nd rfl (Or.inl rfl) (pv 5) fJ)
   (aa (aX (pbm K zBj zBk bH (pv 2) (a1 (ln T (pv 6)))))
   (ab (aX (pbm K PySem.F.slot_list_extend PySem.F.type_list_extend iU (pv 2) (a1 (pv 6)))))))))))))
   (ab (af (pv 2))))))), ?_⟩
 intro a dx ha hdx hne
 refine ⟨rfl, a, dx, rfl, ae, fun H1 d W1 k1 k2 k3 => ⟨rfl, ?_⟩⟩
 have s1 : az H H1 := fun b o e => k1 b o (by rw [ag (ax e ha), ag (ax e hdx)]; exact e) (ax e ha)
 have fr1 : ∀ x ∈ d.own a, H x = none := fun x hx => by
  rcases zAv.mp hx with rfl | hx
  ·exact ha
  ·exact aV (aV (k2 x hx))
 refine ⟨zBf _, fun D hD => ?_⟩
 have hD0 : H D = none := s1.free hD
 have nD1 : D ∉ d.own a := fun z => by
  obtain ⟨dx', q1⟩ := W1.ob
  obtain ⟨ps, q2, _⟩ := W1.pa
  obtain ⟨us, q3, _⟩ := W1.un
  simp only [Ad.own, zAv, List.not_mem_nil, or_false] at z
  rcases z with rfl | rfl | rfl | rfl | rfl
  ·rw [hD] at q1; cases q1
  ·have := W1.ru; rw [hD] at this; cases this
  ·have := W1.od; rw [hD] at this; cases this
  ·rw [hD] at q2; cases q2
  ·rw [hD] at q3; cases q3
 have L0 : Lp K C H l (PyKzk.answers (ci l)) a D ds none d [] 0 (upd H1 D (.lst [])) := by
  refine ⟨ak s1 hD0, W1.same (aq hD), (fun _ z => by cases z), fr1, nD1, hD0, ae, ?_, zBf _, fun q hq => ⟨ask.ok q hq, ask.row q hq⟩, ask.may, ask.ans⟩
  exact ask.flat
 refine ⟨fun μ σ H' => ∃ rest s d out pl v4 v5 v6, l.length - pl = μ /\ σ = [some (.ref c), some (.ref a), some (.ref D), some (nv pl), v4, v5, v6] /\ Lp K C H l (PyKzk.answers (ci l)) a D rest s d out pl H', ⟨l.length, ds, none, d, [], 0, none, none, none, rfl, rfl, L0⟩, ?_⟩
 rintro μ σ H2 ⟨rest, s, d2, out, pl, v4, v5, v6, rfl, rfl, L⟩
 have hC2 := L.same.seq hC
 refine ⟨_, rfl, _, rfl, _, _, rfl, .inl hC2, _, _, rfl, rfl, _, rfl, aJ (fun c1 => ?_) (fun c1 => ?_)⟩
 ·have c1 : pl < l.length := by rw [zAa] at c1; exact zAe c1
  obtain ⟨⟨n, given⟩, gZ, rfl⟩ : ∃ q r, rest = q :: r := by
   cases rest with
   | nil =>
    have := L.drop
    rw [List.flatMap_nil, List.drop_eq_nil_iff] at this
    omega
   | cons q r => exact ⟨q, r, rfl⟩
  obtain ⟨okq, KL⟩ := L.okr (n, given) zAg
  have CY : n < 48 := okq.1
  have mq := L.drop
  rw [List.flatMap_cons] at mq
  have mL := L.may
  rw [List.map_cons] at mL
  obtain ⟨s', ans, hst⟩ : ∃ s' ans, (KzkNeutral.callOf (encC (n, given))).bind (Kzk.acts s) = some (s', ans) := by
   cases q : (KzkNeutral.callOf (encC (n, given))).bind (Kzk.acts s) with
   | none =>
    have mL : (!((KzkNeutral.step s (encC (n, given))).2.isEmpty) && _) = true := mL
    unfold KzkNeutral.step at mL
    rw [q] at mL
    simp at mL
   | some x => exact ⟨x.1, x.2, rfl⟩
  have GI : KzkNeutral.step s (encC (n, given)) = (s', ans.value :: KzkNeutral.ints ans.nums) := by
   unfold KzkNeutral.step
   rw [hst]
  have J9 : KzkNeutral.may s' (gZ.map encC) = true := by
   have mL : (!((KzkNeutral.step s (encC (n, given))).2.isEmpty) && KzkNeutral.may (KzkNeutral.step s (encC (n, given))).1 (gZ.map encC)) = true := mL
   rw [GI, zBg] at mL
   exact mL.2
  have ts := L.ans
  rw [List.map_cons] at ts
  have hpl : PyFlat.played KzkNeutral.step s (encC (n, given) :: gZ.map encC) = (ans.value :: KzkNeutral.ints ans.nums) :: PyFlat.played KzkNeutral.step s' (gZ.map encC) := by
   show (KzkNeutral.step s (encC (n, given))).2 :: PyFlat.played KzkNeutral.step (KzkNeutral.step s (encC (n, given))).1 (gZ.map encC) = _
   rw [GI]
  rw [hpl, zw] at ts
  generalize hav : ans.value :: KzkNeutral.ints ans.nums = av at *
  have tj := ask.short
  rw [ts, zAi, zAi, zAz] at tj
  have KR : ∀ q ∈ gZ, okC q /\ (q.1 = 10 -> q.2.length <= 8) := fun q hq => L.okr q (zAj _ hq)
  refine ⟨fun σ' H' => ∃ d' pl' v4 v5 v6, pl < pl' /\ σ' = [some (.ref c), some (.ref a), some (.ref D), some (nv pl'), v4, v5, v6] /\ Lp K C H l (PyKzk.answers (ci l)) a D gZ s' d' (out ++ (av.length : Int) :: av) pl' H', fun σ' H' ⟨d', pl', v4, v5, v6, q1, q2, q3⟩ => ⟨l.length - pl', by have := q3.ple; omega, gZ, s', d', _, pl', v4, v5, v6, rfl, q2, q3⟩, ?_⟩
  have fin : ∀ (pl' : Nat) (E : Ends), pl < pl' -> pl' <= l.length -> l.drop pl' = given ++ gZ.flatMap jk -> (∀ σ' H', (∃ d' pl' v4 v5 v6, pl < pl' /\ σ' = [some (.ref c), some (.ref a), some (.ref D), some (nv pl'), v4, v5, v6] /\ Lp K C H l (PyKzk.answers (ci l)) a D gZ s' d' (out ++ (av.length : Int) :: av) pl' H') -> E.nx σ' H') →
    wk (zz (Bh (md K C) [] E0 (cT (dS 1) (cT (dS 4) (cT (tSl (GZ K) (dS 0) (Bg (dS 3)) (Bg (tOp (rN0 fun i j => nv (i + j)) (dS 3) (dS 5)))) fL)))) (g4 6))
     (wk (Jk 3 (dS 5) (ipN fun i j => i + j)) (wk (uf (tBM K "list" yC (dS 2) (cT (tCB (JU K) (cT (dS 6) fL)) fL))) (uf (tBM K "list" yB (dS 2) (cT (dS 6) fL))))) E [some (.ref c), some (.ref a), some (.ref D), some (nv pl'), some (nv n), some (nv given.length), v6] H2 := by
   intro pl' E hlt hle hdr hE
   refine ⟨_, rfl, _, rfl, _, rfl, _, rfl, _, rfl, _, rfl, _, rfl, _, _, rfl, rfl, _, rfl, c, _, rfl, hC2, fun g hg => ?_⟩
   rw [FR hdr rfl hle]
   have sg : az H2 (upd H2 g (.lst (given.map nv))) := aq hg
   refine ⟨rfl, a, g, s, d2, n, given, s', ans, rfl, .inl (.inl ae), L.W.same sg, L.ok, okq, KL, hst, fun H3 p d3 t3 ok3 hp hA => ?_⟩
   have t3' : Turn C H2 H3 a (lK s') d2 d3 := (Turn.same L.W sg).trans t3
   have hp2 : H2 p = none := sg.free hp
   have hD3 : H3 D = some (.lst (out.map V.int)) := t3'.keep D _ L.out L.nD
   have hpD : p ≠ D := (ax L.out hp2).symm
   have hA : H3 p = some (.lst (av.map V.int)) := by rw [← hav]; exact hA
   refine ⟨_, rfl, _, rfl, _, _, rfl, rfl, ?_⟩
   have Ma : (10000000 : Nat) < sizeLine := by rw [sizeLine_eq]; decide
   refine ⟨_, rfl, .inl ⟨rfl, _, .inl (.inl hD3)⟩, _, rfl, _, _, rfl, .inl (.inl (.inl hA)), _, _, _, rfl, rfl, hD3, by rw [zAa]; omega, ?_⟩
   refine ⟨_, rfl, .inl ⟨rfl, _, .inl (.inl ae)⟩, _, rfl, _, _, _, _, rfl, rfl, ae, (ag hpD).trans hA, by rw [zAi, zAa, zAa]; show _ + 1 + _ <= _; omega, ?_⟩
   apply hE
   refine ⟨d3, pl' + given.length, some (nv n), some (nv given.length), some (.ref p), by omega, rfl, ?_⟩
   have nD3 : D ∉ d3.own a := fun z => by
    rcases t3'.new D z with q | q
    ·exact L.nD q
    ·rw [L.out] at q; cases q
   have W3 : ∀ o : List V, WAt C (upd H3 D (.lst o)) a (lK s') d3 := fun o => by
    have W := t3'.W
    have ne : ∀ x ∈ d3.own a, x ≠ D := fun x hx e => nD3 (e ▸ hx)
    obtain ⟨dx', q1⟩ := W.ob
    obtain ⟨ps, q2, q3⟩ := W.pa
    obtain ⟨us, q4, q5⟩ := W.un
    have tt := eZ (o := .lst o) hD3
    refine ⟨⟨dx', ?_⟩, ?_, ?_, ⟨ps, ?_, q3.dF tt⟩, ⟨us, ?_, q5.dF tt⟩, W.nd, W.ok, W.pl, W.okp⟩
    ·rw [ag (ne _ (by simp [Ad.own]))]; exact q1
    ·rw [ag (ne _ (by simp [Ad.own]))]; exact W.ru
    ·rw [ag (ne _ (by simp [Ad.own]))]; exact W.od
    ·rw [ag (ne _ (by simp [Ad.own]))]; exact q2
    ·rw [ag (ne _ (by simp [Ad.own]))]; exact q4
   rw [mU]
   refine ⟨?_, W3 _, ok3, ?_, nD3, L.D0, ?_, ?_, ?_, KR, J9, ?_⟩
   ·intro x o e
    rw [ag (ax e L.D0)]
    refine t3'.keep x o (L.same x o e) fun z => ?_
    rw [L.fr x z] at e; cases e
   ·intro x hx
    rcases t3'.new x hx with q | q
    ·exact L.fr x q
    ·exact L.same.free q
   ·rw [ae, zAp, List.map_cons, zBy, zAa]; rfl
   ·rw [← List.drop_drop, hdr, List.drop_left]
   ·have := congrArg List.length hdr
    rw [List.length_drop, zAi] at this
    omega
   ·rw [ts, zBy]
  by_cases h10 : n = 10
  ·subst h10
   have mq : l.drop pl = 10 :: given.length :: (given ++ gZ.flatMap jk) := mq
   obtain ⟨p1, p2, p3⟩ := tM mq
   obtain ⟨p4, p5, p6⟩ := tM p3
   refine ⟨_, rfl, _, rfl, _, _, _, _, rfl, rfl, hC2, aQ p1, ?_⟩
   rw [p2]
   refine ⟨_, rfl, _, _, rfl, rfl, ?_⟩
   refine ⟨_, rfl, _, _, _, _, rfl, rfl, hSz _, aQ (by decide), ?_⟩
   refine ⟨_, rfl, _, _, rfl, rfl, _, rfl, g7 ?_⟩
   refine ⟨_, rfl, _, rfl, _, _, _, _, rfl, rfl, hC2, aQ p4, ?_⟩
   rw [p5]
   refine ⟨_, rfl, _, _, rfl, rfl, ?_⟩
   exact fin (pl + 1 + 1) _ (by omega) (by omega) p6 fun _ _ z => z
  ·have e0 : jk (n, given) = n :: given := by unfold jk; rw [if_neg h10]
   rw [e0] at mq
   have mq : l.drop pl = n :: (given ++ gZ.flatMap jk) := mq
   obtain ⟨p1, p2, p3⟩ := tM mq
   refine ⟨_, rfl, _, rfl, _, _, _, _, rfl, rfl, hC2, aQ p1, ?_⟩
   rw [p2]
   refine ⟨_, rfl, _, _, rfl, rfl, ?_⟩
   refine ⟨_, rfl, _, _, _, _, rfl, rfl, hSz _, aQ (show n < rK.length from CY), ?_⟩
   have eg : rK.getD n 0 = given.length := (okq.2 h10).symm
   rw [eg]
   refine ⟨_, rfl, _, _, rfl, rfl, _, rfl, aJ (fun z => absurd (zAe z) h10) (fun _ => ?_)⟩
   exact fin (pl + 1) _ (by omega) (by omega) p3 fun _ _ z => z
 ·have c1 : ¬ pl < l.length := by rw [zAa] at c1; exact fun z => c1 (zAf z)
  have hr : rest = [] := by
   cases rest with
   | nil => rfl
   | cons q r =>
    have := L.drop
    rw [List.drop_eq_nil_of_le (by omega), List.flatMap_cons] at this
    have h0 := congrArg List.length this
    rw [zAi] at h0
    unfold jk at h0
    split at h0 <;> simp at h0 <;> omega
  subst hr
  have ts := L.ans
  have e0 : PyFlat.told (PyFlat.played KzkNeutral.step s (([] : List kO).map encC)) = [] := rfl
  rw [e0, zBz] at ts
  refine ⟨_, rfl, k _ D ?_⟩
  rw [ts]; exact L.out
end
end TW
namespace TW
open PySem PySem.Spec PyProof.Rows L2 TM
open Kzk (Board Hall)
def chg : Nat -> List Nat -> Kzk.Call
 | 1, [j, r] => .rule j r
 | 2, [j, i] => .like j i
 | 3, [j, i] => .against j i
 | 4, [j, i, k] => .both j i k
 | 5, [j, i, k] => .either j i k
 | 6, [j, v] => .always j v
 | 7, [j, v] => .flag j v
 | 8, [j] => .hold j
 | 9, [j] => .free j
 | 10, l => .order l
 | 11, [k] => .step k
 | 12, [k] => .pass k
 | 13, [j] => .act j
 | 14, [k] => .settle k
 | _, _ => .seen
theorem ao {a b : Str} {A B : Prop} (h : (a == b) = false) (hb : B) : if decide (V.str a = V.str b) = true then A else B := by
 rw [tP, h, if_neg Bool.false_ne_true]; exact hb
theorem aN {a : Str} {A B : Prop} (ha : A) : if decide (V.str a = V.str a) = true then A else B := by
 rw [if_pos (zAf rfl)]; exact ha
section
variable {P : Program} {w : World} {K : PySem.W.Frag} {mg : Str -> Option Value} {base : Heap} {C : Addr}
def D4 (K : PySem.W.Frag) (C : Addr) : Sp := fun vs H Q _ => vs.length = 3 /\ ∃ (a g : Addr) (h : Hall) (d : Ad) (n : Nat) (given : List Nat), vs = [.ref a, .str (gc.getD n ""), .ref g] /\ 1 <= n /\ n <= 10 /\ NL K H g given /\ okC (n, given) /\ (n = 10 -> given.length <= 8) /\ Done C H a h d (Kzk.change h.now (chg n given)) Q
abbrev xB : KK := fun P w K mg b C => Cal P w K mg b "told" 5 ["watch", "name", "given"] (D4 K C)
theorem EW (F : Fa K mg "told" (top 137)) (T : Txt K mg C) (FZ : sN P w K mg base C) (II : xK P w K mg base C) (IH : xJ P w K mg base C) (IJ : xM P w K mg base C) (DI : oN P w K mg base C) (DF : oJ P w K mg base C) (IL : xO P w K mg base C) (A5 : lH P w K mg base C) (IF : xH P w K mg base C) (ID : xF P w K mg base C) : xB P w K mg base C := by
 refine okF ["watch", "name", "given"] F fun nd f cdv A outer s0 H vs Q E hr h => ?_
 obtain ⟨_, a, g, h, d, n, given, rfl, h1, h10, hG, okc, h8, D⟩ := h
 refine ⟨_, (aa (aA (tc bt (pv 1) aY) (ab (af (au ID hr rfl (a3 (pv 0) (ix K (pv 2) (ai 0)) (ix K (pv 2) (ai 1)))))) aj)
   (aa (aA (tc bt (pv 1) aY) (ab (af (au IF hr rfl (a3 (pv 0) (ix K (pv 2) (ai 0)) (ix K (pv 2) (ai 1)))))) aj)
   (aa (aA (tc bt (pv 1) aY) (ab (af (au A5 hr rfl (a3 (pv 0) (ix K (pv 2) (ai 0)) (ix K (pv 2) (ai 1)))))) aj)
   (aa (aA (tc bt (pv 1) aY) (ab (af (au IL hr rfl (aL (pv 0) (aL (ix K (pv 2) (ai 0)) (aL (ix K (pv 2) (ai 1)) (aL (ix K (pv 2) (ai 2)) bC))))))) aj)
   (aa (aA (tc bt (pv 1) aY) (ab (af (au DF hr rfl (aL (pv 0) (aL (ix K (pv 2) (ai 0)) (aL (ix K (pv 2) (ai 1)) (aL (ix K (pv 2) (ai 2)) bC))))))) aj)
   (aa (aA (tc bt (pv 1) aY) (ab (af (au DI hr rfl (a3 (pv 0) (ix K (pv 2) (ai 0)) (ix K (pv 2) (ai 1)))))) aj)
   (aa (aA (tc bt (pv 1) aY) (ab (af (au IJ hr rfl (a3 (pv 0) (ix K (pv 2) (ai 0)) (ix K (pv 2) (ai 1)))))) aj)
   (aa (aA (tc bt (pv 1) aY) (ab (af (au IH hr rfl (a2 (pv 0) (ix K (pv 2) (ai 0)))))) aj)
   (aa (aA (tc bt (pv 1) aY) (ab (af (au II hr rfl (a2 (pv 0) (ix K (pv 2) (ai 0)))))) aj)
   (ab (af (au FZ hr rfl (a2 (pv 0) (pv 2)))))))))))))), ?_⟩
 have hlen := okc.2
 match n, h1, h10 with
 | 1, _, _ =>
  obtain ⟨x0, x1, rfl⟩ := cN (hlen (by show (1 : Nat) ≠ 10; decide))
  exact ⟨_, rfl, rfl, _, rfl, aN ⟨_, rfl, _, rfl, _, _, _, _, rfl, rfl, hG, aQ (j := 0) (by simp), _, rfl, _, _, _, _, rfl, rfl, hG, aQ (j := 1) (by simp), rfl, a, h, d, _, _, rfl, D⟩⟩
 | 2, _, _ =>
  obtain ⟨x0, x1, rfl⟩ := cN (hlen (by show (2 : Nat) ≠ 10; decide))
  refine ⟨_, rfl, rfl, _, rfl, ao (by decide +kernel) ?_⟩
  exact ⟨_, rfl, rfl, _, rfl, aN ⟨_, rfl, _, rfl, _, _, _, _, rfl, rfl, hG, aQ (j := 0) (by simp), _, rfl, _, _, _, _, rfl, rfl, hG, aQ (j := 1) (by simp), rfl, a, h, d, _, _, rfl, D⟩⟩
 | 3, _, _ =>
  obtain ⟨x0, x1, rfl⟩ := cN (hlen (by show (3 : Nat) ≠ 10; decide))
  refine ⟨_, rfl, rfl, _, rfl, ao (by decide +kernel) ?_⟩
  refine ⟨_, rfl, rfl, _, rfl, ao (by decide +kernel) ?_⟩
  exact ⟨_, rfl, rfl, _, rfl, aN ⟨_, rfl, _, rfl, _, _, _, _, rfl, rfl, hG, aQ (j := 0) (by simp), _, rfl, _, _, _, _, rfl, rfl, hG, aQ (j := 1) (by simp), rfl, a, h, d, _, _, rfl, D⟩⟩
 | 4, _, _ =>
  obtain ⟨x0, x1, x2, rfl⟩ := vh (hlen (by show (4 : Nat) ≠ 10; decide))
  refine ⟨_, rfl, rfl, _, rfl, ao (by decide +kernel) ?_⟩
  refine ⟨_, rfl, rfl, _, rfl, ao (by decide +kernel) ?_⟩
  refine ⟨_, rfl, rfl, _, rfl, ao (by decide +kernel) ?_⟩
  exact ⟨_, rfl, rfl, _, rfl, aN ⟨_, rfl, _, rfl, _, _, _, _, rfl, rfl, hG, aQ (j := 0) (by simp), _, rfl, _, _, _, _, rfl, rfl, hG, aQ (j := 1) (by simp), _, rfl, _, _, _, _, rfl, rfl, hG, aQ (j := 2) (by simp), rfl, a, h, d, _, _, _, rfl, D⟩⟩
 | 5, _, _ =>
  obtain ⟨x0, x1, x2, rfl⟩ := vh (hlen (by show (5 : Nat) ≠ 10; decide))
  refine ⟨_, rfl, rfl, _, rfl, ao (by decide +kernel) ?_⟩
  refine ⟨_, rfl, rfl, _, rfl, ao (by decide +kernel) ?_⟩
  refine ⟨_, rfl, rfl, _, rfl, ao (by decide +kernel) ?_⟩
  refine ⟨_, rfl, rfl, _, rfl, ao (by decide +kernel) ?_⟩
  exact ⟨_, rfl, rfl, _, rfl, aN ⟨_, rfl, _, rfl, _, _, _, _, rfl, rfl, hG, aQ (j := 0) (by simp), _, rfl, _, _, _, _, rfl, rfl, hG, aQ (j := 1) (by simp), _, rfl, _, _, _, _, rfl, rfl, hG, aQ (j := 2) (by simp), rfl, a, h, d, _, _, _, rfl, D⟩⟩
 | 6, _, _ =>
  obtain ⟨x0, x1, rfl⟩ := cN (hlen (by show (6 : Nat) ≠ 10; decide))
  refine ⟨_, rfl, rfl, _, rfl, ao (by decide +kernel) ?_⟩
  refine ⟨_, rfl, rfl, _, rfl, ao (by decide +kernel) ?_⟩
  refine ⟨_, rfl, rfl, _, rfl, ao (by decide +kernel) ?_⟩
  refine ⟨_, rfl, rfl, _, rfl, ao (by decide +kernel) ?_⟩
  refine ⟨_, rfl, rfl, _, rfl, ao (by decide +kernel) ?_⟩
  exact ⟨_, rfl, rfl, _, rfl, aN ⟨_, rfl, _, rfl, _, _, _, _, rfl, rfl, hG, aQ (j := 0) (by simp), _, rfl, _, _, _, _, rfl, rfl, hG, aQ (j := 1) (by simp), rfl, a, h, d, _, _, rfl, D⟩⟩
 | 7, _, _ =>
  obtain ⟨x0, x1, rfl⟩ := cN (hlen (by show (7 : Nat) ≠ 10; decide))
  refine ⟨_, rfl, rfl, _, rfl, ao (by decide +kernel) ?_⟩
  refine ⟨_, rfl, rfl, _, rfl, ao (by decide +kernel) ?_⟩
  refine ⟨_, rfl, rfl, _, rfl, ao (by decide +kernel) ?_⟩
  refine ⟨_, rfl, rfl, _, rfl, ao (by decide +kernel) ?_⟩
  refine ⟨_, rfl, rfl, _, rfl, ao (by decide +kernel) ?_⟩
  refine ⟨_, rfl, rfl, _, rfl, ao (by decide +kernel) ?_⟩
  exact ⟨_, rfl, rfl, _, rfl, aN ⟨_, rfl, _, rfl, _, _, _, _, rfl, rfl, hG, aQ (j := 0) (by simp), _, rfl, _, _, _, _, rfl, rfl, hG, aQ (j := 1) (by simp), rfl, a, h, d, _, _, rfl, D⟩⟩
 | 8, _, _ =>
  obtain ⟨x0, rfl⟩ := cV (hlen (by show (8 : Nat) ≠ 10; decide))
  refine ⟨_, rfl, rfl, _, rfl, ao (by decide +kernel) ?_⟩
  refine ⟨_, rfl, rfl, _, rfl, ao (by decide +kernel) ?_⟩
  refine ⟨_, rfl, rfl, _, rfl, ao (by decide +kernel) ?_⟩
  refine ⟨_, rfl, rfl, _, rfl, ao (by decide +kernel) ?_⟩
  refine ⟨_, rfl, rfl, _, rfl, ao (by decide +kernel) ?_⟩
  refine ⟨_, rfl, rfl, _, rfl, ao (by decide +kernel) ?_⟩
  refine ⟨_, rfl, rfl, _, rfl, ao (by decide +kernel) ?_⟩
  exact ⟨_, rfl, rfl, _, rfl, aN ⟨_, rfl, _, rfl, _, _, _, _, rfl, rfl, hG, aQ (j := 0) (by simp), rfl, a, h, d, _, rfl, D⟩⟩
 | 9, _, _ =>
  obtain ⟨x0, rfl⟩ := cV (hlen (by show (9 : Nat) ≠ 10; decide))
  refine ⟨_, rfl, rfl, _, rfl, ao (by decide +kernel) ?_⟩
  refine ⟨_, rfl, rfl, _, rfl, ao (by decide +kernel) ?_⟩
  refine ⟨_, rfl, rfl, _, rfl, ao (by decide +kernel) ?_⟩
  refine ⟨_, rfl, rfl, _, rfl, ao (by decide +kernel) ?_⟩
  refine ⟨_, rfl, rfl, _, rfl, ao (by decide +kernel) ?_⟩
  refine ⟨_, rfl, rfl, _, rfl, ao (by decide +kernel) ?_⟩
  refine ⟨_, rfl, rfl, _, rfl, ao (by decide +kernel) ?_⟩
  refine ⟨_, rfl, rfl, _, rfl, ao (by decide +kernel) ?_⟩
  exact ⟨_, rfl, rfl, _, rfl, aN ⟨_, rfl, _, rfl, _, _, _, _, rfl, rfl, hG, aQ (j := 0) (by simp), rfl, a, h, d, _, rfl, D⟩⟩
 | 10, _, _ =>
  refine ⟨_, rfl, rfl, _, rfl, ao (by decide +kernel) ?_⟩
  refine ⟨_, rfl, rfl, _, rfl, ao (by decide +kernel) ?_⟩
  refine ⟨_, rfl, rfl, _, rfl, ao (by decide +kernel) ?_⟩
  refine ⟨_, rfl, rfl, _, rfl, ao (by decide +kernel) ?_⟩
  refine ⟨_, rfl, rfl, _, rfl, ao (by decide +kernel) ?_⟩
  refine ⟨_, rfl, rfl, _, rfl, ao (by decide +kernel) ?_⟩
  refine ⟨_, rfl, rfl, _, rfl, ao (by decide +kernel) ?_⟩
  refine ⟨_, rfl, rfl, _, rfl, ao (by decide +kernel) ?_⟩
  refine ⟨_, rfl, rfl, _, rfl, ao (by decide +kernel) ?_⟩
  exact ⟨_, rfl, _, rfl, rfl, a, g, h, d, given, rfl, hG, zBi (h8 rfl) (by decide), D⟩
def BA (K : PySem.W.Frag) (C : Addr) : Sp := fun vs H Q _ => vs.length = 3 /\ ∃ (a : Addr) (h : Hall) (d : Ad) (n k : Nat), vs = [.ref a, .str (gc.getD n ""), nv k] /\ 11 <= n /\ n <= 14 /\ Done C H a h d (Kzk.change h.now (chg n [k])) Q
abbrev sX : KK := fun P w K mg b C => Cal P w K mg b "acted" 7 ["watch", "name", "k"] (BA K C)
theorem Cw (F : Fa K mg "acted" (top 138)) (T : Txt K mg C) (DB : oF P w K mg base C) (Kv : CS P w K mg base C) (AY : lD P w K mg base C) (IB : xD P w K mg base C) : sX P w K mg base C := by
 refine okF ["watch", "name", "k"] F fun nd f cdv A outer s0 H vs Q E hr h => ?_
 obtain ⟨_, a, h, d, n, k, rfl, h1, h10, D⟩ := h
 refine ⟨_, (aa (aA (tc bt (pv 1) aY) (ab (af (au IB hr rfl (a2 (pv 0) (pv 2))))) aj)
   (aa (aA (tc bt (pv 1) aY) (ab (af (au AY hr rfl (a2 (pv 0) (pv 2))))) aj)
   (aa (aA (tc bt (pv 1) aY) (ab (af (au Kv hr rfl (a2 (pv 0) (pv 2))))) aj)
   (ab (af (au DB hr rfl (a2 (pv 0) (pv 2)))))))), ?_⟩
 match n, h1, h10 with
 | 11, _, _ => exact ⟨_, rfl, rfl, _, rfl, aN ⟨_, rfl, _, rfl, rfl, a, h, d, k, rfl, D⟩⟩
 | 12, _, _ =>
  refine ⟨_, rfl, rfl, _, rfl, ao (by decide +kernel) ?_⟩
  exact ⟨_, rfl, rfl, _, rfl, aN ⟨_, rfl, _, rfl, rfl, a, h, d, k, rfl, D⟩⟩
 | 13, _, _ =>
  refine ⟨_, rfl, rfl, _, rfl, ao (by decide +kernel) ?_⟩
  refine ⟨_, rfl, rfl, _, rfl, ao (by decide +kernel) ?_⟩
  exact ⟨_, rfl, rfl, _, rfl, aN ⟨_, rfl, _, rfl, rfl, a, h, d, k, rfl, D⟩⟩
 | 14, _, _ =>
  refine ⟨_, rfl, rfl, _, rfl, ao (by decide +kernel) ?_⟩
  refine ⟨_, rfl, rfl, _, rfl, ao (by decide +kernel) ?_⟩
  refine ⟨_, rfl, rfl, _, rfl, ao (by decide +kernel) ?_⟩
  exact ⟨_, rfl, _, rfl, rfl, a, h, d, k, rfl, D⟩
def wG (K : PySem.W.Frag) (C : Addr) : Sp := fun vs H Q _ => vs.length = 3 /\ ∃ (a g : Addr) (h : Hall) (d : Ad) (n : Nat) (given : List Nat), vs = [.ref a, nv n, .ref g] /\ 1 <= n /\ n <= 14 /\ NL K H g given /\ okC (n, given) /\ (n = 10 -> given.length <= 8) /\ WAt C H a h d ∧
 ∀ (H' : Hp) (p : Addr) (d' : Ad), Turn C H H' a (Kzk.does h (chg n given)).1 d d' -> H p = none -> bJ H' p (Kzk.does h (chg n given)).2 -> Q (.ref p) H'
theorem x8 {n : Nat} {given : List Nat} (h1 : 1 <= n) (h14 : n <= 14) (ok : okC (n, given)) : Kzk.isChange (chg n given) = true := by
 have hlen := ok.2
 match n, h1, h14 with
 | 1, _, _ => obtain ⟨x, y, rfl⟩ := cN (hlen (by show (1 : Nat) ≠ 10; decide)); rfl
 | 2, _, _ => obtain ⟨x, y, rfl⟩ := cN (hlen (by show (2 : Nat) ≠ 10; decide)); rfl
 | 3, _, _ => obtain ⟨x, y, rfl⟩ := cN (hlen (by show (3 : Nat) ≠ 10; decide)); rfl
 | 4, _, _ => obtain ⟨x, y, z, rfl⟩ := vh (hlen (by show (4 : Nat) ≠ 10; decide)); rfl
 | 5, _, _ => obtain ⟨x, y, z, rfl⟩ := vh (hlen (by show (5 : Nat) ≠ 10; decide)); rfl
 | 6, _, _ => obtain ⟨x, y, rfl⟩ := cN (hlen (by show (6 : Nat) ≠ 10; decide)); rfl
 | 7, _, _ => obtain ⟨x, y, rfl⟩ := cN (hlen (by show (7 : Nat) ≠ 10; decide)); rfl
 | 8, _, _ => obtain ⟨x, rfl⟩ := cV (hlen (by show (8 : Nat) ≠ 10; decide)); rfl
 | 9, _, _ => obtain ⟨x, rfl⟩ := cV (hlen (by show (9 : Nat) ≠ 10; decide)); rfl
 | 10, _, _ => rfl
 | 11, _, _ => obtain ⟨x, rfl⟩ := cV (hlen (by show (11 : Nat) ≠ 10; decide)); rfl
 | 12, _, _ => obtain ⟨x, rfl⟩ := cV (hlen (by show (12 : Nat) ≠ 10; decide)); rfl
 | 13, _, _ => obtain ⟨x, rfl⟩ := cV (hlen (by show (13 : Nat) ≠ 10; decide)); rfl
 | 14, _, _ => obtain ⟨x, rfl⟩ := cV (hlen (by show (14 : Nat) ≠ 10; decide)); rfl
theorem su {n : Nat} (h : n < 48) : atI (gc.map V.str) (n : Int) = some (.str (gc.getD n "")) := by
 refine cq ?_
 have hl : gc.length = 48 := by decide
 rw [zAh, zAc (by rw [hl]; exact h), zAb, zAc (by rw [hl]; exact h)]
 rfl
abbrev lG : KK := fun P w K mg b C => Cal P w K mg b "changed" 8 ["watch", "number", "given"] (wG K C)
theorem xj (F : Fa K mg "changed" (top 146)) (T : Txt K mg C) (qr : fP P w K mg base C) (Iz : xB P w K mg base C) (Gh : sX P w K mg base C) (gr : gi P w K mg base C) : lG P w K mg base C := by
 refine okF ["watch", "number", "given", "ahead", "answer"] F fun nd f cdv A outer s0 H vs Q E hr h => ?_
 obtain ⟨_, a, g, h, d, n, given, rfl, hn1, Ic, hG, okc, h8, W, k⟩ := h
 obtain ⟨dx, h1⟩ := W.ob
 obtain ⟨ua, gL, hNm⟩ := T.gL
 have hc := x8 hn1 Ic okc
 rw [zb h _ hc] at k
 have hsg := iN h.now _ hc
 refine ⟨_, (aa (st 3 nd (bD T.cl gr hr (pv 0)))
   (aa (aA (tc mj (pv 1) (aK rfl T.vC)) (ab (st 4 nd (au Iz hr rfl (a3 (pv 0) (dZ (eB K) (aK rfl gL) (pv 1) (fun _ _ => rfl)) (pv 2))))) (ab (st 4 nd (au Gh hr rfl (a3 (pv 0) (dZ (eB K) (aK rfl gL) (pv 1) (fun _ _ => rfl)) (ix K (pv 2) (ai 0)))))))
   (aa (aA (tc GA (ix K (pv 4) (ai 0)) (ai 0)) (ab (aX (dY T.cl qr hr (pv 0) (a1 (pv 3))))) aj)
   (ab (af (pv 4)))))), ?_⟩
 refine ⟨_, rfl, a, dx, _, rfl, h1, aO _ _, rfl, a, h, d, rfl, W, fun H1 A0 s1 hA0 C7 => ?_⟩
 have W1 := W.same s1
 have fin : ∀ (H2 : Hp) (p : Addr) (d2 : Ad), Turn C H1 H2 a ⟨(Kzk.change h.now (chg n given)).1.getD h.now, h.past, h.ahead⟩ d d2 -> H1 p = none -> p ∉ d2.own a -> bJ H2 p (Kzk.change h.now (chg n given)).2 →
   wk (Je (Be (tOp (rI0 fun i j => .bl (decide (j <= i))) (tOp (Eo K) (dS 4) (tC (nv 0))) (tC (nv 0)))) (uf (qA C "keep_change" (ib K C) [] E0 (dS 0) (cT (dS 3) fL))) Gs) (DU (dS 4)) { nx := fun _ H' => Q .non H', rt := Q } [some (.ref a), some (nv n), some (.ref g), some (.ref A0), some (.ref p)] H2 := by
  intro H2 p d2 t2 hp hp3 hA
  have hp0 : H p = none := s1.free hp
  have t02 := (Turn.same W s1).trans t2
  have hA1 : H2 p = some (.lst (((Kzk.change h.now (chg n given)).2.value :: KzkNeutral.ints (Kzk.change h.now (chg n given)).2.nums).map V.int)) := hA
  refine ⟨_, rfl, _, _, _, _, rfl, rfl, .inl (.inl hA1), cq (j := 0) rfl, _, _, rfl, rfl, _, rfl, aJ (fun c1 => ?_) (fun c1 => ?_)⟩
  ·have c1 : 0 <= (Kzk.change h.now (chg n given)).2.value := zAe c1
   rw [if_pos c1] at k
   obtain ⟨dx2, h2⟩ := t2.W.ob
   have hbn : ((Kzk.change h.now (chg n given)).1.getD h.now).n = h.now.n := by
    rcases hsg with ⟨_, q⟩ | ⟨t, q1, _, q3⟩
    ·omega
    ·rw [q1]; exact q3
   have Kf : Pic H2 A0 h.now := by
    obtain ⟨t1, t2', t3, q0, q1, q2, q3⟩ := C7
    have kt : ∀ x ys, H1 x = some (.tup ys) -> H2 x = some (.tup ys) := fun x ys q => t2.keep x _ q fun z => by
     obtain ⟨ps, w2, _⟩ := W1.pa
     obtain ⟨us, w3, _⟩ := W1.un
     obtain ⟨dx3, w4⟩ := W1.ob
     simp only [Ad.own, zAv, List.not_mem_nil, or_false] at z
     rcases z with rfl | rfl | rfl | rfl | rfl
     ·rw [w4] at q; cases q
     ·rw [W1.ru] at q; cases q
     ·rw [W1.od] at q; cases q
     ·rw [w2] at q; cases q
     ·rw [w3] at q; cases q
    exact ⟨t1, t2', t3, kt _ _ q0, kt _ _ q1, kt _ _ q2, kt _ _ q3⟩
   refine ⟨_, rfl, a, dx2, _, rfl, h2, aO _ _, _, rfl, rfl, a, A0, _, d2, h.now, rfl, t2.W, Kf, W.ok, hbn.symm, fun H3 d3 t3 => ⟨_, rfl, ?_⟩⟩
   exact k H3 p d3 (t02.trans t3) hp0 (t3.keep p _ hA1 hp3)
  ·have c1 : ¬ 0 <= (Kzk.change h.now (chg n given)).2.value := fun z => c1 (zAf z)
   rw [if_neg c1] at k
   exact ⟨_, rfl, k H2 p d2 t02 hp0 hA⟩
 refine ⟨_, rfl, _, _, rfl, rfl, _, rfl, aJ (fun c1 => ?_) (fun c1 => ?_)⟩
 ·have c1 : n <= 10 := zAe c1
  exact ⟨_, rfl, _, rfl, _, _, _, _, rfl, rfl, hNm _, su (by omega), _, rfl, rfl, a, g, h, d, n, given, rfl, hn1, by omega, s1.seq hG, okc, h8, W1, fun H2 p d2 t2 hp hn hA => fin H2 p d2 t2 hp hn hA⟩
 ·have c1 : ¬ n <= 10 := fun z => c1 (zAf z)
  have hsz : given.length = 1 := by
   rw [okc.2 (by show n ≠ 10; omega)]
   match n, c1, Ic with
   | 11, _, _ => rfl
   | 12, _, _ => rfl
   | 13, _, _ => rfl
   | 14, _, _ => rfl
  obtain ⟨x, rfl⟩ := cV hsz
  exact ⟨_, rfl, _, rfl, _, _, _, _, rfl, rfl, hNm _, su (by omega), _, rfl, _, _, _, _, rfl, rfl, s1.seq hG, aQ (j := 0) (by simp), rfl, a, h, d, n, x, rfl, by omega, Ic, W1, fun H2 p d2 t2 hp hn hA => fin H2 p d2 t2 hp hn hA⟩
end
end TW
namespace TW
open PySem PySem.Spec PyProof.Rows L2 TM
open Kzk (Board Hall)
def qst : Nat -> List Nat -> Kzk.Call
 | 15, [x0] => .ruleOf x0
 | 16, [] => .seen
 | 17, [] => .round
 | 18, [] => .rounds
 | 19, [] => .before
 | 20, [] => .gardens
 | 21, [] => .basin
 | 22, [] => .kinds
 | 23, [] => .even
 | 24, [] => .odd
 | 25, [] => .layers
 | 26, [] => .rests
 | 27, [] => .sweeps
 | 28, [] => .best
 | 29, [] => .brings
 | 30, [] => .moves
 | 31, [] => .reach
 | 32, [x0] => .far x0
 | 33, [] => .traps
 | 34, [] => .may
 | 35, [] => .cut
 | 36, [] => .cutEven
 | 37, [] => .fewest
 | 38, [x0, x1] => .comes x0 x1
 | 39, [] => .rises
 | 40, [] => .least
 | 41, [] => .greatest
 | 42, [x0, x1] => .join x0 x1
 | 43, [x0, x1] => .meet x0 x1
 | _, _ => .seen
def rcl : Nat -> Kzk.Call
 | 44 => .back
 | 45 => .again
 | 46 => .sums
 | 47 => .state
 | _ => .seen
theorem AW : ∀ (n : Nat) (g : List Nat), n < 14 -> (1 + n ≠ 10 -> g.length = cI.getD (1 + n) 0) -> KzkNeutral.callOf (encC (1 + n, g)) = some (chg (1 + n) g)
 | 0, g, _, h => by obtain ⟨x0, x1, rfl⟩ := cN (h (by decide)); rfl
 | 1, g, _, h => by obtain ⟨x0, x1, rfl⟩ := cN (h (by decide)); rfl
 | 2, g, _, h => by obtain ⟨x0, x1, rfl⟩ := cN (h (by decide)); rfl
 | 3, g, _, h => by obtain ⟨x0, x1, x2, rfl⟩ := vh (h (by decide)); rfl
 | 4, g, _, h => by obtain ⟨x0, x1, x2, rfl⟩ := vh (h (by decide)); rfl
 | 5, g, _, h => by obtain ⟨x0, x1, rfl⟩ := cN (h (by decide)); rfl
 | 6, g, _, h => by obtain ⟨x0, x1, rfl⟩ := cN (h (by decide)); rfl
 | 7, g, _, h => by obtain ⟨x0, rfl⟩ := cV (h (by decide)); rfl
 | 8, g, _, h => by obtain ⟨x0, rfl⟩ := cV (h (by decide)); rfl
 | 9, g, _, _ => by show some (Kzk.Call.order (KzkNeutral.natsOf (ci g))) = _; rw [Fl]; rfl
 | 10, g, _, h => by obtain ⟨x0, rfl⟩ := cV (h (by decide)); rfl
 | 11, g, _, h => by obtain ⟨x0, rfl⟩ := cV (h (by decide)); rfl
 | 12, g, _, h => by obtain ⟨x0, rfl⟩ := cV (h (by decide)); rfl
 | 13, g, _, h => by obtain ⟨x0, rfl⟩ := cV (h (by decide)); rfl
 | n + 14, _, h, _ => absurd h (by omega)
theorem vP (n : Nat) (g : List Nat) (h1 : 1 <= n) (h2 : n <= 14) (h : n ≠ 10 -> g.length = cI.getD n 0) : KzkNeutral.callOf (encC (n, g)) = some (chg n g) := by
 obtain ⟨i, rfl⟩ : ∃ i, n = 1 + i := ⟨n - 1, by omega⟩
 exact AW i g (by omega) h
theorem AU : ∀ (n : Nat) (g : List Nat), n < 29 -> (15 + n ≠ 10 -> g.length = cI.getD (15 + n) 0) -> KzkNeutral.callOf (encC (15 + n, g)) = some (qst (15 + n) g)
 | 0, g, _, h => by obtain ⟨x0, rfl⟩ := cV (h (by decide)); rfl
 | 1, g, _, h => by rw [len0 (h (by decide))]; rfl
 | 2, g, _, h => by rw [len0 (h (by decide))]; rfl
 | 3, g, _, h => by rw [len0 (h (by decide))]; rfl
 | 4, g, _, h => by rw [len0 (h (by decide))]; rfl
 | 5, g, _, h => by rw [len0 (h (by decide))]; rfl
 | 6, g, _, h => by rw [len0 (h (by decide))]; rfl
 | 7, g, _, h => by rw [len0 (h (by decide))]; rfl
 | 8, g, _, h => by rw [len0 (h (by decide))]; rfl
 | 9, g, _, h => by rw [len0 (h (by decide))]; rfl
 | 10, g, _, h => by rw [len0 (h (by decide))]; rfl
 | 11, g, _, h => by rw [len0 (h (by decide))]; rfl
 | 12, g, _, h => by rw [len0 (h (by decide))]; rfl
 | 13, g, _, h => by rw [len0 (h (by decide))]; rfl
 | 14, g, _, h => by rw [len0 (h (by decide))]; rfl
 | 15, g, _, h => by rw [len0 (h (by decide))]; rfl
 | 16, g, _, h => by rw [len0 (h (by decide))]; rfl
 | 17, g, _, h => by obtain ⟨x0, rfl⟩ := cV (h (by decide)); rfl
 | 18, g, _, h => by rw [len0 (h (by decide))]; rfl
 | 19, g, _, h => by rw [len0 (h (by decide))]; rfl
 | 20, g, _, h => by rw [len0 (h (by decide))]; rfl
 | 21, g, _, h => by rw [len0 (h (by decide))]; rfl
 | 22, g, _, h => by rw [len0 (h (by decide))]; rfl
 | 23, g, _, h => by obtain ⟨x0, x1, rfl⟩ := cN (h (by decide)); rfl
 | 24, g, _, h => by rw [len0 (h (by decide))]; rfl
 | 25, g, _, h => by rw [len0 (h (by decide))]; rfl
 | 26, g, _, h => by rw [len0 (h (by decide))]; rfl
 | 27, g, _, h => by obtain ⟨x0, x1, rfl⟩ := cN (h (by decide)); rfl
 | 28, g, _, h => by obtain ⟨x0, x1, rfl⟩ := cN (h (by decide)); rfl
 | n + 29, _, h, _ => absurd h (by omega)
theorem vO (n : Nat) (g : List Nat) (h1 : 15 <= n) (h2 : n <= 43) (h : n ≠ 10 -> g.length = cI.getD n 0) : KzkNeutral.callOf (encC (n, g)) = some (qst n g) := by
 obtain ⟨i, rfl⟩ : ∃ i, n = 15 + i := ⟨n - 15, by omega⟩
 exact AU i g (by omega) h
theorem AS : ∀ (n : Nat) (g : List Nat), n < 4 -> (44 + n ≠ 10 -> g.length = cI.getD (44 + n) 0) -> KzkNeutral.callOf (encC (44 + n, g)) = some (rcl (44 + n))
 | 0, g, _, h => by rw [len0 (h (by decide))]; rfl
 | 1, g, _, h => by rw [len0 (h (by decide))]; rfl
 | 2, g, _, h => by rw [len0 (h (by decide))]; rfl
 | 3, g, _, h => by rw [len0 (h (by decide))]; rfl
 | n + 4, _, h, _ => absurd h (by omega)
theorem vN (n : Nat) (g : List Nat) (h1 : 44 <= n) (h2 : n <= 47) (h : n ≠ 10 -> g.length = cI.getD n 0) : KzkNeutral.callOf (encC (n, g)) = some (rcl n) := by
 obtain ⟨i, rfl⟩ : ∃ i, n = 44 + i := ⟨n - 44, by omega⟩
 exact AS i g (by omega) h
theorem AM (b : Hall) : ∀ (n : Nat) (g : List Nat), n < 29 -> (15 + n ≠ 10 -> g.length = cI.getD (15 + n) 0) -> Kzk.does b (qst (15 + n) g) = (b, Kzk.ask b.now (qst (15 + n) g))
 | 0, g, _, h => by obtain ⟨x0, rfl⟩ := cV (h (by decide)); rfl
 | 1, g, _, h => by rw [len0 (h (by decide))]; rfl
 | 2, g, _, h => by rw [len0 (h (by decide))]; rfl
 | 3, g, _, h => by rw [len0 (h (by decide))]; rfl
 | 4, g, _, h => by rw [len0 (h (by decide))]; rfl
 | 5, g, _, h => by rw [len0 (h (by decide))]; rfl
 | 6, g, _, h => by rw [len0 (h (by decide))]; rfl
 | 7, g, _, h => by rw [len0 (h (by decide))]; rfl
 | 8, g, _, h => by rw [len0 (h (by decide))]; rfl
 | 9, g, _, h => by rw [len0 (h (by decide))]; rfl
 | 10, g, _, h => by rw [len0 (h (by decide))]; rfl
 | 11, g, _, h => by rw [len0 (h (by decide))]; rfl
 | 12, g, _, h => by rw [len0 (h (by decide))]; rfl
 | 13, g, _, h => by rw [len0 (h (by decide))]; rfl
 | 14, g, _, h => by rw [len0 (h (by decide))]; rfl
 | 15, g, _, h => by rw [len0 (h (by decide))]; rfl
 | 16, g, _, h => by rw [len0 (h (by decide))]; rfl
 | 17, g, _, h => by obtain ⟨x0, rfl⟩ := cV (h (by decide)); rfl
 | 18, g, _, h => by rw [len0 (h (by decide))]; rfl
 | 19, g, _, h => by rw [len0 (h (by decide))]; rfl
 | 20, g, _, h => by rw [len0 (h (by decide))]; rfl
 | 21, g, _, h => by rw [len0 (h (by decide))]; rfl
 | 22, g, _, h => by rw [len0 (h (by decide))]; rfl
 | 23, g, _, h => by obtain ⟨x0, x1, rfl⟩ := cN (h (by decide)); rfl
 | 24, g, _, h => by rw [len0 (h (by decide))]; rfl
 | 25, g, _, h => by rw [len0 (h (by decide))]; rfl
 | 26, g, _, h => by rw [len0 (h (by decide))]; rfl
 | 27, g, _, h => by obtain ⟨x0, x1, rfl⟩ := cN (h (by decide)); rfl
 | 28, g, _, h => by obtain ⟨x0, x1, rfl⟩ := cN (h (by decide)); rfl
 | n + 29, _, h, _ => absurd h (by omega)
theorem Dq (b : Hall) (n : Nat) (g : List Nat) (h1 : 15 <= n) (h2 : n <= 43) (h : n ≠ 10 -> g.length = cI.getD n 0) : Kzk.does b (qst n g) = (b, Kzk.ask b.now (qst n g)) := by
 obtain ⟨i, rfl⟩ : ∃ i, n = 15 + i := ⟨n - 15, by omega⟩
 exact AM b i g (by omega) h
theorem Fg : ∀ (n : Nat) (g : List Nat), n < 29 -> (15 + n ≠ 10 -> g.length = cI.getD (15 + n) 0) -> Kzk.acts none (qst (15 + n) g) = none
 | 0, g, _, h => by obtain ⟨x0, rfl⟩ := cV (h (by decide)); rfl
 | 1, g, _, h => by rw [len0 (h (by decide))]; rfl
 | 2, g, _, h => by rw [len0 (h (by decide))]; rfl
 | 3, g, _, h => by rw [len0 (h (by decide))]; rfl
 | 4, g, _, h => by rw [len0 (h (by decide))]; rfl
 | 5, g, _, h => by rw [len0 (h (by decide))]; rfl
 | 6, g, _, h => by rw [len0 (h (by decide))]; rfl
 | 7, g, _, h => by rw [len0 (h (by decide))]; rfl
 | 8, g, _, h => by rw [len0 (h (by decide))]; rfl
 | 9, g, _, h => by rw [len0 (h (by decide))]; rfl
 | 10, g, _, h => by rw [len0 (h (by decide))]; rfl
 | 11, g, _, h => by rw [len0 (h (by decide))]; rfl
 | 12, g, _, h => by rw [len0 (h (by decide))]; rfl
 | 13, g, _, h => by rw [len0 (h (by decide))]; rfl
 | 14, g, _, h => by rw [len0 (h (by decide))]; rfl
 | 15, g, _, h => by rw [len0 (h (by decide))]; rfl
 | 16, g, _, h => by rw [len0 (h (by decide))]; rfl
 | 17, g, _, h => by obtain ⟨x0, rfl⟩ := cV (h (by decide)); rfl
 | 18, g, _, h => by rw [len0 (h (by decide))]; rfl
 | 19, g, _, h => by rw [len0 (h (by decide))]; rfl
 | 20, g, _, h => by rw [len0 (h (by decide))]; rfl
 | 21, g, _, h => by rw [len0 (h (by decide))]; rfl
 | 22, g, _, h => by rw [len0 (h (by decide))]; rfl
 | 23, g, _, h => by obtain ⟨x0, x1, rfl⟩ := cN (h (by decide)); rfl
 | 24, g, _, h => by rw [len0 (h (by decide))]; rfl
 | 25, g, _, h => by rw [len0 (h (by decide))]; rfl
 | 26, g, _, h => by rw [len0 (h (by decide))]; rfl
 | 27, g, _, h => by obtain ⟨x0, x1, rfl⟩ := cN (h (by decide)); rfl
 | 28, g, _, h => by obtain ⟨x0, x1, rfl⟩ := cN (h (by decide)); rfl
 | n + 29, _, h, _ => absurd h (by omega)
theorem HH (n : Nat) (g : List Nat) (h1 : 15 <= n) (h2 : n <= 43) (h : n ≠ 10 -> g.length = cI.getD n 0) : Kzk.acts none (qst n g) = none := by
 obtain ⟨i, rfl⟩ : ∃ i, n = 15 + i := ⟨n - 15, by omega⟩
 exact Fg i g (by omega) h
theorem Kp {h : Hall} {c : Kzk.Call} (hc : Kzk.isChange c = true) : (Kzk.does h c).1.now.n = h.now.n := by
 rw [zb h c hc]
 rcases iN h.now c hc with ⟨q1, q2⟩ | ⟨t, q1, q2, q3⟩
 ·rw [if_neg (by omega), q1]; rfl
 ·rw [if_pos q2, q1]; exact q3
section
variable {P : Program} {w : World} {K : PySem.W.Frag} {mg : Str -> Option Value} {base : Heap} {C : Addr}
def jn (K : PySem.W.Frag) (C : Addr) : Sp := fun vs H Q _ => vs.length = 3 /\ ∃ (a g : Addr) (h : Hall) (d : Ad) (n : Nat) (given : List Nat), vs = [.ref a, .str (gc.getD n ""), .ref g] /\ 15 <= n /\ n <= 21 /\ NL K H g given /\ (n ≠ 10 -> given.length = cI.getD n 0) /\ 1 <= h.now.n /\ Told C H a h d (Kzk.ask h.now (qst n given)) Q
abbrev dA : KK := fun P w K mg b C => Cal P w K mg b "asked_of_rounds" 7 ["watch", "name", "given"] (jn K C)
theorem jv (F : Fa K mg "asked_of_rounds" (top 139)) (T : Txt K mg C) (Gf : sU P w K mg base C) (A3 : lF P w K mg base C) (DH : oM P w K mg base C) (DC : oG P w K mg base C) (ya : jE P w K mg base C) (IC : xE P w K mg base C) (AX : lC P w K mg base C) : dA P w K mg base C := by
 refine okF ["watch", "name", "given"] F fun nd f cdv A outer s0 H vs Q E hr h => ?_
 obtain ⟨_, a, g, h, d, n, given, rfl, h1, h2, hG, hlen, hn1, D⟩ := h
 refine ⟨_, (aa (aA (tc bt (pv 1) aY) (ab (af (au AX hr rfl (a2 (pv 0) (ix K (pv 2) (ai 0)))))) aj)
   (aa (aA (tc bt (pv 1) aY) (ab (af (au IC hr rfl (a1 (pv 0))))) aj)
   (aa (aA (tc bt (pv 1) aY) (ab (af (au ya hr rfl (a1 (pv 0))))) aj)
   (aa (aA (tc bt (pv 1) aY) (ab (af (au DC hr rfl (a1 (pv 0))))) aj)
   (aa (aA (tc bt (pv 1) aY) (ab (af (au DH hr rfl (a1 (pv 0))))) aj)
   (aa (aA (tc bt (pv 1) aY) (ab (af (au A3 hr rfl (a1 (pv 0))))) aj)
   (ab (af (au Gf hr rfl (a1 (pv 0))))))))))), ?_⟩
 obtain ⟨i, rfl⟩ : ∃ i, n = 15 + i := ⟨n - 15, by omega⟩
 have hi : i < 7 := by omega
 match i, hi with
 | 0, _ =>
  obtain ⟨x0, rfl⟩ := cV (hlen (by decide))
  exact ⟨_, rfl, rfl, _, rfl, aN ⟨_, rfl, _, rfl, _, _, _, _, rfl, rfl, hG, aQ (j := 0) (by simp), rfl, a, h, d, _, rfl, D⟩⟩
 | 1, _ =>
  obtain rfl := len0 (hlen (by decide))
  refine ⟨_, rfl, rfl, _, rfl, ao (by decide +kernel) ?_⟩
  exact ⟨_, rfl, rfl, _, rfl, aN ⟨_, rfl, rfl, a, h, d, rfl, D⟩⟩
 | 2, _ =>
  obtain rfl := len0 (hlen (by decide))
  refine ⟨_, rfl, rfl, _, rfl, ao (by decide +kernel) ?_⟩
  refine ⟨_, rfl, rfl, _, rfl, ao (by decide +kernel) ?_⟩
  exact ⟨_, rfl, rfl, _, rfl, aN ⟨_, rfl, rfl, a, h, d, rfl, hn1, D⟩⟩
 | 3, _ =>
  obtain rfl := len0 (hlen (by decide))
  refine ⟨_, rfl, rfl, _, rfl, ao (by decide +kernel) ?_⟩
  refine ⟨_, rfl, rfl, _, rfl, ao (by decide +kernel) ?_⟩
  refine ⟨_, rfl, rfl, _, rfl, ao (by decide +kernel) ?_⟩
  exact ⟨_, rfl, rfl, _, rfl, aN ⟨_, rfl, rfl, a, h, d, rfl, hn1, D⟩⟩
 | 4, _ =>
  obtain rfl := len0 (hlen (by decide))
  refine ⟨_, rfl, rfl, _, rfl, ao (by decide +kernel) ?_⟩
  refine ⟨_, rfl, rfl, _, rfl, ao (by decide +kernel) ?_⟩
  refine ⟨_, rfl, rfl, _, rfl, ao (by decide +kernel) ?_⟩
  refine ⟨_, rfl, rfl, _, rfl, ao (by decide +kernel) ?_⟩
  exact ⟨_, rfl, rfl, _, rfl, aN ⟨_, rfl, rfl, a, h, d, rfl, hn1, D⟩⟩
 | 5, _ =>
  obtain rfl := len0 (hlen (by decide))
  refine ⟨_, rfl, rfl, _, rfl, ao (by decide +kernel) ?_⟩
  refine ⟨_, rfl, rfl, _, rfl, ao (by decide +kernel) ?_⟩
  refine ⟨_, rfl, rfl, _, rfl, ao (by decide +kernel) ?_⟩
  refine ⟨_, rfl, rfl, _, rfl, ao (by decide +kernel) ?_⟩
  refine ⟨_, rfl, rfl, _, rfl, ao (by decide +kernel) ?_⟩
  exact ⟨_, rfl, rfl, _, rfl, aN ⟨_, rfl, rfl, a, h, d, rfl, hn1, D⟩⟩
 | 6, _ =>
  obtain rfl := len0 (hlen (by decide))
  refine ⟨_, rfl, rfl, _, rfl, ao (by decide +kernel) ?_⟩
  refine ⟨_, rfl, rfl, _, rfl, ao (by decide +kernel) ?_⟩
  refine ⟨_, rfl, rfl, _, rfl, ao (by decide +kernel) ?_⟩
  refine ⟨_, rfl, rfl, _, rfl, ao (by decide +kernel) ?_⟩
  refine ⟨_, rfl, rfl, _, rfl, ao (by decide +kernel) ?_⟩
  refine ⟨_, rfl, rfl, _, rfl, ao (by decide +kernel) ?_⟩
  exact ⟨_, rfl, rfl, a, h, d, rfl, hn1, D⟩
def ic (K : PySem.W.Frag) (C : Addr) : Sp := fun vs H Q _ => vs.length = 2 /\ ∃ (a : Addr) (h : Hall) (d : Ad) (n : Nat), vs = [.ref a, .str (gc.getD n "")] /\ 22 <= n /\ n <= 25 /\ 1 <= h.now.n /\ Told C H a h d (Kzk.ask h.now (qst n [])) Q
abbrev cW : KK := fun P w K mg b C => Cal P w K mg b "asked_of_watching" 7 ["watch", "name"] (ic K C)
theorem iA (F : Fa K mg "asked_of_watching" (top 140)) (T : Txt K mg C) (DD : oH P w K mg base C) (Kr : CN P w K mg base C) (IK : xN P w K mg base C) (Gd : sR P w K mg base C) : cW P w K mg base C := by
 refine okF ["watch", "name"] F fun nd f cdv A outer s0 H vs Q E hr h => ?_
 obtain ⟨_, a, h, d, n, rfl, h1, h2, hn1, D⟩ := h
 refine ⟨_, (aa (aA (tc bt (pv 1) aY) (ab (af (au Gd hr rfl (a1 (pv 0))))) aj)
   (aa (aA (tc bt (pv 1) aY) (ab (af (au IK hr rfl (a1 (pv 0))))) aj)
   (aa (aA (tc bt (pv 1) aY) (ab (af (au Kr hr rfl (a1 (pv 0))))) aj)
   (ab (af (au DD hr rfl (a1 (pv 0)))))))), ?_⟩
 obtain ⟨i, rfl⟩ : ∃ i, n = 22 + i := ⟨n - 22, by omega⟩
 have hi : i < 4 := by omega
 match i, hi with
 | 0, _ =>
  exact ⟨_, rfl, rfl, _, rfl, aN ⟨_, rfl, rfl, a, h, d, rfl, hn1, D⟩⟩
 | 1, _ =>
  refine ⟨_, rfl, rfl, _, rfl, ao (by decide +kernel) ?_⟩
  exact ⟨_, rfl, rfl, _, rfl, aN ⟨_, rfl, rfl, a, h, d, rfl, hn1, D⟩⟩
 | 2, _ =>
  refine ⟨_, rfl, rfl, _, rfl, ao (by decide +kernel) ?_⟩
  refine ⟨_, rfl, rfl, _, rfl, ao (by decide +kernel) ?_⟩
  exact ⟨_, rfl, rfl, _, rfl, aN ⟨_, rfl, rfl, a, h, d, rfl, hn1, D⟩⟩
 | 3, _ =>
  refine ⟨_, rfl, rfl, _, rfl, ao (by decide +kernel) ?_⟩
  refine ⟨_, rfl, rfl, _, rfl, ao (by decide +kernel) ?_⟩
  refine ⟨_, rfl, rfl, _, rfl, ao (by decide +kernel) ?_⟩
  exact ⟨_, rfl, rfl, a, h, d, rfl, hn1, D⟩
def kZ (K : PySem.W.Frag) (C : Addr) : Sp := fun vs H Q _ => vs.length = 2 /\ ∃ (a : Addr) (h : Hall) (d : Ad) (n : Nat), vs = [.ref a, .str (gc.getD n "")] /\ 26 <= n /\ n <= 29 /\ 1 <= h.now.n /\ Told C H a h d (Kzk.ask h.now (qst n [])) Q
abbrev ee : KK := fun P w K mg b C => Cal P w K mg b "asked_of_rest" 7 ["watch", "name"] (kZ K C)
theorem lu (F : Fa K mg "asked_of_rest" (top 141)) (T : Txt K mg C) (DG : oK P w K mg base C) (IM : xP P w K mg base C) (DA : oE P w K mg base C) (FX : sL P w K mg base C) : ee P w K mg base C := by
 refine okF ["watch", "name"] F fun nd f cdv A outer s0 H vs Q E hr h => ?_
 obtain ⟨_, a, h, d, n, rfl, h1, h2, hn1, D⟩ := h
 refine ⟨_, (aa (aA (tc bt (pv 1) aY) (ab (af (au FX hr rfl (a1 (pv 0))))) aj)
   (aa (aA (tc bt (pv 1) aY) (ab (af (au DA hr rfl (a1 (pv 0))))) aj)
   (aa (aA (tc bt (pv 1) aY) (ab (af (au IM hr rfl (a1 (pv 0))))) aj)
   (ab (af (au DG hr rfl (a1 (pv 0)))))))), ?_⟩
 obtain ⟨i, rfl⟩ : ∃ i, n = 26 + i := ⟨n - 26, by omega⟩
 have hi : i < 4 := by omega
 match i, hi with
 | 0, _ =>
  exact ⟨_, rfl, rfl, _, rfl, aN ⟨_, rfl, rfl, a, h, d, rfl, hn1, D⟩⟩
 | 1, _ =>
  refine ⟨_, rfl, rfl, _, rfl, ao (by decide +kernel) ?_⟩
  exact ⟨_, rfl, rfl, _, rfl, aN ⟨_, rfl, rfl, a, h, d, rfl, hn1, D⟩⟩
 | 2, _ =>
  refine ⟨_, rfl, rfl, _, rfl, ao (by decide +kernel) ?_⟩
  refine ⟨_, rfl, rfl, _, rfl, ao (by decide +kernel) ?_⟩
  exact ⟨_, rfl, rfl, _, rfl, aN ⟨_, rfl, rfl, a, h, d, rfl, hn1, D⟩⟩
 | 3, _ =>
  refine ⟨_, rfl, rfl, _, rfl, ao (by decide +kernel) ?_⟩
  refine ⟨_, rfl, rfl, _, rfl, ao (by decide +kernel) ?_⟩
  refine ⟨_, rfl, rfl, _, rfl, ao (by decide +kernel) ?_⟩
  exact ⟨_, rfl, rfl, a, h, d, rfl, hn1, D⟩
def jZ (K : PySem.W.Frag) (C : Addr) : Sp := fun vs H Q _ => vs.length = 3 /\ ∃ (a g : Addr) (h : Hall) (d : Ad) (n : Nat) (given : List Nat), vs = [.ref a, .str (gc.getD n ""), .ref g] /\ 30 <= n /\ n <= 34 /\ NL K H g given /\ (n ≠ 10 -> given.length = cI.getD n 0) /\ 1 <= h.now.n /\ Told C H a h d (Kzk.ask h.now (qst n given)) Q
abbrev dJ : KK := fun P w K mg b C => Cal P w K mg b "asked_of_moves" 8 ["watch", "name", "given"] (jZ K C)
theorem ko (F : Fa K mg "asked_of_moves" (top 142)) (T : Txt K mg C) (Ks : CO P w K mg base C) (FT : sE P w K mg base C) (Kt : CP P w K mg base C) (FY : sM P w K mg base C) (Ga : sO P w K mg base C) : dJ P w K mg base C := by
 refine okF ["watch", "name", "given"] F fun nd f cdv A outer s0 H vs Q E hr h => ?_
 obtain ⟨_, a, g, h, d, n, given, rfl, h1, h2, hG, hlen, hn1, D⟩ := h
 refine ⟨_, (aa (aA (tc bt (pv 1) aY) (ab (af (au Ga hr rfl (a1 (pv 0))))) aj)
   (aa (aA (tc bt (pv 1) aY) (ab (af (au FY hr rfl (a1 (pv 0))))) aj)
   (aa (aA (tc bt (pv 1) aY) (ab (af (au Kt hr rfl (a2 (pv 0) (ix K (pv 2) (ai 0)))))) aj)
   (aa (aA (tc bt (pv 1) aY) (ab (af (au FT hr rfl (a1 (pv 0))))) aj)
   (ab (af (au Ks hr rfl (a1 (pv 0))))))))), ?_⟩
 obtain ⟨i, rfl⟩ : ∃ i, n = 30 + i := ⟨n - 30, by omega⟩
 have hi : i < 5 := by omega
 match i, hi with
 | 0, _ =>
  obtain rfl := len0 (hlen (by decide))
  exact ⟨_, rfl, rfl, _, rfl, aN ⟨_, rfl, rfl, a, h, d, rfl, hn1, D⟩⟩
 | 1, _ =>
  obtain rfl := len0 (hlen (by decide))
  refine ⟨_, rfl, rfl, _, rfl, ao (by decide +kernel) ?_⟩
  exact ⟨_, rfl, rfl, _, rfl, aN ⟨_, rfl, rfl, a, h, d, rfl, hn1, D⟩⟩
 | 2, _ =>
  obtain ⟨x0, rfl⟩ := cV (hlen (by decide))
  refine ⟨_, rfl, rfl, _, rfl, ao (by decide +kernel) ?_⟩
  refine ⟨_, rfl, rfl, _, rfl, ao (by decide +kernel) ?_⟩
  exact ⟨_, rfl, rfl, _, rfl, aN ⟨_, rfl, _, rfl, _, _, _, _, rfl, rfl, hG, aQ (j := 0) (by simp), rfl, a, h, d, _, rfl, hn1, D⟩⟩
 | 3, _ =>
  obtain rfl := len0 (hlen (by decide))
  refine ⟨_, rfl, rfl, _, rfl, ao (by decide +kernel) ?_⟩
  refine ⟨_, rfl, rfl, _, rfl, ao (by decide +kernel) ?_⟩
  refine ⟨_, rfl, rfl, _, rfl, ao (by decide +kernel) ?_⟩
  exact ⟨_, rfl, rfl, _, rfl, aN ⟨_, rfl, rfl, a, h, d, rfl, hn1, D⟩⟩
 | 4, _ =>
  obtain rfl := len0 (hlen (by decide))
  refine ⟨_, rfl, rfl, _, rfl, ao (by decide +kernel) ?_⟩
  refine ⟨_, rfl, rfl, _, rfl, ao (by decide +kernel) ?_⟩
  refine ⟨_, rfl, rfl, _, rfl, ao (by decide +kernel) ?_⟩
  refine ⟨_, rfl, rfl, _, rfl, ao (by decide +kernel) ?_⟩
  exact ⟨_, rfl, rfl, a, h, d, rfl, hn1, D⟩
def k0 (K : PySem.W.Frag) (C : Addr) : Sp := fun vs H Q _ => vs.length = 3 /\ ∃ (a g : Addr) (h : Hall) (d : Ad) (n : Nat) (given : List Nat), vs = [.ref a, .str (gc.getD n ""), .ref g] /\ 35 <= n /\ n <= 38 /\ NL K H g given /\ (n ≠ 10 -> given.length = cI.getD n 0) /\ 1 <= h.now.n /\ Told C H a h d (Kzk.ask h.now (qst n given)) Q
abbrev eh : KK := fun P w K mg b C => Cal P w K mg b "asked_of_held" 8 ["watch", "name", "given"] (k0 K C)
theorem lx (F : Fa K mg "asked_of_held" (top 143)) (T : Txt K mg C) (Ge : sT P w K mg base C) (DE : oI P w K mg base C) (yf : jJ P w K mg base C) (Ku : CQ P w K mg base C) : eh P w K mg base C := by
 refine okF ["watch", "name", "given"] F fun nd f cdv A outer s0 H vs Q E hr h => ?_
 obtain ⟨_, a, g, h, d, n, given, rfl, h1, h2, hG, hlen, hn1, D⟩ := h
 refine ⟨_, (aa (aA (tc bt (pv 1) aY) (ab (af (au Ku hr rfl (a1 (pv 0))))) aj)
   (aa (aA (tc bt (pv 1) aY) (ab (af (au yf hr rfl (a1 (pv 0))))) aj)
   (aa (aA (tc bt (pv 1) aY) (ab (af (au DE hr rfl (a1 (pv 0))))) aj)
   (ab (af (au Ge hr rfl (a3 (pv 0) (ix K (pv 2) (ai 0)) (ix K (pv 2) (ai 1))))))))), ?_⟩
 obtain ⟨i, rfl⟩ : ∃ i, n = 35 + i := ⟨n - 35, by omega⟩
 have hi : i < 4 := by omega
 match i, hi with
 | 0, _ =>
  obtain rfl := len0 (hlen (by decide))
  exact ⟨_, rfl, rfl, _, rfl, aN ⟨_, rfl, rfl, a, h, d, rfl, hn1, D⟩⟩
 | 1, _ =>
  obtain rfl := len0 (hlen (by decide))
  refine ⟨_, rfl, rfl, _, rfl, ao (by decide +kernel) ?_⟩
  exact ⟨_, rfl, rfl, _, rfl, aN ⟨_, rfl, rfl, a, h, d, rfl, hn1, D⟩⟩
 | 2, _ =>
  obtain rfl := len0 (hlen (by decide))
  refine ⟨_, rfl, rfl, _, rfl, ao (by decide +kernel) ?_⟩
  refine ⟨_, rfl, rfl, _, rfl, ao (by decide +kernel) ?_⟩
  exact ⟨_, rfl, rfl, _, rfl, aN ⟨_, rfl, rfl, a, h, d, rfl, hn1, D⟩⟩
 | 3, _ =>
  obtain ⟨x0, x1, rfl⟩ := cN (hlen (by decide))
  refine ⟨_, rfl, rfl, _, rfl, ao (by decide +kernel) ?_⟩
  refine ⟨_, rfl, rfl, _, rfl, ao (by decide +kernel) ?_⟩
  refine ⟨_, rfl, rfl, _, rfl, ao (by decide +kernel) ?_⟩
  exact ⟨_, rfl, _, rfl, _, _, _, _, rfl, rfl, hG, aQ (j := 0) (by simp), _, rfl, _, _, _, _, rfl, rfl, hG, aQ (j := 1) (by simp), rfl, a, h, d, _, _, rfl, hn1, D⟩
def jo (K : PySem.W.Frag) (C : Addr) : Sp := fun vs H Q _ => vs.length = 3 /\ ∃ (a g : Addr) (h : Hall) (d : Ad) (n : Nat) (given : List Nat), vs = [.ref a, .str (gc.getD n ""), .ref g] /\ 39 <= n /\ n <= 43 /\ NL K H g given /\ (n ≠ 10 -> given.length = cI.getD n 0) /\ 1 <= h.now.n /\ Told C H a h d (Kzk.ask h.now (qst n given)) Q
abbrev dB : KK := fun P w K mg b C => Cal P w K mg b "asked_of_rising" 7 ["watch", "name", "given"] (jo K C)
theorem jw (F : Fa K mg "asked_of_rising" (top 144)) (T : Txt K mg C) (IE : xG P w K mg base C) (IG : xI P w K mg base C) (yd : jH P w K mg base C) (Gb : sQ P w K mg base C) (FW : sJ P w K mg base C) : dB P w K mg base C := by
 refine okF ["watch", "name", "given"] F fun nd f cdv A outer s0 H vs Q E hr h => ?_
 obtain ⟨_, a, g, h, d, n, given, rfl, h1, h2, hG, hlen, hn1, D⟩ := h
 refine ⟨_, (aa (aA (tc bt (pv 1) aY) (ab (af (au FW hr rfl (a1 (pv 0))))) aj)
   (aa (aA (tc bt (pv 1) aY) (ab (af (au Gb hr rfl (a1 (pv 0))))) aj)
   (aa (aA (tc bt (pv 1) aY) (ab (af (au yd hr rfl (a1 (pv 0))))) aj)
   (aa (aA (tc bt (pv 1) aY) (ab (af (au IG hr rfl (a3 (pv 0) (ix K (pv 2) (ai 0)) (ix K (pv 2) (ai 1)))))) aj)
   (ab (af (au IE hr rfl (a3 (pv 0) (ix K (pv 2) (ai 0)) (ix K (pv 2) (ai 1)))))))))), ?_⟩
 obtain ⟨i, rfl⟩ : ∃ i, n = 39 + i := ⟨n - 39, by omega⟩
 have hi : i < 5 := by omega
 match i, hi with
 | 0, _ =>
  obtain rfl := len0 (hlen (by decide))
  exact ⟨_, rfl, rfl, _, rfl, aN ⟨_, rfl, rfl, a, h, d, rfl, hn1, D⟩⟩
 | 1, _ =>
  obtain rfl := len0 (hlen (by decide))
  refine ⟨_, rfl, rfl, _, rfl, ao (by decide +kernel) ?_⟩
  exact ⟨_, rfl, rfl, _, rfl, aN ⟨_, rfl, rfl, a, h, d, rfl, hn1, D⟩⟩
 | 2, _ =>
  obtain rfl := len0 (hlen (by decide))
  refine ⟨_, rfl, rfl, _, rfl, ao (by decide +kernel) ?_⟩
  refine ⟨_, rfl, rfl, _, rfl, ao (by decide +kernel) ?_⟩
  exact ⟨_, rfl, rfl, _, rfl, aN ⟨_, rfl, rfl, a, h, d, rfl, hn1, D⟩⟩
 | 3, _ =>
  obtain ⟨x0, x1, rfl⟩ := cN (hlen (by decide))
  refine ⟨_, rfl, rfl, _, rfl, ao (by decide +kernel) ?_⟩
  refine ⟨_, rfl, rfl, _, rfl, ao (by decide +kernel) ?_⟩
  refine ⟨_, rfl, rfl, _, rfl, ao (by decide +kernel) ?_⟩
  exact ⟨_, rfl, rfl, _, rfl, aN ⟨_, rfl, _, rfl, _, _, _, _, rfl, rfl, hG, aQ (j := 0) (by simp), _, rfl, _, _, _, _, rfl, rfl, hG, aQ (j := 1) (by simp), rfl, a, h, d, _, _, rfl, hn1, D⟩⟩
 | 4, _ =>
  obtain ⟨x0, x1, rfl⟩ := cN (hlen (by decide))
  refine ⟨_, rfl, rfl, _, rfl, ao (by decide +kernel) ?_⟩
  refine ⟨_, rfl, rfl, _, rfl, ao (by decide +kernel) ?_⟩
  refine ⟨_, rfl, rfl, _, rfl, ao (by decide +kernel) ?_⟩
  refine ⟨_, rfl, rfl, _, rfl, ao (by decide +kernel) ?_⟩
  exact ⟨_, rfl, _, rfl, _, _, _, _, rfl, rfl, hG, aQ (j := 0) (by simp), _, rfl, _, _, _, _, rfl, rfl, hG, aQ (j := 1) (by simp), rfl, a, h, d, _, _, rfl, hn1, D⟩
theorem pC.told {C : Addr} {H : Hp} {a : Addr} {h : Hall} {d : Ad} {x : Kzk1.Ans} {Q : VK} (D : pC C H a h d (h, x) Q) : Told C H a h d x Q := ⟨D.1, fun H' p s hp hA => D.2 H' p d (Turn.same D.1 s) hp hA⟩
def um (K : PySem.W.Frag) (C : Addr) : Sp := fun vs H Q _ => vs.length = 2 /\ ∃ (a : Addr) (h : Hall) (d : Ad) (n : Nat), vs = [.ref a, .str (gc.getD n "")] /\ 44 <= n /\ n <= 47 /\ pC C H a h d (Kzk.does h (rcl n)) Q
abbrev jF : KK := fun P w K mg b C => Cal P w K mg b "recalled" 4 ["watch", "name"] (um K C)
theorem uY (F : Fa K mg "recalled" (top 145)) (T : Txt K mg C) (FU : sG P w K mg base C) (IA : xC P w K mg base C) (Gg : sV P w K mg base C) (IP : xQ P w K mg base C) : jF P w K mg base C := by
 refine okF ["watch", "name"] F fun nd f cdv A outer s0 H vs Q E hr h => ?_
 obtain ⟨_, a, h, d, n, rfl, h1, h2, D⟩ := h
 refine ⟨_, (aa (aA (tc bt (pv 1) aY) (ab (af (au IP hr rfl (a1 (pv 0))))) aj)
   (aa (aA (tc bt (pv 1) aY) (ab (af (au Gg hr rfl (a1 (pv 0))))) aj)
   (aa (aA (tc bt (pv 1) aY) (ab (af (au IA hr rfl (a1 (pv 0))))) aj)
   (ab (af (au FU hr rfl (a1 (pv 0)))))))), ?_⟩
 obtain ⟨i, rfl⟩ : ∃ i, n = 44 + i := ⟨n - 44, by omega⟩
 have hi : i < 4 := by omega
 match i, hi with
 | 0, _ => exact ⟨_, rfl, rfl, _, rfl, aN ⟨_, rfl, rfl, a, h, d, rfl, D⟩⟩
 | 1, _ =>
  refine ⟨_, rfl, rfl, _, rfl, ao (by decide +kernel) ?_⟩
  exact ⟨_, rfl, rfl, _, rfl, aN ⟨_, rfl, rfl, a, h, d, rfl, D⟩⟩
 | 2, _ =>
  refine ⟨_, rfl, rfl, _, rfl, ao (by decide +kernel) ?_⟩
  refine ⟨_, rfl, rfl, _, rfl, ao (by decide +kernel) ?_⟩
  exact ⟨_, rfl, rfl, _, rfl, aN ⟨_, rfl, rfl, a, h, d, rfl, pC.told D⟩⟩
 | 3, _ =>
  refine ⟨_, rfl, rfl, _, rfl, ao (by decide +kernel) ?_⟩
  refine ⟨_, rfl, rfl, _, rfl, ao (by decide +kernel) ?_⟩
  refine ⟨_, rfl, rfl, _, rfl, ao (by decide +kernel) ?_⟩
  exact ⟨_, rfl, rfl, a, h, d, rfl, pC.told D⟩
theorem Gr {n : Nat} {g : List Nat} (h0 : n ≠ 0) (ok : okC (n, g)) : (KzkNeutral.callOf (encC (n, g))).bind (Kzk.acts none) = none := by
 have hn : n < 48 := ok.1
 have hl := ok.2
 by_cases c1 : n <= 14
 ·rw [vP n g (by omega) c1 hl]
  have hc := x8 (show 1 <= n by omega) c1 ok
  show Kzk.acts none (chg n g) = none
  generalize chg n g = c at hc
  cases c <;> first | rfl | (exact absurd hc Bool.false_ne_true)
 ·by_cases c2 : n <= 43
  ·rw [vO n g (by omega) c2 hl]
   exact HH n g (by omega) c2 hl
  ·rw [vN n g (by omega) (by omega) hl]
   obtain ⟨i, rfl⟩ : ∃ i, n = 44 + i := ⟨n - 44, by omega⟩
   have hi : i < 4 := by omega
   match i, hi with
   | 0, _ => rfl
   | 1, _ => rfl
   | 2, _ => rfl
   | 3, _ => rfl
theorem vc (F : Fa K mg "answered" (top 147)) (T : Txt K mg C) (yb : jF P w K mg base C) (kK : dB P w K mg base C) (mR : eh P w K mg base C) (lV : dJ P w K mg base C) (mQ : ee P w K mg base C) (ja : cW P w K mg base C) (kJ : dA P w K mg base C) (A4 : lG P w K mg base C) (FV : sH P w K mg base C) : jK P w K mg base C := by
 refine okF ["watch", "number", "given", "name"] F fun nd f cdv A outer s0 H vs Q E hr h => ?_
 obtain ⟨_, a, g, s, d, n, given, s', ans, rfl, hG, W, hoS, okc, h8, hst, k⟩ := h
 obtain ⟨ua, gL, hNm⟩ := T.gL
 have CY : n < 48 := okc.1
 have hl := okc.2
 refine ⟨_, (aa (st 3 nd (dZ (eB K) (aK rfl gL) (pv 1) (fun _ _ => rfl)))
   (aa (aA (tc dq (pv 1) (aK rfl T.FI)) (ab (af (au FV hr rfl (a2 (pv 0) (ix K (pv 2) (ai 0)))))) aj)
   (aa (aA (tc mj (pv 1) (aK rfl T.qk)) (ab (af (au A4 hr rfl (a3 (pv 0) (pv 1) (pv 2))))) aj)
   (aa (aA (tc mj (pv 1) (aK rfl T.lN)) (ab (af (au kJ hr rfl (a3 (pv 0) (pv 3) (pv 2))))) aj)
   (aa (aA (tc mj (pv 1) (aK rfl T.jM)) (ab (af (au ja hr rfl (a2 (pv 0) (pv 3))))) aj)
   (aa (aA (tc mj (pv 1) (aK rfl T.oW)) (ab (af (au mQ hr rfl (a2 (pv 0) (pv 3))))) aj)
   (aa (aA (tc mj (pv 1) (aK rfl T.mN)) (ab (af (au lV hr rfl (a3 (pv 0) (pv 3) (pv 2))))) aj)
   (aa (aA (tc mj (pv 1) (aK rfl T.oX)) (ab (af (au mR hr rfl (a3 (pv 0) (pv 3) (pv 2))))) aj)
   (aa (aA (tc mj (pv 1) (aK rfl T.lO)) (ab (af (au kK hr rfl (a3 (pv 0) (pv 3) (pv 2))))) aj)
   (ab (af (au yb hr rfl (a2 (pv 0) (pv 3)))))))))))))), ?_⟩
 refine ⟨_, rfl, _, _, _, _, rfl, rfl, hNm _, su CY, ?_⟩
 refine ⟨_, rfl, _, _, rfl, rfl, _, rfl, aJ (fun c0 => ?_) (fun c0 => ?_)⟩
 ·have c0 : n = 0 := zAe c0
  subst c0
  obtain ⟨x, rfl⟩ := cV (hl (by show (0 : Nat) ≠ 10; decide))
  refine ⟨_, rfl, _, rfl, _, _, _, _, rfl, rfl, hG, aQ (j := 0) (by simp), rfl, a, lK s, d, x, rfl, W, fun H1 p d1 t1 hp hA => ?_⟩
  have e0 : Kzk.acts s (.start x) = some (s', ans) := hst
  by_cases c : 1 <= x /\ x <= 4
  ·rw [if_pos c] at t1 hA
   have e1 : Kzk.acts s (.start x) = some (some ⟨Kzk.empty x, [], []⟩, Kzk1.say 0) := by
    cases s with
    | none =>
     show some (if 1 <= x /\ x <= 4 then _ else _) = _
     rw [if_pos c]
    | some h =>
     show some (some (if 1 <= x /\ x <= 4 then _ else _ : Hall × Kzk1.Ans).1, (if 1 <= x /\ x <= 4 then _ else _ : Hall × Kzk1.Ans).2) = _
     rw [if_pos c]
   obtain ⟨rfl, rfl⟩ := Prod.mk.inj (zBl (e0.symm.trans e1))
   exact k H1 p d1 t1 (fun h e => by rw [← zBl e]; exact c.1) hp hA
  ·rw [if_neg c] at t1 hA
   have e1 : Kzk.acts s (.start x) = some (s, Kzk1.say (-22)) := by
    cases s with
    | none =>
     show some (if 1 <= x /\ x <= 4 then _ else _) = _
     rw [if_neg c]
    | some h =>
     show some (some (if 1 <= x /\ x <= 4 then _ else _ : Hall × Kzk1.Ans).1, (if 1 <= x /\ x <= 4 then _ else _ : Hall × Kzk1.Ans).2) = _
     rw [if_neg c]
   obtain ⟨rfl, rfl⟩ := Prod.mk.inj (zBl (e0.symm.trans e1))
   exact k H1 p d1 t1 hoS hp hA
 have c0 : n ≠ 0 := fun z => c0 (zAf z)
 obtain ⟨h, rfl⟩ : ∃ h, s = some h := by
  cases s with
  | none => rw [Gr c0 okc] at hst; cases hst
  | some h => exact ⟨h, rfl⟩
 have hn1 : 1 <= h.now.n := hoS h rfl
 have W : WAt C H a h d := W
 have fin : ∀ c : Kzk.Call, KzkNeutral.callOf (encC (n, given)) = some c -> (Kzk.does h c).1.now.n = h.now.n -> ∀ (H' : Hp) (p : Addr) (d' : Ad), Turn C H H' a (Kzk.does h c).1 d d' -> H p = none -> bJ H' p (Kzk.does h c).2 -> Q (.ref p) H' := fun c ec en H' p d' t hp hA => by
  rw [ec] at hst
  have hst : some (some (Kzk.does h c).1, (Kzk.does h c).2) = some (s', ans) := hst
  obtain ⟨rfl, rfl⟩ := Prod.mk.inj (zBl hst)
  exact k H' p d' t (fun h' e => by rw [← zBl e, en]; exact hn1) hp hA
 have quest : 15 <= n -> n <= 43 -> Told C H a h d (Kzk.ask h.now (qst n given)) Q := fun q1 q2 => by
  have e := Dq h n given q1 q2 hl
  have f := fin _ (vO n given q1 q2 hl)
  rw [e] at f
  exact ⟨W, fun H' p s1 hp hA => f rfl H' p d (Turn.same W s1) hp hA⟩
 refine ⟨_, rfl, _, _, rfl, rfl, _, rfl, aJ (fun c1 => ?_) (fun c1 => ?_)⟩
 ·have c1 : n <= 14 := zAe c1
  have hc := x8 (show 1 <= n by omega) c1 okc
  exact ⟨_, rfl, _, rfl, _, rfl, rfl, a, g, h, d, n, given, rfl, by omega, c1, hG, okc, h8, W, fun H' p d' t hp hA => fin _ (vP n given (by omega) c1 hl) (Kp hc) H' p d' t hp hA⟩
 have c1 : ¬ n <= 14 := fun z => c1 (zAf z)
 refine ⟨_, rfl, _, _, rfl, rfl, _, rfl, aJ (fun c2 => ?_) (fun c2 => ?_)⟩
 ·have c2 : n <= 21 := zAe c2
  exact ⟨_, rfl, _, rfl, _, rfl, rfl, a, g, h, d, n, given, rfl, by omega, c2, hG, hl, hn1, quest (by omega) (by omega)⟩
 have c2 : ¬ n <= 21 := fun z => c2 (zAf z)
 refine ⟨_, rfl, _, _, rfl, rfl, _, rfl, aJ (fun c3 => ?_) (fun c3 => ?_)⟩
 ·have c3 : n <= 25 := zAe c3
  have hg : given = [] := by
   have q := hl (by show n ≠ 10; omega)
   clear hst k hG W fin quest okc
   obtain ⟨i, rfl⟩ : ∃ i, n = 22 + i := ⟨n - 22, by omega⟩
   have hi : i < 4 := by omega
   match i, hi with
   | 0, _ => exact len0 q
   | 1, _ => exact len0 q
   | 2, _ => exact len0 q
   | 3, _ => exact len0 q
  subst hg
  exact ⟨_, rfl, _, rfl, rfl, a, h, d, n, rfl, by omega, c3, hn1, quest (by omega) (by omega)⟩
 have c3 : ¬ n <= 25 := fun z => c3 (zAf z)
 refine ⟨_, rfl, _, _, rfl, rfl, _, rfl, aJ (fun c4 => ?_) (fun c4 => ?_)⟩
 ·have c4 : n <= 29 := zAe c4
  have hg : given = [] := by
   have q := hl (by show n ≠ 10; omega)
   clear hst k hG W fin quest okc
   obtain ⟨i, rfl⟩ : ∃ i, n = 26 + i := ⟨n - 26, by omega⟩
   have hi : i < 4 := by omega
   match i, hi with
   | 0, _ => exact len0 q
   | 1, _ => exact len0 q
   | 2, _ => exact len0 q
   | 3, _ => exact len0 q
  subst hg
  exact ⟨_, rfl, _, rfl, rfl, a, h, d, n, rfl, by omega, c4, hn1, quest (by omega) (by omega)⟩
 have c4 : ¬ n <= 29 := fun z => c4 (zAf z)
 refine ⟨_, rfl, _, _, rfl, rfl, _, rfl, aJ (fun c5 => ?_) (fun c5 => ?_)⟩
 ·have c5 : n <= 34 := zAe c5
  exact ⟨_, rfl, _, rfl, _, rfl, rfl, a, g, h, d, n, given, rfl, by omega, c5, hG, hl, hn1, quest (by omega) (by omega)⟩
 have c5 : ¬ n <= 34 := fun z => c5 (zAf z)
 refine ⟨_, rfl, _, _, rfl, rfl, _, rfl, aJ (fun c6 => ?_) (fun c6 => ?_)⟩
 ·have c6 : n <= 38 := zAe c6
  exact ⟨_, rfl, _, rfl, _, rfl, rfl, a, g, h, d, n, given, rfl, by omega, c6, hG, hl, hn1, quest (by omega) (by omega)⟩
 have c6 : ¬ n <= 38 := fun z => c6 (zAf z)
 refine ⟨_, rfl, _, _, rfl, rfl, _, rfl, aJ (fun c7 => ?_) (fun c7 => ?_)⟩
 ·have c7 : n <= 43 := zAe c7
  exact ⟨_, rfl, _, rfl, _, rfl, rfl, a, g, h, d, n, given, rfl, by omega, c7, hG, hl, hn1, quest (by omega) (by omega)⟩
 have c7 : ¬ n <= 43 := fun z => c7 (zAf z)
 refine ⟨_, rfl, _, rfl, rfl, a, h, d, n, rfl, by omega, by omega, W, fun H' p d' t hp hA => fin _ (vN n given (by omega) (by omega) hl) ?_ H' p d' t hp hA⟩
 obtain ⟨i, rfl⟩ : ∃ i, n = 44 + i := ⟨n - 44, by omega⟩
 have hi : i < 4 := by omega
 clear hA t hst k hG fin quest okc
 match i, hi with
 | 0, _ =>
  show (match h.past with | [] => (h, Kzk1.say (-6)) | p :: l => _ : Hall × Kzk1.Ans).1.now.n = _
  cases q : h.past with
  | nil => rfl
  | cons b l => exact (W.okp b (List.mem_append_left _ (by rw [q]; exact zAg))).2
 | 1, _ =>
  show (match h.ahead with | [] => (h, Kzk1.say (-6)) | p :: l => _ : Hall × Kzk1.Ans).1.now.n = _
  cases q : h.ahead with
  | nil => rfl
  | cons b l => exact (W.okp b (List.mem_append_right _ (by rw [q]; exact zAg))).2
 | 2, _ => rfl
 | 3, _ => rfl
end
end TW
namespace TW
open PySem PySem.Spec PyProof.Rows L2 TM
def wx (K : PySem.W.Frag) : Sp := ny K 0
section
variable {K : PySem.W.Frag} {mg : Str -> Option Value} {x : Str} {h : Heap} {f : Addr} {od : Option Addr} {sl : Array (Option Value)}
theorem Kg {i j : Int} {t : Tok} (X : K.In h) (G : h.Ns mainGlobals mg) (e : PySem.W.nsIn K mainGlobals x = some (some (.int j t))) (r : j = i) : Gn mg x (.int i) := by
 subst r
 exact ⟨_, PySem.W.mg_of X G e, ⟨_, rfl⟩⟩
theorem Ja {it : Array Value} {n : Nat} {xs : List V} (X : K.In h) (G : h.Ns mainGlobals mg) (a : PySem.W.nsIn K mainGlobals x = some (some (.ref f))) (l : K.lookup f = some ⟨.type "tuple", od, .seq it n, sl⟩) (z : it.size <= sizeLine) (v : Vals xs it.toList) : ∃ a, Gn mg x (.ref a) /\ ∀ H, SqT K H a xs := ⟨_, ⟨_, PySem.W.mg_of X G a, rfl⟩, fun H => .inr ⟨_, _, _, l, rfl, rfl, z, v⟩⟩
end
theorem request {K : PySem.W.Frag} {H : Hp} {c : Addr} {ns : List Int} {Q : VK} {E : XK} (hs : SqL K H c (ns.map V.int)) (h1 : PySem.W.Codec.inLen 0 1500 ns = true) (h2 : ns.all (PySem.W.Codec.inInt 0 4294967295) = true) (h3 : PyKzk.answers_asked ns = true)
  (k : ∀ (H' : Hp) (p : Addr), H' p = some (.lst ((PyKzk.answers ns).map V.int)) -> Q (.ref p) H') : wx K [.ref c] H Q E := by
 have hn : ∀ x ∈ ns, 0 <= x := fun x hx => (PySem.W.Codec.inInt_iff.mp (zBa.mp h2 x hx)).1
 have e : ns = ci (ns.map Int.toNat) := vL hn
 rw [e] at h3
 obtain ⟨ds, ask⟩ := DN h3
 refine ⟨rfl, c, ns.map Int.toNat, ds, rfl, ?_, ask, ?_, fun H2 p hp => k H2 p (by rw [e]; exact hp)⟩
 ·have q : (ns.map Int.toNat).map nv = ns.map V.int := by
   rw [gC]; exact congrArg (List.map V.int) e.symm
  show SqL K H c ((ns.map Int.toNat).map nv)
  rw [q]; exact hs
 ·rw [zAa]; exact (PySem.W.Codec.inNat_iff.mp h1).2
theorem all_mk {P : Program} {w : World} {K : PySem.W.Frag} {mg : Str -> Option Value} {fa C : Addr} (hfa : mg "answers" = some (.ref fa)) (aC : mg "Watch" = some (.ref C)) (T : Txt K mg C)
 (F0 : Fa K mg "state" (top 36))
 (F1 : Fa K mg "sums" (top 35))
 (F2 : FaM K C "show" "Watch.show" (inClass (top 123) 6))
 (F3 : FaM K C "picture" "Watch.picture" (inClass (top 123) 5))
 (F4 : FaM K C "do_again" "Watch.do_again" (inClass (top 123) 9))
 (F5 : Fa K mg "again" (top 34))
 (F6 : FaM K C "take_back" "Watch.take_back" (inClass (top 123) 8))
 (F7 : Fa K mg "back" (top 33))
 (F8 : Fa K mg "recalled" (top 145))
 (F9 : Fa K mg "states_at_rest" (top 23))
 (F10 : Fa K mg "is_under" (top 16))
 (F11 : Fa K mg "rules_rise" (top 89))
 (F12 : Fa K mg "state_count" (top 7))
 (F13 : Fa K mg "pair_refused" (top 94))
 (F14 : Fa K mg "says_up" (top 15))
 (F15 : Fa K mg "with_up" (top 9))
 (F16 : Fa K mg "behind_step" (top 21))
 (F17 : Fa K mg "all_behind_step" (top 22))
 (F18 : Fa K mg "is_up" (top 8))
 (F19 : Fa K mg "rule_count" (top 12))
 (F20 : Fa K mg "always_rule" (top 13))
 (F21 : Fa K mg "held_rules" (top 17))
 (F22 : FaM K C "rules_now" "Watch.rules_now" (inClass (top 123) 3))
 (F23 : Fa K mg "meet" (top 96))
 (F24 : Fa K mg "join" (top 95))
 (F25 : Fa K mg "rest_from" (top 91))
 (F26 : Fa K mg "greatest" (top 93))
 (F27 : Fa K mg "least" (top 92))
 (F28 : Fa K mg "rises" (top 90))
 (F29 : Fa K mg "asked_of_rising" (top 144))
 (F30 : Fa K mg "lasting_states" (top 64))
 (F31 : Fa K mg "comes" (top 68))
 (F32 : Fa K mg "up_count" (top 11))
 (F33 : Fa K mg "smallest" (top 59))
 (F34 : Fa K mg "all_settle" (top 65))
 (F35 : Fa K mg "settles_all" (top 66))
 (F36 : Fa K mg "fewest" (top 67))
 (F37 : Fa K mg "has_one_of" (top 60))
 (F38 : Fa K mg "smallest_cut" (top 61))
 (F39 : Fa K mg "longer_chains" (top 45))
 (F40 : Fa K mg "rings" (top 46))
 (F41 : Fa K mg "ring_kinds" (top 47))
 (F42 : Fa K mg "can_be_even" (top 48))
 (F43 : Fa K mg "even_rings" (top 50))
 (F44 : Fa K mg "kind_of" (top 42))
 (F45 : Fa K mg "kind_rows" (top 43))
 (F46 : Fa K mg "cut_even" (top 63))
 (F47 : Fa K mg "cut" (top 62))
 (F48 : Fa K mg "asked_of_held" (top 143))
 (F49 : Fa K mg "would_change" (top 18))
 (F50 : Fa K mg "moving_towers" (top 29))
 (F51 : Fa K mg "turned" (top 10))
 (F52 : Fa K mg "changes_to" (top 74))
 (F53 : Fa K mg "come_to" (top 75))
 (F54 : Fa K mg "all_come_to" (top 76))
 (F55 : Fa K mg "may" (top 80))
 (F56 : Fa K mg "traps" (top 79))
 (F57 : Fa K mg "far" (top 78))
 (F58 : Fa K mg "reach" (top 77))
 (F59 : Fa K mg "moves" (top 73))
 (F60 : Fa K mg "asked_of_moves" (top 142))
 (F61 : Fa K mg "orders" (top 84))
 (F62 : Fa K mg "behind_act" (top 19))
 (F63 : Fa K mg "behind_pass" (top 20))
 (F64 : Fa K mg "brings" (top 87))
 (F65 : Fa K mg "all_behind_pass" (top 85))
 (F66 : Fa K mg "best" (top 86))
 (F67 : Fa K mg "sweeps" (top 83))
 (F68 : Fa K mg "rests" (top 82))
 (F69 : Fa K mg "asked_of_rest" (top 141))
 (F70 : Fa K mg "layer_of" (top 55))
 (F71 : Fa K mg "layers_of" (top 56))
 (F72 : Fa K mg "layers" (top 57))
 (F73 : Fa K mg "first_ring" (top 52))
 (F74 : Fa K mg "can_be_odd" (top 49))
 (F75 : Fa K mg "odd_rings" (top 51))
 (F76 : Fa K mg "odd" (top 54))
 (F77 : Fa K mg "even" (top 53))
 (F78 : Fa K mg "kinds" (top 44))
 (F79 : Fa K mg "asked_of_watching" (top 140))
 (F80 : Fa K mg "states_passed" (top 98))
 (F81 : Fa K mg "way_length" (top 99))
 (F82 : Fa K mg "round_states" (top 100))
 (F83 : Fa K mg "basin" (top 105))
 (F84 : Fa K mg "gardens" (top 104))
 (F85 : Fa K mg "before" (top 103))
 (F86 : Fa K mg "rounds" (top 102))
 (F87 : Fa K mg "round_of" (top 101))
 (F88 : Fa K mg "seen" (top 31))
 (F89 : FaM K C "has_tower" "Watch.has_tower" (inClass (top 123) 2))
 (F90 : Fa K mg "rule_of" (top 120))
 (F91 : Fa K mg "asked_of_rounds" (top 139))
 (F92 : FaM K C "keep_change" "Watch.keep_change" (inClass (top 123) 7))
 (F93 : Fa K mg "order" (top 119))
 (F94 : Fa K mg "free" (top 118))
 (F95 : Fa K mg "hold" (top 117))
 (F96 : Fa K mg "flag" (top 116))
 (F97 : Fa K mg "tell_rule" (top 109))
 (F98 : Fa K mg "always" (top 115))
 (F99 : Fa K mg "like_rule" (top 14))
 (LP : Fa K mg "either" (top 114))
 (LO : Fa K mg "both" (top 113))
 (LN : Fa K mg "against" (top 112))
 (LM : Fa K mg "like" (top 111))
 (LK : Fa K mg "rule" (top 110))
 (LJ : Fa K mg "told" (top 137))
 (LI : FaM K C "go_to" "Watch.go_to" (inClass (top 123) 4))
 (LH : Fa K mg "settle" (top 30))
 (LG : Fa K mg "act" (top 28))
 (LF : Fa K mg "pass_on" (top 27))
 (LD : Fa K mg "step" (top 26))
 (LC : Fa K mg "acted" (top 138))
 (LB : Fa K mg "changed" (top 146))
 (LA : FaM K C "begin" "Watch.begin" (inClass (top 123) 1))
 (Lz : Fa K mg "start" (top 108))
 (Ly : Fa K mg "answered" (top 147))
 (Lx : FaI K C "Watch.__init__" (inClass (top 123) 0))
 (Lw : Fa K mg "answers" (top 148))
 : ∃ fd : FuncData, (∀ (s : Shared) (us : List Value), us.length = (["calls"] : List Str).length -> BindsTo s fd ⟨us, []⟩ ((["calls"] : List Str).zip us)) /\ ∀ base : Heap, K.In base -> base.Ns mainGlobals mg -> jc P w K mg base CX0 10 fa fd ["calls"] (wx K) := by
 obtain ⟨f, fd, F, hm⟩ := Lw
 cases hfa.symm.trans hm
 have FF := F
 obtain ⟨⟨oc, od, kV, dc, pm, an, cd, ct, sl, rfl, _, _⟩, _⟩ := FF
 refine ⟨PySem.W.fnOf "answers" "answers" (eQ (top 148)) (dD (top 148)) (bF (top 148)) .none kV dc pm an cd ct, fun s us hu => match us, hu with | [_], _ => .of_eq rfl, fun base _ _ => ?_⟩
 have Er : sG P w K mg base C := Cd F0 T
 have G2 : xC P w K mg base C := EX F1 T
 have BH : sI P w K mg base C := EZ F2 T
 have k7 : gi P w K mg base C := xc F3 T
 have wU : jI P w K mg base C := va F4 T BH k7
 have ED : sV P w K mg base C := Cv F5 T wU
 have uH : iE P w K mg base C := rZ F6 T BH k7
 have Hf : xQ P w K mg base C := Fd F7 T uH
 have wO : jF P w K mg base C := uY F8 T Er G2 ED Hf
 have cv : bI P w K mg base C := km F9 T
 have fe : dh P w K mg base C := u0 F10 T
 have eE : cR P w K mg base C := pX F11 T fe
 have aW : aP P w K mg base C := n0 F12 T
 have ir : dy P w K mg base C := mK F13 T eE aW
 have k6 : gh P w K mg base C := w9 F14 T
 have qF : iY P w K mg base C := w8 F15 T
 have fM : cX P w K mg base C := og F16 T k6 qF
 have aI : aF P w K mg base C := jx F17 T aW fM
 have fD : dQ P w K mg base C := Cq F18 T
 have j6 : eI P w K mg base C := pY F19 T aW
 have fN : cY P w K mg base C := oi F20 T j6
 have gx : dz P w K mg base C := p7 F21 T fD fN
 have aE : aB P w K mg base C := r8 F22 T gx
 have G6 : xG P w K mg base C := E3 F23 T cv fe ir aI aE
 have G8 : xI P w K mg base C := E5 F24 T cv fe ir aI aE
 have mi : fI P w K mg base C := r9 F25 T
 have wR : jH P w K mg base C := u9 F26 T mi aW eE aI aE
 have Ez : sQ P w K mg base C := Cn F27 T mi eE aI aE
 have Et : sJ P w K mg base C := Cf F28 T eE aI aE
 have kf : dB P w K mg base C := jw F29 T G6 G8 wR Ez Et
 have f7 : cS P w K mg base C := kn F30 T aI
 have EB : sT P w K mg base C := Cs F31 T f7 gx aE fe aW
 have fb : dg P w K mg base C := uV F32 T
 have nP : gE P w K mg base C := uW F33 T fb
 have rQ : gH P w K mg base C := qg F34 T f7
 have pR : fO P w K mg base C := n8 F35 T aW rQ gx fe
 have BL : oI P w K mg base C := Ak F36 T nP aW pR aE
 have rO : gF P w K mg base C := p8 F37 T fD
 have iq : dw P w K mg base C := mI F38 T nP aW rO
 have mD : d9 P w K mg base C := lr F39 T
 have mX : iZ P w K mg base C := Cg F40 T mD
 have j7 : eJ P w K mg base C := pZ F41 T
 have pT : fQ P w K mg base C := oe F42 T j7
 have ka : eM P w K mg base C := qc F43 T mX pT
 have zR : lE P w K mg base C := xg F44 T aW fD k6 qF
 have dm : cA P w K mg base C := so F45 T zR
 have wV : jJ P w K mg base C := vb F46 T iq ka dm aE
 have JD : CQ P w K mg base C := HE F47 T iq mX dm aE
 have mF : eh P w K mg base C := lx F48 T EB BL wV JD
 have ip : dv P w K mg base C := mH F49 T k6 fD
 have de : cc P w K mg base C := lq F50 T ip
 have f6 : d5 P w K mg base C := Ae F51 T
 have kb : eN P w K mg base C := qd F52 T de f6
 have qG : i4 P w K mg base C := xi F53 T kb
 have jd : dR P w K mg base C := oj F54 T aW qG
 have JB : CO P w K mg base C := HC F55 T de jd aE
 have Ep : sE P w K mg base C := Cc F56 T jd aE
 have JC : CP P w K mg base C := HD F57 T kb aE aW
 have Ew : sM P w K mg base C := Cj F58 T qG aE
 have Ey : sO P w K mg base C := Cm F59 T de aE
 have k8 : dJ P w K mg base C := ko F60 T JB Ep JC Ew Ey
 have uI : kz P w K mg base C := Ai F61 T
 have kd : eO P w K mg base C := qf F62 T ip f6
 have dO : cH P w K mg base C := oh F63 T kd
 have BN : oK P w K mg base C := Am F64 T uI dO aE
 have kg : dC P w K mg base C := jy F65 T aW dO
 have He : xP P w K mg base C := Fc F66 T uI kg cv aI aE
 have BG : oE P w K mg base C := Af F67 T aW dO cv aI aE
 have Eu : sL P w K mg base C := Ci F68 T cv aI aE
 have mE : ee P w K mg base C := lu F69 T BN He BG Eu
 have wQ : jG P w K mg base C := uZ F70 T
 have uK : iG P w K mg base C := sm F71 T wQ
 have BK : oH P w K mg base C := Aj F72 T uK mX dm aE
 have j9 : eK P w K mg base C := p9 F73 T
 have rP : gG P w K mg base C := qe F74 T j7
 have uJ : iF P w K mg base C := sh F75 T mX rP
 have JA : CN P w K mg base C := HB F76 T j9 uJ dm aE
 have Hc : xN P w K mg base C := E9 F77 T j9 ka dm aE
 have EA : sR P w K mg base C := Cp F78 T dm aE
 have i9 : cW P w K mg base C := iA F79 T BK JA Hc EA
 have g0 : df P w K mg base C := lp F80 T
 have j5 : eG P w K mg base C := pW F81 T g0
 have fc : cO P w K mg base C := mJ F82 T g0 j5
 have EC : sU P w K mg base C := Cu F83 T fc aI aE
 have zS : lF P w K mg base C := xh F84 T aI aE
 have BO : oM P w K mg base C := An F85 T aI aE
 have BJ : oG P w K mg base C := Ah F86 T fc aI aE
 have wN : jE P w K mg base C := uX F87 T j5 fc aI aE
 have G4 : xE P w K mg base C := E1 F88 T fM aE
 have bL : bp P w K mg base C := sr F89 T
 have zP : lC P w K mg base C := xb F90 T bL
 have ke : dA P w K mg base C := jv F91 T EC zS BO BJ wN G4 zP
 have pS : fP P w K mg base C := n9 F92 T
 have Ex : sN P w K mg base C := Ck F93 T
 have Ha : xK P w K mg base C := E7 F94 T fb f6 fD bL
 have G9 : xJ P w K mg base C := E6 F95 T fb f6 fD bL
 have Hb : xM P w K mg base C := E8 F96 T fb f6 fD bL
 have dk : cz P w K mg base C := rY F97 T
 have BP : oN P w K mg base C := Ao F98 T dk fN bL
 have dW : cP P w K mg base C := sk F99 T aW fD
 have BM : oJ P w K mg base C := Al LP T dk dW bL
 have Hd : xO P w K mg base C := Fb LO T dk dW bL
 have zU : lH P w K mg base C := xl LN T dk fN dW bL
 have G7 : xH P w K mg base C := E4 LM T dk dW bL
 have G5 : xF P w K mg base C := E2 LK T dk j6 bL
 have G1 : xB P w K mg base C := EW LJ T Ex Ha G9 Hb BP BM Hd zU G7 G5
 have mY : i3 P w K mg base C := Cr LI T fb
 have BI : oF P w K mg base C := Ag LH T mY de f6 aE
 have JE : CS P w K mg base C := HF LG T mY kd aE bL
 have zQ : lD P w K mg base C := xf LF T mY dO aE
 have G3 : xD P w K mg base C := EY LD T mY fM aE
 have EE : sX P w K mg base C := Cw LC T BI JE zQ G3
 have zT : lG P w K mg base C := xj LB T pS G1 EE k7
 have yD : m3 P w K mg base C := Ct LA T dW
 have Es : sH P w K mg base C := Ce Lz T yD
 have wW : jK P w K mg base C := vc Ly T wO kf mF k8 mE i9 ke zT Es
 have EF : sY P w K mg base C := vd Lx aC T yD
 have r := xk F T wW EF
 exact r
end TW
open PySem PySem.W PyProof.Rows
local macro_rules
| `(command| lay_quick $_*) => do
 let mut a := #[]
 for (s, l) in [("o", List.range 820), ("tree", [9, 80, 160, 235, 321, 401, 482, 558, 644, 728, 774, 818]), ("heap", [1, 8, 819]), ("sts", [11, 81, 161, 236, 322, 402, 483, 559, 645, 729, 775]), ("view", [1])] do
  for i in l do
   a := a.push (← `(command| theorem $(Lean.mkIdent (.str `PySem.W.Fast s!"tw{(Lean.Name.str `PySem.Challenge.cw_watchtowers_s01_answers_holds s!"{s}_{i}").hash}")) : True := ⟨⟩))
 return Lean.mkNullNode a
lay_quick x
theorem PySem.W.Fast.tw11581639044073475538 : True := ⟨⟩
set_option maxRecDepth 100000 in
set_option maxHeartbeats 0 in
theorem PySem.Challenge.cw_watchtowers_s01_answers_holds : PySem.Challenge.rw_watchtowers_s01_answers.Holds := by
 w_on; k_headS; (case hw => exact ⟨[.list [.int 0, .int 1]], by decide +kernel, by decide +kernel⟩)
 k_fillS
 refine L2.wc (r := PySem.Challenge.rw_watchtowers_s01_answers) (k := 10) (CX := L2.CX0) (ps := ["calls"]) (sp := TW.wx) (by decide +kernel) rfl rfl ⟨rfl, by decide, by decide⟩ (fun w h Y => PySem.W.kIn_of Y) ?F ?S (fun _ _ _ _ z => z)
 case F =>
  intro w mg fa h Y KX G hmg
  refine' TW.all_mk hmg (PySem.W.mg_of KX G ?aC) ?T ?_ ?_ ?_ ?_ ?_ ?_ ?_ ?_ ?_ ?_ ?_ ?_ ?_ ?_ ?_ ?_ ?_ ?_ ?_ ?_ ?_ ?_ ?_ ?_ ?_ ?_ ?_ ?_ ?_ ?_ ?_ ?_ ?_ ?_ ?_ ?_ ?_ ?_ ?_ ?_ ?_ ?_ ?_ ?_ ?_ ?_ ?_ ?_ ?_ ?_ ?_ ?_ ?_ ?_ ?_ ?_ ?_ ?_ ?_ ?_ ?_ ?_ ?_ ?_ ?_ ?_ ?_ ?_ ?_ ?_ ?_ ?_ ?_ ?_ ?_ ?_ ?_ ?_ ?_ ?_ ?_ ?_ ?_ ?_ ?_ ?_ ?_ ?_ ?_ ?_ ?_ ?_ ?_ ?_ ?_ ?_ ?_ ?_ ?_ ?_ ?_ ?_ ?_ ?_ ?_ ?_ ?_ ?_ ?_ ?_ ?_ ?_ ?_ ?_ ?_ ?_ ?_ ?_
  (case aC => k_is)
  (case T => constructor; all_goals first | (apply PySem.W.mg_none_of KX G; k_is) | (apply TW.Kg KX G; k_is; rfl) | (apply TW.Ja KX G; k_is; k_is; decide; repeat (first | exact .nil | refine .cons ⟨_, rfl⟩ ?_)) | (show PySem.W.findIn _ _ _ = _; k_is) | (refine ⟨?_, ?_, ?_, ?_⟩ <;> k_is))
  all_goals first | (apply TW.Km KX G; k_is; k_is; k_is; k_is) | (apply TW.Kk; k_is; k_is; k_is; k_is; k_is) | (apply TW.Kl; k_is; k_is; k_is; k_is; k_is; k_is; k_is)
 case S =>
  intro K H xs a hO hwi bu hx
  cases hx with
  | cons h1 h2 =>
   cases h2
   cases h1 with
   | lst hs ha =>
    have e := L2.yY a.1 _ ha
    subst e
    have q : ((Codec.inLen 0 1500 a.1 && a.1.all (Codec.inInt 0 4294967295)) && true) = true := hwi
    rw [zBg, zBg] at q
    exact TW.request hs q.1.1 q.1.2 bu fun H2 p hp => .lst (L2.SqL.of hp) (L2.y9 _)
