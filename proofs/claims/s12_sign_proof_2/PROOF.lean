import PyProof.Rows.All
import Wide.All
import OpenK.AllK
import Wide.FinOn
import PyProof.EqAt
import PyProof.EqKinds
import PyProof.TupleCall
import KE.BitLaws
import KE.IntBitsLaws
import Open.SpecLaws
import KE.OsHead
import KE.OsGo
import PySem.Challenge.RW_rootnumbers_s12_sign
set_option Elab.async false
set_option linter.all false
set_option maxRecDepth 100000
namespace L2
open PySem PySem.Spec PyProof.Rows
abbrev Key := Sum Int Str
def keyIs : Key -> Value -> Bool
 | .inl k, v => Value.isInt k v
 | .inr x, v => Value.isStrOf x v
def keyH (w : World) : Key -> Int
 | .inl k => hashInt k
 | .inr x => hashStr w x
theorem keyIs_shape : ∀ {k : Key} {v : Value}, keyIs k v = true -> (∃ i t, k = Sum.inl i /\ v = Value.int i t) \/ (∃ x t, k = Sum.inr x /\ v = Value.str x t)
 | .inl i, v, h => by
  obtain ⟨t, e⟩ := Value.isInt_shape (k := i) (v := v) h
  exact .inl ⟨i, t, rfl, e⟩
 | .inr x, v, h => by
  obtain ⟨t, e⟩ := Value.isStrOf_shape (x := x) (v := v) h
  exact .inr ⟨x, t, rfl, e⟩
theorem key_ll (a b : Int) : decide ((Sum.inl a : Key) = Sum.inl b) = (a == b) := by
 by_cases e : a = b
 ·subst e; simp
 ·have h : ¬ (Sum.inl a : Key) = Sum.inl b := fun q => e (Sum.inl.inj q)
  rw [decide_eq_false h]
  exact (beq_eq_false_iff_ne.mpr e).symm
theorem key_rr (a b : Str) : decide ((Sum.inr a : Key) = Sum.inr b) = decide (a = b) := by
 by_cases e : a = b
 ·subst e; simp
 ·have h : ¬ (Sum.inr a : Key) = Sum.inr b := fun q => e (Sum.inr.inj q)
  rw [decide_eq_false h, decide_eq_false e]
theorem key_lr (a : Int) (b : Str) : decide ((Sum.inl a : Key) = Sum.inr b) = false := decide_eq_false (fun q => nomatch q)
theorem key_rl (a : Str) (b : Int) : decide ((Sum.inr a : Key) = Sum.inl b) = false := decide_eq_false (fun q => nomatch q)
def mixKind (prog : Program) (w : World) : PySem.KeyKind prog w Key where
 is := keyIs
 hash := keyH w
 inj := fun v a b ha hb => by
  rcases keyIs_shape ha with ⟨i, t, rfl, rfl⟩ | ⟨x, t, rfl, rfl⟩
  ·rcases keyIs_shape hb with ⟨j, u, rfl, e⟩ | ⟨y, u, rfl, e⟩
   ·injection e with e1 _; rw [e1]
   ·exact nomatch e
  ·rcases keyIs_shape hb with ⟨j, u, rfl, e⟩ | ⟨y, u, rfl, e⟩
   ·exact nomatch e
   ·injection e with e1 _; rw [e1]
 byValue := fun k v h => by
  rcases keyIs_shape h with ⟨i, t, rfl, rfl⟩ | ⟨x, t, rfl, rfl⟩ <;> rfl
 pyHash := fun hv h => by
  rcases keyIs_shape hv with ⟨i, t, rfl, rfl⟩ | ⟨x, t, rfl, rfl⟩
  ·exact wpAny_pyHash_int h
  ·exact wpAny_pyHash_str h
 eqBool := fun hu hv h => by
  rcases keyIs_shape hu with ⟨i, t, rfl, rfl⟩ | ⟨x, t, rfl, rfl⟩
  ·rcases keyIs_shape hv with ⟨j, u, rfl, rfl⟩ | ⟨y, u, rfl, rfl⟩
   ·rw [key_ll] at h; exact wpAny_eqBool_int h
   ·rw [key_lr] at h; exact SeqAt.EqAt.int_str i t y u _ _ _ _ h
  ·rcases keyIs_shape hv with ⟨j, u, rfl, rfl⟩ | ⟨y, u, rfl, rfl⟩
   ·rw [key_rl] at h; exact SeqAt.EqAt.str_int x t j u _ _ _ _ h
   ·rw [key_rr] at h; exact wpAny_eqBool_str h
 «strs» := fun k x t v h => by
  rcases keyIs_shape h with ⟨i, u, rfl, e⟩ | ⟨y, u, rfl, e⟩
  ·exact nomatch e
  ·injection e with e1 _
   subst e1
   cases v <;> rfl
end L2
namespace L2
open PySem PySem.Spec PyProof.Rows
inductive V where
 | non | bl (b : Bool) | int (i : Int) | str (x : Str) | byt (b : Array UInt8) | flt (b : UInt64) | ref (a : Addr) | ty (n : String)
 deriving DecidableEq
def RelV : V -> Value -> Prop
 | .non, u => u = Value.none
 | .bl b, u => u = Value.bool b
 | .int i, u => ∃ t, u = Value.int i t
 | .str x, u => ∃ t, u = Value.str x t
 | .byt b, u => ∃ t, u = Value.bytes b t
 | .flt b, u => ∃ t, u = Value.float b t
 | .ref a, u => u = Value.ref a
 | .ty n, u => u = Value.type n
abbrev Vals : List V -> List Value -> Prop := Paired RelV
theorem Vals.length {xs : List V} {us : List Value} (r : Vals xs us) : xs.length = us.length := Paired.length r
theorem Vals.get : ∀ {xs : List V} {us : List Value} {i : Nat} {x : V}, Vals xs us -> xs[i]? = some x -> ∃ u, us[i]? = some u /\ RelV x u
 | _, _, _, _, .nil, e => by simp at e
 | _, _, 0, _, .cons r _, e => by simp at e; subst e; exact ⟨_, rfl, r⟩
 | _, _, i + 1, x, .cons _ t, e => by
  obtain ⟨u, h1, h2⟩ := Vals.get (i := i) (x := x) t (by simpa using e)
  exact ⟨u, by simpa using h1, h2⟩
theorem Vals.set {x : V} {u : Value} (r : RelV x u) : ∀ {xs : List V} {us : List Value} (i : Nat), Vals xs us -> Vals (xs.set i x) (us.set i u)
 | _, _, _, .nil => .nil
 | _, _, 0, .cons _ t => .cons r t
 | _, _, i + 1, .cons q t => .cons q (Vals.set r i t)
theorem Vals.append : ∀ {xs ys : List V} {us ws : List Value}, Vals xs us -> Vals ys ws -> Vals (xs ++ ys) (us ++ ws)
 | _, _, _, _, .nil, s => s
 | _, _, _, _, .cons r t, s => .cons r (Vals.append t s)
theorem Vals.take : ∀ {xs : List V} {us : List Value} (n : Nat), Vals xs us -> Vals (xs.take n) (us.take n)
 | _, _, 0, _ => .nil
 | _, _, _ + 1, .nil => .nil
 | _, _, n + 1, .cons r t => .cons r (Vals.take n t)
theorem Vals.drop : ∀ {xs : List V} {us : List Value} (n : Nat), Vals xs us -> Vals (xs.drop n) (us.drop n)
 | _, _, 0, r => r
 | _, _, _ + 1, .nil => .nil
 | _, _, n + 1, .cons _ t => Vals.drop n t
def RelO : Option V -> Option Value -> Prop
 | some v, some u => RelV v u
 | none, none => True
 | _, _ => False
def KV {κ : Type} : List (κ × V) -> List (κ × Value) -> Prop := Paired fun (p : κ × V) (q : κ × Value) => p.1 = q.1 /\ RelV p.2 q.2
def kV : Key -> V
 | .inl i => .int i
 | .inr x => .str x
inductive HO where
 | lst (xs : List V)
 | tup (xs : List V)
 | dK (kvs : List (Key × V)) | dT (kvs : List (List Key × V))
 | set (S : Int -> Bool) (n : Nat)
 | ins (C dx : Addr) (fs : List (Str × V))
 | own (x : Addr)
 | xd (fs : List (Str × V))
 | met (f x : Addr)
 | rng (lo hi : Int)
 | frz (o : Obj) (u : HO)
 | tbl (ps : Array Value)
 | ext (φ : Heap -> Prop)
abbrev Hp := Addr -> Option HO
def upd (H : Hp) (a : Addr) (o : HO) : Hp := fun b => if b = a then some o else H b
theorem upd_same {H : Hp} {a : Addr} {o : HO} : upd H a o a = some o := by unfold upd; rw [if_pos rfl]
theorem upd_ne {H : Hp} {a b : Addr} {o : HO} (h : b ≠ a) : upd H a o b = H b := by unfold upd; rw [if_neg h]
theorem ne_of {H : Hp} {a b : Addr} {o u : HO} (h : H a = some o) (h' : H b = some u) (d : o ≠ u) : a ≠ b := by
 intro e; subst e; rw [h] at h'; exact d (Option.some.inj h')
theorem ne_of_none {H : Hp} {a b : Addr} {o : HO} (h : H a = some o) (h' : H b = none) : a ≠ b := by
 intro e; subst e; rw [h] at h'; cases h'
section
variable (P : Program) (w : World)
def ObjOk (H : Hp) (h : Heap) (a : Addr) : HO -> Prop
 | .lst xs => xs.length <= sizeLine /\ ∃ (its : List Value) (n : Nat), Vals xs its /\ h.get? a = some { cls := .type "list", data := .seq its.toArray n }
 | .tup xs => xs.length <= sizeLine /\ ∃ its : List Value, Vals xs its /\ IsTup h a its.toArray
 | .dK kvs => kvs.length <= sizeLine /\ (a == sysModules) = false /\ ∃ vs, KV kvs vs /\ h.DictOf (mixKind P w) a vs
 | .dT kvs => kvs.length <= sizeLine /\ (a == sysModules) = false /\ ∃ xs : List (List Key × Addr × Value),
   Paired (fun (p : List Key × V) (q : List Key × Addr × Value) => p.1 = q.1 /\ H q.2.1 = some (.tup (p.1.map kV)) /\ RelV p.2 q.2.2) kvs xs /\
   ∃ o es ep, h.get? a = some o /\ o.ExactDict /\ o.data = .dict es ep /\ es.toList = xs.map (entryOfKey (tupleKind (mixKind P w))) /\ (xs.map (·.1)).Nodup
 | .set S n => h.SetOf (intKind P w) a S n
 | .ins C dx fs => H dx = some (.own a) /\ fs.length <= 1000 /\ dx ≠ a /\ h.get? a = some (PySem.W.instObj C dx) /\
   ∃ mA, h.Ns1 dx mA /\ (∀ f, RelO (fs.lookup f) (mA f)) /\ PySem.Within mA (fs.map (·.1))
 | .own _ => ∃ o, h.get? a = some o
 | .xd fs => ∃ mA, h.Ns1 a mA /\ ∀ f, RelO (fs.lookup f) (mA f)
 | .rng lo hi => ∃ t u v, h.get? a = some { cls := .type "range", data := .fields #[.int lo t, .int hi u, .int 1 v] }
 | .frz o u => h.get? a = some o /\ ObjOk H h a u
 | .tbl ps => h.get? a = some { cls := .none, data := .fields ps }
 | .met f x => h.get? a = some (PySem.W.methodObj (.ref f) (.ref x))
 | .ext φ => φ h /\ (∃ o, h.get? a = some o) /\ ∀ h1 h2 : Heap, φ h1 -> (∀ o, h1.get? a = some o -> h2.get? a = some o) -> φ h2
def HOk (H : Hp) (h : Heap) : Prop := ∀ a o, H a = some o -> ObjOk P w H h a o
end
section
variable {P : Program} {w : World} {H H' : Hp} {h h' : Heap} {a : Addr} {o : HO}
theorem ObjOk.lt (x : ObjOk P w H h a o) : a < h.objs.size := by
 cases o with
 | lst xs => obtain ⟨_, _, _, _, e⟩ := x; exact Heap.lt_size e
 | tup xs => obtain ⟨_, _, _, p⟩ := x; exact p.lt
 | dK kvs => obtain ⟨_, _, _, _, o, _, _, e, _⟩ := x; exact Heap.lt_size e
 | dT kvs => obtain ⟨_, _, _, _, o, _, _, e, _⟩ := x; exact Heap.lt_size e
 | set S n => obtain ⟨o, _, _, _, e, _⟩ := x; exact Heap.lt_size e
 | ins C dx fs => obtain ⟨_, _, _, e, _⟩ := x; exact Heap.lt_size e
 | own y => obtain ⟨_, e⟩ := x; exact Heap.lt_size e
 | xd fs => obtain ⟨_, ⟨_, _, _, e, _⟩, _⟩ := x; exact Heap.lt_size e
 | rng lo hi => obtain ⟨_, _, _, e⟩ := x; exact Heap.lt_size e
 | frz ob u => obtain ⟨e, _⟩ := x; exact Heap.lt_size e
 | tbl ps => exact Heap.lt_size (show h.get? a = some _ from x)
 | met f y => exact Heap.lt_size (show h.get? a = some _ from x)
 | ext φ => obtain ⟨_, ⟨_, e⟩, _⟩ := x; exact Heap.lt_size e
theorem Paired.mapP {α β : Type} {F G : α -> β -> Prop} : ∀ {l₁ : List α} {l₂ : List β}, Paired F l₁ l₂ -> (∀ a b, F a b -> G a b) -> Paired G l₁ l₂
 | _, _, .nil, _ => .nil
 | _, _, .cons r t, f => .cons (f _ _ r) (Paired.mapP t f)
theorem Paired.imp' {α β : Type} {F G : α -> β -> Prop} (f : ∀ a b, F a b -> G a b) {l₁ : List α} {l₂ : List β} (r : Paired F l₁ l₂) : Paired G l₁ l₂ := Paired.mapP r f
theorem ObjOk.stay (x : ObjOk P w H h a o) (k : ∀ b u, (b = a \/ H b = some (.own a)) -> h.get? b = some u -> h'.get? b = some u)
  (ho : ∀ b, H b = some (.own a) -> H' b = some (.own a)) (ht : ∀ b xs, H b = some (.tup xs) -> H' b = some (.tup xs)) : ObjOk P w H' h' a o := by
 induction o with
 | lst xs => obtain ⟨z, its, n, r, e⟩ := x; exact ⟨z, its, n, r, k _ _ (.inl rfl) e⟩
 | tup xs => obtain ⟨z, its, r, ob, e, c⟩ := x; exact ⟨z, its, r, ob, k _ _ (.inl rfl) e, c⟩
 | dK kvs => obtain ⟨z, y, vs, r, ob, es, ep, e, c⟩ := x; exact ⟨z, y, vs, r, ob, es, ep, k _ _ (.inl rfl) e, c⟩
 | dT kvs =>
  obtain ⟨z, y, xs, r, ob, es, ep, e, c⟩ := x
  exact ⟨z, y, xs, Paired.mapP r fun p q z => ⟨z.1, ht _ _ z.2.1, z.2.2⟩, ob, es, ep, k _ _ (.inl rfl) e, c⟩
 | set S n => obtain ⟨ob, es, ep, t, e, c⟩ := x; exact ⟨ob, es, ep, t, k _ _ (.inl rfl) e, c⟩
 | ins C dx fs =>
  obtain ⟨d, z, ne, e, mA, ⟨od, es, ep, e2, c⟩, r⟩ := x
  exact ⟨ho _ d, z, ne, k _ _ (.inl rfl) e, mA, ⟨od, es, ep, k _ _ (.inr d) e2, c⟩, r⟩
 | own y => obtain ⟨ob, e⟩ := x; exact ⟨ob, k _ _ (.inl rfl) e⟩
 | xd fs => obtain ⟨mA, ⟨od, es, ep, e, c⟩, r⟩ := x; exact ⟨mA, ⟨od, es, ep, k _ _ (.inl rfl) e, c⟩, r⟩
 | rng lo hi => obtain ⟨t, u, v, e⟩ := x; exact ⟨t, u, v, k _ _ (.inl rfl) e⟩
 | frz ob u ih => obtain ⟨e, q⟩ := x; exact ⟨k _ _ (.inl rfl) e, ih q⟩
 | tbl ps =>
  have e : h.get? a = some { cls := .none, data := .fields ps } := x
  show h'.get? a = some { cls := .none, data := .fields ps }
  exact k a _ (.inl rfl) e
 | met f y =>
  have e : h.get? a = some (PySem.W.methodObj (.ref f) (.ref y)) := x
  show h'.get? a = some (PySem.W.methodObj (.ref f) (.ref y))
  exact k a _ (.inl rfl) e
 | ext φ => obtain ⟨p, ⟨o, e⟩, st⟩ := x; exact ⟨st _ _ p fun o q => k _ _ (.inl rfl) q, ⟨o, k _ _ (.inl rfl) e⟩, st⟩
theorem HOk.lt (x : HOk P w H h) (e : H a = some o) : a < h.objs.size := (x a o e).lt
theorem HOk.fresh (x : HOk P w H h) (e : h.objs.size <= a) : H a = none := by
 cases q : H a with
 | none => rfl
 | some u => exact absurd (Nat.lt_of_lt_of_le (x.lt q) e) (Nat.lt_irrefl _)
theorem HOk.kept (x : HOk P w H h) (k : ∀ b u, h.get? b = some u -> h'.get? b = some u) : HOk P w H h' := fun a o e =>
 (x a o e).stay (fun b u _ q => k b u q) (fun _ q => q) fun _ _ q => q
theorem HOk.laid (x : HOk P w H h) (k : ∀ b u, h.get? b = some u -> h'.get? b = some u) (hp : h.objs.size <= a) (new : ObjOk P w (upd H a o) h' a o) : HOk P w (upd H a o) h' := fun b u e => by
 have hn := x.fresh hp
 by_cases hb : b = a
 ·subst hb; rw [upd_same] at e; cases e; exact new
 ·rw [upd_ne hb] at e
  exact (x b u e).stay (fun c v _ q => k c v q) (fun c q => by rw [upd_ne (ne_of_none q hn)]; exact q) fun c xs q => by rw [upd_ne (ne_of_none q hn)]; exact q
end
def Rd (H : Hp) (a : Addr) (u : HO) : Prop := H a = some u \/ ∃ o, H a = some (.frz o u)
theorem Rd.ok {P : Program} {w : World} {H : Hp} {h : Heap} {a : Addr} {u : HO} (r : Rd H a u) (x : HOk P w H h) : ObjOk P w H h a u := by
 rcases r with r | ⟨o, r⟩
 ·exact x a u r
 ·obtain ⟨_, q⟩ := x a _ r
  exact q
def Mut : Option HO -> Prop
 | some (.lst _) => True
 | some (.dK _) => True
 | some (.dT _) => True
 | some (.set _ _) => True
 | some (.ins _ _ _) => True
 | some (.ext _) => True
 | _ => False
section
variable {P : Program} {w : World} {H : Hp} {h h' : Heap} {x e : Addr} {o' : HO}
theorem HOk.write (ok : HOk P w H h) (mu : Mut (H x)) (he : e = x \/ H e = some (.own x)) (k : ∀ b u, b ≠ e -> h.get? b = some u -> h'.get? b = some u) (heo : ∃ u, h'.get? e = some u)
  (new : ObjOk P w (upd H x o') h' x o') : HOk P w (upd H x o') h' := fun b u q => by
 have nown : ∀ c y, H c = some (.own y) -> c ≠ x := fun c y r z => by subst z; rw [r] at mu; exact mu
 have ntup : ∀ c xs, H c = some (.tup xs) -> c ≠ x := fun c xs r z => by subst z; rw [r] at mu; exact mu
 by_cases hb : b = x
 ·subst hb; rw [upd_same] at q; cases q; exact new
 ·rw [upd_ne hb] at q
  by_cases hbe : b = e
  ·have q' : H b = some (.own x) := by
    rcases he with z | z
    ·exact absurd (hbe.trans z) hb
    ·rw [hbe]; exact z
   rw [q] at q'; cases q'
   obtain ⟨v, hv⟩ := heo
   exact ⟨v, by rw [hbe]; exact hv⟩
  ·refine (ok b u q).stay (fun c v hc r => k c v ?_ r) (fun c r => by rw [upd_ne (nown c b r)]; exact r) fun c xs r => by rw [upd_ne (ntup c xs r)]; exact r
   rcases hc with rfl | hc
   ·exact hbe
   ·rintro rfl
    rcases he with z | z
    ·exact nown c b hc z
    ·rw [hc] at z; cases z; exact hb rfl
end
structure Un (fs ex : List Addr) (H H' : Hp) (h h' : Heap) : Prop where
 keep : ∀ b o, h.get? b = some o -> H b = none -> b ∉ fs -> b ∉ ex -> h'.get? b = some o
 slot : ∀ b o, h.get? b = some o -> H b = none -> b ∈ fs -> b ∉ ex -> ∃ sl, h'.get? b = some { o with slots := sl }
 free : ∀ b o, h.get? b = some o -> H b = none -> b ∉ ex -> H' b = none
 there : ∀ b o, h.get? b = some o -> b ∉ ex -> ∃ o', h'.get? b = some o'
 tups : ∀ b xs, H b = some (.tup xs) -> H' b = some (.tup xs)
 frzs : ∀ b o u, H b = some (.frz o u) -> H' b = some (.frz o u)
 tbls : ∀ b ps, H b = some (.tbl ps) -> ∃ more, H' b = some (.tbl (ps ++ more))
section
variable {fs fs' ex ex' : List Addr} {H H1 H2 : Hp} {h h1 h2 h' : Heap} {a x e : Addr} {o : HO}
theorem Un.any (u : Un fs ex H H1 h h1) {b : Addr} {ob : Obj} (q : h.get? b = some ob) (n : H b = none) (hx : b ∉ ex) : ∃ sl, h1.get? b = some { ob with slots := sl } := by
 by_cases hb : b ∈ fs
 ·exact u.slot b ob q n hb hx
 ·exact ⟨ob.slots, u.keep b ob q n hb hx⟩
theorem Un.kept (k : ∀ b u, h.get? b = some u -> h'.get? b = some u) : Un fs ex H H h h' :=
 ⟨fun b ob q _ _ _ => k b ob q, fun b ob q _ _ _ => ⟨ob.slots, k b ob q⟩, fun _ _ _ n _ => n, fun b ob q _ => ⟨ob, k b ob q⟩, fun _ _ q => q, fun _ _ _ q => q, fun _ ps q => ⟨#[], by rw [q]; simp⟩⟩
theorem Un.refl : Un fs ex H H h h := Un.kept fun _ _ q => q
theorem Un.laid (k : ∀ b u, h.get? b = some u -> h'.get? b = some u) (hp : h.objs.size <= a) (hn : H a = none) : Un fs ex H (upd H a o) h h' where
 keep := fun b u q _ _ _ => k b u q
 slot := fun b u q _ _ _ => ⟨u.slots, k b u q⟩
 free := fun b u q n _ => by rw [upd_ne (Nat.ne_of_lt (Nat.lt_of_lt_of_le (Heap.lt_size q) hp))]; exact n
 there := fun b u q _ => ⟨u, k b u q⟩
 tups := fun b xs q => by rw [upd_ne (ne_of_none q hn)]; exact q
 frzs := fun b u xs q => by rw [upd_ne (ne_of_none q hn)]; exact q
 tbls := fun b ps q => ⟨#[], by rw [upd_ne (ne_of_none q hn), q]; simp⟩
theorem Un.write (mu : Mut (H x)) (he : e = x \/ H e = some (.own x)) (k : ∀ b u, b ≠ e -> h.get? b = some u -> h'.get? b = some u) (heo : ∃ u, h'.get? e = some u) : Un fs ex H (upd H x o) h h' := by
 have hx : ∀ b, H b = none -> b ≠ x := fun b n z => by subst z; rw [n] at mu; exact mu
 have hb : ∀ b, H b = none -> b ≠ e := fun b n z => by
  subst z
  rcases he with r | r
  ·exact hx b n r
  ·rw [n] at r; cases r
 have hm : ∀ b u, H b = some u -> ¬ Mut (some u) -> b ≠ x := fun b u q nm z => by subst z; rw [q] at mu; exact nm mu
 refine ⟨fun b u q n _ _ => k b u (hb b n) q, fun b u q n _ _ => ⟨u.slots, k b u (hb b n) q⟩, fun b u q n _ => by rw [upd_ne (hx b n)]; exact n, fun b u q _ => ?_,
  fun b xs q => by rw [upd_ne (hm b _ q fun z => z)]; exact q, fun b u xs q => by rw [upd_ne (hm b _ q fun z => z)]; exact q, fun b ps q => ⟨#[], by rw [upd_ne (hm b _ q fun z => z), q]; simp⟩⟩
 by_cases hbe : b = e
 ·subst hbe; exact heo
 ·exact ⟨u, k b u hbe q⟩
end
def trk (h : Heap) (H : Hp) : List Addr := (List.range h.objs.size).filter fun a => (H a).isSome
def hidT (h : Heap) (H : Hp) : Heap := PySem.W.hideAll h (trk h H)
theorem hidT_size (h : Heap) (H : Hp) : (hidT h H).objs.size = h.objs.size := PySem.W.hideAll_size _ _
theorem hidT_get {h : Heap} {H : Hp} {b : Addr} {o : Obj} (e : h.get? b = some o) (n : H b = none) : (hidT h H).get? b = some o :=
 PySem.W.hideAll_get _ e fun hm => by
  have q : (H b).isSome = true := (List.mem_filter.mp hm).2
  rw [n] at q; simp at q
theorem of_hidT {h : Heap} {H : Hp} {b : Addr} {o : Obj} (e : (hidT h H).get? b = some o) : h.get? b = some o /\ H b = none := by
 have e' : h.get? b = some o := PySem.W.of_hideAll (trk h H) e
 refine ⟨e', ?_⟩
 cases q : H b with
 | none => rfl
 | some x =>
  have hm : b ∈ trk h H := List.mem_filter.mpr ⟨List.mem_range.mpr (Heap.lt_size e'), by simp [q]⟩
  have z : (hidT h H).get? b = none := PySem.W.hideAll_none (trk h H) hm
  rw [z] at e; cases e
end L2
namespace L2
open PySem PySem.Spec PyProof.Rows
structure Mod (K : PySem.W.Frag) (mg : Str -> Option Value) (base : Heap) : Prop where
 kin : K.In base
 glob : base.Ns mainGlobals mg
 blt : ∃ mb, base.Ns builtinsNs mb /\ ∀ x : Str, x ≠ "__name__" -> mb x = bootBuiltins x
 nolimit : base.NoLimit
 seer : base.NoSeer
structure Cx where
 prog : Program
 w : World
 K : PySem.W.Frag
 mg : Str -> Option Value
 base : Heap
 A : Around
 N : List Str
 s_0 : Shared
 H_0 : Hp
 env : Env
 outer : List Env
 stack : List Env
 ex : List Addr
 fn : Str -> Bool
 calm : Bool
 pn : List (Addr × Obj)
 xe : Value -> Shared -> Prop
def frs (l : List Env) : List Addr := l.filterMap (·.frame)
abbrev Cx.fs (X : Cx) : List Addr := frs X.outer
def Vis (sc : Scope) (x : Str) : Prop := sc.names.lookup x = some .local \/ sc.names.lookup x = some .cell \/ sc.names.lookup x = some .free
def Loc (sc : Scope) (x : Str) : Prop := sc.names.lookup x = some .local \/ sc.names.lookup x = some .cell
def Look (env : Env) (h : Heap) (m : Str -> Option Value) (x : Str) (u : Value) : Prop :=
 (env.kindOf x = some .local /\ m x = some u) \/ ((env.kindOf x = some .cell \/ env.kindOf x = some .free) /\ ∃ c, env.cells.lookup x = some c /\ h.IsCell c (some u))
structure Cx.Ok (X : Cx) : Prop where
 mod : Mod X.K X.mg X.base
 kind : X.env.scope.kind = .function
 glob : X.env.globals = mainGlobals
 blt : X.env.builtins = builtinsNs
 above : X.s_0.heap.objs.size <= X.env.locals
 inj : ∀ x y c, X.env.cells.lookup x = some c -> X.env.cells.lookup y = some c -> x = y
 has : ∀ x, (X.env.kindOf x = some .cell \/ X.env.kindOf x = some .free) -> ∃ c, X.env.cells.lookup x = some c
 cab : ∀ x c, X.fn x = true -> X.env.cells.lookup x = some c -> X.s_0.heap.objs.size <= c
 hd : X.calm = true -> X.A.handled = none
 frames : X.A.frames = some X.stack
 stk : X.stack = X.outer \/ (X.stack = X.env :: X.outer /\ X.env.frame = some X.env.locals)
 exf : ∀ b ∈ X.ex, b ≠ X.env.locals /\ ∀ x c, X.env.cells.lookup x = some c -> c ≠ b
 bs : ∀ b o, X.base.get? b = some o -> X.s_0.heap.get? b = some o /\ X.H_0 b = none
 bsz : X.base.objs.size <= X.s_0.heap.objs.size
 noex : ∀ b o, X.base.get? b = some o -> b ∉ X.ex
 exfs : ∀ b ∈ X.ex, b ∉ X.fs
 funs : X.s_0.heap.FunFrames X.base X.outer
 frf : ∀ b ∈ X.fs, X.H_0 b = none
structure Inv (X : Cx) (pins : List (Addr × Obj)) (σ : List (Option V)) (H : Hp) (s : Shared) : Prop where
 ok : X.Ok
 os : s.os = X.s_0.os
 bare : AllBare s.gens
 base : Un X.fs X.ex X.H_0 H X.s_0.heap s.heap
 loc : ∃ m, s.heap.Ns X.env.locals m /\ ∀ (i : Nat) (x : Str) (v : V), X.N[i]? = some x -> σ[i]? = some (some v) -> Vis X.env.scope x -> ∃ u, RelV v u /\ Look X.env s.heap m x u
 cell : ∀ x c, X.env.cells.lookup x = some c -> ∃ v, s.heap.IsCell c v
 free : H X.env.locals = none
 freeC : ∀ x c, X.env.cells.lookup x = some c -> H c = none
 pin : ∀ p ∈ X.pn ++ pins, s.heap.get? p.1 = some p.2 /\ H p.1 = none /\ p.1 ≠ X.env.locals /\ p.1 ∉ X.fs /\ ∀ v, p.2.data ≠ .cell v
 hok : HOk X.prog X.w H s.heap
 len : σ.length = X.N.length
section
variable {X : Cx} {pins : List (Addr × Obj)} {σ : List (Option V)} {H H' : Hp} {s : Shared} {h' : Heap}
theorem Cx.Ok.nofr (ok : X.Ok) {b : Addr} {o : Obj} (e : X.base.get? b = some o) : b ∉ X.fs := fun hb => by
 have := (ok.funs.mem hb).1
 rw [e] at this; cases this
theorem Inv.bs (I : Inv X pins σ H s) : ∀ b o, X.base.get? b = some o -> s.heap.get? b = some o /\ H b = none := fun b o e =>
 ⟨I.base.keep b o (I.ok.bs b o e).1 (I.ok.bs b o e).2 (I.ok.nofr e) (I.ok.noex b o e), I.base.free b o (I.ok.bs b o e).1 (I.ok.bs b o e).2 (I.ok.noex b o e)⟩
theorem Inv.bk (I : Inv X pins σ H s) : ∀ b o, X.base.get? b = some o -> s.heap.get? b = some o := fun b o e => (I.bs b o e).1
theorem Inv.mod (I : Inv X pins σ H s) : Mod X.K X.mg X.base := I.ok.mod
theorem Inv.kIn (I : Inv X pins σ H s) : X.K.In s.heap := I.ok.mod.kin.keeps I.bk
theorem Inv.nolimit (I : Inv X pins σ H s) : s.heap.NoLimit := I.ok.mod.nolimit.keeps I.bk
theorem Inv.lt (I : Inv X pins σ H s) : X.env.locals < s.heap.objs.size := let ⟨_, hn, _⟩ := I.loc; hn.lt
theorem Inv.sz (I : Inv X pins σ H s) : X.s_0.heap.objs.size <= s.heap.objs.size := Nat.le_trans I.ok.above (Nat.le_of_lt I.lt)
theorem Inv.nofs (I : Inv X pins σ H s) {a : Addr} (h : s.heap.objs.size <= a) : a ∉ X.fs := fun hb => by
 obtain ⟨_, o, ho, _⟩ := I.ok.funs.mem hb
 exact absurd (Nat.lt_of_lt_of_le (Heap.lt_size ho) (Nat.le_trans I.sz h)) (Nat.lt_irrefl _)
theorem Inv.cne (I : Inv X pins σ H s) : ∀ x c, X.env.cells.lookup x = some c -> c ≠ X.env.locals := fun x c e z => by
 obtain ⟨v, o, ho, hd⟩ := I.cell x c e
 obtain ⟨m, ⟨o', es, ep, ho', hd', _⟩, _⟩ := I.loc
 rw [z, ho'] at ho; cases ho; rw [hd'] at hd; cases hd
theorem Inv.funs (I : Inv X pins σ H s) : s.heap.FunFrames X.base X.outer := by
 have all : ∀ (l : List Env), (∀ b ∈ frs l, b ∈ X.fs) -> X.s_0.heap.FunFrames X.base l -> s.heap.FunFrames X.base l := by
  intro l
  induction l with
  | nil => intro _ _; trivial
  | cons env r ih =>
   intro hs hl
   obtain ⟨hk, ⟨L, o, hf, hn, ho, hd⟩, hr⟩ := hl
   have hL : L ∈ X.fs := hs L (by unfold frs; rw [List.filterMap_cons, hf]; exact List.mem_cons_self)
   obtain ⟨sl, e⟩ := I.base.slot L o ho (I.ok.frf L hL) hL fun z => I.ok.exfs L z hL
   exact ⟨hk, ⟨L, _, hf, hn, e, hd⟩, ih (fun b hb => hs b (by unfold frs; rw [List.filterMap_cons, hf]; exact List.mem_cons_of_mem _ hb)) hr⟩
 exact all X.outer (fun _ hb => hb) I.ok.funs
theorem Inv.stack (I : Inv X pins σ H s) : s.heap.FunFrames X.base X.stack := by
 rcases I.ok.stk with e | ⟨e, hf⟩
 ·rw [e]; exact I.funs
 ·rw [e]
  obtain ⟨m, hn, _⟩ := I.loc
  refine .cons (by rw [I.ok.kind]; decide) hf hn ?_ I.funs
  exact Heap.get?_none_of_le (Nat.le_trans I.ok.bsz I.ok.above)
theorem Inv.stkSub (I : Inv X pins σ H s) : ∀ b ∈ frs X.stack, b ∈ X.env.locals :: X.fs := fun b hb => by
 rcases I.ok.stk with e | ⟨e, hf⟩
 ·rw [e] at hb; exact List.mem_cons_of_mem _ hb
 ·rw [e] at hb
  unfold frs at hb
  rw [List.filterMap_cons, hf] at hb
  exact hb
theorem Inv.stkFree (I : Inv X pins σ H s) : ∀ b ∈ frs X.stack, H b = none := fun b hb => by
 rcases List.mem_cons.mp (I.stkSub b hb) with e | hb
 ·rw [e]; exact I.free
 ·obtain ⟨_, o, ho, _⟩ := I.ok.funs.mem hb
  exact I.base.free b o ho (I.ok.frf b hb) fun z => I.ok.exfs b z hb
theorem Inv.step {g' : Array GenState} {t' : Nat} {d' : Drawn} {ch : List Addr} (I : Inv X pins σ H s)
  (hch : ∀ b ∈ ch, (b ∈ X.ex \/ X.s_0.heap.objs.size <= b) /\ b ≠ X.env.locals /\ (∀ x c, X.env.cells.lookup x = some c -> c ≠ b) /\ ∀ p ∈ X.pn ++ pins, p.1 ≠ b)
  (keep : ∀ b o, b ≠ X.env.locals -> b ∉ X.fs -> b ∉ ch -> s.heap.get? b = some o -> H b = none -> h'.get? b = some o)
  (slot : ∀ b o, b ≠ X.env.locals -> b ∈ X.fs -> b ∉ ch -> s.heap.get? b = some o -> H b = none -> ∃ sl, h'.get? b = some { o with slots := sl }) (free : ∀ b o, b ∉ ch -> s.heap.get? b = some o -> H b = none -> H' b = none)
  (there : ∀ b o, b ∉ ch -> s.heap.get? b = some o -> ∃ o', h'.get? b = some o')
  (tups : ∀ b xs, H b = some (.tup xs) -> H' b = some (.tup xs)) (frzs : ∀ b o u, H b = some (.frz o u) -> H' b = some (.frz o u)) (tbls : ∀ b ps, H b = some (.tbl ps) -> ∃ more, H' b = some (.tbl (ps ++ more)))
  (ns : ∀ m, s.heap.Ns X.env.locals m -> h'.Ns X.env.locals m) (hok : HOk X.prog X.w H' h') (hg : AllBare g') :
  Inv X pins σ H' { s with heap := h', gens := g', drawn := d', toks := t' } := by
 have neL : ∀ b o, X.s_0.heap.get? b = some o -> b ≠ X.env.locals := fun b o e => Nat.ne_of_lt (Nat.lt_of_lt_of_le (Heap.lt_size e) I.ok.above)
 have neC : ∀ b o, X.s_0.heap.get? b = some o -> b ∉ X.ex -> b ∉ ch := fun b o e hx hb => by
  rcases (hch b hb).1 with z | z
  ·exact hx z
  ·exact absurd (Nat.lt_of_lt_of_le (Heap.lt_size e) z) (Nat.lt_irrefl _)
 have cellK : ∀ x c, X.env.cells.lookup x = some c -> ∀ v, s.heap.IsCell c v -> h'.IsCell c v := fun x c e v ⟨o, ho, hd⟩ => by
  have nch : c ∉ ch := fun z => (hch c z).2.2.1 x c e rfl
  by_cases hc : c ∈ X.fs
  ·obtain ⟨sl, q⟩ := slot c o (I.cne x c e) hc nch ho (I.freeC x c e)
   exact ⟨_, q, hd⟩
  ·exact ⟨o, keep c o (I.cne x c e) hc nch ho (I.freeC x c e), hd⟩
 refine ⟨I.ok, I.os, hg, ⟨fun b o e n hb hx => ?_, fun b o e n hb hx => ?_, fun b o e n hx => ?_, fun b o e hx => ?_, fun b xs e => tups b xs (I.base.tups b xs e), fun b o xs e => frzs b o xs (I.base.frzs b o xs e), fun b ps e => ?_⟩, ?_, fun x c e => ?_, ?_, fun x c e => ?_, fun p hp => ?_, hok, I.len⟩
 ·exact keep b o (neL b o e) hb (neC b o e hx) (I.base.keep b o e n hb hx) (I.base.free b o e n hx)
 ·obtain ⟨sl, e1⟩ := I.base.slot b o e n hb hx
  obtain ⟨sl', e2⟩ := slot b _ (neL b o e) hb (neC b o e hx) e1 (I.base.free b o e n hx)
  exact ⟨sl', e2⟩
 ·obtain ⟨o', e1⟩ := I.base.there b o e hx
  exact free b o' (neC b o e hx) e1 (I.base.free b o e n hx)
 ·obtain ⟨o', e1⟩ := I.base.there b o e hx
  exact there b o' (neC b o e hx) e1
 ·obtain ⟨m1, e1⟩ := I.base.tbls b ps e
  obtain ⟨m2, e2⟩ := tbls b _ e1
  exact ⟨m1 ++ m2, by rw [e2, Array.append_assoc]⟩
 ·obtain ⟨m, hn, hl⟩ := I.loc
  refine ⟨m, ns m hn, fun i x v e1 e2 e3 => ?_⟩
  obtain ⟨u, r, l⟩ := hl i x v e1 e2 e3
  refine ⟨u, r, ?_⟩
  rcases l with l | ⟨k, c, e, z⟩
  ·exact .inl l
  ·exact .inr ⟨k, c, e, cellK x c e _ z⟩
 ·obtain ⟨v, z⟩ := I.cell x c e
  exact ⟨v, cellK x c e v z⟩
 ·obtain ⟨m, ⟨o, _, _, ho, _⟩, _⟩ := I.loc
  exact free _ o (fun z => (hch _ z).2.1 rfl) ho I.free
 ·obtain ⟨v, o, ho, hd⟩ := I.cell x c e
  exact free c o (fun z => (hch c z).2.2.1 x c e rfl) ho (I.freeC x c e)
 ·obtain ⟨e, n, ne, nf, d⟩ := I.pin p hp
  have nch : p.1 ∉ ch := fun z => (hch p.1 z).2.2.2 p hp rfl
  exact ⟨keep p.1 p.2 ne nf nch e n, free p.1 p.2 nch e n, ne, nf, d⟩
theorem Inv.un {t' : Nat} (I : Inv X pins σ H s) (u : Un X.fs [] H H' s.heap h') (hok : HOk X.prog X.w H' h') : Inv X pins σ H' { s with heap := h', toks := t' } := by
 obtain ⟨m, ⟨o, es, ep, ho, r⟩, _⟩ := id I.loc
 obtain ⟨sl, hL⟩ := u.any ho I.free (by simp)
 exact I.step (g' := s.gens) (d' := s.drawn) (ch := []) (fun _ z => nomatch z) (fun b o _ hb _ e n => u.keep b o e n hb (by simp)) (fun b o _ hb _ e n => u.slot b o e n hb (by simp)) (fun b o _ e n => u.free b o e n (by simp)) (fun b o _ e => u.there b o e (by simp)) u.tups u.frzs u.tbls (fun m' hm => by
  obtain ⟨o', es', ep', ho', r'⟩ := hm
  rw [ho] at ho'; cases ho'
  exact ⟨_, es', ep', hL, r'⟩) hok I.bare
theorem Inv.call {g' : Array GenState} {t' : Nat} {d' : Drawn} {ch : List Addr} (I : Inv X pins σ H s) (u : Un (frs X.stack) ch H H' s.heap h') (hok : HOk X.prog X.w H' h') (hg : AllBare g')
  (hch : ∀ b ∈ ch, (b ∈ X.ex \/ X.s_0.heap.objs.size <= b) /\ b ≠ X.env.locals /\ (∀ x c, X.env.cells.lookup x = some c -> c ≠ b) /\ ∀ p ∈ X.pn ++ pins, p.1 ≠ b) :
  Inv X pins σ H' { s with heap := h', gens := g', drawn := d', toks := t' } := by
 obtain ⟨m, ⟨o, es, ep, ho, r⟩, _⟩ := id I.loc
 obtain ⟨sl, hL⟩ := u.any ho I.free fun z => (hch _ z).2.1 rfl
 exact I.step (ch := ch) hch (fun b o hL hb hc e n => u.keep b o e n (fun z => (List.mem_cons.mp (I.stkSub b z)).elim hL hb) hc) (fun b o _ _ hc e n => u.any e n hc) (fun b o hc e n => u.free b o e n hc) (fun b o hc e => u.there b o e hc) u.tups u.frzs u.tbls (fun m' hm => by
  obtain ⟨o', es', ep', ho', r'⟩ := hm
  rw [ho] at ho'; cases ho'
  exact ⟨_, es', ep', hL, r'⟩) hok hg
theorem Inv.turned {t' : Nat} {it : Addr} (I : Inv X pins σ H s) (k : ∀ b o, b ≠ it -> s.heap.get? b = some o -> h'.get? b = some o) (hn : H it = none) (hL : it ≠ X.env.locals)
  (h1 : it ∈ X.ex \/ X.s_0.heap.objs.size <= it) (h2 : ∀ x c, X.env.cells.lookup x = some c -> c ≠ it) (h3 : ∀ p ∈ X.pn ++ pins, p.1 ≠ it) : Inv X pins σ H { s with heap := h', toks := t' } := by
 have nit : ∀ b u, H b = some u -> b ≠ it := fun b u e z => by rw [z, hn] at e; cases e
 refine I.step (g' := s.gens) (d' := s.drawn) (ch := [it]) (fun b hb => ?_) (fun b o _ _ hc e _ => k b o (fun z => hc (by simp [z])) e) (fun b o _ _ hc e _ => ⟨o.slots, k b o (fun z => hc (by simp [z])) e⟩) (fun _ _ _ _ n => n)
  (fun b o hc e => ⟨o, k b o (fun z => hc (by simp [z])) e⟩) (fun _ _ e => e) (fun _ _ _ e => e) (fun b ps e => ⟨#[], by rw [e]; simp⟩) (fun m hm => ?_) (fun b u e => ?_) I.bare
 ·have e : b = it := by simpa using hb
  subst e
  exact ⟨h1, hL, h2, h3⟩
 ·obtain ⟨o, es, ep, ho, r⟩ := hm
  exact ⟨o, es, ep, k _ o (Ne.symm hL) ho, r⟩
 ·refine (I.hok b u e).stay (fun c v hc q => k c v ?_ q) (fun _ q => q) fun _ _ q => q
  rcases hc with z | z
  ·rw [z]; exact nit b u e
  ·exact nit c _ z
theorem Inv.tok (I : Inv X pins σ H s) (t : Nat) : Inv X pins σ H { s with toks := t } := I.un (h' := s.heap) (t' := t) Un.refl I.hok
theorem Inv.kept {t' : Nat} (I : Inv X pins σ H s) (k : ∀ b u, s.heap.get? b = some u -> h'.get? b = some u) : Inv X pins σ H { s with heap := h', toks := t' } := I.un (Un.kept k) (I.hok.kept k)
theorem Inv.laid {a : Addr} {o : HO} {t' : Nat} (I : Inv X pins σ H s) (k : ∀ b u, s.heap.get? b = some u -> h'.get? b = some u) (hp : s.heap.objs.size <= a) (new : ObjOk X.prog X.w (upd H a o) h' a o) :
  Inv X pins σ (upd H a o) { s with heap := h', toks := t' } := I.un (Un.laid k hp (I.hok.fresh hp)) (I.hok.laid k hp new)
theorem Inv.write {x e : Addr} {o : HO} {t' : Nat} (I : Inv X pins σ H s) (mu : Mut (H x)) (he : e = x \/ H e = some (.own x)) (k : ∀ b u, b ≠ e -> s.heap.get? b = some u -> h'.get? b = some u) (heo : ∃ u, h'.get? e = some u)
  (new : ObjOk X.prog X.w (upd H x o) h' x o) : Inv X pins σ (upd H x o) { s with heap := h', toks := t' } := I.un (Un.write mu he k heo) (I.hok.write mu he k heo new)
theorem Inv.weak {σ' : List (Option V)} (I : Inv X pins σ H s) (hl : σ'.length = σ.length) (w : ∀ (i : Nat) v, σ'[i]? = some (some v) -> σ[i]? = some (some v)) : Inv X pins σ' H s :=
 ⟨I.ok, I.os, I.bare, I.base, let ⟨m, hn, hl'⟩ := I.loc; ⟨m, hn, fun i x v e1 e2 e3 => hl' i x v e1 (w i v e2) e3⟩, I.cell, I.free, I.freeC, I.pin, I.hok, hl.trans I.len⟩
theorem Inv.pins_of {pins' : List (Addr × Obj)} (I : Inv X pins σ H s) (h : ∀ p ∈ pins', s.heap.get? p.1 = some p.2 /\ H p.1 = none /\ p.1 ≠ X.env.locals /\ p.1 ∉ X.fs /\ ∀ v, p.2.data ≠ .cell v) : Inv X pins' σ H s :=
 ⟨I.ok, I.os, I.bare, I.base, I.loc, I.cell, I.free, I.freeC, fun p hp => (List.mem_append.mp hp).elim (fun z => I.pin p (List.mem_append_left _ z)) (h p), I.hok, I.len⟩
theorem nodup_ix {N : List Str} (hN : N.Nodup) {i j : Nat} {x : Str} (a : N[i]? = some x) (b : N[j]? = some x) : i = j := by
 obtain ⟨h1, e1⟩ := List.getElem?_eq_some_iff.mp a
 obtain ⟨h2, e2⟩ := List.getElem?_eq_some_iff.mp b
 exact (List.getElem_inj hN).mp (e1.trans e2.symm)
theorem store_ok2 {M : Model} {A : Around} {E : Value -> Shared -> Prop} {i : Nat} {x : Str} {v : V} {u : Value} {Q : Unit -> Shared -> Prop} (I : Inv X pins σ H s) (hN : X.N.Nodup) (hi : X.N[i]? = some x) (hx : Loc X.env.scope x) (r : RelV v u)
  (h : ∀ s', Inv X pins (σ.set i (some v)) H s' -> (∃ a, Heap.SameBut a s.heap s'.heap /\ (a = X.env.locals \/ X.env.cells.lookup x = some a)) -> Q () s') (hf : X.fn x = true \/ X.env.scope.names.lookup x = some .local := by first | exact .inl rfl | exact .inr rfl | assumption) : wpAny M A (storeName X.env x u) Q E s := by
 obtain ⟨m, hn, hl⟩ := id I.loc
 have hcls : (X.env.scope.kind == .class || (X.env.scope.kind == .module && X.env.locals != X.env.globals)) = false := by rw [I.ok.kind]; rfl
 have hiσ : i < σ.length := by rw [I.len]; exact (List.getElem?_eq_some_iff.mp hi).1
 have cne := I.cne
 have tracked : ∀ {a : Addr} {h' : Heap}, (∃ o, s.heap.get? a = some o /\ H a = none) -> Heap.SameBut a s.heap h' -> HOk X.prog X.w H h' := fun {a h'} ha hs b ob e => by
  obtain ⟨_, _, hfree⟩ := ha
  refine (I.hok b ob e).stay (fun c w' hc q => (hs.2 c ?_).trans q) (fun _ q => q) fun _ _ q => q
  rintro rfl
  rcases hc with rfl | hc
  ·rw [hfree] at e; cases e
  ·rw [hfree] at hc; cases hc
 rcases hx with hk | hk
 ·refine wpAny_storeName_local hk hn (fun h' hn' hs => ?_) hcls
  obtain ⟨oL, _, _, hoL, _⟩ := id hn
  refine h _ ⟨I.ok, I.os, I.bare, ⟨fun b o e n hb hx => ?_, fun b o e n hb hx => ?_, I.base.free, fun b o e hx => ?_, I.base.tups, I.base.frzs, I.base.tbls⟩, ⟨_, hn', fun j y v' e1 e2 e3 => ?_⟩, fun y c e => ?_, I.free, I.freeC, fun p hp => ?_, tracked ⟨oL, hoL, I.free⟩ hs, by simpa using I.len⟩ ⟨_, hs, .inl rfl⟩
  ·exact (hs.2 b (Nat.ne_of_lt (Nat.lt_of_lt_of_le (Heap.lt_size e) I.ok.above))).trans (I.base.keep b o e n hb hx)
  ·obtain ⟨sl, e1⟩ := I.base.slot b o e n hb hx
   exact ⟨sl, (hs.2 b (Nat.ne_of_lt (Nat.lt_of_lt_of_le (Heap.lt_size e) I.ok.above))).trans e1⟩
  ·obtain ⟨o', e1⟩ := I.base.there b o e hx
   exact ⟨o', (hs.2 b (Nat.ne_of_lt (Nat.lt_of_lt_of_le (Heap.lt_size e) I.ok.above))).trans e1⟩
  ·by_cases hj : j = i
   ·subst hj
    rw [hi] at e1; cases e1
    rw [List.getElem?_set_self hiσ] at e2
    cases e2
    exact ⟨u, r, .inl ⟨hk, by simp⟩⟩
   ·rw [List.getElem?_set_ne (Ne.symm hj)] at e2
    obtain ⟨u', r', q⟩ := hl j y v' e1 e2 e3
    refine ⟨u', r', ?_⟩
    rcases q with ⟨k, e⟩ | ⟨k, c, e, z⟩
    ·refine .inl ⟨k, ?_⟩
     have : y ≠ x := fun e => hj (nodup_ix hN e1 (e ▸ hi))
     simp [this, e]
    ·exact .inr ⟨k, c, e, z.sameBut hs (cne y c e)⟩
  ·obtain ⟨w', z⟩ := I.cell y c e
   exact ⟨w', z.sameBut hs (cne y c e)⟩
  ·obtain ⟨e, n, ne, nf, d⟩ := I.pin p hp
   exact ⟨(hs.2 p.1 ne).trans e, n, ne, nf, d⟩
 ·have hfn : X.fn x = true := by
   rcases hf with z | z
   ·exact z
   ·rw [z] at hk; cases hk
  obtain ⟨c, hc⟩ := I.ok.has x (.inl hk)
  obtain ⟨w', z⟩ := I.cell x c hc
  refine wpAny_storeName_cell I.ok.kind hk hc z (fun h' hc' hs => ?_)
  obtain ⟨oc, hoc, hocd⟩ := id z
  refine h { s with heap := h' } ⟨I.ok, I.os, I.bare, ⟨fun b o e n hb hx => ?_, fun b o e n hb hx => ?_, I.base.free, fun b o e hx => ?_, I.base.tups, I.base.frzs, I.base.tbls⟩, ⟨m, hn.sameBut hs (Ne.symm (cne x c hc)), fun j y v' e1 e2 e3 => ?_⟩, fun y c' e => ?_, I.free, I.freeC, fun p hp => ?_, tracked ⟨oc, hoc, I.freeC x c hc⟩ hs, by simpa using I.len⟩ ⟨c, hs, .inr hc⟩
  ·exact (hs.2 b (Nat.ne_of_lt (Nat.lt_of_lt_of_le (Heap.lt_size e) (I.ok.cab x c hfn hc)))).trans (I.base.keep b o e n hb hx)
  ·obtain ⟨sl, e1⟩ := I.base.slot b o e n hb hx
   exact ⟨sl, (hs.2 b (Nat.ne_of_lt (Nat.lt_of_lt_of_le (Heap.lt_size e) (I.ok.cab x c hfn hc)))).trans e1⟩
  ·obtain ⟨o', e1⟩ := I.base.there b o e hx
   exact ⟨o', (hs.2 b (Nat.ne_of_lt (Nat.lt_of_lt_of_le (Heap.lt_size e) (I.ok.cab x c hfn hc)))).trans e1⟩
  ·by_cases hj : j = i
   ·subst hj
    rw [hi] at e1; cases e1
    rw [List.getElem?_set_self hiσ] at e2
    cases e2
    exact ⟨u, r, .inr ⟨.inl hk, c, hc, hc'⟩⟩
   ·rw [List.getElem?_set_ne (Ne.symm hj)] at e2
    obtain ⟨u', r', q⟩ := hl j y v' e1 e2 e3
    refine ⟨u', r', ?_⟩
    rcases q with q | ⟨k, c', e, z'⟩
    ·exact .inl q
    ·refine .inr ⟨k, c', e, z'.sameBut hs ?_⟩
     rintro rfl
     exact hj (nodup_ix hN e1 (I.ok.inj _ _ _ e hc ▸ hi))
  ·by_cases hcc : c' = c
   ·subst hcc; exact ⟨_, hc'⟩
   ·obtain ⟨w2, z2⟩ := I.cell y c' e
    exact ⟨w2, z2.sameBut hs hcc⟩
  ·obtain ⟨e, n, ne, nf, d⟩ := I.pin p hp
   refine ⟨(hs.2 p.1 ?_).trans e, n, ne, nf, d⟩
   intro q
   rw [q, hoc] at e
   have q' : oc = p.2 := Option.some.inj e
   exact d w' (by rw [<- q']; exact hocd)
theorem store_ok {M : Model} {A : Around} {E : Value -> Shared -> Prop} {i : Nat} {x : Str} {v : V} {u : Value} {Q : Unit -> Shared -> Prop} (I : Inv X pins σ H s) (hN : X.N.Nodup) (hi : X.N[i]? = some x) (hx : Loc X.env.scope x) (r : RelV v u)
  (h : ∀ s', Inv X pins (σ.set i (some v)) H s' -> Q () s') (hf : X.fn x = true \/ X.env.scope.names.lookup x = some .local := by first | exact .inl rfl | exact .inr rfl | assumption) : wpAny M A (storeName X.env x u) Q E s :=
 store_ok2 I hN hi hx r (fun s' I' _ => h s' I') hf
theorem Inv.call' {s' : Shared} {ch : List Addr} (I : Inv X pins σ H s) (ho : s'.os = s.os) (u : Un (frs X.stack) ch H H' s.heap s'.heap) (hok : HOk X.prog X.w H' s'.heap) (hg : AllBare s'.gens)
  (hch : ∀ b ∈ ch, (b ∈ X.ex \/ X.s_0.heap.objs.size <= b) /\ b ≠ X.env.locals /\ (∀ x c, X.env.cells.lookup x = some c -> c ≠ b) /\ ∀ p ∈ X.pn ++ pins, p.1 ≠ b) : Inv X pins σ H' s' := by
 obtain ⟨h', g', d', t', o'⟩ := s'
 have e : o' = s.os := ho
 subst e
 exact I.call (g' := g') (t' := t') (d' := d') u hok hg hch
end
abbrev XK := Value -> Option Addr -> Hp -> Prop
abbrev St := List (Option V)
abbrev VK := V -> Hp -> Prop
abbrev TE := St -> Hp -> VK -> Prop
abbrev TT := St -> Hp -> (Bool -> Hp -> Prop) -> Prop
abbrev TA := St -> Hp -> (List V -> Hp -> Prop) -> Prop
structure Ends where
 nx : St -> Hp -> Prop
 rt : VK
 bk : St -> Hp -> Prop := fun _ _ => False
 ct : St -> Hp -> Prop := fun _ _ => False
abbrev TS := Ends -> St -> Hp -> Prop
inductive EP (X : Cx) (pins : List (Addr × Obj)) (σ : St) (Q : VK) (u : Value) (s' : Shared) : Prop
 | mk (v : V) (H' : Hp) : Inv X pins σ H' s' -> RelV v u -> Q v H' -> EP X pins σ Q u s'
inductive TP (X : Cx) (pins : List (Addr × Obj)) (σ : St) (Q : Bool -> Hp -> Prop) (b : Bool) (s' : Shared) : Prop
 | mk (H' : Hp) : Inv X pins σ H' s' -> Q b H' -> TP X pins σ Q b s'
inductive AP (X : Cx) (pins : List (Addr × Obj)) (σ : St) (Q : List V -> Hp -> Prop) (us : List Value) (s' : Shared) : Prop
 | mk (vs : List V) (H' : Hp) : Inv X pins σ H' s' -> Vals vs us -> Q vs H' -> AP X pins σ Q us s'
inductive NxP (X : Cx) (pins : List (Addr × Obj)) (N : St -> Hp -> Prop) (s' : Shared) : Prop
 | mk (σ' : St) (H' : Hp) : Inv X pins σ' H' s' -> N σ' H' -> NxP X pins N s'
inductive RtP (X : Cx) (pins : List (Addr × Obj)) (R : VK) (u : Value) (s' : Shared) : Prop
 | mk (v : V) (σ' : St) (H' : Hp) : Inv X pins σ' H' s' -> RelV v u -> R v H' -> RtP X pins R u s'
def SP (X : Cx) (pins : List (Addr × Obj)) (D : Ends) (f : Flow) (s' : Shared) : Prop :=
 match f with
 | .next => NxP X pins D.nx s'
 | .brk => NxP X pins D.bk s'
 | .cont => NxP X pins D.ct s'
 | .ret u => RtP X pins D.rt u s'
def PE (X : Cx) (e : Expr) (t : TE) : Prop :=
 ∀ (pins : List (Addr × Obj)) (s : Shared) (σ : St) (H : Hp) (Q : VK), Inv X pins σ H s -> t σ H Q -> wpAny (model X.prog X.w) X.A (eval e X.env) (EP X pins σ Q) X.xe s
def PT (X : Cx) (e : Expr) (t : TT) : Prop :=
 ∀ (pins : List (Addr × Obj)) (s : Shared) (σ : St) (H : Hp) (Q : Bool -> Hp -> Prop), Inv X pins σ H s -> t σ H Q -> wpAny (model X.prog X.w) X.A (isTrue e X.env (eval e X.env)) (TP X pins σ Q) X.xe s
def PW (X : Cx) (e : Expr) (t : TT) : Prop :=
 ∀ (whole : Sem Value) (pins : List (Addr × Obj)) (s : Shared) (σ : St) (H : Hp) (Q : Bool -> Hp -> Prop), Inv X pins σ H s -> t σ H Q -> wpAny (model X.prog X.w) X.A (isTrue e X.env whole) (TP X pins σ Q) X.xe s
theorem PW.pt {X : Cx} {e : Expr} {t : TT} (h : PW X e t) : PT X e t := h _
def PA (X : Cx) (es : List Expr) (t : TA) : Prop :=
 ∀ (pos : Pos) (pins : List (Addr × Obj)) (s : Shared) (σ : St) (H : Hp) (Q : List V -> Hp -> Prop), Inv X pins σ H s -> t σ H Q -> wpAny (model X.prog X.w) X.A (spliced (backTo pos (starEach es X.env))) (AP X pins σ Q) X.xe s
def PS (X : Cx) (st : Stmt) (t : TS) : Prop :=
 ∀ (pins : List (Addr × Obj)) (s : Shared) (σ : St) (H : Hp) (D : Ends), Inv X pins σ H s -> t D σ H -> wpAny (model X.prog X.w) X.A (exec st X.env) (SP X pins D) X.xe s
def PSs (X : Cx) (st : List Stmt) (t : TS) : Prop :=
 ∀ (pins : List (Addr × Obj)) (s : Shared) (σ : St) (H : Hp) (D : Ends), Inv X pins σ H s -> t D σ H -> wpAny (model X.prog X.w) X.A (execs st X.env) (SP X pins D) X.xe s
theorem thn {α : Type} {t : Sem α} {Q Q' : α -> Shared -> Prop} {M : Model} {A : Around} {E : Value -> Shared -> Prop} {s : Shared} (h : wpAny M A t Q E s) (hQ : ∀ a s, Q a s -> Q' a s) : wpAny M A t Q' E s := wpAny_mono h hQ fun _ _ x => x
end L2
namespace L2
open PySem PySem.Spec PyProof.Rows
section
variable {X : Cx}
inductive tVar (i : Nat) (σ : St) (H : Hp) (Q : VK) : Prop
 | mk (v : _) : σ[i]? = some (some v) -> Q v H -> tVar i σ H Q
def tC (v : V) : TE := fun _ H Q => Q v H
theorem pe_var {i : Nat} {x : Str} {pos : Pos} (hN : X.N[i]? = some x) (hv : Vis X.env.scope x) (hd : (x == ("__debug__" : Str)) = false := by decide) (hcd : (x == ("__classdict__" : Str)) = false := by decide) : PE X (.Name x pos) (tVar i) := by
 intro pins s σ H Q I h
 obtain ⟨v, e, h⟩ := h
 obtain ⟨m, hn, hl⟩ := I.loc
 obtain ⟨u, r, l⟩ := hl i x v hN e hv
 have fin : EP X pins σ Q u s := ⟨v, H, I, r, h⟩
 rcases l with ⟨hk, hm⟩ | ⟨hk, c, hc, hcell⟩
 ·exact wpAny_Name (wpAny_loadName_local I.ok.kind hk hn hm fin) hd
 ·rcases hk with hk | hk
  ·exact wpAny_Name (wpAny_loadName_cell I.ok.kind hk hc hcell fin) hd
  ·exact wpAny_Name (wpAny_loadName_free I.ok.kind hk hc hcell fin hcd) hd
theorem pe_int {i j pos} : PE X (.Constant (.int i) j pos) (tC (.int i)) := fun _ _ _ H _ I h => wpAny_Constant_int ⟨.int i, H, I.tok _, ⟨_, rfl⟩, h⟩
theorem pe_bl {b j pos} : PE X (.Constant (.bool b) j pos) (tC (.bl b)) := fun _ _ _ H _ I h => Constant_bool ⟨.bl b, H, I, rfl, h⟩
theorem pe_non {j pos} : PE X (.Constant .none j pos) (tC .non) := fun _ _ _ H _ I h => Constant_none ⟨.non, H, I, rfl, h⟩
def Gl (X : Cx) (x : Str) : Prop := X.env.kindOf x = some .globalImplicit
theorem ld_glob {E : Value -> Shared -> Prop} {pins : List (Addr × Obj)} {s : Shared} {σ : St} {H : Hp} {x : Str} {u : Value} {pos : Pos} {Q : Value -> Shared -> Prop} (I : Inv X pins σ H s) (hg : Gl X x) (hm : X.mg x = some u) (h : Q u s)
  (hd : (x == ("__debug__" : Str)) = false := by decide) : wpAny (model X.prog X.w) X.A (eval (.Name x pos) X.env) Q E s :=
 Calls.Name_function_global I.ok.kind hg (Calls.loadGlobal_global (by rw [I.ok.glob]; exact I.mod.glob.keeps I.bk) hm h) hd
theorem ld_blt {E : Value -> Shared -> Prop} {pins : List (Addr × Obj)} {s : Shared} {σ : St} {H : Hp} {x : Str} {u : Value} {pos : Pos} {Q : Value -> Shared -> Prop} (I : Inv X pins σ H s) (hg : Gl X x) (hm : X.mg x = none) (hv : bootBuiltins x = some u) (h : Q u s)
  (hn : x ≠ "__name__" := by decide) (hd : (x == ("__debug__" : Str)) = false := by decide) : wpAny (model X.prog X.w) X.A (eval (.Name x pos) X.env) Q E s := by
 obtain ⟨mb, h1, h2⟩ := I.mod.blt
 exact Calls.Name_function_global I.ok.kind hg (Calls.loadGlobal_builtin (by rw [I.ok.glob]; exact I.mod.glob.keeps I.bk) hm (by rw [I.ok.blt]; exact h1.keeps I.bk) ((h2 x hn).trans hv) h) hd
theorem pe_glob {x : Str} {v : V} {u : Value} {pos : Pos} (hg : Gl X x) (hm : X.mg x = some u) (r : RelV v u) (hd : (x == ("__debug__" : Str)) = false := by decide) : PE X (.Name x pos) (tC v) :=
 fun _ _ _ H _ I h => ld_glob I hg hm ⟨v, H, I, r, h⟩ hd
variable {a b : Expr} {ta tb : TE} {pos : Pos}
inductive IsB (x : V) (H : Hp) (Q : Bool -> Hp -> Prop) : Prop
 | mk (c : Bool) : x = .bl c -> Q c H -> IsB x H Q
def tB (t : TE) : TT := fun σ H Q => t σ H fun x H1 => IsB x H1 Q
theorem pt_val {e : Expr} {t : TE} (h : PE X e t) (he : ∀ whole, isTrue e X.env whole = (do let v <- whole; standAt e.pos; holding [v] (truthy v)) := by intro _; rfl) : PT X e (tB t) := by
 intro pins s σ H Q I hw
 refine isTrue_plain (thn (h pins s σ H _ I hw) fun v s1 ⟨x, H1, I1, r1, q1⟩ => ?_) (he _)
 obtain ⟨d, rfl, q⟩ := q1
 cases r1
 exact wpAny_truthy_bool ⟨H1, I1, q⟩
variable {tA tB' : TT} {rest : List Expr}
def tAnd (t u : TT) : TT := fun σ H Q => t σ H fun c H1 => if c = true then u σ H1 Q else Q false H1
def tOr (t u : TT) : TT := fun σ H Q => t σ H fun c H1 => if c = true then Q true H1 else u σ H1 Q
def tNot (t : TT) : TT := fun σ H Q => t σ H fun c H1 => Q (!c) H1
theorem pw_and1 (ha : PT X a tA) : PW X (.BoolOp .And [a] pos) tA := by
 intro wh pins s σ H Q I h
 refine isTrue_and (thn (ha pins s σ H Q I h) fun c s1 e => ?_)
 cases c with
 | true => exact isTrue_and_nil e
 | false => exact e
theorem pw_or1 (ha : PT X a tA) : PW X (.BoolOp .Or [a] pos) tA := by
 intro wh pins s σ H Q I h
 refine isTrue_or (thn (ha pins s σ H Q I h) fun c s1 e => ?_)
 cases c with
 | false => exact isTrue_or_nil e
 | true => exact e
theorem pw_and (ha : PT X a tA) (hb : PW X (.BoolOp .And (b :: rest) pos) tB') : PW X (.BoolOp .And (a :: b :: rest) pos) (tAnd tA tB') := by
 intro wh pins s σ H Q I h
 refine isTrue_and (thn (ha pins s σ H _ I h) fun c s1 ⟨H1, I1, q1⟩ => ?_)
 cases c with
 | true => exact hb wh pins s1 σ H1 Q I1 q1
 | false => exact ⟨H1, I1, q1⟩
theorem pw_or (ha : PT X a tA) (hb : PW X (.BoolOp .Or (b :: rest) pos) tB') : PW X (.BoolOp .Or (a :: b :: rest) pos) (tOr tA tB') := by
 intro wh pins s σ H Q I h
 refine isTrue_or (thn (ha pins s σ H _ I h) fun c s1 ⟨H1, I1, q1⟩ => ?_)
 cases c with
 | true => exact ⟨H1, I1, q1⟩
 | false => exact hb wh pins s1 σ H1 Q I1 q1
theorem pt_not (ha : PT X a tA) : PT X (.UnaryOp .Not a pos) (tNot tA) := by
 intro pins s σ H Q I h
 exact isTrue_not (thn (ha pins s σ H (fun c H1 => Q (!c) H1) I h) fun c s1 ⟨H1, I1, q1⟩ => ⟨H1, I1, q1⟩)
def tAndV (ta tb : TE) : TE := fun σ H Q => ta σ H fun x H1 => IsB x H1 fun c H1 => if c = true then tb σ H1 Q else Q (.bl false) H1
theorem pe_one {op} {t : TE} (h : PE X a t) : PE X (.BoolOp op [a] pos) t := fun pins s σ H Q I hw => BoolOp_one (h pins s σ H Q I hw)
theorem pe_and (ha : PE X a ta) (hb : PE X (.BoolOp .And (b :: rest) pos) tb) : PE X (.BoolOp .And (a :: b :: rest) pos) (tAndV ta tb) := by
 intro pins s σ H Q I h
 refine BoolOp_and (thn (ha pins s σ H _ I h) fun v s1 ⟨x, H1, I1, r1, q1⟩ => ?_)
 obtain ⟨c, rfl, q1⟩ := q1
 cases r1
 refine wpAny_truthy_bool ?_
 cases c with
 | true => exact hb pins s1 σ H1 Q I1 q1
 | false => exact ⟨.bl false, H1, I1, rfl, q1⟩
def tIf (t : TT) (ta tb : TE) : TE := fun σ H Q => t σ H fun c H1 => if c = true then ta σ H1 Q else tb σ H1 Q
theorem pe_ifExp {c : Expr} (hc : PT X c tA) (ha : PE X a ta) (hb : PE X b tb) : PE X (.IfExp c a b pos) (tIf tA ta tb) := by
 intro pins s σ H Q I h
 refine wpAny_IfExp (thn (hc pins s σ H _ I h) fun d s1 ⟨H1, I1, q1⟩ => ?_)
 cases d with
 | true => exact ha pins s1 σ H1 Q I1 q1
 | false => exact hb pins s1 σ H1 Q I1 q1
end
end L2
namespace L2
open PySem PySem.Spec PyProof.Rows
def SqL (K : PySem.W.Frag) (H : Hp) (a : Addr) (xs : List V) : Prop :=
 Rd H a (.lst xs) \/
  ∃ (o : Obj) (its : Array Value) (n : Nat), K.lookup a = some o /\ o.cls = .type "list" /\ o.dict = none /\ o.data = .seq its n /\ its.size <= sizeLine /\ Vals xs its.toList
def SqT (K : PySem.W.Frag) (H : Hp) (a : Addr) (xs : List V) : Prop :=
 Rd H a (.tup xs) \/
  ∃ (o : Obj) (its : Array Value) (n : Nat), K.lookup a = some o /\ o.cls = .type "tuple" /\ o.data = .seq its n /\ its.size <= sizeLine /\ Vals xs its.toList
def absV : Value -> Option V
 | .none => some .non
 | .bool b => some (.bl b)
 | .int i _ => some (.int i)
 | .str x _ => some (.str x)
 | .bytes b _ => some (.byt b)
 | .float b _ => some (.flt b)
 | .ref a => some (.ref a)
 | .type n => some (.ty n)
 | _ => none
theorem RelV.abs {x : V} {u : Value} (r : RelV x u) : absV u = some x := by
 cases x with
 | non => cases r; rfl
 | bl _ => cases r; rfl
 | int _ => obtain ⟨t, rfl⟩ := r; rfl
 | str _ => obtain ⟨t, rfl⟩ := r; rfl
 | byt _ => obtain ⟨t, rfl⟩ := r; rfl
 | flt _ => obtain ⟨t, rfl⟩ := r; rfl
 | ref _ => cases r; rfl
 | ty _ => cases r; rfl
theorem RelV.inj {x y : V} {u : Value} (r : RelV x u) (q : RelV y u) : x = y := Option.some.inj (r.abs.symm.trans q.abs)
theorem Vals.inj : ∀ {xs ys : List V} {us : List Value}, Vals xs us -> Vals ys us -> xs = ys
 | _, _, _, .nil, .nil => rfl
 | _, _, _, .cons r t, .cons r' t' => by rw [r.inj r', Vals.inj t t']
section
variable {X : Cx} {pins : List (Addr × Obj)} {σ : St} {H : Hp} {s : Shared} {a : Addr} {xs ys : List V}
theorem SqL.of {K : PySem.W.Frag} (h : H a = some (.lst xs)) : SqL K H a xs := .inl (.inl h)
theorem SqT.of {K : PySem.W.Frag} (h : H a = some (.tup xs)) : SqT K H a xs := .inl (.inl h)
theorem Inv.list (I : Inv X pins σ H s) (h : SqL X.K H a xs) : ∃ its : List Value, Vals xs its /\ PlainL s.heap a its.toArray /\ xs.length <= sizeLine := by
 rcases h with h | ⟨o, its, n, hk, hc, hd, hs, hz, r⟩
 ·obtain ⟨z, its, n, r, e⟩ := h.ok I.hok
  exact ⟨its, r, ⟨_, n, e, rfl, rfl, rfl⟩, z⟩
 ·refine ⟨its.toList, r, ⟨o, n, I.kIn a o hk, hc, hd, by simpa using hs⟩, ?_⟩
  have e := r.length
  simp only [Array.length_toList] at e
  lia
theorem Inv.tuple (I : Inv X pins σ H s) (h : SqT X.K H a xs) : ∃ its : List Value, Vals xs its /\ IsTup s.heap a its.toArray /\ xs.length <= sizeLine := by
 rcases h with h | ⟨o, its, n, hk, hc, hs, hz, r⟩
 ·obtain ⟨z, its, r, p⟩ := h.ok I.hok
  exact ⟨its, r, p, z⟩
 ·refine ⟨its.toList, r, ⟨o, I.kIn a o hk, hc, n, by simpa using hs⟩, ?_⟩
  have e := r.length
  simp only [Array.length_toList] at e
  lia
theorem Inv.list_inj (I : Inv X pins σ H s) (h : SqL X.K H a xs) (h' : SqL X.K H a ys) : xs = ys := by
 obtain ⟨its, r, ⟨o, n, e, _, _, d⟩, _⟩ := I.list h
 obtain ⟨its', r', ⟨o', n', e', _, _, d'⟩, _⟩ := I.list h'
 rw [e] at e'; cases e'
 rw [d] at d'
 injection d' with d1 _
 have : its = its' := by simpa using congrArg Array.toList d1
 subst this
 exact r.inj r'
end
abbrev Cx.wish (X : Cx) (E : Value -> Shared -> Prop) : Cx := { X with xe := E }
abbrev Cx.nox (X : Cx) : Cx := X.wish fun _ _ => False
theorem Cx.Ok.wish {X : Cx} (ok : X.Ok) (E : Value -> Shared -> Prop) : (X.wish E).Ok :=
 ⟨ok.mod, ok.kind, ok.glob, ok.blt, ok.above, ok.inj, ok.has, ok.cab, ok.hd, ok.frames, ok.stk, ok.exf, ok.bs, ok.bsz, ok.noex, ok.exfs, ok.funs, ok.frf⟩
theorem Cx.Ok.unwish {X : Cx} {E : Value -> Shared -> Prop} (ok : (X.wish E).Ok) : X.Ok :=
 ⟨ok.mod, ok.kind, ok.glob, ok.blt, ok.above, ok.inj, ok.has, ok.cab, ok.hd, ok.frames, ok.stk, ok.exf, ok.bs, ok.bsz, ok.noex, ok.exfs, ok.funs, ok.frf⟩
section
variable {X : Cx} {pins : List (Addr × Obj)} {σ : St} {H : Hp} {s : Shared} {E : Value -> Shared -> Prop}
theorem Inv.wish (I : Inv X pins σ H s) (E : Value -> Shared -> Prop) : Inv (X.wish E) pins σ H s := ⟨I.ok.wish E, I.os, I.bare, I.base, I.loc, I.cell, I.free, I.freeC, I.pin, I.hok, I.len⟩
theorem Inv.unwish (I : Inv (X.wish E) pins σ H s) : Inv X pins σ H s := ⟨I.ok.unwish, I.os, I.bare, I.base, I.loc, I.cell, I.free, I.freeC, I.pin, I.hok, I.len⟩
theorem SP.unwish {D : Ends} {f : Flow} {s' : Shared} (h : SP (X.wish E) pins D f s') : SP X pins D f s' := by
 cases f with
 | next => obtain ⟨σ', H', I, q⟩ := h; exact ⟨σ', H', I.unwish, q⟩
 | brk => obtain ⟨σ', H', I, q⟩ := h; exact ⟨σ', H', I.unwish, q⟩
 | cont => obtain ⟨σ', H', I, q⟩ := h; exact ⟨σ', H', I.unwish, q⟩
 | ret u => obtain ⟨v, σ', H', I, r, q⟩ := h; exact ⟨v, σ', H', I.unwish, r, q⟩
theorem PSs.nox {st : List Stmt} {t : TS} (h : PSs X.nox st t) : PSs X st t := fun pins s σ H D I hw =>
 wpAny_mono (h pins s σ H D (I.wish _) hw) (fun _ _ q => q.unwish) fun _ _ z => False.elim z
end
section
variable {X : Cx} {st : Stmt} {rest : List Stmt} {t u : TS} {e : Expr} {te : TE} {pos : Pos}
def tNext : TS := fun D σ H => D.nx σ H
def tSeq (t u : TS) : TS := fun D σ H => t { D with nx := u D } σ H
theorem pss_nil : PSs X [] tNext := fun _ _ σ H _ I h => wpAny_execs_nil ⟨σ, H, I, h⟩
theorem pss_cons (h1 : PS X st t) (h2 : PSs X rest u) : PSs X (st :: rest) (tSeq t u) := by
 intro pins s σ H D I h
 refine wpAny_execs_cons (thn (h1 pins s σ H { D with nx := u D } I h) fun f s1 q => ?_)
 cases f with
 | next =>
  obtain ⟨σ', H', I', q⟩ := q
  exact h2 pins s1 σ' H' D I' q
 | ret v => exact q
 | brk => exact q
 | cont => exact q
theorem pss_one (h1 : PS X st t) : PSs X [st] t := by
 intro pins s σ H D I h
 refine wpAny_execs_cons (thn (h1 pins s σ H D I h) fun f s1 q => ?_)
 cases f with
 | next => exact wpAny_execs_nil q
 | ret v => exact q
 | brk => exact q
 | cont => exact q
theorem Inv.quiet {pins : List (Addr × Obj)} {σ : St} {H : Hp} {s : Shared} (I : Inv X pins σ H s) : interactive X.env = false := by simp [interactive, I.ok.kind]
def tDrop (te : TE) : TS := fun D σ H => te σ H fun _ H1 => D.nx σ H1
theorem ps_expr (he : PE X e te) (hs : swapsWith e none pos.line X.env = pure false := by rfl) : PS X (.Expr e pos) (tDrop te) := by
 intro pins s σ H D I h
 exact wpAny_Expr_any (thn (he pins s σ H _ I h) fun v s1 ⟨x, H1, I1, r1, q1⟩ => ⟨σ, H1, I1, q1⟩) I.quiet hs
def tRet (te : TE) : TS := fun D σ H => te σ H D.rt
theorem ps_ret (he : PE X e te) : PS X (.Return (some e) pos) (tRet te) := by
 intro pins s σ H D I h
 exact wpAny_Return_some (thn (he pins s σ H _ I h) fun v s1 ⟨x, H1, I1, r1, q1⟩ => ⟨x, σ, H1, I1, r1, q1⟩)
def tIfS (c : TT) (t u : TS) : TS := fun D σ H => c σ H fun b H1 => if b = true then t D σ H1 else u D σ H1
theorem ps_if {c : Expr} {a b : List Stmt} {tc : TT} (hc : PT X c tc) (ha : PSs X a t) (hb : PSs X b u) : PS X (.If c a b pos) (tIfS tc t u) := by
 intro pins s σ H D I h
 refine wpAny_If (thn (hc pins s σ H _ I h) fun d s1 ⟨H1, I1, q1⟩ => ?_)
 cases d with
 | true => exact ha pins s1 σ H1 D I1 q1
 | false => exact hb pins s1 σ H1 D I1 q1
end
abbrev TG := V -> St -> Hp -> (St -> Hp -> Prop) -> Prop
abbrev TGs := List V -> St -> Hp -> (St -> Hp -> Prop) -> Prop
def PG (X : Cx) (target : Expr) (t : TG) : Prop :=
 ∀ (pins : List (Addr × Obj)) (s : Shared) (σ : St) (H : Hp) (v : V) (u : Value) (Q : St -> Hp -> Prop), Inv X pins σ H s -> RelV v u -> t v σ H Q ->
  wpAny (model X.prog X.w) X.A (assign target X.env u) (fun _ s' => NxP X pins Q s') X.xe s
def PGs (X : Cx) (ts : List Expr) (t : TGs) : Prop :=
 ∀ (pins : List (Addr × Obj)) (s : Shared) (σ : St) (H : Hp) (vs : List V) (us : List Value) (Q : St -> Hp -> Prop), Inv X pins σ H s -> Vals vs us -> t vs σ H Q ->
  wpAny (model X.prog X.w) X.A (assignInOrder ((assignEach ts X.env).map (·.2)) us) (fun _ s' => NxP X pins Q s') X.xe s
abbrev TSet := V -> V -> V -> Hp -> (Hp -> Prop) -> Prop
def PSet (X : Cx) (t : TSet) : Prop :=
 ∀ (pins : List (Addr × Obj)) (s : Shared) (σ : St) (H : Hp) (o i v : V) (ov iv u : Value) (Q : Hp -> Prop), Inv X pins σ H s -> RelV o ov -> RelV i iv -> RelV v u -> t o i v H Q ->
  wpAny (model X.prog X.w) X.A (setItem ov iv u) (fun _ s' => ∃ H', Inv X pins σ H' s' /\ Q H') X.xe s
section
variable {X : Cx} {pos : Pos}
def gName (i : Nat) : TG := fun v σ H Q => Q (σ.set i (some v)) H
theorem pg_name {i : Nat} {x : Str} (hN : X.N.Nodup) (hi : X.N[i]? = some x) (hx : Loc X.env.scope x) (hf : X.fn x = true \/ X.env.scope.names.lookup x = some .local := by first | exact .inl rfl | exact .inr rfl | assumption) : PG X (.Name x pos) (gName i) := by
 intro pins s σ H v u Q I r h
 exact wpAny_assign_Name (store_ok I hN hi hx r (fun s' I' => ⟨_, H, I', h⟩) hf)
def gNil : TGs := fun vs σ H Q => vs = [] /\ Q σ H
inductive gCons (t : TG) (u : TGs) (vs : List V) (σ : St) (H : Hp) (Q : St -> Hp -> Prop) : Prop
 | mk (v r : _) : vs = v :: r -> (t v σ H fun σ' H' => u r σ' H' Q) -> gCons t u vs σ H Q
theorem pgs_nil : PGs X [] gNil := by
 intro pins s σ H vs us Q I r h
 obtain ⟨e, h⟩ := h
 subst e
 cases r
 exact assignInOrder_nil ⟨σ, H, I, h⟩
theorem pgs_cons {e : Expr} {es : List Expr} {t : TG} {u : TGs} (h1 : PG X e t) (h2 : PGs X es u)
  (hs : (assignEach (e :: es) X.env).map (·.2) = assign e X.env :: (assignEach es X.env).map (·.2) := by rfl) : PGs X (e :: es) (gCons t u) := by
 intro pins s σ H vs us Q I r h
 obtain ⟨v, vr, e1, h⟩ := h
 subst e1
 cases r with
 | cons r rr =>
  rw [hs]
  refine assignInOrder_cons (thn (h1 pins s σ H _ _ _ I r h) fun _ s1 ⟨σ1, H1, I1, q1⟩ => ?_)
  exact h2 pins s1 σ1 H1 _ _ Q I1 rr q1
inductive gTup (K : PySem.W.Frag) (n : Nat) (t : TGs) (v : V) (σ : St) (H : Hp) (Q : St -> Hp -> Prop) : Prop
 | mk (a xs : _) : v = .ref a -> SqT K H a xs -> xs.length = n -> t xs σ H Q -> gTup K n t v σ H Q
theorem pg_tup {es : List Expr} {k : Nat} {t : TGs} {n : Nat} (hc : X.calm = true) (h : PGs X es t)
  (hn : (assignEach es X.env).length = n := by rfl) (hst : (assignEach es X.env).findIdx? (·.1) = none := by rfl) : PG X (.Tuple es k pos) (gTup X.K n t) := by
 intro pins s σ H v u Q I r hw
 obtain ⟨a, xs, e1, hq, hl, hw⟩ := hw
 subst e1
 cases r
 obtain ⟨its, rv, ht, hz⟩ := I.tuple hq
 refine assign_Tuple_tuple (I.ok.hd hc) ht (by simp [hn, <- hl, rv.length]) hst fun h' hx => ?_
 have I1 : Inv X pins σ H { s with heap := h' } := I.kept (t' := s.toks) fun b o e => hx b o (Nat.ne_of_lt (Heap.lt_size e)) e
 exact h pins _ σ H xs _ Q I1 (by simpa using rv) hw
def gSub (to ti : TE) (t : TSet) : TG := fun v σ H Q => to σ H fun o H1 => ti σ H1 fun i H2 => t o i v H2 fun H3 => Q σ H3
theorem pg_sub {o i : Expr} {to ti : TE} {t : TSet} (ho : PE X o to) (hi : PE X i ti) (hs : PSet X t)
  (ha : ∀ v, assign (.Subscript o i pos) X.env v = (do
   let ov <- holding [v] (eval o X.env)
   let iv <- holding [v, ov] (eval i X.env)
   standAt pos
   holding [v, ov, iv] (setItem ov iv v)
   release [v, ov, iv] []) := by intro _; rfl) : PG X (.Subscript o i pos) (gSub to ti t) := by
 intro pins s σ H v u Q I r h
 rw [ha]
 refine wpAny_bind (wpAny_holding (thn (ho pins s σ H _ I h) fun ov s1 ⟨x, H1, I1, r1, q1⟩ => ?_))
 refine wpAny_bind (wpAny_holding (thn (hi pins s1 σ H1 _ I1 q1) fun iv s2 ⟨y, H2, I2, r2, q2⟩ => ?_))
 refine wpAny_bind (wpAny_standAt (wpAny_bind (wpAny_holding (thn (hs pins s2 σ H2 x y v ov iv u _ I2 r1 r2 r q2) fun _ s3 ⟨H3, I3, q3⟩ => ?_))))
 exact wpAny_release ⟨σ, H3, I3, q3⟩
def tAsg (te : TE) (g : TG) : TS := fun D σ H => te σ H fun x H1 => g x σ H1 D.nx
theorem ps_asg {tg e : Expr} {te : TE} {g : TG} (he : PE X e te) (hg : PG X tg g) (hs : swapsWithSole [tg] e pos.line X.env = pure false := by rfl) (hw : swappedStores [tg] e X.env = pure none := by rfl)
  (h1 : (assignEach [tg] X.env).map (·.2) = [assign tg X.env] := by rfl) : PS X (.Assign [tg] e pos) (tAsg te g) := by
 intro pins s σ H D I h
 refine wpAny_Assign_stores (thn (he pins s σ H _ I h) fun v s1 ⟨x, H1, I1, r1, q1⟩ => ?_) hs hw
 rw [h1]
 exact thn (hg pins s1 σ H1 x v _ I1 r1 q1) fun _ s2 q => q
theorem ps_set {i : Nat} {x : Str} {e : Expr} {te : TE} {pos' : Pos} (hN : X.N.Nodup) (hi : X.N[i]? = some x) (hx : Loc X.env.scope x) (he : PE X e te) (hs : swapsWith e (some (.Name x pos')) pos.line X.env = pure false := by rfl) (hf : X.fn x = true \/ X.env.scope.names.lookup x = some .local := by first | exact .inl rfl | exact .inr rfl | assumption) :
  PS X (.Assign [.Name x pos'] e pos) (tAsg te (gName i)) := by
 intro pins s σ H D I h
 refine wpAny_Assign_Name (thn (he pins s σ H _ I h) fun v s1 ⟨y, H1, I1, r1, q1⟩ => ?_) hs
 exact store_ok I1 hN hi hx r1 (fun s2 I2 => ⟨_, H1, I2, q1⟩) hf
end
section
variable {X : Cx} {pos : Pos}
def tWhile (c : TT) (tb : TS) : TS := fun D σ H => ∃ W : Nat -> St -> Hp -> Prop, (∃ m, W m σ H) /\ ∀ m σ H, W m σ H ->
 c σ H fun b H1 => if b = true then ∃ N : St -> Hp -> Prop, (∀ σ' H', N σ' H' -> ∃ m', m' < m /\ W m' σ' H') /\ tb { D with nx := N, ct := N, bk := D.nx } σ H1 else D.nx σ H1
theorem ps_while {c : Expr} {body : List Stmt} {tc : TT} {tb : TS} (hp : PassesOwn (model X.prog X.w) X.A X.env X.xe) (hc : PT X c tc) (hb : PSs X body tb) : PS X (.While c body [] pos) (tWhile tc tb) := by
 intro pins s σ H D I h
 obtain ⟨W, ⟨m0, w0⟩, turn⟩ := h
 refine wpAny_While (codeAny_whileLoop (fun n s' => ∃ σ' H', Inv X pins σ' H' s' /\ W n σ' H') ?_ m0 ⟨σ, H, I, w0⟩)
 rintro n s1 ⟨σ1, H1, I1, w1⟩
 refine wpAny_passesOwn hp (thn (hc pins s1 σ1 H1 _ I1 (turn n σ1 H1 w1)) fun b s2 ⟨H2, I2, q2⟩ => ?_)
 cases b with
 | true =>
  obtain ⟨N, hN, q2⟩ := q2
  rw [if_pos rfl]
  refine wpAny_passesOwn hp (thn (hb pins s2 σ1 H2 _ I2 q2) fun f s3 q3 => ?_)
  cases f with
  | next =>
   obtain ⟨σ3, H3, I3, n3⟩ := q3
   obtain ⟨m', hm, w3⟩ := hN σ3 H3 n3
   exact ⟨m', hm, σ3, H3, I3, w3⟩
  | cont =>
   obtain ⟨σ3, H3, I3, n3⟩ := q3
   obtain ⟨m', hm, w3⟩ := hN σ3 H3 n3
   exact ⟨m', hm, σ3, H3, I3, w3⟩
  | brk => exact q3
  | ret v => exact q3
 | false =>
  rw [if_neg Bool.false_ne_true]
  exact wpAny_execs_nil ⟨σ1, H2, I2, q2⟩
end
structure It where
 go : Nat -> Hp -> Prop
 yld : Nat -> Hp -> V -> Hp -> Prop
 stop : Nat -> Hp -> Prop
def FpOk (X : Cx) (pins : List (Addr × Obj)) (H : Hp) (b : Addr) : Prop :=
 H b = none /\ b ≠ X.env.locals /\ b ∉ X.fs /\ (b ∈ X.ex \/ X.s_0.heap.objs.size <= b) /\ (∀ x c, X.env.cells.lookup x = some c -> c ≠ b) /\ ∀ p ∈ X.pn ++ pins, p.1 ≠ b
theorem Inv.fpOk {X : Cx} {pins : List (Addr × Obj)} {σ : St} {H H' : Hp} {s : Shared} {b : Addr} (I : Inv X pins σ H s) (hb : s.heap.objs.size <= b) (hn : H' b = none) : FpOk X pins H' b := by
 refine ⟨hn, Nat.ne_of_gt (Nat.lt_of_lt_of_le I.lt hb), I.nofs hb, .inr (Nat.le_trans I.sz hb), fun x c e z => ?_, fun p hp z => ?_⟩
 ·obtain ⟨v, q⟩ := I.cell x c e
  exact absurd (Nat.lt_of_lt_of_le q.lt (by rw [z]; exact hb)) (Nat.lt_irrefl _)
 ·exact absurd (Nat.lt_of_lt_of_le (Heap.lt_size (I.pin p hp).1) (by rw [z]; exact hb)) (Nat.lt_irrefl _)
structure Turn (P : Program) (w : World) (K : PySem.W.Frag) (tg : Expr) (J : It) (fp : List Addr) (it : Addr) (tn : Nat -> Heap -> Prop) : Prop where
 mem : it ∈ fp
 obj : ∀ i h, tn i h -> ∀ b ∈ fp, ∃ o, h.get? b = some o /\ ∀ v, o.data ≠ .cell v
 keep : ∀ i h h', tn i h -> (∀ b ∈ fp, ∀ o, h.get? b = some o -> h'.get? b = some o) -> tn i h'
 item : ∀ (X : Cx), X.prog = P -> X.w = w -> X.K = K -> X.calm = true -> ∀ (i : Nat) (pins : List (Addr × Obj)) (s : Shared) (σ : St) (H : Hp) (E : Value -> Shared -> Prop), Inv X pins σ H s -> (∀ b ∈ fp, FpOk X pins H b) -> tn i s.heap -> J.go i H ->
  wpAny (model P w) X.A (pyNext (.ref it)) (fun r s1 => ∃ u, r = some u /\
   wpAny (model P w) X.A (letOwnedTupleGo tg (.ref it) u) (fun _ s2 => ∃ x H', Inv X pins σ H' s2 /\ RelV x u /\ J.yld i H x H' /\ tn (i + 1) s2.heap /\ ∀ b ∈ fp, H' b = none) E s1) E s
 done : ∀ (X : Cx), X.prog = P -> X.w = w -> X.K = K -> X.calm = true -> ∀ (i : Nat) (pins : List (Addr × Obj)) (s : Shared) (σ : St) (H : Hp) (E : Value -> Shared -> Prop), Inv X pins σ H s -> (∀ b ∈ fp, FpOk X pins H b) -> tn i s.heap -> J.stop i H ->
  wpAny (model P w) X.A (pyNext (.ref it)) (fun r s1 => r = none /\ Inv X pins σ H s1) E s
 self : ∀ (A : Around) (i : Nat) (s : Shared) (Q : Value -> Shared -> Prop) (E : Value -> Shared -> Prop), tn i s.heap -> Q (.ref it) s -> wpAny (model P w) A (pyIter (.ref it)) Q E s
abbrev TI := St -> Hp -> (It -> Hp -> Prop) -> Prop
def PIE (X : Cx) (pins : List (Addr × Obj)) (σ : St) (tg : Expr) (R : It -> Hp -> Prop) (itv : Value) (s2 : Shared) : Prop :=
 ∃ (it : Addr) (fp : List Addr) (tn : Nat -> Heap -> Prop) (J : It) (H' : Hp), itv = .ref it /\ Inv X pins σ H' s2 /\ Turn X.prog X.w X.K tg J fp it tn /\ tn 0 s2.heap /\ (∀ b ∈ fp, FpOk X pins H' b) /\ R J H'
def PI (X : Cx) (tg iter : Expr) (wi : TI) : Prop :=
 ∀ (pins : List (Addr × Obj)) (s : Shared) (σ : St) (H : Hp) (R : It -> Hp -> Prop), Inv X pins σ H s -> wi σ H R ->
  wpAny (model X.prog X.w) X.A (eval iter X.env) (fun v s1 => wpAny (model X.prog X.w) X.A (pyIter v) (PIE X pins σ tg R) X.xe s1) X.xe s
theorem go_of {M : Model} {A : Around} {E : Value -> Shared -> Prop} {s : Shared} {tg : Expr} {it : Addr} {u : Value} {o : Obj} {n : String} {vs : Array Value} {Q : Unit -> Shared -> Prop} (ho : s.heap.get? it = some o) (hc : o.cls = .type n) (hd : o.data = .fields vs)
    (hn : ["enumerate", "zip", "dict_itemiterator", "dict_reverseitemiterator", "odict_iterator", "itertools.zip_longest", "itertools.pairwise"].contains n = false) (hQ : Q () s) : wpAny M A (letOwnedTupleGo tg (.ref it) u) Q E s := by
  unfold letOwnedTupleGo
  cases tg <;> first
    | exact wpAny_pure hQ
    | (cases u <;> first
        | exact wpAny_pure hQ
        | (refine wpAny_bind (wpAny_load ho ?_)
           rw [hc, hd]
           show wpAny M A (if (["enumerate", "zip", "dict_itemiterator", "dict_reverseitemiterator", "odict_iterator", "itertools.zip_longest", "itertools.pairwise"].contains n && vs[0]? == some (rawInt _)) = true then _ else _) Q E s
           rw [if_neg (by intro h; rw [hn, Bool.false_and] at h; cases h)]
           exact wpAny_pure hQ))
def Itl (K : PySem.W.Frag) (a : Addr) : It :=
 ⟨fun i H => ∃ xs x, SqL K H a xs /\ xs[i]? = some x, fun i H x H' => H' = H /\ ∀ xs, SqL K H a xs -> xs[i]? = some x, fun i H => ∃ xs, SqL K H a xs /\ xs.length <= i⟩
def Itr (lo : Int) (n : Nat) : It := ⟨fun i _ => i < n, fun i H x H' => H' = H /\ x = .int (lo + i), fun i _ => n <= i⟩
theorem turn_list {P : Program} {w : World} {K : PySem.W.Frag} {tg : Expr} (a it : Addr) : Turn P w K tg (Itl K a) [it] it (fun i h => h.IsListIter it a i) where
 mem := by simp
 obj := fun i h st b hb => by
  have e : b = it := by simpa using hb
  subst e
  obtain ⟨o, e, c, d⟩ := st
  exact ⟨o, e, fun v z => by rw [d] at z; cases z⟩
 keep := fun i h h' st k => st.at fun o e => k it (by simp) o e
 item := by
  intro X hP hw hK hc i pins s σ H E I hf st hg
  subst hP hw hK
  obtain ⟨xs, x, hq, hx⟩ := hg
  obtain ⟨its, rv, p, hz⟩ := I.list hq
  obtain ⟨u, hu, ru⟩ := rv.get hx
  obtain ⟨f0, f1, f2, f3, f4, f5⟩ := hf it (by simp)
  refine wpAny_pyNext_list_item st p.isList (x := u) (by simpa using hu) fun h' st' sb => ?_
  have I1 : Inv X pins σ H { s with heap := h' } := I.turned (t' := s.toks) (fun b o hb e => (sb.2 b hb).trans e) f0 f1 f3 f4 f5
  obtain ⟨o, e, c, d⟩ := id st'
  exact ⟨u, rfl, go_of (s := { s with heap := h' }) e c d (by decide) ⟨x, H, I1, ru, ⟨rfl, fun ys hy => by rw [I.list_inj hy hq]; exact hx⟩, st', fun b hb => (hf b hb).1⟩⟩
 done := by
  intro X hP hw hK hc i pins s σ H E I hf st hg
  subst hP hw hK
  obtain ⟨xs, hq, hx⟩ := hg
  obtain ⟨its, rv, p, hz⟩ := I.list hq
  obtain ⟨f0, f1, f2, f3, f4, f5⟩ := hf it (by simp)
  have hl := rv.length
  exact wpAny_pyNext_list_end (I.ok.hd hc) st p.isList (by simp; lia) fun h' eb => ⟨rfl, I.turned (t' := s.toks) (fun b o hb e => eb b o hb e) f0 f1 f3 f4 f5⟩
 self := fun _ _ _ _ _ st h => wpAny_pyIter_listiter st h
theorem turn_range {P : Program} {w : World} {K : PySem.W.Frag} {tg : Expr} (it : Addr) (lo : Int) (n : Nat) : Turn P w K tg (Itr lo n) [it] it (fun i h => IsRangeIter h it (lo + (i : Nat) * 1) ((n : Int) - (i : Nat)) 1) where
 mem := by simp
 obj := fun i h st b hb => by
  have e : b = it := by simpa using hb
  subst e
  exact ⟨_, st, fun v z => by
   have z' : Data.fields _ = Data.cell v := z
   cases z'⟩
 keep := fun i h h' st k => k it (by simp) _ st
 item := by
  intro X hP hw hK hc i pins s σ H E I hf st hg
  subst hP hw hK
  obtain ⟨f0, f1, f2, f3, f4, f5⟩ := hf it (by simp)
  have W := Walks.range (prog := X.prog) (w := X.w) (I.ok.hd hc) it lo 1 n
  refine W.item i s _ _ hg st fun v h' tk hv st' kk => ?_
  obtain ⟨t, rfl⟩ := hv
  have I1 : Inv X pins σ H { s with heap := h', toks := tk } := I.turned (fun b o hb e => kk b o (by simpa using hb) e) f0 f1 f3 f4 f5
  refine ⟨_, rfl, go_of (s := { s with heap := h', toks := tk }) (n := "range_iterator") st' rfl rfl (by decide) ⟨.int (lo + i), H, I1, ⟨t, ?_⟩, ⟨rfl, rfl⟩, st', fun b hb => (hf b hb).1⟩⟩
  rw [Int.mul_one]
 done := by
  intro X hP hw hK hc i pins s σ H E I hf st hg
  subst hP hw hK
  obtain ⟨f0, f1, f2, f3, f4, f5⟩ := hf it (by simp)
  exact wpAny_pyNext_range_end (I.ok.hd hc) st (by have : n <= i := hg; lia) fun h' eb => ⟨rfl, I.turned (t' := s.toks) (fun b o hb e => eb b o hb e) f0 f1 f3 f4 f5⟩
 self := fun _ _ _ _ _ st h => wpAny_pyIter_rangeiter st h
end L2
namespace L2
open PySem PySem.Spec PyProof.Rows
section
variable {X : Cx} {tg : Expr}
inductive LsI (K : PySem.W.Frag) (x : V) (H : Hp) (R : It -> Hp -> Prop) : Prop
 | mk (a : Addr) : x = .ref a -> (∃ xs, SqL K H a xs) -> R (Itl K a) H -> LsI K x H R
def iList (K : PySem.W.Frag) (tl : TE) : TI := fun σ H R => tl σ H fun x H1 => LsI K x H1 R
theorem pi_list {l : Expr} {tl : TE} (hl : PE X l tl) : PI X tg l (iList X.K tl) := by
 intro pins s σ H R I h
 refine thn (hl pins s σ H _ I h) fun v s1 ⟨x, H1, I1, r1, q1⟩ => ?_
 obtain ⟨a, e, ⟨xs, hq⟩, q⟩ := q1
 subst e
 cases r1
 obtain ⟨its, rv, p, hz⟩ := I1.list hq
 refine wpAny_pyIter_list p.isList ?_
 refine ⟨s1.heap.objs.size, [s1.heap.objs.size], _, _, H1, rfl, I1.kept (t' := s1.toks) fun b o e => Heap.get?_push_of_some _ e, turn_list a _, ⟨_, Heap.get?_push_size _ rfl, rfl, rfl⟩, fun b hb => ?_, q⟩
 have e : b = s1.heap.objs.size := by simpa using hb
 subst e
 exact I1.fpOk (Nat.le_refl _) (I1.hok.fresh (Nat.le_refl _))
theorem range_it {pins : List (Addr × Obj)} {σ : St} {H : Hp} {s : Shared} {R : It -> Hp -> Prop} {E : Value -> Shared -> Prop} {lo hi : Int} {t u v : Tok} {tk : Nat} (I : Inv X pins σ H s) (h1 : -(2 ^ 62) <= lo) (h2 : lo < 2 ^ 62) (h3 : -(2 ^ 62) <= hi) (h4 : hi < 2 ^ 62)
  (q : R (Itr lo (hi - lo).toNat) H) : wpAny (model X.prog X.w) X.A (pyIter (.ref s.heap.objs.size)) (PIE X pins σ tg R) E { s with heap := s.heap.push { cls := .type "range", data := .fields #[.int lo t, .int hi u, .int 1 v] }, toks := tk } := by
 refine wpAny_pyIter_range (IsRange.new ..) (small_one h1 h2 h3 h4) ?_
 have I1 : Inv X pins σ H { s with heap := s.heap.push { cls := .type "range", data := .fields #[.int lo t, .int hi u, .int 1 v] }, toks := tk } := I.kept fun b o e => Heap.get?_push_of_some _ e
 refine ⟨(s.heap.push { cls := .type "range", data := .fields #[.int lo t, .int hi u, .int 1 v] }).objs.size, [(s.heap.push { cls := .type "range", data := .fields #[.int lo t, .int hi u, .int 1 v] }).objs.size], _, _, H, rfl,
  I1.kept (t' := tk) fun b o e => Heap.get?_push_of_some _ e, turn_range _ lo (hi - lo).toNat, ?_, fun b hb => ?_, q⟩
 ·have e1 : lo + ((0 : Nat) : Int) * 1 = lo := by simp
  have e2 : (((hi - lo).toNat : Nat) : Int) - ((0 : Nat) : Int) = Builtin.Range.rangeSize lo hi 1 := by rw [rangeSize_one]; split <;> lia
  show IsRangeIter _ _ (lo + ((0 : Nat) : Int) * 1) ((((hi - lo).toNat : Nat) : Int) - ((0 : Nat) : Int)) 1
  rw [e1, e2]
  exact Heap.get?_push_size _ rfl
 ·have e : b = (s.heap.push { cls := .type "range", data := .fields #[.int lo t, .int hi u, .int 1 v] }).objs.size := by simpa using hb
  subst e
  exact I1.fpOk (Nat.le_refl _) (I1.hok.fresh (Nat.le_refl _))
def iRng1 (ta : TA) : TI := fun σ H R => ta σ H fun vs H1 => ∃ j : Int, vs = [.int j] /\ -(2 ^ 62) <= j /\ j < 2 ^ 62 /\ R (Itr 0 j.toNat) H1
def iRng2 (ta : TA) : TI := fun σ H R => ta σ H fun vs H1 => ∃ i j : Int, vs = [.int i, .int j] /\ (-(2 ^ 62) <= i /\ i < 2 ^ 62 /\ -(2 ^ 62) <= j /\ j < 2 ^ 62) /\ R (Itr i (j - i).toNat) H1
theorem pi_range1 {a : Expr} {ta : TA} {p pos : Pos} (hg : Gl X "range") (hm : X.mg "range" = none) (ha : PA X [a] ta) (hs : starEach [a] X.env = [(false, eval a X.env)] := by rfl) : PI X tg (.Call (.Name "range" p) [a] [] pos) (iRng1 ta) := by
 intro pins s σ H R I h
 refine Call_ (ld_blt I hg hm boot_range (PyProof.Rows.callWith_type1 (thn (ha pos pins s σ H _ I h) fun us s1 ⟨vs, H1, I1, r1, q1⟩ => ?_) hs rfl))
 obtain ⟨j, e, q1, q2, q⟩ := q1
 subst e
 cases r1 with
 | cons r rr =>
  cases rr
  obtain ⟨t, rfl⟩ := r
  exact call_range_1 (range_it I1 (by lia) (by lia) q1 q2 (by simpa using q))
theorem pi_range2 {a b : Expr} {ta : TA} {p pos : Pos} (hg : Gl X "range") (hm : X.mg "range" = none) (ha : PA X [a, b] ta) (hs : starEach [a, b] X.env = [(false, eval a X.env), (false, eval b X.env)] := by rfl) (hs2 : starEach [b] X.env = [(false, eval b X.env)] := by rfl) :
  PI X tg (.Call (.Name "range" p) [a, b] [] pos) (iRng2 ta) := by
 intro pins s σ H R I h
 refine Call_ (ld_blt I hg hm boot_range (PyProof.Rows.callWith_type1 (thn (ha pos pins s σ H _ I h) fun us s1 ⟨vs, H1, I1, r1, q1⟩ => ?_) (by rw [hs, hs2]) (by rw [hs2]; rfl)))
 obtain ⟨i, j, e, ⟨q1, q2, q3, q4⟩, q⟩ := q1
 subst e
 cases r1 with
 | cons r rr =>
  cases rr with
  | cons r' rr =>
   cases rr
   obtain ⟨t, rfl⟩ := r
   obtain ⟨t', rfl⟩ := r'
   exact call_range_2 (range_it I1 q1 q2 q3 q4 q)
def tFor (wi : TI) (g : TG) (tb : TS) : TS := fun D σ H => wi σ H fun J H1 => ∃ W : Nat -> Nat -> St -> Hp -> Prop, (∃ m, W 0 m σ H1) /\ ∀ i m σ H, W i m σ H ->
 (J.stop i H /\ D.nx σ H) \/ (J.go i H /\ ∃ N : St -> Hp -> Prop, (∀ σ' H', N σ' H' -> ∃ m', m' < m /\ W (i + 1) m' σ' H') /\ ∀ x H', J.yld i H x H' -> g x σ H' fun σ2 H2 => tb { D with nx := N, ct := N, bk := D.nx } σ2 H2)
def pinsAt (fp : List Addr) (h : Heap) : List (Addr × Obj) := fp.filterMap fun b => (h.get? b).map fun o => (b, o)
theorem mem_pinsAt {fp : List Addr} {h : Heap} {b : Addr} {o : Obj} (hb : b ∈ fp) (e : h.get? b = some o) : (b, o) ∈ pinsAt fp h := List.mem_filterMap.mpr ⟨b, hb, by rw [e]; rfl⟩
theorem of_pinsAt {fp : List Addr} {h : Heap} {p : Addr × Obj} (hp : p ∈ pinsAt fp h) : p.1 ∈ fp /\ h.get? p.1 = some p.2 := by
 obtain ⟨b, hb, e⟩ := List.mem_filterMap.mp hp
 cases q : h.get? b with
 | none => rw [q] at e; cases e
 | some o =>
  rw [q] at e
  have e' : (b, o) = p := Option.some.inj e
  subst e'
  exact ⟨hb, q⟩
theorem Inv.pinned {pins : List (Addr × Obj)} {σ : St} {H : Hp} {s : Shared} {fp : List Addr} (I : Inv X pins σ H s) (hf : ∀ b ∈ fp, FpOk X pins H b) (ho : ∀ b ∈ fp, ∃ o, s.heap.get? b = some o /\ ∀ v, o.data ≠ .cell v) : Inv X (pins ++ pinsAt fp s.heap) σ H s :=
 I.pins_of fun p hp => (List.mem_append.mp hp).elim (fun z => I.pin p (List.mem_append_right _ z)) fun z => by
  obtain ⟨hb, e⟩ := of_pinsAt z
  obtain ⟨f0, f1, f2, _⟩ := hf p.1 hb
  obtain ⟨o, e', d⟩ := ho p.1 hb
  rw [e] at e'; cases e'
  exact ⟨e, f0, f1, f2, d⟩
theorem Inv.unpinned {pins pl : List (Addr × Obj)} {σ : St} {H : Hp} {s : Shared} (I : Inv X (pins ++ pl) σ H s) : Inv X pins σ H s := I.pins_of fun p hp => I.pin p (List.mem_append_right _ (List.mem_append_left _ hp))
theorem ps_for {iter : Expr} {body : List Stmt} {wi : TI} {g : TG} {tb : TS} {pos : Pos} (hp : PassesOwn (model X.prog X.w) X.A X.env X.xe) (hc : X.calm = true) (hi : PI X tg iter wi) (hg : PG X tg g) (hb : PSs X body tb)
  (hs : ∀ x, foldedSetIterable iter X.env x = pure x := by intro _; rfl) : PS X (.For tg iter body [] pos) (tFor wi g tb) := by
 intro pins s σ H D I h
 refine wpAny_For (thn (hi pins s σ H _ I h) fun v s1 h1 => thn h1 fun itv s2 h2 => ?_) hs
 obtain ⟨it, fp, tn, J, H2, e, I2, T, st2, f2, W, ⟨m0, w0⟩, turn⟩ := h2
 subst e
 have stat : ∀ {H' : Hp}, (∀ b ∈ fp, H' b = none) -> ∀ b ∈ fp, FpOk X pins H' b := fun hn b hb => ⟨hn b hb, (f2 b hb).2⟩
 refine codeAny_forLoop_any (fun n s' => ∃ i σ' H', Inv X pins σ' H' s' /\ tn i s'.heap /\ (∀ b ∈ fp, H' b = none) /\ W i n σ' H') ?_ m0 ⟨0, σ, H2, I2, st2, fun b hb => (f2 b hb).1, w0⟩
 rintro n s3 ⟨i, σ3, H3, I3, st3, fr3, w3⟩
 rcases turn i n σ3 H3 w3 with ⟨stop, qn⟩ | ⟨go, N, hN, step⟩
 ·refine wpAny_passesOwn hp (thn (T.done X rfl rfl rfl hc i pins s3 σ3 H3 X.xe I3 (stat fr3) st3 stop) fun r s4 ⟨hr, I4⟩ => ?_)
  subst hr
  exact wpAny_execs_nil ⟨σ3, H3, I4, qn⟩
 ·refine wpAny_passesOwn hp (thn (T.item X rfl rfl rfl hc i pins s3 σ3 H3 X.xe I3 (stat fr3) st3 go) fun r s4 ⟨u, hr, h4⟩ => ?_)
  subst hr
  refine wpAny_passesOwn hp (thn h4 fun _ s5 ⟨x, H5, I5, r5, y5, st5, fr5⟩ => ?_)
  have I5' := I5.pinned (stat fr5) (T.obj _ _ st5)
  refine wpAny_passesOwn hp (thn (hg _ s5 σ3 H5 x u _ I5' r5 (step x H5 y5)) fun _ s6 ⟨σ6, H6, I6, q6⟩ => ?_)
  refine wpAny_passesOwn hp (thn (hb _ s6 σ6 H6 _ I6 q6) fun f s7 q7 => ?_)
  have again : ∀ {σ7 : St} {H7 : Hp}, Inv X (pins ++ pinsAt fp s5.heap) σ7 H7 s7 -> N σ7 H7 -> ∃ m, m < n /\ ∃ i σ' H', Inv X pins σ' H' s7 /\ tn i s7.heap /\ (∀ b ∈ fp, H' b = none) /\ W i m σ' H' := fun {σ7 H7} I7 n7 => by
   obtain ⟨m', hm, w7⟩ := hN σ7 H7 n7
   refine ⟨m', hm, i + 1, σ7, H7, I7.unpinned, T.keep _ _ _ st5 fun b hb o e => (I7.pin (b, o) (List.mem_append_right _ (List.mem_append_right _ (mem_pinsAt hb e)))).1, fun b hb => ?_, w7⟩
   obtain ⟨o, e, d⟩ := T.obj _ _ st5 b hb
   exact (I7.pin (b, o) (List.mem_append_right _ (List.mem_append_right _ (mem_pinsAt hb e)))).2.1
  cases f with
  | next => obtain ⟨σ7, H7, I7, n7⟩ := q7; exact again I7 n7
  | cont => obtain ⟨σ7, H7, I7, n7⟩ := q7; exact again I7 n7
  | brk => obtain ⟨σ7, H7, I7, q7⟩ := q7; exact ⟨σ7, H7, I7.unpinned, q7⟩
  | ret v => obtain ⟨x7, σ7, H7, I7, r7, q7⟩ := q7; exact ⟨x7, σ7, H7, I7.unpinned, r7, q7⟩
end
end L2
namespace L2
open PySem PySem.Spec PyProof.Rows
abbrev R2 := V -> V -> Hp -> VK -> Prop
def OpR (X : Cx) (f : Value -> Value -> Sem Value) (r : R2) : Prop :=
 ∀ (pins : List (Addr × Obj)) (s : Shared) (σ : St) (H : Hp) (x y : V) (v u : Value) (Q : VK), Inv X pins σ H s -> RelV x v -> RelV y u -> r x y H Q ->
  wpAny (model X.prog X.w) X.A (f v u) (EP X pins σ Q) X.xe s
def UnR (X : Cx) (f : Value -> Sem Value) (r : V -> Hp -> VK -> Prop) : Prop :=
 ∀ (pins : List (Addr × Obj)) (s : Shared) (σ : St) (H : Hp) (x : V) (v : Value) (Q : VK), Inv X pins σ H s -> RelV x v -> r x H Q ->
  wpAny (model X.prog X.w) X.A (f v) (EP X pins σ Q) X.xe s
def CallR (X : Cx) (f : Value) (r : List V -> Hp -> VK -> Prop) : Prop :=
 ∀ (pins : List (Addr × Obj)) (s : Shared) (σ : St) (H : Hp) (xs : List V) (us : List Value) (Q : VK), Inv X pins σ H s -> Vals xs us -> r xs H Q ->
  wpAny (model X.prog X.w) X.A (call f us) (EP X pins σ Q) X.xe s
def tOp (r : R2) (ta tb : TE) : TE := fun σ H Q => ta σ H fun x H1 => tb σ H1 fun y H2 => r x y H2 Q
def tUn (r : V -> Hp -> VK -> Prop) (ta : TE) : TE := fun σ H Q => ta σ H fun x H1 => r x H1 Q
inductive rI (C : Int -> Int -> Prop) (g : Int -> Int -> V) (x y : V) (H : Hp) (Q : VK) : Prop
 | mk (i j : _) : x = .int i -> y = .int j -> C i j -> Q (g i j) H -> rI C g x y H Q
inductive rI0 (g : Int -> Int -> V) (x y : V) (H : Hp) (Q : VK) : Prop
 | mk (i j : _) : x = .int i -> y = .int j -> Q (g i j) H -> rI0 g x y H Q
inductive rU (g : Int -> V) (x : V) (H : Hp) (Q : VK) : Prop
 | mk (i : _) : x = .int i -> Q (g i) H -> rU g x H Q
section
variable {X : Cx} {a b c : Expr} {ta tb tc : TE} {pos : Pos}
theorem binT (ha : PE X a ta) (hb : PE X b tb) {pins : List (Addr × Obj)} {s : Shared} {σ : St} {H : Hp} {R : V -> V -> Hp -> Prop} (I : Inv X pins σ H s)
  (h : ta σ H fun x H1 => tb σ H1 fun y H2 => R x y H2) {Q : Value -> Shared -> Prop} {f : Value -> Value -> Sem Value}
  (hf : ∀ v u s2 x y H2, Inv X pins σ H2 s2 -> RelV x v -> RelV y u -> R x y H2 -> wpAny (model X.prog X.w) X.A (f v u) Q X.xe s2) :
  wpAny (model X.prog X.w) X.A (eval a X.env) (fun v s₁ => wpAny (model X.prog X.w) X.A (eval b X.env) (fun u s₂ => wpAny (model X.prog X.w) X.A (f v u) Q X.xe s₂) X.xe s₁) X.xe s := by
 refine thn (ha pins s σ H _ I h) fun v s1 ⟨x, H1, I1, r1, q1⟩ => ?_
 refine thn (hb pins s1 σ H1 _ I1 q1) fun u s2 ⟨y, H2, I2, r2, q2⟩ => ?_
 exact hf v u s2 x y H2 I2 r1 r2 q2
theorem pe_op {op : Operator} {r : R2} (ho : OpR X (binaryOp op) r) (ha : PE X a ta) (hb : PE X b tb) : PE X (.BinOp a op b pos) (tOp r ta tb) := by
 intro pins s σ H Q I h
 exact wpAny_BinOp (binT ha hb I h fun v u s2 x y H2 I2 rx ry q => ho pins s2 σ H2 x y v u Q I2 rx ry q)
theorem pe_un {op : UnaryOp} {r : V -> Hp -> VK -> Prop} (ho : UnR X (unaryOp op) r) (ha : PE X a ta) : PE X (.UnaryOp op a pos) (tUn r ta) := by
 intro pins s σ H Q I h
 exact UnaryOp_ (thn (ha pins s σ H _ I h) fun v s1 ⟨x, H1, I1, r1, q1⟩ => ho pins s1 σ H1 x v Q I1 r1 q1)
theorem opI {f : Value -> Value -> Sem Value} {C : Int -> Int -> Prop} {g : Int -> Int -> Int}
  (rule : ∀ (i j : Int) (t u : Tok) (s : Shared) (Q : Value -> Shared -> Prop) (E : Value -> Shared -> Prop), C i j -> Q (.int (g i j) s.toks) { s with toks := s.toks + 1 } -> wpAny (model X.prog X.w) X.A (f (.int i t) (.int j u)) Q E s) :
  OpR X f (rI C fun i j => .int (g i j)) := by
 intro pins s σ H x y v u Q I rx ry h
 obtain ⟨i, j, rfl, rfl, hc, q⟩ := h
 obtain ⟨t, rfl⟩ := rx
 obtain ⟨t', rfl⟩ := ry
 exact rule i j t t' s _ _ hc ⟨.int (g i j), H, I.tok _, ⟨_, rfl⟩, q⟩
theorem opI0 {f : Value -> Value -> Sem Value} {g : Int -> Int -> Int}
  (rule : ∀ (i j : Int) (t u : Tok) (s : Shared) (Q : Value -> Shared -> Prop) (E : Value -> Shared -> Prop), Q (.int (g i j) s.toks) { s with toks := s.toks + 1 } -> wpAny (model X.prog X.w) X.A (f (.int i t) (.int j u)) Q E s) :
  OpR X f (rI0 fun i j => .int (g i j)) := by
 intro pins s σ H x y v u Q I rx ry h
 obtain ⟨i, j, rfl, rfl, q⟩ := h
 obtain ⟨t, rfl⟩ := rx
 obtain ⟨t', rfl⟩ := ry
 exact rule i j t t' s _ _ ⟨.int (g i j), H, I.tok _, ⟨_, rfl⟩, q⟩
theorem opB0 {f : Value -> Value -> Sem Value} {g : Int -> Int -> Bool}
  (rule : ∀ (i j : Int) (t u : Tok) (s : Shared) (Q : Value -> Shared -> Prop) (E : Value -> Shared -> Prop), Q (.bool (g i j)) s -> wpAny (model X.prog X.w) X.A (f (.int i t) (.int j u)) Q E s) :
  OpR X f (rI0 fun i j => .bl (g i j)) := by
 intro pins s σ H x y v u Q I rx ry h
 obtain ⟨i, j, rfl, rfl, q⟩ := h
 obtain ⟨t, rfl⟩ := rx
 obtain ⟨t', rfl⟩ := ry
 exact rule i j t t' s _ _ ⟨.bl (g i j), H, I, rfl, q⟩
theorem op_add : OpR X (binaryOp .Add) (rI0 fun i j => .int (i + j)) := opI0 fun _ _ _ _ _ _ _ q => add_int q
theorem op_sub : OpR X (binaryOp .Sub) (rI0 fun i j => .int (i - j)) := opI0 fun _ _ _ _ _ _ _ q => sub_int q
theorem op_mod : OpR X (binaryOp .Mod) (rI (fun _ j => 0 < j) fun i j => .int (i % j)) := opI fun i j _ _ _ _ _ hc q => by
 have h1 : (0 : Int) < j := hc
 exact mod_int' (by lia) (by rw [Int.fmod_eq_emod_of_nonneg i (by lia)]; exact q)
theorem unI {f : Value -> Sem Value} {g : Int -> Int}
  (rule : ∀ (i : Int) (t : Tok) (s : Shared) (Q : Value -> Shared -> Prop) (E : Value -> Shared -> Prop), Q (.int (g i) s.toks) { s with toks := s.toks + 1 } -> wpAny (model X.prog X.w) X.A (f (.int i t)) Q E s) :
  UnR X f (rU fun i => .int (g i)) := by
 intro pins s σ H x v Q I rx h
 obtain ⟨i, rfl, q⟩ := h
 obtain ⟨t, rfl⟩ := rx
 exact rule i t s _ _ ⟨.int (g i), H, I.tok _, ⟨_, rfl⟩, q⟩
theorem un_neg : UnR X (unaryOp .USub) (rU fun i => .int (-i)) := unI fun _ _ _ _ _ q => neg_int q
end
def scal : V -> V -> Bool
 | .non, .non => true | .non, .int _ => true | .int _, .non => true | .non, .bl _ => true | .bl _, .non => true | .non, .str _ => true | .str _, .non => true
 | .int _, .int _ => true | .bl _, .bl _ => true | .str _, .str _ => true | .byt _, .byt _ => true
 | .int _, .str _ => true | .str _, .int _ => true | .bl _, .str _ => true | .str _, .bl _ => true
 | _, _ => false
def rEq : R2 := fun x y H Q => scal x y = true /\ Q (.bl (decide (x = y))) H
def rNe : R2 := fun x y H Q => scal x y = true /\ Q (.bl (!decide (x = y))) H
theorem dec_int {i j : Int} : decide (V.int i = V.int j) = (i == j) := by
 rw [Bool.eq_iff_iff]
 simp
theorem dec_bl {i j : Bool} : decide (V.bl i = V.bl j) = (i == j) := by
 rw [Bool.eq_iff_iff]
 simp
theorem dec_str {i j : Str} : decide (V.str i = V.str j) = (i == j) := by
 rw [Bool.eq_iff_iff]
 simp
theorem dec_byt {i j : Array UInt8} : decide (V.byt i = V.byt j) = (i.toList == j.toList) := by
 rw [Bool.eq_iff_iff]
 cases i
 cases j
 simp
section
variable {X : Cx} {a b c : Expr} {ta tb tc : TE} {pos : Pos}
theorem fin_bl {pins : List (Addr × Obj)} {σ : St} {H : Hp} {s : Shared} {Q : VK} {k k' : Bool} (I : Inv X pins σ H s) (q : Q (.bl k) H) (e : k = k') : EP X pins σ Q (.bool k') s := by
 subst e
 exact ⟨.bl k, H, I, rfl, q⟩
theorem op_eq : OpR X (compareOp .Eq) rEq := by
 intro pins s σ H x y v u Q I rx ry h
 obtain ⟨hs, q⟩ := h
 cases x with
 | non =>
  cases rx
  cases y with
  | non => cases ry; exact PySem.EqNone.eq_none_none (fin_bl I q (by simp))
  | bl j => cases ry; exact PySem.EqNone.eq_none_bool (fin_bl I q (by simp))
  | int j => obtain ⟨t', rfl⟩ := ry; exact PySem.EqNone.eq_none_int (fin_bl I q (by simp))
  | str j => obtain ⟨t', rfl⟩ := ry; exact PySem.EqNone.eq_none_str (fin_bl I q (by simp))
  | _ => exact absurd (show false = true from hs) Bool.false_ne_true
 | bl i =>
  cases rx
  cases y with
  | non => cases ry; exact PySem.EqNone.eq_bool_none (fin_bl I q (by simp))
  | bl j => cases ry; exact eq_bool (fin_bl I q dec_bl)
  | str j => obtain ⟨t', rfl⟩ := ry; exact PySem.EqMixed.eq_bool_str (fin_bl I q (by simp))
  | _ => exact absurd (show false = true from hs) Bool.false_ne_true
 | int i =>
  obtain ⟨t, rfl⟩ := rx
  cases y with
  | non => cases ry; exact PySem.EqNone.eq_int_none (fin_bl I q (by simp))
  | int j => obtain ⟨t', rfl⟩ := ry; exact eq_int (fin_bl I q dec_int)
  | str j => obtain ⟨t', rfl⟩ := ry; exact PySem.EqMixed.eq_int_str (fin_bl I q (by simp))
  | _ => exact absurd (show false = true from hs) Bool.false_ne_true
 | str i =>
  obtain ⟨t, rfl⟩ := rx
  cases y with
  | non => cases ry; exact PySem.EqNone.eq_str_none (fin_bl I q (by simp))
  | bl j => cases ry; exact PySem.EqMixed.eq_str_bool (fin_bl I q (by simp))
  | int j => obtain ⟨t', rfl⟩ := ry; exact PySem.EqMixed.eq_str_int (fin_bl I q (by simp))
  | str j => obtain ⟨t', rfl⟩ := ry; exact eq_str (fin_bl I q dec_str)
  | _ => exact absurd (show false = true from hs) Bool.false_ne_true
 | byt i =>
  obtain ⟨t, rfl⟩ := rx
  cases y with
  | byt j => obtain ⟨t', rfl⟩ := ry; exact PySem.W.eq_bytes (fin_bl I q dec_byt)
  | _ => exact absurd (show false = true from hs) Bool.false_ne_true
 | _ => cases y <;> exact absurd (show false = true from hs) Bool.false_ne_true
theorem op_ne : OpR X (compareOp .NotEq) rNe := by
 intro pins s σ H x y v u Q I rx ry h
 obtain ⟨hs, q⟩ := h
 cases x with
 | non =>
  cases rx
  cases y with
  | non => cases ry; exact PySem.EqNone.ne_none_none (fin_bl I q (by simp))
  | bl j => cases ry; exact PySem.EqNone.ne_none_bool (fin_bl I q (by simp))
  | int j => obtain ⟨t', rfl⟩ := ry; exact PySem.EqNone.ne_none_int (fin_bl I q (by simp))
  | str j => obtain ⟨t', rfl⟩ := ry; exact PySem.EqNone.ne_none_str (fin_bl I q (by simp))
  | _ => exact absurd (show false = true from hs) Bool.false_ne_true
 | bl i =>
  cases rx
  cases y with
  | non => cases ry; exact PySem.EqNone.ne_bool_none (fin_bl I q (by simp))
  | bl j => cases ry; exact ne_bool (fin_bl I q (congrArg not dec_bl))
  | str j => obtain ⟨t', rfl⟩ := ry; exact PySem.EqMixed.ne_bool_str (fin_bl I q (by simp))
  | _ => exact absurd (show false = true from hs) Bool.false_ne_true
 | int i =>
  obtain ⟨t, rfl⟩ := rx
  cases y with
  | non => cases ry; exact PySem.EqNone.ne_int_none (fin_bl I q (by simp))
  | int j => obtain ⟨t', rfl⟩ := ry; exact ne_int (fin_bl I q (congrArg not dec_int))
  | str j => obtain ⟨t', rfl⟩ := ry; exact PySem.EqMixed.ne_int_str (fin_bl I q (by simp))
  | _ => exact absurd (show false = true from hs) Bool.false_ne_true
 | str i =>
  obtain ⟨t, rfl⟩ := rx
  cases y with
  | non => cases ry; exact PySem.EqNone.ne_str_none (fin_bl I q (by simp))
  | bl j => cases ry; exact PySem.EqMixed.ne_str_bool (fin_bl I q (by simp))
  | int j => obtain ⟨t', rfl⟩ := ry; exact PySem.EqMixed.ne_str_int (fin_bl I q (by simp))
  | str j => obtain ⟨t', rfl⟩ := ry; exact ne_str (fin_bl I q (congrArg not dec_str))
  | _ => exact absurd (show false = true from hs) Bool.false_ne_true
 | byt i =>
  obtain ⟨t, rfl⟩ := rx
  cases y with
  | byt j => obtain ⟨t', rfl⟩ := ry; exact PySem.W.ne_bytes (fin_bl I q (congrArg not dec_byt))
  | _ => exact absurd (show false = true from hs) Bool.false_ne_true
 | _ => cases y <;> exact absurd (show false = true from hs) Bool.false_ne_true
theorem op_lt : OpR X (compareOp .Lt) (rI0 fun i j => .bl (decide (i < j))) := opB0 fun _ _ _ _ _ _ _ q => lt_int q
theorem op_le : OpR X (compareOp .LtE) (rI0 fun i j => .bl (decide (i <= j))) := opB0 fun _ _ _ _ _ _ _ q => le_int q
theorem op_gt : OpR X (compareOp .Gt) (rI0 fun i j => .bl (decide (j < i))) := opB0 fun _ _ _ _ _ _ _ q => gt_int q
theorem op_ge : OpR X (compareOp .GtE) (rI0 fun i j => .bl (decide (j <= i))) := opB0 fun _ _ _ _ _ _ _ q => ge_int q
theorem op_isN : OpR X (compareOp .Is) (fun x y H Q => y = .non /\ Q (.bl (decide (x = .non))) H) := by
 intro pins s σ H x y v u Q I rx ry h
 obtain ⟨rfl, q⟩ := h
 cases ry
 refine is_none_gen (fin_bl I q ?_)
 cases x <;> first
  | (cases rx; rfl)
  | (obtain ⟨t, rfl⟩ := rx; rfl)
theorem nomark (b : Expr) {op : CmpOp} (h : op ≠ .In := by decide) (h2 : op ≠ .NotIn := by decide) : behindInMarks op b = false := by
 have e1 : (op == CmpOp.In) = false := by cases op <;> first | rfl | exact absurd rfl h
 have e2 : (op == CmpOp.NotIn) = false := by cases op <;> first | rfl | exact absurd rfl h2
 cases b <;> simp [behindInMarks, e1, e2]
theorem pe_cmpR {op : CmpOp} {r : R2} (ho : OpR X (compareOp op) r) (ha : PE X a ta) (hb : PE X b tb) (hm : behindInMarks op b = false) : PE X (.Compare a [op] [b] pos) (tOp r ta tb) := by
 intro pins s σ H Q I h
 exact wpAny_Compare1 (binT ha hb I h fun v u s2 x y H2 I2 rx ry q => ho pins s2 σ H2 x y v u Q I2 rx ry q) hm
def tTest (t : TE) : TT := fun σ H Q => t σ H fun x H' => IsB x H' Q
theorem pt_cmpR {op : CmpOp} {r : R2} (ho : OpR X (compareOp op) r) (ha : PE X a ta) (hb : PE X b tb) (hm : behindInMarks op b = false) : PT X (.Compare a [op] [b] pos) (tTest (tOp r ta tb)) := by
 intro pins s σ H Q I h
 refine wpAny_isTrue_Compare1 (thn (ha pins s σ H _ I h) fun v s1 ⟨x, H1, I1, r1, q1⟩ => thn (hb pins s1 σ H1 _ I1 q1) fun u s2 ⟨y, H2, I2, r2, q2⟩ =>
  thn (ho pins s2 σ H2 x y v u _ I2 r1 r2 q2) fun c s3 ⟨z, H3, I3, r3, k, e, q3⟩ => ?_) hm
 subst e
 cases r3
 exact wpAny_truthy_bool ⟨H3, I3, q3⟩
theorem line63 : (sizeLine : Nat) < 2 ^ 63 := by rw [sizeLine_eq]; decide
theorem vals1 {x : V} {us : List Value} (r : Vals [x] us) : ∃ u, us = [u] /\ RelV x u := by
 cases r with
 | cons r1 r2 => cases r2; exact ⟨_, rfl, r1⟩
theorem call_abs : CallR X (.builtin "abs") (fun xs H Q => ∃ i, xs = [.int i] /\ Q (.int (if i < 0 then -i else i)) H) := by
 intro pins s σ H xs us Q I r h
 obtain ⟨i, rfl, q⟩ := h
 obtain ⟨u, rfl, t, rfl⟩ := vals1 r
 exact call_abs_int fun u tk => ⟨.int (if i < 0 then -i else i), H, I.tok _, ⟨_, rfl⟩, q⟩
end
end L2
namespace L2
open PySem PySem.Spec PyProof.Rows
section
variable {prog : Program} {w : World} {A : Around} {E : Value -> Shared -> Prop} {s : Shared} {K : PySem.W.Frag} {x dx C f : Addr} {mA : Str -> Option Value} {name : Str} {v : Value}
end
section
variable {P : Program} {w : World} {H H' : Hp} {h h' : Heap} {a C dx : Addr} {fs fs' : List (Str × V)}
end
section
variable {X : Cx} {pins : List (Addr × Obj)} {σ : St} {H : Hp} {s : Shared} {a C dx : Addr} {fs : List (Str × V)} {f : Str} {v : V} {A : Around} {E : Value -> Shared -> Prop}
end
section
variable {X : Cx} {o e value : Expr} {f : Str} {pos pos' tpos : Pos} {ta tv : TE}
end
section
variable {X : Cx} {pins : List (Addr × Obj)} {σ : St} {H : Hp} {s : Shared} {A : Around} {E : Value -> Shared -> Prop} {Q : Value -> Shared -> Prop} {c : Value} {b : Bool}
end
end L2
namespace L2
open PySem PySem.Spec PyProof.Rows
structure Room (k : Nat) (A : Around) : Prop where
 hd : A.handled = none
 dp : A.depth + 3 * k + 5 < recursionLimit
 un : A.units + 16 * k + 200 < cLine
theorem Room.mono {j k : Nat} {A : Around} (r : Room k A) (h : j <= k) : Room j A := ⟨r.hd, by have := r.dp; lia, by have := r.un; lia⟩
theorem Room.deeper {k : Nat} {A : Around} (r : Room (k + 1) A) (env : Env) : Room k (A.deeper env) :=
 ⟨r.hd, by have := r.dp; show A.depth + 1 + 3 * k + 5 < _; lia, by have := r.un; show A.units + 3 + 16 * k + 200 < _; lia⟩
theorem Room.depth {k : Nat} {A : Around} (r : Room k A) : A.depth < recursionLimit := by have := r.dp; lia
theorem Room.units {k : Nat} {A : Around} (r : Room k A) : A.units + 64 < cLine := by have := r.un; lia
def tNil : TA := fun _ H Q => Q [] H
def tCons (ta : TE) (tr : TA) : TA := fun σ H Q => ta σ H fun x H1 => tr σ H1 fun xs H2 => Q (x :: xs) H2
section
variable {X : Cx} {e : Expr} {es : List Expr} {te : TE} {t : TA} {pos : Pos}
theorem pa_nil : PA X [] tNil := fun _ _ _ _ H Q I h => Calls.spliced_nil ⟨[], H, I, .nil, h⟩
theorem pa_cons (ha : PE X e te) (hr : PA X es t) (hs : starEach (e :: es) X.env = (false, eval e X.env) :: starEach es X.env := by rfl) : PA X (e :: es) (tCons te t) := by
 intro pos pins s σ H Q I h
 rw [hs]
 show wpAny _ _ (spliced ((false, eval e X.env) :: backTo pos (starEach es X.env))) _ _ s
 refine Calls.spliced_cons (thn (ha pins s σ H _ I h) fun u s1 ⟨x, H1, I1, r1, q1⟩ => ?_)
 exact thn (hr pos pins s1 σ H1 _ I1 q1) fun us s2 ⟨xs, H2, I2, r2, q2⟩ => ⟨x :: xs, H2, I2, .cons r1 r2, q2⟩
def tTup (t : TA) : TE := fun σ H Q => t σ H fun xs H1 => xs.length <= sizeLine /\ ∀ p, H1 p = none -> Q (.ref p) (upd H1 p (.tup xs))
def tLst (t : TA) : TE := fun σ H Q => t σ H fun xs H1 => xs.length <= sizeLine /\ ∀ p, H1 p = none -> Q (.ref p) (upd H1 p (.lst xs))
theorem pe_tup {x1} (h : PA X es t) : PE X (.Tuple es x1 pos) (tTup t) := by
 intro pins s σ H Q I hq
 refine wpAny_Tuple_spliced (thn (h pos pins s σ H _ I hq) fun us s1 ⟨xs, H1, I1, r, z, q⟩ => ⟨by rw [<- r.length]; exact z, ?_⟩)
 have hf : H1 s1.heap.objs.size = none := I1.hok.fresh (Nat.le_refl _)
 refine ⟨.ref s1.heap.objs.size, upd H1 s1.heap.objs.size (.tup xs), I1.laid (t' := s1.toks) (fun b u e => Heap.get?_push_of_some _ e) (Nat.le_refl _) ?_, rfl, q _ hf⟩
 exact ⟨z, us, r, ⟨_, Heap.get?_push_size _ rfl, rfl, _, rfl⟩⟩
theorem pe_lst (h : PA X es t) : PE X (.List es pos) (tLst t) := by
 intro pins s σ H Q I hq
 refine wpAny_List_spliced (thn (h pos pins s σ H _ I hq) fun us s1 ⟨xs, H1, I1, r, z, q⟩ => ⟨by rw [<- r.length]; exact z, ?_⟩)
 have hf : H1 s1.heap.objs.size = none := I1.hok.fresh (Nat.le_refl _)
 refine ⟨.ref s1.heap.objs.size, upd H1 s1.heap.objs.size (.lst xs), I1.laid (t' := s1.toks) (fun b u e => Heap.get?_push_of_some _ e) (Nat.le_refl _) ?_, rfl, q _ hf⟩
 exact ⟨z, us, 0, r, Heap.get?_push_size _ rfl⟩
end
abbrev Sp := List V -> Hp -> VK -> XK -> Prop
abbrev CXT := List Env -> Hp -> Shared -> XK -> Value -> Shared -> Prop
structure Env0 (P : Program) (w : World) (K : PySem.W.Frag) (mg : Str -> Option Value) (base : Heap) (A : Around) (outer : List Env) (s : Shared) (H : Hp) : Prop where
 frames : A.frames = some outer
 mod : Mod K mg base
 bs : ∀ b o, base.get? b = some o -> s.heap.get? b = some o /\ H b = none
 bsz : base.objs.size <= s.heap.objs.size
 funs : s.heap.FunFrames base outer
 frf : ∀ b ∈ frs outer, H b = none
 hok : HOk P w H s.heap
 bare : AllBare s.gens
def CE (outer : List Env) (P : Program) (w : World) (H : Hp) (s : Shared) (Q : VK) (u : Value) (s' : Shared) : Prop :=
 ∃ v H', s'.os = s.os /\ AllBare s'.gens /\ Un (frs outer) [] H H' s.heap s'.heap /\ HOk P w H' s'.heap /\ RelV v u /\ Q v H'
def CR (CX : CXT) (outer : List Env) (P : Program) (w : World) (H : Hp) (s : Shared) (Q : VK) (E : XK) (r : Result) (s' : Shared) : Prop :=
 match r with
 | .ok (.ret u) => CE outer P w H s Q u s'
 | .ok _ => False
 | .error e => CX outer H s E e s'
structure FnOk (P : Program) (w : World) (K : PySem.W.Frag) (mg : Str -> Option Value) (base : Heap) (CX : CXT) (k : Nat) (f : Addr) (fd : FuncData) (ps : List Str) (sp : Sp) : Prop where
 len : ∀ vs H Q E, sp vs H Q E -> vs.length = ps.length
 run : ∀ (A : Around) (outer : List Env) (s : Shared) (H : Hp) (args : Args) (us : List Value) (vs : List V) (Q : VK) (E : XK), Room k A -> Env0 P w K mg base A outer s H -> BindsTo s fd args (ps.zip us) -> Vals vs us -> sp vs H Q E ->
  codeAny (model P w) A (.call (.ref f) args) (CR CX outer P w H s Q E) s
section
variable {X : Cx} {pins : List (Addr × Obj)} {σ : St} {H : Hp} {s s' : Shared}
theorem Inv.env0 (I : Inv X pins σ H s) : Env0 X.prog X.w X.K X.mg X.base X.A X.stack s H :=
 ⟨I.ok.frames, I.ok.mod, I.bs, Nat.le_trans I.ok.bsz I.sz, I.stack, I.stkFree, I.hok, I.bare⟩
theorem Inv.after {Q : VK} {u : Value} (I : Inv X pins σ H s) (h : CE X.stack X.prog X.w H s Q u s') : EP X pins σ Q u s' := by
 obtain ⟨v, H', os, bare, un, hok, r, q⟩ := h
 obtain ⟨hh, g, d, t, os'⟩ := s'
 obtain rfl : os' = s.os := os
 exact ⟨v, H', I.call (h' := hh) (g' := g) (d' := d) (t' := t) (ch := []) un hok bare (fun b z => absurd z (by simp)), r, q⟩
end
def tCall (sp : Sp) (dvs : List V) (E : XK) (t : TA) : TE := fun σ H Q => t σ H fun vs H1 => sp (vs ++ dvs) H1 Q E
def Binds (K : PySem.W.Frag) (fd : FuncData) (ps : List Str) (ds : List Value) : Prop :=
 ∀ (s : Shared) (us : List Value), K.In s.heap -> (us ++ ds).length = ps.length -> BindsTo s fd ⟨us, []⟩ (ps.zip (us ++ ds))
theorem Binds.all {K : PySem.W.Frag} {fd : FuncData} {ps : List Str} (h : ∀ us : List Value, us.length = ps.length -> bindArgs fd ⟨us, []⟩ = pure (ps.zip us)) : Binds K fd ps [] := fun s us _ hl => by
 rw [List.append_nil] at hl ⊢
 exact .of_eq (h us hl)
def Passes (CX : CXT) (X : Cx) (E : XK) : Prop := ∀ (pins : List (Addr × Obj)) (σ : St) (H : Hp) (s : Shared) (e : Value) (s' : Shared), Inv X pins σ H s -> CX X.stack H s E e s' -> X.xe e s'
section
variable {X : Cx} {CX : CXT} {k : Nat} {f C : Addr} {fd : FuncData} {ps : List Str} {sp : Sp} {dvs : List V} {ds : List Value} {E : XK} {x m : Str} {p pos apos : Pos} {e o : Expr} {es : List Expr} {ta : TE} {t : TA}
theorem run_fn {pins : List (Addr × Obj)} {σ : St} {H : Hp} {s : Shared} {Q : VK} {us : List Value} {vs : List V} (F : FnOk X.prog X.w X.K X.mg X.base CX k f fd ps sp) (hr : Room k X.A) (hb : Binds X.K fd ps ds) (hd : Vals dvs ds) (hx : Passes CX X E)
  (I : Inv X pins σ H s) (r : Vals vs us) (h : sp (vs ++ dvs) H Q E) : wpAny (model X.prog X.w) X.A (call (.ref f) us) (EP X pins σ Q) X.xe s := by
 have r2 : Vals (vs ++ dvs) (us ++ ds) := r.append hd
 have hl : (us ++ ds).length = ps.length := by rw [<- r2.length]; exact F.len _ _ _ _ h
 refine wpAny_call (codeAny_mono (F.run X.A X.stack s H ⟨us, []⟩ (us ++ ds) (vs ++ dvs) Q E hr I.env0 (hb s us I.kIn hl) r2 h) fun r s' hq => ?_)
 cases r with
 | error e => exact hx pins σ H s e s' I hq
 | ok fl =>
  cases fl with
  | ret u => exact I.after hq
  | next => exact False.elim hq
  | brk => exact False.elim hq
  | cont => exact False.elim hq
theorem pe_call (F : FnOk X.prog X.w X.K X.mg X.base CX k f fd ps sp) (hr : Room k X.A) (hg : Gl X x) (hm : X.mg x = some (.ref f)) (hk : PySem.W.keepIn X.K (.ref f) = true) (hb : Binds X.K fd ps ds) (hd : Vals dvs ds) (hx : Passes CX X E)
  (ha : PA X (e :: es) t) (hdb : (x == ("__debug__" : Str)) = false := by decide) (he : starEach (e :: es) X.env = (false, eval e X.env) :: starEach es X.env := by rfl) (hpl : (backTo pos (starEach es X.env)).any (·.1) = false := by rfl) :
  PE X (.Call (.Name x p) (e :: es) [] pos) (tCall sp dvs E t) := by
 intro pins s σ H Q I h
 refine wpAny_Call_Name_kw (ld_glob I hg hm ?_ hdb)
 refine PySem.W.callWith_K (h₀ := X.base) I.ok.mod.kin hk (thn (ha pos pins s σ H _ I h) fun us s1 ⟨vs, H1, I1, r, q⟩ => ⟨I1.kIn, ?_⟩) he hpl
 exact run_fn F hr hb hd hx I1 r q
end
section
variable {X : Cx} {CX : CXT} {k : Nat} {f C : Addr} {fd : FuncData} {ps ks : List Str} {sp : Sp} {E : XK} {x m : Str} {p pos apos kpos : Pos} {e o : Expr} {es : List Expr} {kws : List Keyword} {te ta : TE} {t tk : TA} {nm : Option Str}
variable {g : List Value -> List Value -> List Value} {gV : List V -> List V -> List V}
end
structure FnScope (N P : List Str) (sc : Scope) : Prop where
 kind : sc.kind = .function
 co : sc.isCoroutine = false
 gen : sc.isGenerator = false
 nd : N.Nodup
 pre : N.take P.length = P
 par : ∀ x ∈ P, sc.names.lookup x = some .local \/ sc.names.lookup x = some .cell
 nofree : ∀ y ∈ sc.names, y.2 ≠ .free
theorem bindL_out {kindOf : Str -> Option NameKind} {x : Str} : ∀ {binds : List (Str × Value)} {m : Str -> Option Value}, (∀ v, (x, v) ∉ binds) -> bindL kindOf binds m x = m x
 | [], _, _ => rfl
 | (n, v) :: r, m, h => by
  unfold bindL
  rw [bindL_out fun w hw => h w (List.mem_cons_of_mem _ hw)]
  split
  ·have : x ≠ n := by rintro rfl; exact h v List.mem_cons_self
   simp [this]
  ·rfl
theorem bindC_out {kindOf : Str -> Option NameKind} {x : Str} : ∀ {binds : List (Str × Value)} {m : Str -> Option Value}, (∀ v, (x, v) ∉ binds) -> bindC kindOf binds m x = m x
 | [], _, _ => rfl
 | (n, v) :: r, m, h => by
  unfold bindC
  rw [bindC_out fun w hw => h w (List.mem_cons_of_mem _ hw)]
  split
  ·rfl
  ·have : x ≠ n := by rintro rfl; exact h v List.mem_cons_self
   simp [this]
theorem bindL_get {kindOf : Str -> Option NameKind} {x : Str} {v : Value} : ∀ {P : List Str} {vs : List Value} {i : Nat} {m : Str -> Option Value}, P.Nodup -> P[i]? = some x -> vs[i]? = some v -> kindOf x = some .local ->
  bindL kindOf (P.zip vs) m x = some v
 | [], _, _, _, _, h, _, _ => by simp at h
 | _ :: _, [], _, _, _, _, h, _ => by simp at h
 | p :: P, w :: vs, 0, m, nd, h1, h2, hk => by
  simp at h1 h2; subst h1; subst h2
  show bindL kindOf ((p, w) :: P.zip vs) m p = _
  unfold bindL
  rw [bindL_out fun v hv => (List.nodup_cons.mp nd).1 (List.of_mem_zip hv).1, if_pos hk]
  simp
 | p :: P, w :: vs, i + 1, m, nd, h1, h2, hk => by
  show bindL kindOf ((p, w) :: P.zip vs) m x = _
  unfold bindL
  exact bindL_get (i := i) (List.nodup_cons.mp nd).2 (by simpa using h1) (by simpa using h2) hk
theorem bindC_get {kindOf : Str -> Option NameKind} {x : Str} {v : Value} : ∀ {P : List Str} {vs : List Value} {i : Nat} {m : Str -> Option Value}, P.Nodup -> P[i]? = some x -> vs[i]? = some v -> kindOf x ≠ some .local ->
  bindC kindOf (P.zip vs) m x = some v
 | [], _, _, _, _, h, _, _ => by simp at h
 | _ :: _, [], _, _, _, _, h, _ => by simp at h
 | p :: P, w :: vs, 0, m, nd, h1, h2, hk => by
  simp at h1 h2; subst h1; subst h2
  show bindC kindOf ((p, w) :: P.zip vs) m p = _
  unfold bindC
  rw [bindC_out fun v hv => (List.nodup_cons.mp nd).1 (List.of_mem_zip hv).1, if_neg hk]
  simp
 | p :: P, w :: vs, i + 1, m, nd, h1, h2, hk => by
  show bindC kindOf ((p, w) :: P.zip vs) m x = _
  unfold bindC
  exact bindC_get (i := i) (List.nodup_cons.mp nd).2 (by simpa using h1) (by simpa using h2) hk
def start (N : List Str) (vs : List V) : St := vs.map some ++ List.replicate (N.length - vs.length) none
def cxOf (CX : CXT) (P : Program) (w : World) (K : PySem.W.Frag) (mg : Str -> Option Value) (base : Heap) (N : List Str) (qual : Str) (scope : Scope) (f : Addr) (cd : Value) (A : Around) (outer : List Env) (s : Shared) (H : Hp) (E : XK) : Cx where
 prog := P
 w := w
 K := K
 mg := mg
 base := base
 A := A.deeper (envOfC qual scope s.heap.objs.size f cd)
 N := N
 s_0 := s
 H_0 := H
 env := envOfC qual scope s.heap.objs.size f cd
 outer := outer
 stack := envOfC qual scope s.heap.objs.size f cd :: outer
 ex := []
 calm := true
 fn := fun _ => true
 pn := []
 xe := fun e s' => wpAny (model P w) (A.deeper (envOfC qual scope s.heap.objs.size f cd)) (leaving (envOfC qual scope s.heap.objs.size f cd) e) (fun _ s'' => CX outer H s E e s'') (fun e' s'' => CX outer H s E e' s'') s'
theorem cell_has {sc : Scope} {n : Nat} {x : Str} (h : sc.names.lookup x = some .cell) : ∃ c, (cellsFrom n sc.names []).lookup x = some c := by
 have q := PySem.W.cellsFrom_some sc.names n [] (.inl h)
 exact Option.isSome_iff_exists.mp q
theorem inv_start {CX : CXT} {P : Program} {w : World} {K : PySem.W.Frag} {mg : Str -> Option Value} {base : Heap} {N ps : List Str} {qual : Str} {scope : Scope} {f : Addr} {cd : Value} {A : Around} {outer : List Env} {s s1 : Shared} {H : Hp} {E : XK} {us : List Value} {vs : List V}
  (S : FnScope N ps scope) (hd : A.handled = none) (e0 : Env0 P w K mg base A outer s H) (hl : vs.length = ps.length) (r : Vals vs us)
  (x : InCallC s s.heap.objs.size (bindL (envOfC qual scope s.heap.objs.size f cd).kindOf (ps.zip us) fun _ => none) (cellsFrom (s.heap.objs.size + 1) scope.names []) (bindC (envOfC qual scope s.heap.objs.size f cd).kindOf (ps.zip us) fun _ => none) s1) :
  Inv (cxOf CX P w K mg base N qual scope f cd A outer s H E) [] (start N vs) H s1 := by
 have hpl : ps.length <= N.length := by have := congrArg List.length S.pre; rw [List.length_take] at this; lia
 obtain ⟨h1, tk, rfl, hk⟩ := x.done
 have noA : ∀ b : Addr, b ∉ (cxOf CX P w K mg base N qual scope f cd A outer s H E).ex := fun b z => absurd (show b ∈ ([] : List Addr) from z) (by simp)
 refine ⟨⟨e0.mod, S.kind, rfl, rfl, Nat.le_refl _, fun y z c h1 h2 => ?_, fun y hy => ?_, fun y c _ h => ?_, fun _ => hd, Around.frames_deeper e0.frames, .inr ⟨rfl, rfl⟩, fun b z => absurd z (noA b), e0.bs, e0.bsz, fun b _ _ => noA b, fun b z => absurd z (noA b), e0.funs, e0.frf⟩,
  rfl, e0.bare, Un.kept hk, ⟨_, x.toInCall.ns, fun i y v h1 h2 h3 => ?_⟩, fun y c h => ⟨_, x.cell y c h⟩, e0.hok.fresh (Nat.le_refl _), fun y c h => ?_, fun p hp => absurd (show p ∈ ([] : List (Addr × Obj)) from hp) (by simp), e0.hok.kept hk, ?_⟩
 ·exact name_of_addr x.apart (PySem.mem_of_lookup h1) (PySem.mem_of_lookup h2)
 ·have hy : scope.names.lookup y = some .cell \/ scope.names.lookup y = some .free := hy
  rcases hy with hy | hy
  ·exact cell_has hy
  ·exact absurd rfl (S.nofree _ (PySem.mem_of_lookup hy))
 ·exact Nat.le_of_lt (x.above y c (PySem.mem_of_lookup h))
 ·have hi : i < vs.length := by
   unfold start at h2
   by_cases hi : i < vs.length
   ·exact hi
   ·rw [List.getElem?_append_right (by simpa using hi)] at h2
    rw [List.getElem?_replicate] at h2
    split at h2 <;> cases h2
  have ha : vs[i]? = some v := by
   unfold start at h2
   rw [List.getElem?_append_left (by simpa using hi), List.getElem?_map] at h2
   cases e : vs[i]? with
   | none => rw [e] at h2; cases h2
   | some a => rw [e] at h2; cases h2; rfl
  obtain ⟨u, hu, rv⟩ := r.get ha
  have hp : ps[i]? = some y := by
   rw [<- S.pre, List.getElem?_take_of_lt (by lia)]; exact h1
  have ndP : ps.Nodup := by rw [<- S.pre]; exact S.nd.sublist (List.take_sublist _ _)
  refine ⟨u, rv, ?_⟩
  rcases S.par y (List.mem_of_getElem? hp) with k | k
  ·exact .inl ⟨k, bindL_get ndP hp hu k⟩
  ·obtain ⟨c, e⟩ := cell_has (n := s.heap.objs.size + 1) k
   refine .inr ⟨.inl k, c, e, ?_⟩
   have q := x.cell y c e
   rw [bindC_get ndP hp hu (by show scope.names.lookup y ≠ _; rw [k]; decide)] at q
   exact q
 ·exact e0.hok.fresh (Nat.le_of_lt (x.above y c (PySem.mem_of_lookup h)))
 ·unfold start
  show _ = N.length
  rw [List.length_append, List.length_map, List.length_replicate]
  lia
theorem fn_of {CX : CXT} {P : Program} {w : World} {K : PySem.W.Frag} {mg : Str -> Option Value} {base : Heap} {k : Nat} {f : Addr} {name qual : Str} {params : Arguments} {body : List Stmt} {scope : Scope} {dV kV doc pm cdv ct oc : Value} {an od : Option Addr}
  {osl : Array (Option Value)} {N ps : List Str} {sp : Sp} (lk : K.lookup f = some ⟨oc, od, .func (PySem.W.fnOf name qual params body scope dV kV doc pm an cdv ct), osl⟩) (hcd : PySem.W.codeIn K cdv qual = true) (S : FnScope N ps scope)
  (len : ∀ vs H Q E, sp vs H Q E -> vs.length = ps.length)
  (hbody : ∀ (A : Around) (outer : List Env) (s : Shared) (H : Hp) (vs : List V) (Q : VK) (E : XK), Room k (A.deeper (envOfC qual scope s.heap.objs.size f cdv)) -> sp vs H Q E ->
   ∃ t, PSs (cxOf CX P w K mg base N qual scope f cdv A outer s H E) body t /\ t { nx := fun _ H' => Q .non H', rt := Q } (start N vs) H) :
  FnOk P w K mg base CX (k + 1) f (PySem.W.fnOf name qual params body scope dV kV doc pm an cdv ct) ps sp := by
 refine ⟨len, fun A outer s H args us vs Q E hr e0 hb r hsp => ?_⟩
 have hl := len _ _ _ _ hsp
 have KX : K.In s.heap := e0.mod.kin.keeps fun b o e => (e0.bs b o e).1
 have lim : s.heap.NoLimit := e0.mod.nolimit.keeps fun b o e => (e0.bs b o e).1
 have hkind : ∀ y ∈ ps.zip us, scope.names.lookup y.1 = some .local \/ (scope.names.lookup y.1 = some .cell /\ ((cellsFrom (s.heap.objs.size + 1) scope.names []).lookup y.1).isSome = true) := fun ⟨n, v⟩ hy => by
  rcases S.par n (List.of_mem_zip hy).1 with q | q
  ·exact .inl q
  ·exact .inr ⟨q, PySem.W.cellsFrom_some _ _ _ (.inl q)⟩
 refine codeAny_call_function hr.depth (KX _ _ lk) rfl S.co S.gen rfl (PySem.W.codeRec_of KX hcd) (hb _ _ _ _ ?_)
 refine wpAny_newFunctionEnv_cells S.kind hkind fun env he s1 x => ?_
 subst he
 refine ⟨lim.keeps x.toInCall.keep, codeAny_func ?_⟩
 obtain ⟨t, ht, hq⟩ := hbody A outer s H vs Q E (hr.deeper _) hsp
 have I : Inv (cxOf CX P w K mg base N qual scope f cdv A outer s H E) [] (start N vs) H s1 := inv_start S hr.hd e0 hl r x
 refine wpAny_mono (ht [] s1 (start N vs) H _ I hq) (fun fl s' hs => ?_) fun e s' hs => hs
 have fin : ∀ {σ' : St} {H' : Hp} {v : V} {u : Value}, Inv (cxOf CX P w K mg base N qual scope f cdv A outer s H E) [] σ' H' s' -> RelV v u -> Q v H' -> CE outer P w H s Q u s' :=
  fun {σ' H' v u} J rv q => ⟨v, H', J.os, J.bare, J.base, J.hok, rv, q⟩
 cases fl with
 | ret u =>
  obtain ⟨v, σ', H', J, rv, q⟩ := hs
  exact fin J rv q
 | next =>
  obtain ⟨σ', H', J, q⟩ := hs
  exact fin (v := V.non) (u := Value.none) J rfl q
 | brk =>
  obtain ⟨_, _, _, q⟩ := hs
  exact False.elim q
 | cont =>
  obtain ⟨_, _, _, q⟩ := hs
  exact False.elim q
end L2
namespace L2
open PySem PySem.Spec PyProof.Rows
section
variable {X : Cx} {x : Str} {p pos : Pos} {e : Expr} {es : List Expr} {t : TA} {id T : String} {r : List V -> Hp -> VK -> Prop}
def tCB (r : List V -> Hp -> VK -> Prop) (t : TA) : TE := fun σ H Q => t σ H fun vs H1 => r vs H1 Q
theorem pe_callB (hc : CallR X (.builtin id) r) (hg : Gl X x) (hm : X.mg x = none) (hv : bootBuiltins x = some (.builtin id)) (ha : PA X (e :: es) t) (hn : x ≠ "__name__" := by decide) (hdb : (x == ("__debug__" : Str)) = false := by decide)
  (he : starEach (e :: es) X.env = (false, eval e X.env) :: starEach es X.env := by rfl) (hpl : (backTo pos (starEach es X.env)).any (·.1) = false := by rfl) : PE X (.Call (.Name x p) (e :: es) [] pos) (tCB r t) := by
 intro pins s σ H Q I h
 refine wpAny_Call_Name_kw (ld_blt I hg hm hv ?_ hn hdb)
 exact PyProof.Rows.callWith_builtin1 (thn (ha pos pins s σ H _ I h) fun us s1 ⟨vs, H1, I1, r1, q1⟩ => hc pins s1 σ H1 vs us Q I1 r1 q1) he hpl
theorem pe_callTy (hc : CallR X (.type T) r) (hg : Gl X x) (hm : X.mg x = none) (hv : bootBuiltins x = some (.type T)) (ha : PA X (e :: es) t) (hn : x ≠ "__name__" := by decide) (hdb : (x == ("__debug__" : Str)) = false := by decide)
  (he : starEach (e :: es) X.env = (false, eval e X.env) :: starEach es X.env := by rfl) (hpl : (backTo pos (starEach es X.env)).any (·.1) = false := by rfl) : PE X (.Call (.Name x p) (e :: es) [] pos) (tCB r t) := by
 intro pins s σ H Q I h
 refine wpAny_Call_Name_kw (ld_blt I hg hm hv ?_ hn hdb)
 exact PyProof.Rows.callWith_type1 (thn (ha pos pins s σ H _ I h) fun us s1 ⟨vs, H1, I1, r1, q1⟩ => hc pins s1 σ H1 vs us Q I1 r1 q1) he hpl
end
end L2
namespace HT
open PySem PyProof.Rows
section
open PySem.SeqAt
open PySem.AutoSeq1 (wpAny_loadPart')
open PySem.MeetsSeq PySem.MeetsSeq2 PySem.MeetsSeq3
end
section
variable {prog : Program} {w : World} {A : Around} {E : Value -> Shared -> Prop} {s : Shared}
def sIx (n d : Nat) : Option Int -> Nat
 | none => d
 | some v => if v < 0 then (v + (n : Int)).toNat else min v.toNat n
theorem sIx_none (n d : Nat) : sIx n d none = d := rfl
theorem sIx_nat (n d k : Nat) : sIx n d (some (k : Int)) = min k n := by
 show (if (k : Int) < 0 then ((k : Int) + (n : Int)).toNat else min (k : Int).toNat n) = min k n
 rw [if_neg (by lia), Int.toNat_natCast]
end
end HT
namespace L2
open PySem PySem.Spec PyProof.Rows
abbrev TO := St -> Hp -> (Option Int -> Hp -> Prop) -> Prop
def PO (X : Cx) (e : Option Expr) (t : TO) : Prop :=
 ∀ (pins : List (Addr × Obj)) (s : Shared) (σ : St) (H : Hp) (Q : Option Int -> Hp -> Prop), Inv X pins σ H s -> t σ H Q ->
  wpAny (model X.prog X.w) X.A (evalPart e X.env) (fun u s' => ∃ o H', Inv X pins σ H' s' /\ IsPart u o /\ Q o H') X.xe s
def tNoPart : TO := fun _ H Q => Q none H
def tPart (t : TE) : TO := fun σ H Q => t σ H fun x H1 => ∃ i, x = .int i /\ Q (some i) H1
section
variable {X : Cx} {e : Expr} {te : TE} {lo hi : Option Expr} {tl th : TO} {pos p2 : Pos}
theorem po_none : PO X none tNoPart := by
 intro pins s σ H Q I h
 rw [evalPart_none]
 exact wpAny_pure ⟨none, H, I, .none, h⟩
theorem po_some (h : PE X e te) : PO X (some e) (tPart te) := by
 intro pins s σ H Q I hw
 rw [evalPart_some]
 refine thn (h pins s σ H _ I hw) fun u s1 ⟨x, H1, I1, r1, q1⟩ => ?_
 obtain ⟨i, rfl, q⟩ := q1
 obtain ⟨t, rfl⟩ := r1
 exact ⟨some i, H1, I1, .int i t, q⟩
def SlR (X : Cx) (r : V -> Option Int -> Option Int -> Hp -> VK -> Prop) : Prop :=
 ∀ (pins : List (Addr × Obj)) (s : Shared) (σ : St) (H : Hp) (x : V) (v vl vu : Value) (lo hi : Option Int) (sl : Addr) (Q : VK), Inv X pins σ H s -> RelV x v -> s.heap.IsSliceOf sl vl vu .none -> IsPart vl lo -> IsPart vu hi -> r x lo hi H Q ->
  ∃ T id, typeLookup (.type T) "__getitem__" = pure (some (.builtin id)) /\ s.TypeIs v T /\ wpAny (model X.prog X.w) X.A (getItem v (.ref sl)) (EP X pins σ Q) X.xe s
def tSl (r : V -> Option Int -> Option Int -> Hp -> VK -> Prop) (te : TE) (tl th : TO) : TE := fun σ H Q => te σ H fun x H1 => tl σ H1 fun l H2 => th σ H2 fun u H3 => r x l u H3 Q
theorem pe_slice {r : V -> Option Int -> Option Int -> Hp -> VK -> Prop} (hr : SlR X r) (he : PE X e te) (hl : PO X lo tl) (hu : PO X hi th) : PE X (.Subscript e (.Slice lo hi none p2) pos) (tSl r te tl th) := by
 intro pins s σ H Q I h
 refine Subscript_ (thn (he pins s σ H _ I h) fun v s1 ⟨x, H1, I1, r1, q1⟩ => ?_)
 refine wpAny_Slice (thn (hl pins s1 σ H1 _ I1 q1) fun vl s2 ⟨l, H2, I2, pl, q2⟩ => thn (hu pins s2 σ H2 _ I2 q2) fun vu s3 ⟨u, H3, I3, pu, q3⟩ => ?_)
 rw [evalPart_none]
 refine wpAny_pure ?_
 have I4 : Inv X pins σ H3 { s3 with heap := s3.heap.push { cls := .type "slice", data := .fields #[vl, vu, .none] } } := I3.kept (t' := s3.toks) fun b ob q => Heap.get?_push_of_some _ q
 obtain ⟨T, id, hT, ht, hg⟩ := hr pins { s3 with heap := s3.heap.push { cls := .type "slice", data := .fields #[vl, vu, .none] } } σ H3 x v vl vu l u s3.heap.objs.size Q I4 r1 (Heap.IsSliceOf.new ..) pl pu q3
 show wpAny (model X.prog X.w) X.A (subscriptTail e (.Slice lo hi none p2) v (.ref s3.heap.objs.size)) (EP X pins σ Q) X.xe { s3 with heap := s3.heap.push { cls := .type "slice", data := .fields #[vl, vu, .none] } }
 exact tail_any (ops := [.ref s3.heap.objs.size, v]) ht hT hg (by with_unfolding_all rfl)
def cutV (xs : List V) (lo hi : Option Int) : List V := (xs.drop (HT.sIx xs.length 0 lo)).take (HT.sIx xs.length xs.length hi - HT.sIx xs.length 0 lo)
theorem cutV_length (xs : List V) (lo hi : Option Int) : (cutV xs lo hi).length <= xs.length := by
 unfold cutV
 rw [List.length_take, List.length_drop]
 exact Nat.le_trans (Nat.min_le_right _ _) (Nat.sub_le _ _)
end
end L2
namespace L2
open PySem PySem.Spec PyProof.Rows
def ixN (n : Nat) (i : Int) : Option Nat := if 0 <= i then (if i < n then some i.toNat else none) else if -(n : Int) <= i then some (i + n).toNat else none
def atI {α : Type} (xs : List α) (i : Int) : Option α := (ixN xs.length i).bind fun j => xs[j]?
theorem ixN_seq {n : Nat} {i : Int} {j : Nat} (h : ixN n i = some j) : seqIndex? i n = some j /\ j < n /\ -(n : Int) <= i /\ i < n := by
 unfold ixN at h
 by_cases h0 : 0 <= i
 ·rw [if_pos h0] at h
  by_cases h1 : i < n
  ·rw [if_pos h1] at h
   have e : i.toNat = j := Option.some.inj h
   exact ⟨by rw [seqIndex_of h0 h1, e], by lia, by lia, h1⟩
  ·rw [if_neg h1] at h; cases h
 ·rw [if_neg h0] at h
  by_cases h1 : -(n : Int) <= i
  ·rw [if_pos h1] at h
   have e : (i + n).toNat = j := Option.some.inj h
   exact ⟨by rw [seqIndex_neg (by lia) h1, e], by lia, h1, by lia⟩
  ·rw [if_neg h1] at h; cases h
theorem atI_get {α : Type} {xs : List α} {i : Int} {v : α} (h : atI xs i = some v) : ∃ j, seqIndex? i xs.length = some j /\ xs[j]? = some v /\ j < xs.length /\ -(xs.length : Int) <= i /\ i < xs.length := by
 unfold atI at h
 cases e : ixN xs.length i with
 | none => rw [e] at h; cases h
 | some j =>
  rw [e] at h
  obtain ⟨h1, h2, h3, h4⟩ := ixN_seq e
  exact ⟨j, h1, h, h2, h3, h4⟩
theorem atI_nat {α : Type} {xs : List α} {j : Nat} {v : α} (h : xs[j]? = some v) : atI xs (j : Int) = some v := by
 have hj : j < xs.length := (List.getElem?_eq_some_iff.mp h).1
 have e : ixN xs.length (j : Int) = some j := by
  unfold ixN
  rw [if_pos (by lia), if_pos (by lia)]; simp
 unfold atI; rw [e]; exact h
def PlainIx (b : Expr) : Prop := ∀ o i, subscripted b false o i = operate [o, i] (getItem o i)
def IxR (X : Cx) (r : R2) : Prop :=
 ∀ (value slice : Expr) (pins : List (Addr × Obj)) (s : Shared) (σ : St) (H : Hp) (x y : V) (v u : Value) (Q : VK), Inv X pins σ H s -> RelV x v -> RelV y u -> r x y H Q ->
  subscripted slice false v u = operate [v, u] (getItem v u) -> wpAny (model X.prog X.w) X.A (subscriptTail value slice v u) (EP X pins σ Q) X.xe s
def MtR (X : Cx) (id : String) (r : V -> List V -> Hp -> VK -> Prop) : Prop :=
 ∀ (pins : List (Addr × Obj)) (s : Shared) (σ : St) (H : Hp) (x : V) (xs : List V) (v : Value) (us : List Value) (Q : VK), Inv X pins σ H s -> RelV x v -> Vals xs us -> r x xs H Q ->
  wpAny (model X.prog X.w) X.A (call (.builtin id) (v :: us)) (EP X pins σ Q) X.xe s
section
variable {X : Cx} {a b : Expr} {ta tb : TE} {pos : Pos}
theorem pe_ix {r : R2} (hr : IxR X r) (ha : PE X a ta) (hb : PE X b tb) (hs : PlainIx b) : PE X (.Subscript a b pos) (tOp r ta tb) := by
 intro pins s σ H Q I h
 exact Subscript_ (binT ha hb I h fun v u s2 x y H2 I2 rx ry q => hr a b pins s2 σ H2 x y v u Q I2 rx ry q (hs _ _))
inductive rIxL (K : PySem.W.Frag) (x y : V) (H : Hp) (Q : VK) : Prop
 | mk (p xs i v : _) : x = .ref p -> y = .int i -> SqL K H p xs -> atI xs i = some v -> Q v H -> rIxL K x y H Q
inductive rIxT (K : PySem.W.Frag) (x y : V) (H : Hp) (Q : VK) : Prop
 | mk (p xs i v : _) : x = .ref p -> y = .int i -> SqT K H p xs -> atI xs i = some v -> Q v H -> rIxT K x y H Q
theorem ix_list : IxR X (rIxL X.K) := by
 intro value slice pins s σ H x y v u Q I rx ry h hs
 obtain ⟨p, xs, i, z, rfl, rfl, hq, he, q⟩ := h
 cases rx
 obtain ⟨t, rfl⟩ := ry
 obtain ⟨its, r, pl, hz⟩ := I.list hq
 obtain ⟨j, h1, h2, h3, h4, h5⟩ := atI_get he
 obtain ⟨w, ew, rw'⟩ := r.get h2
 have hl := r.length
 have hn := line63
 have fin : EP X pins σ Q w s := ⟨z, H, I, rw', q⟩
 by_cases h0 : 0 <= i
 ·have hj : i.toNat = j := by
   rw [seqIndex_of h0 h5] at h1
   exact Option.some.inj h1
  exact item_listR pl.isList h0 (by lia) (by rw [hj]; simpa using ew) fin hs
 ·have hj : (i + (its.toArray.size : Int)).toNat = j := by
   rw [seqIndex_neg (by lia) h4] at h1
   rw [List.size_toArray, <- hl]
   exact Option.some.inj h1
  exact subscriptTail_builtinR (x := w) pl.isList.typeIs slot_list_getitem.lookup
   (wpAny_getItem_list_neg (Q := fun r s' => r = w /\ EP X pins σ Q r s') pl.isList (by lia) (by rw [List.size_toArray] <;> lia) (by lia) (by rw [hj]; simpa using ew) ⟨rfl, fin⟩) hs
theorem ix_tup : IxR X (rIxT X.K) := by
 intro value slice pins s σ H x y v u Q I rx ry h hs
 obtain ⟨p, xs, i, z, rfl, rfl, hq, he, q⟩ := h
 cases rx
 obtain ⟨t, rfl⟩ := ry
 obtain ⟨its, r, pl, hz⟩ := I.tuple hq
 obtain ⟨j, h1, h2, h3, h4, h5⟩ := atI_get he
 obtain ⟨w, ew, rw'⟩ := r.get h2
 have hl := r.length
 have hn := line63
 have fin : EP X pins σ Q w s := ⟨z, H, I, rw', q⟩
 exact subscriptTail_builtinR (x := w) pl.typeIs slot_tuple_getitem.lookup
  (getItem_tuple (j := j) (Q := fun r s' => r = w /\ EP X pins σ Q r s') pl (by lia) (by lia) (by rw [List.size_toArray, <- hl]; exact h1) (by simpa using ew) ⟨rfl, fin⟩) hs
theorem mapSeq_set (its : List Value) (n j : Nat) (u : Value) : Obj.mapSeq (·.setIfInBounds j u) { cls := .type "list", data := .seq its.toArray n } = { cls := .type "list", data := .seq (its.set j u).toArray n } := by
 simp [Obj.mapSeq]
theorem Inv.lst {pins : List (Addr × Obj)} {σ : St} {H : Hp} {s : Shared} {p : Addr} {xs : List V} (I : Inv X pins σ H s) (h : H p = some (.lst xs)) :
  ∃ (its : List Value) (n : Nat), Vals xs its /\ s.heap.get? p = some { cls := .type "list", data := .seq its.toArray n } /\ xs.length <= sizeLine := by
 obtain ⟨z, its, n, r, e⟩ := I.hok p _ h
 exact ⟨its, n, r, e, z⟩
theorem Inv.lstUpd {pins : List (Addr × Obj)} {σ : St} {H : Hp} {s : Shared} {p : Addr} {xs ys : List V} {its its' : List Value} {n n' : Nat} {f : Obj -> Obj} (I : Inv X pins σ H s) (h : H p = some (.lst xs))
  (ho : s.heap.get? p = some { cls := .type "list", data := .seq its.toArray n }) (hf : f { cls := .type "list", data := .seq its.toArray n } = { cls := .type "list", data := .seq its'.toArray n' }) (r : Vals ys its') (hz : ys.length <= sizeLine) (t : Nat) :
  Inv X pins σ (upd H p (.lst ys)) { s with heap := s.heap.update p f, toks := t } := by
 have e : (s.heap.update p f).get? p = some { cls := .type "list", data := .seq its'.toArray n' } := by
  rw [Heap.get?_update_self f ho (by rw [hf] <;> rfl), hf]
 refine I.write (x := p) (e := p) (by rw [h]; trivial) (.inl rfl) (fun b u hb q => (Heap.get?_update_other _ _ (Ne.symm hb)).trans q) ⟨_, e⟩ ?_
 exact ⟨hz, its', n', r, e⟩
inductive rSetL (o i v : V) (H : Hp) (Q : Hp -> Prop) : Prop
 | mk (p xs k j : _) : o = .ref p -> i = .int k -> H p = some (.lst xs) -> ixN xs.length k = some j -> Q (upd H p (.lst (xs.set j v))) -> rSetL o i v H Q
theorem set_list : PSet X rSetL := by
 intro pins s σ H o i v ov iv u Q I ro ri rv h
 obtain ⟨p, xs, k, j, rfl, rfl, hp, hj, q⟩ := h
 cases ro
 obtain ⟨t, rfl⟩ := ri
 obtain ⟨its, n, r, ho, hz⟩ := I.lst hp
 obtain ⟨h1, h2, h3, h4⟩ := ixN_seq hj
 have hl := r.length
 have hn := line63
 have I' : Inv X pins σ (upd H p (.lst (xs.set j v))) { s with heap := s.heap.update p (Obj.mapSeq (·.setIfInBounds j u)) } :=
  I.lstUpd hp ho (mapSeq_set its n j u) (r.set rv j) (by rw [List.length_set]; exact hz) s.toks
 by_cases h0 : 0 <= k
 ·have hk : k.toNat = j := by
   rw [seqIndex_of h0 h4] at h1
   exact Option.some.inj h1
  exact PySem.W.ki_setAt ho h0 (by lia) (by rw [List.size_toArray, <- hl]; exact h4) (by rw [hk]; exact ⟨_, I', q⟩)
 ·have hk : (k + (its.toArray.size : Int)).toNat = j := by
   rw [seqIndex_neg (by lia) h3] at h1
   rw [List.size_toArray, <- hl]
   exact Option.some.inj h1
  exact PySem.W.ki_setBack ho (by lia) (by rw [List.size_toArray, <- hl]; exact h3) (by lia) (by rw [hk]; exact ⟨_, I', q⟩)
theorem slice_bounds (lo hi : Option Int) (n : Nat) : (sliceBounds lo hi none n).1 = ((HT.sIx n 0 lo : Nat) : Int) /\ (sliceBounds lo hi none n).2.1 = ((HT.sIx n n hi : Nat) : Int) /\ (sliceBounds lo hi none n).2.2 = 1 := by
 refine ⟨?_, ?_, rfl⟩
 ·cases lo with
  | none => simp [sliceBounds, HT.sIx]
  | some i =>
   simp only [sliceBounds, HT.sIx, Option.getD_none, show (1 : Int) > 0 by decide, if_true]
   by_cases h : i < 0
   ·simp only [h, if_true] <;> lia
   ·simp only [h, if_false] <;> lia
 ·cases hi with
  | none => simp [sliceBounds, HT.sIx]
  | some i =>
   simp only [sliceBounds, HT.sIx, Option.getD_none, show (1 : Int) > 0 by decide, if_true]
   by_cases h : i < 0
   ·simp only [h, if_true] <;> lia
   ·simp only [h, if_false] <;> lia
theorem slicePick_cut (its : List Value) (lo hi : Option Int) : slicePick its.toArray lo hi none = ((its.drop (HT.sIx its.length 0 lo)).take (HT.sIx its.length its.length hi - HT.sIx its.length 0 lo)).toArray := by
 obtain ⟨h1, h2, h3⟩ := slice_bounds lo hi its.toArray.size
 unfold slicePick
 rw [h1, h2, h3]
 simp only [sliceRange_one, pick_run, List.size_toArray] <;> rfl
inductive rSlL (K : PySem.W.Frag) (x : V) (lo hi : Option Int) (H : Hp) (Q : VK) : Prop
 | mk (a xs : _) : x = .ref a -> SqL K H a xs -> (∀ p, H p = none -> Q (.ref p) (upd H p (.lst (cutV xs lo hi)))) -> rSlL K x lo hi H Q
theorem sl_list : SlR X (rSlL X.K) := by
 intro pins s σ H x v vl vu lo hi sl Q I rx hs pl pu h
 obtain ⟨a, xs, rfl, hx, q⟩ := h
 cases rx
 obtain ⟨its, r, ht, hz⟩ := I.list hx
 have hlen := r.length
 refine ⟨"list", _, slot_list_getitem.lookup, ht.isList.typeIs, ?_⟩
 refine wpAny_getItem_list_slice ht.isList hs pl pu .none (by simp) ?_ (by rw [List.size_toArray] <;> lia)
 rw [slicePick_cut, <- hlen]
 refine ⟨.ref s.heap.objs.size, _, I.laid (t' := s.toks) (o := .lst (cutV xs lo hi)) (fun b ob q => Heap.get?_push_of_some _ q) (Nat.le_refl _) ?_, rfl, q _ (I.hok.fresh (Nat.le_refl _))⟩
 exact ⟨Nat.le_trans (cutV_length xs lo hi) hz, _, 0, (r.drop (HT.sIx xs.length 0 lo)).take (HT.sIx xs.length xs.length hi - HT.sIx xs.length 0 lo), Heap.get?_push_size _ rfl⟩
theorem call_len_seq : CallR X (.builtin "len") (fun xs H Q => ∃ p ys, xs = [.ref p] /\ (SqL X.K H p ys \/ SqT X.K H p ys) /\ Q (.int ys.length) H) := by
 intro pins s σ H xs us Q I r h
 obtain ⟨p, ys, rfl, hq, q⟩ := h
 obtain ⟨u, rfl, rx⟩ := vals1 r
 cases rx
 have hn := line63
 rcases hq with hq | hq
 ·obtain ⟨its, r', pl, hz⟩ := I.list hq
  have hlen := r'.length
  exact Calls.call_len_list pl.isList (by simp only [List.size_toArray] <;> lia) ⟨.int ys.length, H, I.tok _, ⟨s.toks + 1, by rw [List.size_toArray, hlen]⟩, q⟩
 ·obtain ⟨its, r', pl, hz⟩ := I.tuple hq
  have hlen := r'.length
  exact len_tuple pl (by simp only [List.size_toArray] <;> lia) ⟨.int ys.length, H, I.tok _, ⟨s.toks + 1, by rw [List.size_toArray, hlen]⟩, q⟩
theorem call_list_of : CallR X (.type "list") (fun xs H Q => ∃ p ys, xs = [.ref p] /\ (SqL X.K H p ys \/ SqT X.K H p ys) /\ ∀ l, H l = none -> Q (.ref l) (upd H l (.lst ys))) := by
 intro pins s σ H xs us Q I r h
 obtain ⟨p, ys, rfl, hq, q⟩ := h
 obtain ⟨u, rfl, rx⟩ := vals1 r
 cases rx
 have fin : ∀ (its : List Value), Vals ys its -> ys.length <= sizeLine -> ∀ (h' : Heap) (c' : Nat), (∀ b o', s.heap.get? b = some o' -> h'.get? b = some o') ->
   h'.get? s.heap.objs.size = some { cls := .type "list", dict := none, data := .seq its.toArray c', slots := #[] } -> EP X pins σ Q (.ref s.heap.objs.size) { s with heap := h' } := fun its r' hz h' c' kp e =>
  ⟨.ref s.heap.objs.size, _, I.laid (t' := s.toks) kp (Nat.le_refl _) (show ObjOk X.prog X.w _ h' _ (.lst ys) from ⟨hz, its, c', r', e⟩), rfl, q _ (I.hok.fresh (Nat.le_refl _))⟩
 rcases hq with hq | hq
 ·obtain ⟨its, r', pl, hz⟩ := I.list hq
  have hlen := r'.length
  obtain ⟨o, ho, hc, n, hd⟩ := pl.isList
  exact call_list_seq p (.inl rfl) ho hc hd (fun h' c' kp e => fin its r' hz h' c' kp e) (by simp only [List.size_toArray] <;> lia)
 ·obtain ⟨its, r', pl, hz⟩ := I.tuple hq
  have hlen := r'.length
  obtain ⟨o, ho, hc, n, hd⟩ := pl
  exact call_list_seq p (.inr rfl) ho hc hd (fun h' c' kp e => fin its r' hz h' c' kp e) (by simp only [List.size_toArray] <;> lia)
def tyV (K : PySem.W.Frag) (T : String) (x : V) (H : Hp) : Prop := match x with
 | .str _ => T = "str"
 | .int _ => T = "int"
 | .ref p => (T = "list" /\ ∃ xs, SqL K H p xs) \/ (T = "tuple" /\ ∃ o, K.lookup p = some o /\ o.cls = .type "tuple" /\ o.dict = none) \/
   (T = "dict" /\ ((∃ kvs, H p = some (.dK kvs)) \/ ∃ kvs, H p = some (.dT kvs))) \/ (T = "set" /\ ∃ S n, H p = some (.set S n))
 | _ => False
theorem tyV_is {pins : List (Addr × Obj)} {σ : St} {H : Hp} {s : Shared} {T : String} {x : V} {v : Value} (I : Inv X pins σ H s) (r : RelV x v) (ty : tyV X.K T x H) :
  s.TypeIs v T /\ ∀ a, v = .ref a -> ∃ ob, s.heap.get? a = some ob /\ ob.dict = none := by
 cases x with
 | str z =>
  obtain ⟨t, rfl⟩ := r
  cases (show T = "str" from ty)
  exact ⟨typeIs_str s z t, fun _ e => nomatch e⟩
 | int i =>
  obtain ⟨t, rfl⟩ := r
  cases (show T = "int" from ty)
  exact ⟨typeIs_int s i t, fun _ e => nomatch e⟩
 | ref p =>
  cases r
  rcases ty with ⟨rfl, xs, hq⟩ | ⟨rfl, o, hk, hc, hd⟩ | ⟨rfl, hk⟩ | ⟨rfl, S, n, hk⟩
  ·obtain ⟨its, _, pl, _⟩ := I.list hq
   refine ⟨pl.isList.typeIs, fun a e => ?_⟩
   cases e
   obtain ⟨o, n, e, c, hd, _⟩ := pl
   exact ⟨o, e, hd⟩
  ·refine ⟨⟨o, I.kIn p o hk, hc⟩, fun a e => ?_⟩
   cases e
   exact ⟨o, I.kIn _ o hk, hd⟩
  ·have z : ∃ o, s.heap.get? p = some o /\ o.ExactDict := by
    rcases hk with ⟨kvs, hk⟩ | ⟨kvs, hk⟩
    ·obtain ⟨_, _, _, _, o, _, _, e, ex, _⟩ := I.hok p _ hk
     exact ⟨o, e, ex⟩
    ·obtain ⟨_, _, _, _, o, _, _, e, ex, _⟩ := I.hok p _ hk
     exact ⟨o, e, ex⟩
   obtain ⟨o, e, ex⟩ := z
   refine ⟨⟨o, e, ex.1⟩, fun a e2 => ?_⟩
   cases e2
   exact ⟨o, e, ex.2.1⟩
  ·obtain ⟨o, _, _, _, e, ex, _⟩ := I.hok p _ hk
   refine ⟨⟨o, e, ex.1⟩, fun a e2 => ?_⟩
   cases e2
   exact ⟨o, e, ex.2.1⟩
 | _ => exact False.elim ty
def tBM (K : PySem.W.Frag) (T : String) (r : V -> List V -> Hp -> VK -> Prop) (to : TE) (t : TA) : TE := fun σ H Q => to σ H fun x H1 => tyV K T x H1 /\ t σ H1 fun xs H2 => r x xs H2 Q
variable {o e : Expr} {es : List Expr} {to : TE} {t : TA} {name : Str} {apos cpos : Pos} {T id : String} {r : V -> List V -> Hp -> VK -> Prop}
theorem pe_bm (pa : PlainAttrs T) (slot : Slot T name id) (hty : typeOf (.builtin id) = pure (.type "method_descriptor")) (hm : MtR X id r) (ho : PE X o to) (ha : PA X (e :: es) t)
  (hbase : attributeBase o name X.env (eval o X.env) = eval o X.env := by rfl)
  (hfew : ((backTo cpos (starEach (e :: es) X.env)).all (fun x => !x.1) && (backToKw cpos (keywordEach [] X.env)).all (fun x => x.1.isSome)
   && decide ((e :: es).length + ([] : List Keyword).length + (if ([] : List Keyword).isEmpty then 0 else 1) < 30)) = true := by rfl)
  (hline : (apos.endLine == cpos.line) = true := by rfl) (hs : starEach (e :: es) X.env = (false, eval e X.env) :: starEach es X.env := by rfl) (hplain : (backTo cpos (starEach es X.env)).any (·.1) = false := by rfl) :
  PE X (.Call (.Attribute o name apos) (e :: es) [] cpos) (tBM X.K T r to t) := by
 intro pins s σ H Q I h
 refine wpAny_Call_method_late hbase hfew hline rfl (thn (ho pins s σ H _ I h) fun v s1 ⟨x, H1, I1, r1, ty, q1⟩ => ?_)
 obtain ⟨h1, h2⟩ := tyV_is I1 r1 ty
 refine ⟨T, id, pa, slot, hty, h1, h2, ?_⟩
 have hA := ha cpos pins s1 σ H1 _ I1 q1
 rw [hs] at hA ⊢
 refine Calls.callWith_builtin (by show (false || (backTo cpos (starEach es X.env)).any (·.1)) = false; rw [hplain] <;> rfl) (Calls.evalArgs_plain ?_)
 exact thn hA fun us s2 ⟨vs, H2, I2, r2, q2⟩ => hm pins s2 σ H2 x vs v us Q I2 r1 r2 q2
/- xs.append(e), list.index on a module's tuple .. are MtR facts of 06m -/
end
end L2
namespace L2
open PySem PySem.Spec PyProof.Rows
def MtM (X : Cx) (id : String) (r : V -> List V -> Hp -> VK -> Prop) : Prop :=
 ∀ (pins : List (Addr × Obj)) (s : Shared) (σ : St) (H : Hp) (x : V) (xs : List V) (v : Value) (us : List Value) (Q : VK), Inv X pins σ H s -> RelV x v -> Vals xs us -> r x xs H Q ->
  wpAny (model X.prog X.w) X.A (call (.builtin id) (v :: us)) (EP X pins σ Q) X.xe s
theorem Vals.one : ∀ {x : V} {us : List Value}, Vals [x] us -> ∃ u, us = [u] /\ RelV x u
 | _, _, .cons r .nil => ⟨_, rfl, r⟩
theorem Vals.rep {xs : List V} {us : List Value} (h : Vals xs us) : ∀ k : Nat, Vals (List.replicate k xs).flatten (List.replicate k us).flatten := by
 intro z0
 induction z0 with
 | zero =>
  exact .nil
 | succ k ih =>
  rw [List.replicate_succ, List.replicate_succ, List.flatten_cons, List.flatten_cons]
  exact Vals.append h (ih)
theorem foldl_rep (its : List Value) : ∀ (k : Nat) (acc : List Value),
  List.foldl (fun x1 x2 => x1 ++ x2) acc.toArray (List.replicate k its.toArray) = (acc ++ (List.replicate k its).flatten).toArray := by
 intro z0
 induction z0 with
 | zero =>
  intro acc
  simp
 | succ k ih =>
  intro acc
  have e : acc.toArray ++ its.toArray = (acc ++ its).toArray := by simp
  have e2 : (acc ++ its) ++ (List.replicate k its).flatten = acc ++ (List.replicate (k + 1) its).flatten := by
   rw [List.replicate_succ, List.flatten_cons, List.append_assoc]
  rw [<- e2, <- ih (acc ++ its), <- e, List.replicate_succ, List.foldl_cons]
section
variable {X : Cx} {pins : List (Addr × Obj)} {σ : St} {H : Hp} {s : Shared} {l b : Addr} {xs ys zs : List V}
theorem Inv.lset {its its' : List Value} {n : Nat} {f : Array Value -> Array Value} {t' : Nat} (I : Inv X pins σ H s) (hH : H l = some (.lst xs))
  (e : s.heap.get? l = some { cls := .type "list", data := .seq its.toArray n }) (hf : f its.toArray = its'.toArray) (hv : Vals ys its') (hz : ys.length <= sizeLine) :
  Inv X pins σ (upd H l (.lst ys)) { s with heap := s.heap.update l (Obj.mapSeq f), toks := t' } := by
 have q := PySem.IsL.update e f
 rw [hf] at q
 refine I.write (x := l) (e := l) (by rw [hH]; exact trivial) (.inl rfl) (fun b' u hb hu => (Heap.get?_update_other s.heap (Obj.mapSeq f) (Ne.symm hb)).trans hu) ⟨_, q⟩ ?_
 exact ⟨hz, its', _, hv, q⟩
theorem Inv.lnew {its : List Value} {t' : Nat} (I : Inv X pins σ H s) (hv : Vals ys its) (hz : ys.length <= sizeLine) :
  Inv X pins σ (upd H s.heap.objs.size (.lst ys)) { s with heap := s.heap.push { cls := .type "list", data := .seq its.toArray }, toks := t' } :=
 I.laid (fun _ _ q => Heap.get?_push_of_some _ q) (Nat.le_refl _) ⟨hz, its, 0, hv, Heap.get?_push_size _ rfl⟩
theorem Inv.fresh (I : Inv X pins σ H s) : H s.heap.objs.size = none := I.hok.fresh (Nat.le_refl _)
theorem Inv.lstM (I : Inv X pins σ H s) (hH : H l = some (.lst xs)) : xs.length <= sizeLine /\ ∃ (its : List Value) (n : Nat), Vals xs its /\ xs.length = its.length /\ s.heap.get? l = some { cls := .type "list", data := .seq its.toArray n } := by
 obtain ⟨z, its, n, r, e⟩ := I.hok l _ hH
 exact ⟨z, its, n, r, r.length, e⟩
theorem notLongL {n : Nat} (h : n <= sizeLine) : Builtin.List.listTooLong n = false := by
 unfold Builtin.List.listTooLong
 exact decide_eq_false (by lia)
end
section
variable {X : Cx}
inductive rAppend (x : V) (vs : List V) (H : Hp) (Q : VK) : Prop
 | mk (l xs y : _) : x = .ref l -> vs = [y] -> H l = some (.lst xs) -> xs.length < sizeLine -> Q .non (upd H l (.lst (xs ++ [y]))) -> rAppend x vs H Q
theorem mt_append : MtM X "list.append" rAppend := by
 intro pins s σ H x vs v us Q I rx rv h
 obtain ⟨l, xs, y, rfl, rfl, hH, hz, q⟩ := h
 cases rx
 obtain ⟨u, rfl, ru⟩ := rv.one
 obtain ⟨z, its, n, r, hl, e⟩ := I.lstM hH
 refine call_meets F.slot_list_append ⟨_, e, rfl⟩ F.entry_list_append (F.args_list_append_2 _ _) (PySem.list_append l its.toArray n u (by rw [List.size_toArray]; lia)) ⟨e, ?_⟩
 refine ⟨.non, _, I.lset (its' := its ++ [u]) hH e (by simp) (r.append (.cons ru .nil)) ?_, rfl, q⟩
 rw [List.length_append, List.length_singleton]
 lia
def rCat : R2 := fun x y H Q => ∃ l b xs zs, x = .ref l /\ y = .ref b /\ H l = some (.lst xs) /\ H b = some (.lst zs) /\ xs.length + zs.length <= sizeLine /\ ∀ p, H p = none -> Q (.ref p) (upd H p (.lst (xs ++ zs)))
theorem op_cat : OpR X (binaryOp .Add) rCat := by
 intro pins s σ H x y v u Q I rx ry h
 obtain ⟨l, b, xs, zs, rfl, rfl, hH, hB, hz, q⟩ := h
 cases rx
 cases ry
 obtain ⟨z, its, n, r, hl, e⟩ := I.lstM hH
 obtain ⟨z2, its2, n2, r2, hl2, e2⟩ := I.lstM hB
 refine PySem.P.add_list e e2 ?_ (by rw [List.size_toArray, List.size_toArray]; lia)
 have ea : its.toArray ++ its2.toArray = (its ++ its2).toArray := by simp
 rw [ea]
 exact ⟨.ref _, _, I.lnew (t' := s.toks) (r.append r2) (by rw [List.length_append]; lia), rfl, q _ I.fresh⟩
inductive rRep (x y : V) (H : Hp) (Q : VK) : Prop
 | mk (l k xs : _) : x = .ref l -> y = .int k -> H l = some (.lst xs) -> -(2 ^ 63) <= k -> k < 2 ^ 63 -> xs.length * k.toNat <= sizeLine -> (∀ p, H p = none -> Q (.ref p) (upd H p (.lst (List.replicate k.toNat xs).flatten))) -> rRep x y H Q
theorem len_rep {α : Type} (xs : List α) (k : Nat) : (List.replicate k xs).flatten.length = k * xs.length := by
 induction k with
 | zero => simp
 | succ k ih => rw [List.replicate_succ, List.flatten_cons, List.length_append, ih, Nat.succ_mul, Nat.add_comm]
theorem op_rep : OpR X (binaryOp .Mult) rRep := by
 intro pins s σ H x y v u Q I rx ry h
 obtain ⟨l, k, xs, rfl, rfl, hH, h1, h2, hz, q⟩ := h
 cases rx
 obtain ⟨t, rfl⟩ := ry
 obtain ⟨z, its, n, r, hl, e⟩ := I.lstM hH
 have hlen : its.toArray.size * k.toNat <= sizeLine := by rw [List.size_toArray, <- hl]; exact hz
 have hcap : ¬ its.toArray.size * k.toNat > (2 ^ 63 - 1) / 8 := by
  have : (sizeLine : Nat) <= (2 ^ 63 - 1) / 8 := by decide
  lia
 have hfit : ¬ (!Builtin.List.listFitsIndex k) = true := by
  rw [fitsIndex_both h1 h2]
  exact Bool.false_ne_true
 have hlong : ¬ Builtin.List.listTooLong (its.toArray.size * k.toNat) = true := by
  rw [notLongL hlen]
  exact Bool.false_ne_true
 have hnew : List.foldl (fun x1 x2 => x1 ++ x2) #[] (List.replicate (if its.toArray.isEmpty = true then 0 else k.toNat) its.toArray) = (List.replicate k.toNat its).flatten.toArray := by
  have f0 : ∀ m : Nat, List.foldl (fun x1 x2 => x1 ++ x2) #[] (List.replicate m its.toArray) = (List.replicate m its).flatten.toArray := fun m => by
   have := foldl_rep its m []
   rw [List.nil_append] at this
   exact this
  rw [f0]
  cases its with
  | nil => simp
  | cons a r' => rw [if_neg (by simp)]
 refine wpAny_binaryOp_repeat_ref (T := "list") (U := "int") (by decide) ⟨_, e, rfl⟩ (fun s' => typeIs_int s' k t) noFill_list_mul F.fills_int_mul F.slot_int_rmul repeat_list F.slot_int_index.lookup
  (call_meets F.slot_int_rmul (typeIs_int s k t) F.entry_int_rmul (F.args_int_rmul_2 _ _) (int___rmul___int_list k t l its.toArray n)
   ⟨e, rfl, ⟨_, e, rfl⟩, call_meets F.slot_list_mul ⟨_, e, rfl⟩ F.entry_list_mul (F.args_list_mul_2 _ _) (AutoListH.list___mul___list_int_3 l its.toArray n k t hfit hcap hlong) ⟨e, ?_⟩⟩)
 rw [hnew]
 exact ⟨.ref _, _, I.lnew (t' := s.toks) (r.rep k.toNat) (by rw [len_rep, Nat.mul_comm]; exact hz), rfl, q _ I.fresh⟩
end
section
variable {prog : Program} {w : World} {A : Around} {E : Value -> Shared -> Prop} {s : Shared}
end
section
variable {X : Cx}
end
end L2
namespace L2
open PySem PySem.Spec PyProof.Rows
theorem Vals.ints : ∀ {ns : List Int} {us : List Value}, Vals (ns.map V.int) us -> IntsAre us ns
 | [], us, h => by
  rw [List.map_nil] at h
  cases h
  exact IntsAre.nil
 | n :: ns, us, h => by
  rw [List.map_cons] at h
  cases h with
  | cons r t =>
   obtain ⟨k, rfl⟩ := r
   exact IntsAre.cons n k (Vals.ints t)
theorem Vals.bls : ∀ {bs : List Bool} {us : List Value}, Vals (bs.map V.bl) us -> us = bs.map Value.bool
 | [], us, h => by
  rw [List.map_nil] at h
  cases h
  rfl
 | b :: bs, us, h => by
  rw [List.map_cons] at h
  cases h with
  | cons r t =>
   cases r
   rw [Vals.bls t, List.map_cons]
theorem Vals.ref1 {a : Addr} {us : List Value} (r : Vals [V.ref a] us) : us = [Value.ref a] := by
 cases r with
 | cons r t =>
  cases t
  cases r
  rfl
section
variable {prog : Program} {w : World} {A : Around} {E : Value -> Shared -> Prop} {s : Shared} {l : Addr} {its : List Value} {ns : List Int} {Q : Value -> Shared -> Prop}
theorem max_raw (hh : A.handled = none) (hl : s.heap.IsList l its.toArray) (hi : IntsAre its ns) (hne : 0 < ns.length)
  (h : ∀ h' tk M t', (∀ b o, s.heap.get? b = some o -> h'.get? b = some o) -> M ∈ ns -> (∀ a, a ∈ ns -> a <= M) -> Q (.int M t') { s with heap := h', toks := tk }) : wpAny (model prog w) A (call (.builtin "max") [.ref l]) Q E s := by
 obtain ⟨xs, e⟩ := hi.allInts.items
 have hn : numsOf (intItems xs).toList = ns := by rw [<- e]; exact hi.numsOf
 rw [nums_intItems] at hn
 subst hn
 rw [e] at hl
 have hsz : 0 < xs.size := by simpa using hne
 refine PySem.max_intList hh hl hsz fun v h' tk hv hk => ?_
 obtain ⟨t, rfl⟩ := intItems_at hv
 obtain ⟨h1, h2⟩ := argBest_gt (numAt xs) (xs.size - 1)
 refine h h' tk _ t hk ?_ fun a ha => ?_
 ·rw [numAt_eq]; exact PySem.getD_mem (by rw [List.length_map, Array.length_toList]; lia)
 ·obtain ⟨j, hj, rfl⟩ := mem_getD ha
  rw [List.length_map, Array.length_toList] at hj
  rw [<- numAt_eq]; exact h2 j (by lia)
end
section
variable {X : Cx}
def rMax (K : PySem.W.Frag) : List V -> Hp -> VK -> Prop := fun vs H Q => ∃ (a : Addr) (ns : List Int), vs = [V.ref a] /\ SqL K H a (ns.map V.int) /\ 0 < ns.length /\ ∀ m, m ∈ ns -> (∀ y, y ∈ ns -> y <= m) -> Q (.int m) H
theorem cr_max (hc : X.calm = true) : CallR X (.builtin "max") (rMax X.K) := by
 intro pins s σ H vs us Q I r h
 obtain ⟨a, ns, rfl, hs, hne, q⟩ := h
 obtain ⟨its, rv, hl, _⟩ := I.list hs
 rw [Vals.ref1 r]
 exact max_raw (I.ok.hd hc) hl.isList rv.ints hne fun h' tk m t' hk h1 h2 => ⟨.int _, H, I.kept hk, ⟨_, rfl⟩, q m h1 h2⟩
end
section
variable {X : Cx}
end
section
variable {X : Cx}
end
theorem iter_any {prog : Program} {w : World} {A : Around} {E : Value -> Shared -> Prop} {s : Shared} {l : Addr} {items : Array Value} {Q : Value -> Shared -> Prop} (hl : s.heap.IsList l items)
  (h : ∀ s₂ : Shared, s₂ = { s with heap := s.heap.push { cls := .type "list_iterator", data := .fields #[.ref l, .int 0 0] } } ->
   (s₂.heap.IsListIter s.heap.objs.size l 0 /\ s₂.heap.IsList l items) -> l ≠ s.heap.objs.size -> Q (.ref s.heap.objs.size) s₂) : wpAny (model prog w) A (pyIter (.ref l)) Q E s := by
 have hlt : l < s.heap.objs.size := by obtain ⟨_, e, _⟩ := hl; exact Heap.lt_size e
 exact wpAny_pyIter_list hl (h _ rfl ⟨⟨_, Heap.get?_push_size _ rfl, rfl, rfl⟩, hl.push _⟩ (Nat.ne_of_lt hlt))
theorem truth_bools {prog : Program} {w : World} {A : Around} {bs : List Bool} {its : List Value} (e : its = bs.map Value.bool) :
  TruthOf prog w A (fun i v => its.toArray[i]? = some v) (fun i => bs.getD i false) := fun i v s Q E hv hq => by
 have hv' : its[i]? = some v := by simpa using hv
 rw [e, List.getElem?_map] at hv'
 obtain ⟨b, hb, rfl⟩ := Option.map_eq_some_iff.mp hv'
 have hg : bs.getD i false = b := by rw [List.getD_eq_getElem?_getD, hb] <;> rfl
 have hq' : Q (bs.getD i false) s := hq
 rw [hg] at hq'
 exact wpAny_truthy_bool hq'
theorem all_range : ∀ bs : List Bool, (List.range bs.length).all (fun i => bs.getD i false) = bs.all id := by
 intro z0
 induction z0 with
 | nil =>
  exact rfl
 | cons b bs ih =>
  rw [List.length_cons, List.range_succ_eq_map, List.all_cons, List.all_map, List.all_cons, <- ih]
  all_goals rfl
section
variable {X : Cx}
def rAll (K : PySem.W.Frag) : List V -> Hp -> VK -> Prop := fun vs H Q => ∃ (a : Addr) (bs : List Bool), vs = [V.ref a] /\ SqL K H a (bs.map V.bl) /\ Q (.bl (bs.all id)) H
theorem cr_all (hc : X.calm = true) : CallR X (.builtin "all") (rAll X.K) := by
 intro pins s σ H vs us Q I r h
 obtain ⟨a, bs, rfl, hs, q⟩ := h
 obtain ⟨its, rv, hl, _⟩ := I.list hs
 rw [Vals.ref1 r]
 have hb := rv.bls
 refine call_all_walk (iter_any hl.isList fun s₂ e2 st hne => ?_)
 subst e2
 refine ⟨_, _, _, _, _, _, _, rfl, Walks.list (A := X.A.in1) (I.ok.hd hc) _ a hne its.toArray, st, truth_bools hb, fun h' tk hk => ?_⟩
 refine ⟨.bl _, H, I.kept fun b o eo => hk b o (fun hmem => ?_) (Heap.get?_push_of_some _ eo), ?_, q⟩
 ·rcases List.mem_cons.mp hmem with e1 | hmem
  ·exact absurd (e1 ▸ Heap.lt_size eo) (Nat.lt_irrefl _)
  ·cases hmem
 ·show Value.bool _ = Value.bool _
  rw [<- all_range, hb, List.size_toArray, List.length_map]
end
mutual
inductive Dp (K : PySem.W.Frag) (H : Hp) : V -> PyData -> Prop
 | non : Dp K H .non .none
 | bl (b : Bool) : Dp K H (.bl b) (.bool b)
 | int (i : Int) : Dp K H (.int i) (.int i)
 | str (x : Str) : Dp K H (.str x) (.str x)
 | lst {a : Addr} {xs : List V} {ds : List PyData} : SqL K H a xs -> DpAll K H xs ds -> Dp K H (.ref a) (.list ds)
 | tup {a : Addr} {xs : List V} {ds : List PyData} : SqT K H a xs -> DpAll K H xs ds -> Dp K H (.ref a) (.tuple ds)
inductive DpAll (K : PySem.W.Frag) (H : Hp) : List V -> List PyData -> Prop
 | nil : DpAll K H [] []
 | cons {v : V} {vs : List V} {d : PyData} {ds : List PyData} : Dp K H v d -> DpAll K H vs ds -> DpAll K H (v :: vs) (d :: ds)
end
section
variable {X : Cx} {pins : List (Addr × Obj)} {σ : St} {H : Hp} {s : Shared}
mutual
theorem Dp.reads (I : Inv X pins σ H s) : ∀ (d : PyData) (v : V) (u : Value), Dp X.K H v d -> RelV v u -> ∃ as, Reads s.heap u d as
 | .none, _, _, h, r => by
  cases h
  cases r
  exact ⟨_, Reads.none⟩
 | .bool b, _, _, h, r => by
  cases h
  cases r
  exact ⟨_, Reads.bool b⟩
 | .int i, _, _, h, r => by
  cases h
  obtain ⟨t, rfl⟩ := r
  exact ⟨_, Reads.int i t⟩
 | .str x, _, _, h, r => by
  cases h
  obtain ⟨t, rfl⟩ := r
  exact ⟨_, Reads.str x t⟩
 | .list ds, _, _, h, r => by
  cases h with
  | lst hs ha =>
   cases r
   obtain ⟨its, rv, ⟨o, n, ho, hc, _, hd⟩, _⟩ := I.list hs
   obtain ⟨as, hr⟩ := Dp.readsAll I ds _ its ha rv
   exact ⟨_, Reads.list ho hc hd hr⟩
 | .tuple ds, _, _, h, r => by
  cases h with
  | tup hs ha =>
   cases r
   obtain ⟨its, rv, ⟨o, ho, hc, n, hd⟩, _⟩ := I.tuple hs
   obtain ⟨as, hr⟩ := Dp.readsAll I ds _ its ha rv
   exact ⟨_, Reads.tuple ho hc hd hr⟩
 | .dict _, _, _, h, _ => by cases h
theorem Dp.readsAll (I : Inv X pins σ H s) : ∀ (ds : List PyData) (vs : List V) (us : List Value), DpAll X.K H vs ds -> Vals vs us -> ∃ as, ReadsAll s.heap us ds as
 | [], _, _, h, r => by
  cases h
  cases r
  exact ⟨_, ReadsAll.nil⟩
 | d :: ds, _, _, h, r => by
  cases h with
  | cons h1 h2 =>
   cases r with
   | cons r1 r2 =>
    obtain ⟨as, q1⟩ := Dp.reads I d _ _ h1 r1
    obtain ⟨bs, q2⟩ := Dp.readsAll I ds _ _ h2 r2
    exact ⟨_, ReadsAll.cons q1 q2⟩
end
end
section
variable {X : Cx}
inductive rEqD (K : PySem.W.Frag) (x y : V) (H : Hp) (Q : VK) : Prop
 | mk (d e : _) : Dp K H x d -> Dp K H y e -> SeqAt.shaped d = true -> SeqAt.shaped e = true -> Q (.bl (PyData.eqv d e)) H -> rEqD K x y H Q
inductive rNeD (K : PySem.W.Frag) (x y : V) (H : Hp) (Q : VK) : Prop
 | mk (d e : _) : Dp K H x d -> Dp K H y e -> SeqAt.shaped d = true -> SeqAt.shaped e = true -> Q (.bl (!PyData.eqv d e)) H -> rNeD K x y H Q
theorem op_eqD (hu : X.A.units + 64 < cLine) : OpR X (compareOp .Eq) (rEqD X.K) := by
 intro pins s σ H x y v u Q I rx ry h
 obtain ⟨d, e, hd, he, sd, se, q⟩ := h
 obtain ⟨as, r1⟩ := Dp.reads I d x v hd rx
 obtain ⟨bs, r2⟩ := Dp.reads I e y u he ry
 exact SeqAt.compareEq_shaped r1 r2 sd se hu ⟨.bl _, H, I, rfl, q⟩
theorem op_neD (hu : X.A.units + 64 < cLine) : OpR X (compareOp .NotEq) (rNeD X.K) := by
 intro pins s σ H x y v u Q I rx ry h
 obtain ⟨d, e, hd, he, sd, se, q⟩ := h
 obtain ⟨as, r1⟩ := Dp.reads I d x v hd rx
 obtain ⟨bs, r2⟩ := Dp.reads I e y u he ry
 exact SeqAt.compareNe_shaped r1 r2 sd se hu ⟨.bl _, H, I, rfl, q⟩
end
end L2
namespace L2
open PySem PySem.Spec PyProof.Rows
abbrev CellAt (h : Heap) (c : Addr) (v : Option Value) : Prop := h.IsCell c v
def relS (scope sc : Scope) : Scope :=
 { scope with names := scope.names.map fun (n, k) => if (k == .free && sc.kind == .function && sc.names.lookup n == some .cell) then (n, .cell) else (n, k) }
def cloFrom (cells : List (Str × Addr)) : List (Str × NameKind) -> List (Str × Addr) -> List (Str × Addr)
 | [], acc => acc
 | (n, k) :: r, acc => if k == .free then cloFrom cells r ((n, (cells.lookup n).getD 0) :: acc) else cloFrom cells r acc
theorem closure_loop (env : Env) (f : Str × NameKind -> List (Str × Addr) -> Sem (ForInStep (List (Str × Addr))))
  (hf : ∀ n k c, f (n, k) c = if k == .free then (do let a <- cellOf env n; pure (.yield ((n, a) :: c))) else pure (.yield c)) :
  ∀ (names : List (Str × NameKind)) (acc : List (Str × Addr)), (∀ y ∈ names, y.2 = .free -> ∃ c, env.cells.lookup y.1 = some c) -> forIn names acc f = pure (cloFrom env.cells names acc)
 | [], acc, _ => by rw [List.forIn_nil]; rfl
 | (n, k) :: r, acc, h => by
  rw [List.forIn_cons, hf]
  have ih := fun acc => closure_loop env f hf r acc fun y hy => h y (List.mem_cons_of_mem _ hy)
  unfold cloFrom
  by_cases hk : (k == NameKind.free) = true
  ·rw [if_pos hk, if_pos hk]
   obtain ⟨c, hc⟩ := h (n, k) List.mem_cons_self (by simpa using hk)
   have e : cellOf env n = pure c := by unfold cellOf; rw [hc]
   rw [e]
   have e2 : (env.cells.lookup n).getD 0 = c := by rw [hc]; rfl
   rw [e2]
   exact ih _
  ·rw [if_neg hk, if_neg hk]
   exact ih _
theorem closure_ok {scope : Scope} {env : Env} (h : ∀ y ∈ scope.names, y.2 = .free -> ∃ c, env.cells.lookup y.1 = some c) : closureFor scope env = pure (cloFrom env.cells scope.names []) := by
 simp only [closureFor]
 rw [closure_loop env _ (fun n k c => rfl) scope.names [] h]
 rfl
theorem mem_lookup {α : Type} : ∀ {l : List (Str × α)} {n : Str} {c : α}, (n, c) ∈ l -> ∃ c', l.lookup n = some c'
 | (k, v) :: r, n, c, h => by
  rw [List.lookup_cons]
  cases hb : n == k with
  | true => exact ⟨_, rfl⟩
  | false =>
   rcases List.mem_cons.mp h with e | h
   ·cases e; simp at hb
   ·exact mem_lookup h
theorem cloFrom_mem {cells : List (Str × Addr)} : ∀ {names : List (Str × NameKind)} {acc : List (Str × Addr)} {n : Str} {c : Addr}, (n, c) ∈ cloFrom cells names acc -> (n, c) ∈ acc \/ ((n, .free) ∈ names /\ c = (cells.lookup n).getD 0)
 | [], _, _, _, h => .inl h
 | (m, k) :: r, acc, n, c, h => by
  unfold cloFrom at h
  split at h
  ·rename_i hk
   have hk : k = .free := by simpa using hk
   rcases cloFrom_mem h with h | ⟨h1, h2⟩
   ·rcases List.mem_cons.mp h with e | h
    ·cases e; exact .inr ⟨hk ▸ List.mem_cons_self, rfl⟩
    ·exact .inl h
   ·exact .inr ⟨List.mem_cons_of_mem _ h1, h2⟩
  ·rcases cloFrom_mem h with h | ⟨h1, h2⟩
   ·exact .inl h
   ·exact .inr ⟨List.mem_cons_of_mem _ h1, h2⟩
theorem cloFrom_acc {cells : List (Str × Addr)} : ∀ {names : List (Str × NameKind)} {acc : List (Str × Addr)} {p : Str × Addr}, p ∈ acc -> p ∈ cloFrom cells names acc
 | [], _, _, h => h
 | (m, k) :: r, acc, p, h => by
  unfold cloFrom
  split
  ·exact cloFrom_acc (List.mem_cons_of_mem _ h)
  ·exact cloFrom_acc h
theorem cloFrom_has {cells : List (Str × Addr)} : ∀ {names : List (Str × NameKind)} {acc : List (Str × Addr)} {n : Str}, (n, .free) ∈ names -> (n, (cells.lookup n).getD 0) ∈ cloFrom cells names acc
 | (m, k) :: r, acc, n, h => by
  unfold cloFrom
  rcases List.mem_cons.mp h with e | h
  ·cases e
   exact cloFrom_acc List.mem_cons_self
  ·split
   ·exact cloFrom_has h
   ·exact cloFrom_has h
theorem cells_mem : ∀ {names : List (Str × NameKind)} {h : Heap} {acc : List (Str × Addr)} {x : Str} {c : Addr}, (x, c) ∈ cellsFrom h.objs.size names acc ->
  (x, c) ∈ acc \/ ((x, .cell) ∈ names /\ h.objs.size <= c /\ CellAt (pushCells h names) c none)
 | [], _, _, _, _, h => .inl h
 | (n, k) :: r, h, acc, x, c, hm => by
  unfold cellsFrom at hm
  unfold pushCells
  split at hm
  ·rename_i hk
   rw [if_pos hk]
   have hk : k = .cell := by simpa using hk
   rw [<- Heap.size_push h { cls := .type "cell", data := .cell none }] at hm
   rcases cells_mem hm with hm | ⟨h1, h2, h3⟩
   ·rcases List.mem_cons.mp hm with e | hm
    ·cases e
     exact .inr ⟨hk ▸ List.mem_cons_self, Nat.le_refl _, _, pushCells_keeps r _ _ _ (Heap.get?_push_size _ rfl), rfl⟩
    ·exact .inl hm
   ·rw [Heap.size_push] at h2
    exact .inr ⟨List.mem_cons_of_mem _ h1, Nat.le_of_succ_le h2, h3⟩
  ·rename_i hk
   rw [if_neg hk]
   rcases cells_mem hm with hm | ⟨h1, h2, h3⟩
   ·exact .inl hm
   ·exact .inr ⟨List.mem_cons_of_mem _ h1, h2, h3⟩
theorem cells_acc : ∀ {names : List (Str × NameKind)} {n : Nat} {acc : List (Str × Addr)} {p : Str × Addr}, p ∈ acc -> p ∈ cellsFrom n names acc
 | [], _, _, _, h => h
 | (m, k) :: r, n, acc, p, h => by
  unfold cellsFrom
  split
  ·exact cells_acc (List.mem_cons_of_mem _ h)
  ·exact cells_acc h
theorem cells_has : ∀ {names : List (Str × NameKind)} {n : Nat} {acc : List (Str × Addr)} {x : Str}, (x, .cell) ∈ names -> ∃ c, (x, c) ∈ cellsFrom n names acc
 | (m, k) :: r, n, acc, x, h => by
  unfold cellsFrom
  rcases List.mem_cons.mp h with e | h
  ·cases e
   exact ⟨n, cells_acc List.mem_cons_self⟩
  ·split
   ·exact cells_has h
   ·exact cells_has h
theorem cells_inj : ∀ {names : List (Str × NameKind)} {h : Heap} {acc : List (Str × Addr)} {x y : Str} {c : Addr}, (∀ p ∈ acc, p.2 < h.objs.size) -> (∀ x y c, (x, c) ∈ acc -> (y, c) ∈ acc -> x = y) ->
  (x, c) ∈ cellsFrom h.objs.size names acc -> (y, c) ∈ cellsFrom h.objs.size names acc -> x = y
 | [], _, _, _, _, _, _, hi, h1, h2 => hi _ _ _ h1 h2
 | (n, k) :: r, h, acc, x, y, c, hl, hi, h1, h2 => by
  unfold cellsFrom at h1 h2
  split at h1
  ·rename_i hk
   rw [if_pos hk] at h2
   rw [<- Heap.size_push h { cls := .type "cell", data := .cell none }] at h1 h2
   refine cells_inj (h := h.push _) (fun p hp => ?_) (fun x y c a b => ?_) h1 h2
   ·rw [Heap.size_push]
    rcases List.mem_cons.mp hp with rfl | hp
    ·exact Nat.lt_succ_self _
    ·exact Nat.lt_succ_of_lt (hl p hp)
   ·rcases List.mem_cons.mp a with e | a <;> rcases List.mem_cons.mp b with e' | b
    ·cases e; cases e'; rfl
    ·cases e; exact absurd (hl _ b) (Nat.lt_irrefl _)
    ·cases e'; exact absurd (hl _ a) (Nat.lt_irrefl _)
    ·exact hi _ _ _ a b
  ·rename_i hk
   rw [if_neg hk] at h2
   exact cells_inj hl hi h1 h2
theorem newEnv_comp {M : Model} {A : Around} {E : Value -> Shared -> Prop} {s : Shared} {scope : Scope} {globals : Addr} {closure : List (Str × Addr)} {qual : Str} {func : Option Addr} {code : Value} {around : Env} {builtins : Addr} {Q : Env -> Shared -> Prop}
  (h : Q (newEnv scope s.heap.objs.size globals (cellsFrom (s.heap.objs.size + 1) scope.names closure) qual func code (some around) builtins)
   { s with heap := pushCells (s.heap.push { cls := .type "dict", data := .dict #[] }) scope.names }) :
  wpAny M A (newFunctionEnv scope globals closure [] qual func code (some around) builtins) Q E s := by
 simp only [newFunctionEnv, Option.isSome_some, if_true]
 refine wpAny_bind (wpAny_alloc ?_)
 refine wpAny_bind (wpAny_layCells _ (fun n k c => rfl) scope.names closure _ _ ?_)
 rw [show ({ s with heap := s.heap.push { cls := .type "dict", data := .dict #[] } } : Shared).heap.objs.size = s.heap.objs.size + 1 from Heap.size_push ..]
 rw [List.forIn_nil]
 exact wpAny_bind (wpAny_pure (wpAny_pure h))
theorem lookup_relS {sc : Scope} : ∀ {names : List (Str × NameKind)} {x : Str} {k : NameKind},
  (names.map fun (n, k) => if (k == NameKind.free && sc.kind == .function && sc.names.lookup n == some .cell) then (n, NameKind.cell) else (n, k)).lookup x = some k ->
  ∃ k', names.lookup x = some k' /\ (k = k' \/ (k' = .free /\ k = .cell))
 | [], _, _, h => by simp at h
 | (n, k₀) :: r, x, k, h => by
  have ih := @lookup_relS sc r x k
  have h' : List.lookup x ((if (k₀ == NameKind.free && sc.kind == .function && sc.names.lookup n == some .cell) = true then (n, NameKind.cell) else (n, k₀)) :: (r.map _)) = some k := h
  cases hx : x == n with
  | true =>
   simp only [List.lookup_cons, hx]
   by_cases hc : (k₀ == NameKind.free && sc.kind == .function && sc.names.lookup n == some .cell) = true
   ·rw [if_pos hc] at h'
    simp only [List.lookup_cons, hx] at h'
    cases h'
    simp only [Bool.and_eq_true, beq_iff_eq] at hc
    exact ⟨k₀, rfl, .inr ⟨hc.1.1, rfl⟩⟩
   ·rw [if_neg hc] at h'
    simp only [List.lookup_cons, hx] at h'
    cases h'
    exact ⟨_, rfl, .inl rfl⟩
  | false =>
   simp only [List.lookup_cons, hx]
   by_cases hc : (k₀ == NameKind.free && sc.kind == .function && sc.names.lookup n == some .cell) = true
   ·rw [if_pos hc] at h'
    simp only [List.lookup_cons, hx] at h'
    exact ih h'
   ·rw [if_neg hc] at h'
    simp only [List.lookup_cons, hx] at h'
    exact ih h'
structure BlkOk (N : List Str) (sc scope : Scope) (own : List (Str × Nat)) : Prop where
 kind : scope.kind = .function
 uniq : ∀ y ∈ scope.names, scope.names.lookup y.1 = some y.2
 ix : ∀ p ∈ own, N[p.2]? = some p.1
 free : ∀ y ∈ scope.names, y.2 = .free -> sc.names.lookup y.1 = some .cell \/ sc.names.lookup y.1 = some .free
 own : ∀ y ∈ scope.names, y.2 = .local \/ y.2 = .cell -> y.1 ∈ own.map (·.1) \/ y.1 ∉ N
def wipe (σ : St) : List Nat -> St
 | [] => σ
 | v :: vs => (wipe σ vs).set v none
theorem wipe_length (σ : St) : ∀ vs : List Nat, (wipe σ vs).length = σ.length := by
 intro z0
 induction z0 with
 | nil =>
  exact rfl
 | cons v vs ih =>
  unfold wipe; rw [List.length_set, ih]
theorem wipe_some {σ : St} {i : Nat} {x : V} : ∀ {vs : List Nat}, (wipe σ vs)[i]? = some (some x) -> σ[i]? = some (some x) /\ i ∉ vs
 | [], h => ⟨h, by simp⟩
 | v :: vs, h => by
  unfold wipe at h
  by_cases hi : v = i
  ·subst hi
   by_cases hv : v < (wipe σ vs).length
   ·rw [List.getElem?_set_self hv] at h; cases h
   ·rw [List.getElem?_eq_none (by simpa using hv)] at h; cases h
  ·rw [List.getElem?_set_ne hi] at h
   obtain ⟨h1, h2⟩ := wipe_some h
   exact ⟨h1, by simp only [List.mem_cons, not_or]; exact ⟨fun e => hi e.symm, h2⟩⟩
abbrev Cx.blk (X : Cx) (s : Shared) (H : Hp) (scope : Scope) (cenv : Env) (fp : List Addr) : Cx := { X with s_0 := s, H_0 := H, env := cenv, outer := X.stack, ex := fp, fn := fun x => scope.names.lookup x == some .cell, pn := [], xe := fun _ _ => False }
section
variable {X : Cx} {pins : List (Addr × Obj)} {σ : St} {H : Hp} {s : Shared}
theorem block_start {scope : Scope} {own : List (Str × Nat)} {fp : List Addr} (I : Inv X pins σ H s) (ok : BlkOk X.N X.env.scope scope own) (hN : X.N.Nodup) (hfp : ∀ b ∈ fp, FpOk X pins H b /\ b < s.heap.objs.size) :
  Inv (X.blk s H scope (compEnvC scope (cellsFrom (s.heap.objs.size + 1) scope.names (cloFrom X.env.cells scope.names [])) s.heap.objs.size X.env) fp) [] (wipe σ (own.map (·.2))) H { s with heap := pushCells (s.heap.push { cls := .type "dict", data := .dict #[] }) scope.names } := by
 have hfree : ∀ y ∈ scope.names, y.2 = .free -> ∃ c, X.env.cells.lookup y.1 = some c := fun y hy e => by
  rcases ok.free y hy e with k | k
  ·exact I.ok.has _ (.inl k)
  ·exact I.ok.has _ (.inr k)
 generalize hcenv : compEnvC scope (cellsFrom (s.heap.objs.size + 1) scope.names (cloFrom X.env.cells scope.names [])) s.heap.objs.size X.env = cenv
 have kp : ∀ b o, s.heap.get? b = some o -> (pushCells (s.heap.push { cls := .type "dict", data := .dict #[] }) scope.names).get? b = some o := fun b o e => pushCells_keeps _ _ _ _ (Heap.get?_push_of_some _ e)
 have hL : cenv.locals = s.heap.objs.size := by rw [<- hcenv]; rfl
 have hcl : cenv.cells = cellsFrom (s.heap.objs.size + 1) scope.names (cloFrom X.env.cells scope.names []) := by rw [<- hcenv]; rfl
 have hsc : cenv.scope = relS scope X.env.scope := by rw [<- hcenv]; rfl
 rw [<- Heap.size_push s.heap { cls := .type "dict", data := .dict #[] }] at hcl
 have cm : ∀ {y c}, (y, c) ∈ cloFrom X.env.cells scope.names [] -> X.env.cells.lookup y = some c /\ c < s.heap.objs.size := fun {y c} hm => by
  rcases cloFrom_mem hm with hm | ⟨h1, rfl⟩
  ·cases hm
  ·obtain ⟨c, hc⟩ := hfree _ h1 rfl
   rw [hc]
   obtain ⟨w, z⟩ := I.cell _ _ hc
   exact ⟨rfl, z.lt⟩
 have mem : ∀ {y c}, cenv.cells.lookup y = some c -> (X.env.cells.lookup y = some c /\ c < s.heap.objs.size) \/ (s.heap.objs.size + 1 <= c /\ CellAt (pushCells (s.heap.push { cls := .type "dict", data := .dict #[] }) scope.names) c none) := fun {y c} e => by
  rw [hcl] at e
  rcases cells_mem (PySem.mem_of_lookup e) with hm | ⟨_, h2, h3⟩
  ·exact .inl (cm hm)
  ·rw [Heap.size_push] at h2; exact .inr ⟨h2, h3⟩
 have look : ∀ {y}, scope.names.lookup y = some .free -> ∃ c, cenv.cells.lookup y = some c /\ X.env.cells.lookup y = some c := fun {y} hl => by
  have hy : (y, NameKind.free) ∈ scope.names := PySem.mem_of_lookup hl
  obtain ⟨c', e'⟩ := mem_lookup (cells_acc (names := scope.names) (n := (s.heap.push { cls := .type "dict", data := .dict #[] }).objs.size) (cloFrom_has (cells := X.env.cells) (acc := []) hy))
  rw [<- hcl] at e'
  refine ⟨c', e', ?_⟩
  rw [hcl] at e'
  rcases cells_mem (PySem.mem_of_lookup e') with hm | ⟨h1, _, _⟩
  ·exact (cm hm).1
  ·have := ok.uniq _ h1
   rw [hl] at this; cases this
 have okB : (X.blk s H scope cenv fp).Ok := by
  refine ⟨I.ok.mod, by show cenv.scope.kind = _; rw [hsc]; exact ok.kind, by show cenv.globals = _; rw [<- hcenv]; exact I.ok.glob, by show cenv.builtins = _; rw [<- hcenv]; exact I.ok.blt, by show s.heap.objs.size <= cenv.locals; rw [hL]; exact Nat.le_refl _,
   fun y z c e1 e2 => ?_, fun y hy => ?_, fun y c z e => ?_, I.ok.hd, I.ok.frames, .inl rfl, fun b hb => ⟨?_, fun y c e z => ?_⟩, I.bs, Nat.le_trans I.ok.bsz I.sz, fun b o e hb => ?_, fun b hb z => ?_, I.stack, I.stkFree⟩
  ·have e1 : cenv.cells.lookup y = some c := e1
   have e2 : cenv.cells.lookup z = some c := e2
   rw [hcl] at e1 e2
   refine cells_inj (fun p hp => ?_) (fun y z c a b => I.ok.inj y z c (cm a).1 (cm b).1) (PySem.mem_of_lookup e1) (PySem.mem_of_lookup e2)
   rw [Heap.size_push]
   exact Nat.lt_succ_of_lt (cm (y := p.1) (c := p.2) hp).2
  ·show ∃ c, cenv.cells.lookup y = some c
   have key : ∀ k, cenv.kindOf y = some k -> (k = .cell \/ k = .free) -> ∃ c, cenv.cells.lookup y = some c := fun k hk hk' => by
    unfold Env.kindOf at hk
    rw [hsc] at hk
    obtain ⟨k', e, r⟩ := lookup_relS hk
    have : k' = .cell \/ k' = .free := by
     rcases r with rfl | ⟨rfl, _⟩
     ·exact hk'
     ·exact .inr rfl
    rcases this with rfl | rfl
    ·obtain ⟨c, hm⟩ := cells_has (n := (s.heap.push { cls := .type "dict", data := .dict #[] }).objs.size) (acc := cloFrom X.env.cells scope.names []) (PySem.mem_of_lookup e)
     obtain ⟨c', e'⟩ := mem_lookup hm
     exact ⟨c', by rw [hcl]; exact e'⟩
    ·obtain ⟨c, h1, _⟩ := look e
     exact ⟨c, h1⟩
   rcases hy with hy | hy
   ·exact key _ hy (.inl rfl)
   ·exact key _ hy (.inr rfl)
  ·have z : (scope.names.lookup y == some NameKind.cell) = true := z
   have z : scope.names.lookup y = some .cell := by simpa using z
   have e : cenv.cells.lookup y = some c := e
   rw [hcl] at e
   rcases cells_mem (PySem.mem_of_lookup e) with hm | ⟨_, h2, _⟩
   ·rcases cloFrom_mem hm with hm | ⟨h1, _⟩
    ·cases hm
    ·have q := ok.uniq _ h1
     rw [z] at q; cases q
   ·rw [Heap.size_push] at h2
    exact Nat.le_of_succ_le h2
  ·show b ≠ cenv.locals
   rw [hL]; exact Nat.ne_of_lt (hfp b hb).2
  ·have e : cenv.cells.lookup y = some c := e
   rcases mem e with ⟨h1, _⟩ | ⟨h1, _⟩
   ·exact (hfp b hb).1.2.2.2.2.1 y c h1 z
   ·have h2 : s.heap.objs.size + 1 <= b := by rw [<- z]; exact h1
    exact absurd (Nat.lt_of_lt_of_le (hfp b hb).2 (Nat.le_of_succ_le h2)) (Nat.lt_irrefl _)
  ·rcases (hfp b hb).1.2.2.2.1 with z | z
   ·exact I.ok.noex b o e z
   ·exact absurd (Nat.lt_of_lt_of_le (Heap.lt_size e) (Nat.le_trans I.ok.bsz z)) (Nat.lt_irrefl _)
  ·rcases List.mem_cons.mp (I.stkSub b z) with z | z
   ·exact (hfp b hb).1.2.1 z
   ·exact (hfp b hb).1.2.2.1 z
 refine ⟨okB, rfl, I.bare, Un.kept kp, ⟨fun _ => none, ?_, fun i y av e1 e2 e3 => ?_⟩, fun y c e => ?_, ?_, fun y c e => ?_, fun p hp => ?_, I.hok.kept kp, by rw [wipe_length]; exact I.len⟩
 ·show Heap.Ns _ cenv.locals _
  rw [hL]
  exact Heap.Ns.keeps (Heap.Ns.new ..) fun b o e => pushCells_keeps _ _ _ _ e
 ·obtain ⟨e2, hne⟩ := wipe_some e2
  have hfr : scope.names.lookup y = some .free /\ (cenv.kindOf y = some .cell \/ cenv.kindOf y = some .free) := by
   have key : ∀ k, cenv.scope.names.lookup y = some k -> k = .local \/ k = .cell \/ k = .free -> scope.names.lookup y = some .free /\ (cenv.kindOf y = some .cell \/ cenv.kindOf y = some .free) := fun k hk hk' => by
    have hk0 := hk
    rw [hsc] at hk
    obtain ⟨k', e, r⟩ := lookup_relS hk
    have no : ¬ (k' = .local \/ k' = .cell) := fun hh => by
     rcases ok.own _ (PySem.mem_of_lookup e) hh with e' | e'
     ·obtain ⟨p, hp, hpy⟩ := List.mem_map.mp e'
      have e3 := ok.ix p hp
      have : p.1 = y := hpy
      rw [this] at e3
      exact hne (List.mem_map.mpr ⟨p, hp, nodup_ix hN e3 e1⟩)
     ·exact e' (List.mem_of_getElem? e1)
    rcases r with rfl | ⟨rfl, rfl⟩
    ·rcases hk' with rfl | rfl | rfl
     ·exact absurd (.inl rfl) no
     ·exact absurd (.inr rfl) no
     ·exact ⟨e, .inr hk0⟩
    ·exact ⟨e, .inl hk0⟩
   have e3 : Vis cenv.scope y := e3
   rcases e3 with e3 | e3 | e3
   ·exact key _ e3 (.inl rfl)
   ·exact key _ e3 (.inr (.inl rfl))
   ·exact key _ e3 (.inr (.inr rfl))
  obtain ⟨m, hn, hl⟩ := I.loc
  have hvis : Vis X.env.scope y := (ok.free _ (PySem.mem_of_lookup hfr.1) rfl).elim (fun k => .inr (.inl k)) (fun k => .inr (.inr k))
  obtain ⟨w, r, q⟩ := hl i y av e1 e2 hvis
  refine ⟨w, r, .inr ⟨hfr.2, ?_⟩⟩
  obtain ⟨c, h1, h2⟩ := look hfr.1
  rcases q with ⟨k, _⟩ | ⟨_, c', e', z⟩
  ·have k : X.env.scope.names.lookup y = some .local := k
   rcases ok.free _ (PySem.mem_of_lookup hfr.1) rfl with k' | k' <;> rw [show X.env.scope.names.lookup y = _ from k'] at k <;> cases k
  ·rw [h2] at e'; cases e'
   exact ⟨c, h1, z.keeps kp⟩
 ·have e : cenv.cells.lookup y = some c := e
  rcases mem e with ⟨h1, _⟩ | ⟨_, z⟩
  ·obtain ⟨w, z⟩ := I.cell y c h1
   exact ⟨w, z.keeps kp⟩
  ·exact ⟨_, z⟩
 ·show H cenv.locals = none
  rw [hL]; exact I.hok.fresh (Nat.le_refl _)
 ·have e : cenv.cells.lookup y = some c := e
  rcases mem e with ⟨h1, _⟩ | ⟨h1, _⟩
  ·exact I.freeC y c h1
  ·exact I.hok.fresh (Nat.le_of_succ_le h1)
 ·exact absurd (show p ∈ ([] : List (Addr × Obj)) ++ [] from hp) (by simp)
theorem app_ok {E : Value -> Shared -> Prop} {D : Addr} {xs : List V} {y : V} {v : Value} {Q : Value -> Shared -> Prop} (I : Inv X pins σ H s) (hD : H D = some (.lst xs)) (hz : xs.length < sizeLine) (r : RelV y v)
  (h : ∀ s', Inv X pins σ (upd H D (.lst (xs ++ [y]))) s' -> Q .none s') : wpAny (model X.prog X.w) X.A (call (.builtin "list.append") [.ref D, v]) Q E s := by
 obtain ⟨hz', its, n, ri, e⟩ := I.hok D _ hD
 have hl := ri.length
 refine append_at (hsz := by rw [List.size_toArray]; lia) e fun h' sb ho' => ?_
 refine h { s with heap := h' } (I.write (t' := s.toks) (by rw [hD]; trivial) (.inl rfl) (fun b u hb q => (sb.2 b hb).trans q) ⟨_, ho'⟩ ⟨by rw [List.length_append]; exact hz, its ++ [v], n + 1, ri.append (.cons r .nil), ?_⟩)
 rw [ho']
 simp
def PTs (X : Cx) (ifs : List Expr) (t : TT) : Prop :=
 ∀ (pins : List (Addr × Obj)) (s : Shared) (σ : St) (H : Hp) (Q : Bool -> Hp -> Prop), Inv X pins σ H s -> t σ H Q ->
  wpAny (model X.prog X.w) X.A (forIn ifs true fun c r => if r = true then do let ok <- isTrue c X.env (eval c X.env); pure (ForInStep.yield ok) else pure (ForInStep.yield r)) (TP X pins σ Q) X.xe s
def tYes : TT := fun _ H Q => Q true H
theorem pts_nil : PTs X [] tYes := fun _ _ _ H _ I h => wpAny_tests_nil ⟨H, I, h⟩
theorem pts_one {c : Expr} {t : TT} (h : PT X c t) : PTs X [c] t := fun pins s σ H Q I hw => wpAny_tests_one (h pins s σ H Q I hw)
end
theorem thnF {α : Type} {t : Sem α} {Q Q' : α -> Shared -> Prop} {M : Model} {A : Around} {E : Value -> Shared -> Prop} {s : Shared} (h : wpAny M A t Q (fun _ _ => False) s) (hQ : ∀ a s, Q a s -> Q' a s) : wpAny M A t Q' E s := wpAny_mono h hQ fun _ _ z => False.elim z
theorem compLoop_any {prog : Program} {w : World} {A : Around} {R : Result -> Shared -> Prop} {s : Shared} {elt target iter : Expr} {ifs : List Expr} {scope : Scope} {pos : Pos} {it acc : Value} {env : Env} (I : Nat -> Shared -> Prop)
  (turn : ∀ n s, I n s -> wpAny (model prog w) A (pyNext it) (fun r s₁ => match r with
   | none => R (.ok .next) s₁
   | some v => wpAny (model prog w) A (letOwnedTupleGo target it v) (fun _ s₁' => wpAny (model prog w) A (assign target env v) (fun _ s₂ =>
     wpAny (model prog w) A (forIn ifs true fun c r => if r = true then do let ok <- isTrue c env (eval c env); pure (ForInStep.yield ok) else pure (ForInStep.yield r)) (fun ok s₃ =>
      if ok = true then wpAny (model prog w) A (eval elt env) (fun x s₄ =>
       wpAny (model prog w) A (call (.builtin "list.append") [acc, x]) (fun _ s₅ => ∃ m, m < n /\ I m s₅) (notedBy (model prog w) A env fun e s' => R (.error e) s') s₄) (notedBy (model prog w) A env fun e s' => R (.error e) s') s₃
      else ∃ m, m < n /\ I m s₃) (notedBy (model prog w) A env fun e s' => R (.error e) s') s₂) (notedBy (model prog w) A env fun e s' => R (.error e) s') s₁') (notedBy (model prog w) A env fun e s' => R (.error e) s') s₁) (notedBy (model prog w) A env fun e s' => R (.error e) s') s)
  (n : Nat) (h : I n s) :
  codeAny (model prog w) A (.compLoop (.ListComp elt [⟨target, iter, ifs, 0⟩] scope pos) 0 it acc env) R s := by
 refine codeAny_loop rfl I (fun n s hI => ?_) n h
 show wpAny _ A ((compTurn (.ListComp elt [⟨target, iter, ifs, 0⟩] scope pos) 0 it acc env).onRaise (fun x => do noteFrame x env; theTreesLotGoes x)) _ _ s
 refine wpAny_noted ?_
 rw [compTurn_list]
 refine wpAny_bind (wpAny_standAt (wpAny_bind (wpAny_mono (turn n s hI) (fun r s₁ h₁ => ?_) fun _ _ h' => h')))
 cases r with
 | none => exact wpAny_pure h₁
 | some v =>
  refine wpAny_bind (wpAny_mono h₁ (fun _ s₁' h₁' => ?_) fun _ _ h' => h')
  refine wpAny_bind (wpAny_mono h₁' (fun _ s₂ h₂ => wpAny_bind (wpAny_mono h₂ (fun ok s₃ h₃ => ?_) fun _ _ h' => h')) fun _ _ h' => h')
  cases ok with
  | false => exact wpAny_pure ⟨rfl, h₃⟩
  | true =>
   exact wpAny_bind (wpAny_bind (wpAny_mono h₃ (fun x s₄ h₄ => wpAny_bind (wpAny_mono h₄ (fun _ s₅ h₅ => wpAny_pure (wpAny_pure ⟨rfl, h₅⟩)) fun _ _ h' => h')) fun _ _ h' => h'))
section
variable {X : Cx}
def tLc (wi : TI) (g : TG) (tt : TT) (te : TE) (vs : List Nat) : TE := fun σ H Q => wi σ H fun J H1 => ∀ D, H1 D = none -> ∃ W : Nat -> Nat -> Hp -> Prop, (∃ m, W 0 m (upd H1 D (.lst []))) /\ ∀ i m H, W i m H ->
 (J.stop i H /\ Q (.ref D) H) \/ (J.go i H /\ ∃ Nx : Hp -> Prop, (∀ H', Nx H' -> ∃ m', m' < m /\ W (i + 1) m' H') /\ ∀ x H', J.yld i H x H' -> g x (wipe σ vs) H' fun σ2 H2 => wipe σ2 vs = wipe σ vs /\ tt σ2 H2 fun b H3 =>
  if b = true then te σ2 H3 fun y H4 => ∃ acc, H4 D = some (.lst acc) /\ acc.length < sizeLine /\ Nx (upd H4 D (.lst (acc ++ [y]))) else Nx H3)
theorem lc_core {pins : List (Addr × Obj)} {s : Shared} {σ : St} {H : Hp} {Q : VK} {elt tg iter : Expr} {ifs : List Expr} {scope : Scope} {own : List (Str × Nat)} {pos pos' : Pos} {wi : TI} {g : TG} {tt : TT} {te : TE} {use : Option (Value -> Sem Unit)} {Qf : Value -> Shared -> Prop}
  (hc : X.calm = true) (hN : X.N.Nodup) (I : Inv X pins σ H s) (hi : PI X tg iter wi) (ok : BlkOk X.N X.env.scope scope own)
  (hg : ∀ (s : Shared) (H : Hp) (C : Addr) (cl : List (Str × Addr)) (fp : List Addr), PG (X.blk s H scope (compEnvC scope cl C X.env) fp) tg g) (ht : ∀ (s : Shared) (H : Hp) (C : Addr) (cl : List (Str × Addr)) (fp : List Addr), PTs (X.blk s H scope (compEnvC scope cl C X.env) fp) ifs tt)
  (he : ∀ (s : Shared) (H : Hp) (C : Addr) (cl : List (Str × Addr)) (fp : List Addr), PE (X.blk s H scope (compEnvC scope cl C X.env) fp) elt te) (hs : ∀ x, foldedSetIterable iter X.env x = pure x)
  (h : tLc wi g tt te (own.map (·.2)) σ H Q)
  (hRR : ∀ D C s' m H', Inv X pins σ H' s' -> Q (.ref D) H' -> s'.heap.Ns C m -> FpOk X pins H' C -> compPost (model X.prog X.w) X.A X.xe use Qf (.ref D) C (.ok .next) s') :
  wpAny (model X.prog X.w) X.A (comprehension (.ListComp elt [⟨tg, iter, ifs, 0⟩] scope pos) scope X.env pos' (newList []) false (eval iter X.env) use) Qf X.xe s := by
 have hfree : ∀ y ∈ scope.names, y.2 = .free -> ∃ c, X.env.cells.lookup y.1 = some c := fun y hy e => by
  rcases ok.free y hy e with k | k
  ·exact I.ok.has _ (.inl k)
  ·exact I.ok.has _ (.inr k)
 refine wpAny_comprehension_free (use := use) rfl hs (closure_ok hfree) ok.kind (fun y hy e => by rw [ok.uniq y hy, e])
  (thn (hi pins s σ H _ I h) fun xv s1 hx => thn hx fun itv s2 h2 => ?_)
 obtain ⟨it, fp, tn, J, H2, e, I2, T, st2, f2, q⟩ := h2
 subst e
 refine wpAny_newObj_type (newEnv_comp ?_) (by show 0 <= sizeLine; decide)
 generalize hD : s2.heap.objs.size = D
 have hDn : H2 D = none := I2.hok.fresh (Nat.le_of_eq hD)
 obtain ⟨W, ⟨m0, w0⟩, turn⟩ := q D hDn
 generalize hs3 : ({ s2 with heap := s2.heap.push { cls := .type "list", data := .seq ([] : List Value).toArray } } : Shared) = s3
 have I3 : Inv X pins σ (upd H2 D (.lst [])) s3 := by
  rw [<- hs3]
  refine I2.laid (t' := s2.toks) (fun b o e => Heap.get?_push_of_some _ e) (Nat.le_of_eq hD) ⟨Nat.zero_le _, [], 0, .nil, ?_⟩
  rw [<- hD]
  exact Heap.get?_push_size _ rfl
 have h3 : s3.heap = s2.heap.push { cls := .type "list", data := .seq ([] : List Value).toArray } := by rw [<- hs3]
 have sz : ∀ b ∈ fp, b < s2.heap.objs.size := fun b hb => by
  obtain ⟨o, e, _⟩ := T.obj _ _ st2 b hb
  exact Heap.lt_size e
 have f3 : ∀ b ∈ fp, FpOk X pins (upd H2 D (.lst [])) b /\ b < s3.heap.objs.size := fun b hb => by
  have hlt := sz b hb
  refine ⟨⟨?_, (f2 b hb).2⟩, by rw [h3, Heap.size_push]; exact Nat.lt_succ_of_lt hlt⟩
  rw [upd_ne (by rw [<- hD]; exact Nat.ne_of_lt hlt)]
  exact (f2 b hb).1
 have st3 : tn 0 s3.heap := T.keep _ _ _ st2 fun b _ o e => by rw [h3]; exact Heap.get?_push_of_some _ e
 have I4 := block_start I3 ok hN f3
 have pg := hg s3 (upd H2 D (.lst [])) s3.heap.objs.size (cellsFrom (s3.heap.objs.size + 1) scope.names (cloFrom X.env.cells scope.names [])) fp
 have pt := ht s3 (upd H2 D (.lst [])) s3.heap.objs.size (cellsFrom (s3.heap.objs.size + 1) scope.names (cloFrom X.env.cells scope.names [])) fp
 have pe := he s3 (upd H2 D (.lst [])) s3.heap.objs.size (cellsFrom (s3.heap.objs.size + 1) scope.names (cloFrom X.env.cells scope.names [])) fp
 show codeAny _ _ (.compStart (.ListComp elt [⟨tg, iter, ifs, 0⟩] scope pos) 0 (.ref it) (.ref D) (compEnvC scope (cellsFrom (s3.heap.objs.size + 1) scope.names (cloFrom X.env.cells scope.names [])) s3.heap.objs.size X.env)) (compPost (model X.prog X.w) X.A X.xe use Qf (.ref D) s3.heap.objs.size) { s3 with heap := pushCells (s3.heap.push { cls := .type "dict", data := .dict #[] }) scope.names }
 have nfp : ∀ b ∈ fp, (upd H2 D (.lst [])) b = none := fun b hb => (f3 b hb).1.1
 generalize hce : compEnvC scope (cellsFrom (s3.heap.objs.size + 1) scope.names (cloFrom X.env.cells scope.names [])) s3.heap.objs.size X.env = ce at I4 pg pt pe ⊢
 have cL : ce.locals = s3.heap.objs.size := by subst hce; rfl
 generalize hH3 : upd H2 D (.lst []) = H3 at I3 I4 pg pt pe w0 nfp f3
 generalize hs4 : ({ s3 with heap := pushCells (s3.heap.push { cls := .type "dict", data := .dict #[] }) scope.names } : Shared) = s4 at I4 ⊢
 have st4 : tn 0 s4.heap := T.keep _ _ _ st3 fun b _ o e => by rw [<- hs4]; exact pushCells_keeps _ _ _ _ (Heap.get?_push_of_some _ e)
 have stat : ∀ {σ' : St} {H' : Hp} {s' : Shared}, Inv (X.blk s3 H3 scope ce fp) [] σ' H' s' -> (∀ b ∈ fp, H' b = none) -> ∀ b ∈ fp, FpOk (X.blk s3 H3 scope ce fp) [] H' b := fun {σ' H' s'} I' hn b hb =>
  ⟨hn b hb, (I'.ok.exf b hb).1, I'.ok.exfs b hb, .inl hb, fun x c e => (I'.ok.exf b hb).2 x c e, fun p hp => absurd (show p ∈ ([] : List (Addr × Obj)) ++ [] from hp) (by simp)⟩
 have loop : codeAny (model X.prog X.w) X.A (.compLoop (.ListComp elt [⟨tg, iter, ifs, 0⟩] scope pos) 0 (.ref it) (.ref D) ce) (compPost (model X.prog X.w) X.A X.xe use Qf (.ref D) s3.heap.objs.size) s4 := by
  refine compLoop_any (fun n s' => ∃ i H', Inv (X.blk s3 H3 scope ce fp) [] (wipe σ (own.map (·.2))) H' s' /\ tn i s'.heap /\ (∀ b ∈ fp, H' b = none) /\ W i n H') ?_ m0 ⟨0, H3, I4, st4, nfp, w0⟩
  rintro n s5 ⟨i, H5, I5, st5, n5, w5⟩
  rcases turn i n H5 w5 with ⟨stop, qq⟩ | ⟨go, Nx, hNx, step⟩
  ·have td := T.done (X.blk s3 H3 scope ce fp) rfl rfl rfl hc i [] s5 _ H5 (fun _ _ => False) I5 (stat I5 n5) st5 stop
   refine thnF td fun r s6 ⟨hr, I6⟩ => ?_
   subst hr
   have I7 : Inv X pins σ H5 s6 := I3.call' (ch := fp) I6.os I6.base I6.hok I6.bare fun b hb => ⟨(f3 b hb).1.2.2.2.1, (f3 b hb).1.2.1, (f3 b hb).1.2.2.2.2.1, (f3 b hb).1.2.2.2.2.2⟩
   have nC : H5 s3.heap.objs.size = none := by
    have z : H5 ce.locals = none := I6.free
    rw [cL] at z
    exact z
   obtain ⟨m, hn, _⟩ := I6.loc
   have hn : s6.heap.Ns ce.locals m := hn
   rw [cL] at hn
   exact hRR D s3.heap.objs.size s6 m H5 I7 qq hn (I3.fpOk (Nat.le_refl _) nC)
  ·have ti := T.item (X.blk s3 H3 scope ce fp) rfl rfl rfl hc i [] s5 _ H5 (fun _ _ => False) I5 (stat I5 n5) st5 go
   refine thnF ti fun r s6 ⟨u, hr, h6⟩ => ?_
   subst hr
   refine thnF h6 fun _ s7 ⟨x, H7, I7, r7, y7, st7, n7⟩ => ?_
   have I7' := I7.pinned (stat I7 n7) (T.obj _ _ st7)
   refine thnF (pg _ s7 _ H7 x u _ I7' r7 (step x H7 y7)) fun _ s8 ⟨σ8, H8, I8, hw8, q8⟩ => ?_
   refine thnF (pt _ s8 σ8 H8 _ I8 q8) fun b s9 ⟨H9, I9, q9⟩ => ?_
   have fin : ∀ {s' : Shared} {H' : Hp}, Inv (X.blk s3 H3 scope ce fp) ([] ++ pinsAt fp s7.heap) σ8 H' s' -> Nx H' -> ∃ m, m < n /\ ∃ i H', Inv (X.blk s3 H3 scope ce fp) [] (wipe σ (own.map (·.2))) H' s' /\ tn i s'.heap /\ (∀ b ∈ fp, H' b = none) /\ W i m H' := fun {s' H'} I' nx => by
    obtain ⟨m', hm, w'⟩ := hNx H' nx
    have pin' : ∀ b ∈ fp, ∀ o, s7.heap.get? b = some o -> s'.heap.get? b = some o /\ H' b = none := fun b hb o e =>
     let z := I'.pin (b, o) (List.mem_append_right _ (List.mem_append_right _ (mem_pinsAt hb e)))
     ⟨z.1, z.2.1⟩
    have hl : (wipe σ (own.map (·.2))).length = σ8.length := by rw [<- hw8, wipe_length]
    refine ⟨m', hm, i + 1, H', (I'.unpinned (pins := [])).weak hl (fun j v e => ?_), T.keep _ _ _ st7 fun b hb o e => (pin' b hb o e).1, fun b hb => ?_, w'⟩
    ·rw [<- hw8] at e
     exact (wipe_some e).1
    ·obtain ⟨o, e, _⟩ := T.obj _ _ st7 b hb
     exact (pin' b hb o e).2
   cases b with
   | false =>
    simp only [Bool.false_eq_true, if_false] at q9 ⊢
    exact fin I9 q9
   | true =>
    simp only [if_true] at q9 ⊢
    refine thnF (pe _ s9 σ8 H9 _ I9 q9) fun z s10 ⟨yv, H10, I10, r10, acc, hD10, hz10, nx⟩ => ?_
    exact app_ok (X := X.blk s3 H3 scope ce fp) I10 hD10 hz10 r10 fun s11 I11 => fin I11 nx
 exact codeAny_compStart_list loop (T.self X.A 0 _ _ _ st4 loop)
theorem pe_lc {elt tg iter : Expr} {ifs : List Expr} {scope : Scope} {own : List (Str × Nat)} {pos : Pos} {wi : TI} {g : TG} {tt : TT} {te : TE} (hc : X.calm = true) (hN : X.N.Nodup) (hi : PI X tg iter wi) (ok : BlkOk X.N X.env.scope scope own)
  (hg : ∀ (s : Shared) (H : Hp) (C : Addr) (cl : List (Str × Addr)) (fp : List Addr), PG (X.blk s H scope (compEnvC scope cl C X.env) fp) tg g) (ht : ∀ (s : Shared) (H : Hp) (C : Addr) (cl : List (Str × Addr)) (fp : List Addr), PTs (X.blk s H scope (compEnvC scope cl C X.env) fp) ifs tt)
  (he : ∀ (s : Shared) (H : Hp) (C : Addr) (cl : List (Str × Addr)) (fp : List Addr), PE (X.blk s H scope (compEnvC scope cl C X.env) fp) elt te) (hs : ∀ x, foldedSetIterable iter X.env x = pure x := by intro _; rfl) :
  PE X (.ListComp elt [⟨tg, iter, ifs, 0⟩] scope pos) (tLc wi g tt te (own.map (·.2))) := by
 intro pins s σ H Q I h
 rw [eval_ListComp]
 refine lc_core hc hN I hi ok hg ht he hs h fun D C s' m H' I' q hn f => ⟨m, hn, fun h'' sb => ?_⟩
 obtain ⟨f0, f1, f2, f3, f4, f5⟩ := f
 exact ⟨.ref D, H', I'.turned (t' := s'.toks) (fun b o hb e => (sb.2 b hb).trans e) f0 f1 f3 f4 f5, rfl, q⟩
theorem ps_setLc {i : Nat} {y : Str} {py : Pos} {elt tg iter : Expr} {ifs : List Expr} {scope : Scope} {own : List (Str × Nat)} {pos spos : Pos} {wi : TI} {g : TG} {tt : TT} {te : TE} (hc : X.calm = true) (hN : X.N.Nodup) (hy : X.N[i]? = some y) (hyl : X.env.scope.names.lookup y = some .local)
  (hsw : swapsWith (.ListComp elt [⟨tg, iter, ifs, 0⟩] scope pos) (some (.Name y py)) spos.line X.env = pure true) (hi : PI X tg iter wi) (ok : BlkOk X.N X.env.scope scope own)
  (hg : ∀ (s : Shared) (H : Hp) (C : Addr) (cl : List (Str × Addr)) (fp : List Addr), PG (X.blk s H scope (compEnvC scope cl C X.env) fp) tg g) (ht : ∀ (s : Shared) (H : Hp) (C : Addr) (cl : List (Str × Addr)) (fp : List Addr), PTs (X.blk s H scope (compEnvC scope cl C X.env) fp) ifs tt)
  (he : ∀ (s : Shared) (H : Hp) (C : Addr) (cl : List (Str × Addr)) (fp : List Addr), PE (X.blk s H scope (compEnvC scope cl C X.env) fp) elt te) (hs : ∀ x, foldedSetIterable iter X.env x = pure x := by intro _; rfl) :
  PS X (.Assign [.Name y py] (.ListComp elt [⟨tg, iter, ifs, 0⟩] scope pos) spos) (tAsg (tLc wi g tt te (own.map (·.2))) (gName i)) := by
 intro pins s σ H D I h
 rw [exec_Assign_Name_used _ _ _ _ hsw]
 refine wpAny_bind (wpAny_standAt (wpAny_bind ?_))
 show wpAny _ X.A (do let _ <- comprehension (.ListComp elt [⟨tg, iter, ifs, 0⟩] scope pos) scope X.env (firstIterPos [⟨tg, iter, ifs, 0⟩] pos) (newList []) false (eval iter X.env) (some (assign (.Name y py) X.env))) _ _ s
 have h : tLc wi g tt te (own.map (·.2)) σ H (fun x H1 => gName i x σ H1 D.nx) := h
 refine wpAny_bind (thn (lc_core (Qf := fun _ s' => SP X pins D .next s') hc hN I hi ok hg ht he hs h fun L C s' m H' I' q hn f => ?_) fun _ s' hq => wpAny_pure (wpAny_pure hq))
 show wpAny _ _ (assign (.Name y py) X.env (.ref L)) _ _ _
 refine wpAny_assign_Name (store_ok2 (v := V.ref L) I' hN hy (.inl hyl) rfl (fun s2 I2 ⟨a, sb, ha⟩ => ?_) (.inr hyl))
 obtain ⟨f0, f1, f2, f3, f4, f5⟩ := f
 have haC : C ≠ a := by
  rcases ha with z | z
  ·rw [z]; exact f1
  ·exact fun e => f4 y a z e.symm
 refine ⟨m, hn.sameBut sb haC, fun h3 sb3 => ?_⟩
 exact ⟨_, H', I2.turned (t' := s2.toks) (fun b o hb e => (sb3.2 b hb).trans e) f0 f1 f3 f4 f5, q⟩
end
def blkC (N : List Str) (sc scope : Scope) (own : List (Str × Nat)) : Bool :=
 (match scope.kind with | .function => true | _ => false) && (scope.names.all fun y => decide (scope.names.lookup y.1 = some y.2)) && (own.all fun p => decide (N[p.2]? = some p.1)) &&
  (scope.names.all fun y => match y.2 with
   | .free => (match sc.names.lookup y.1 with | some .cell => true | some .free => true | _ => false)
   | .local => decide (y.1 ∈ own.map (·.1)) || decide (y.1 ∉ N)
   | .cell => decide (y.1 ∈ own.map (·.1)) || decide (y.1 ∉ N)
   | _ => true)
theorem blkOk_by {N : List Str} {sc scope : Scope} {own : List (Str × Nat)} (h : blkC N sc scope own = true) : BlkOk N sc scope own := by
 unfold blkC at h
 simp only [Bool.and_eq_true, List.all_eq_true, decide_eq_true_eq] at h
 obtain ⟨⟨⟨h1, h2⟩, h3⟩, h4⟩ := h
 refine ⟨?_, h2, h3, fun y hy e => ?_, fun y hy e => ?_⟩
 ·split at h1
  ·assumption
  ·cases h1
 ·have q := h4 y hy
  simp only [e] at q
  split at q <;> first | exact .inl (by assumption) | exact .inr (by assumption) | cases q
 ·have q := h4 y hy
  rcases e with e | e <;> (simp only [e, Bool.or_eq_true, decide_eq_true_eq] at q; exact q)
end L2
namespace L2
open PySem PySem.Spec PyProof.Rows
theorem boot_reversed5 : bootBuiltins "reversed" = some (.type "reversed") := by decide +kernel
section
variable {X : Cx} {pins : List (Addr × Obj)} {σ : St} {H : Hp} {s : Shared} {h' : Heap}
theorem Inv.turnedNew {t' : Nat} {ch : List Addr} {T : Addr} {ob : HO} (I : Inv X pins σ H s) (k : ∀ b o, b ∉ ch -> s.heap.get? b = some o -> h'.get? b = some o) (hf : ∀ b ∈ ch, FpOk X pins H b) (hT : s.heap.objs.size <= T)
  (new : ObjOk X.prog X.w (upd H T ob) h' T ob) : Inv X pins σ (upd H T ob) { s with heap := h', toks := t' } := by
 have hn : H T = none := I.hok.fresh hT
 have nit : ∀ b u, H b = some u -> b ∉ ch := fun b u e z => by
  have q := (hf b z).1
  rw [q] at e; cases e
 refine I.step (g' := s.gens) (d' := s.drawn) (ch := ch) (fun b hb => ⟨(hf b hb).2.2.2.1, (hf b hb).2.1, (hf b hb).2.2.2.2.1, (hf b hb).2.2.2.2.2⟩) (fun b o _ _ hc e _ => k b o hc e) (fun b o _ _ hc e _ => ⟨o.slots, k b o hc e⟩)
  (fun b o _ e n => ?_) (fun b o hc e => ⟨o, k b o hc e⟩) (fun b xs e => ?_) (fun b o u e => ?_) (fun b ps e => ⟨#[], ?_⟩) (fun m hm => ?_) (fun b u e => ?_) I.bare
 ·rw [upd_ne (Nat.ne_of_lt (Nat.lt_of_lt_of_le (Heap.lt_size e) hT))]; exact n
 ·rw [upd_ne (ne_of_none e hn)]; exact e
 ·rw [upd_ne (ne_of_none e hn)]; exact e
 ·rw [upd_ne (ne_of_none e hn), e]; simp
 ·obtain ⟨o, es, ep, ho, r⟩ := hm
  exact ⟨o, es, ep, k _ o (fun z => (hf _ z).2.1 rfl) ho, r⟩
 ·by_cases hb : b = T
  ·subst hb
   rw [upd_same] at e
   cases e
   exact new
  ·rw [upd_ne hb] at e
   refine (I.hok b u e).stay (fun c v hc q => k c v ?_ q) (fun c q => by rw [upd_ne (ne_of_none q hn)]; exact q) fun c xs q => by rw [upd_ne (ne_of_none q hn)]; exact q
   rcases hc with z | z
   ·rw [z]; exact nit b u e
   ·exact nit c _ z
end
section
variable {X : Cx}
theorem pi_one {tg : Expr} {pins : List (Addr × Obj)} {σ : St} {H : Hp} {s : Shared} {R : It -> Hp -> Prop} {J : It} {tn : Nat -> Heap -> Prop} {tk : Nat} (I : Inv X pins σ H s) (o : Obj)
  (T : Turn X.prog X.w X.K tg J [s.heap.objs.size] s.heap.objs.size tn) (st : tn 0 (s.heap.push o)) (q : R J H) : PIE X pins σ tg R (.ref s.heap.objs.size) { s with heap := s.heap.push o, toks := tk } := by
 refine ⟨s.heap.objs.size, [s.heap.objs.size], tn, J, H, rfl, I.kept fun b ob e => Heap.get?_push_of_some _ e, T, st, fun b hb => ?_, q⟩
 have e : b = s.heap.objs.size := by simpa using hb
 subst e
 exact I.fpOk (Nat.le_refl _) (I.hok.fresh (Nat.le_refl _))
end
def Itc (lo c : Int) (n : Nat) : It := ⟨fun i _ => i < n, fun i H x H' => H' = H /\ x = .int (lo + (i : Nat) * c), fun i _ => n <= i⟩
theorem turn_rangeC {P : Program} {w : World} {K : PySem.W.Frag} {tg : Expr} (it : Addr) (lo c : Int) (n : Nat) : Turn P w K tg (Itc lo c n) [it] it (fun i h => IsRangeIter h it (lo + (i : Nat) * c) ((n : Int) - (i : Nat)) c) where
 mem := by simp
 obj := fun i h st b hb => by
  have e : b = it := by simpa using hb
  subst e
  exact ⟨_, st, fun v z => nomatch z⟩
 keep := fun i h h' st k => k it (by simp) _ st
 item := by
  intro X hP hw hK hc i pins s σ H E I hf st hg
  subst hP hw hK
  obtain ⟨f0, f1, f2, f3, f4, f5⟩ := hf it (by simp)
  have W := Walks.range (prog := X.prog) (w := X.w) (I.ok.hd hc) it lo c n
  refine W.item i s _ _ hg st fun v h' tk hv st' kk => ?_
  obtain ⟨t, rfl⟩ := hv
  have I1 : Inv X pins σ H { s with heap := h', toks := tk } := I.turned (fun b o hb e => kk b o (by simpa using hb) e) f0 f1 f3 f4 f5
  exact ⟨_, rfl, go_of (s := { s with heap := h', toks := tk }) (n := "range_iterator") st' rfl rfl (by decide) ⟨.int (lo + (i : Nat) * c), H, I1, ⟨t, rfl⟩, ⟨rfl, rfl⟩, st', fun b hb => (hf b hb).1⟩⟩
 done := by
  intro X hP hw hK hc i pins s σ H E I hf st hg
  subst hP hw hK
  obtain ⟨f0, f1, f2, f3, f4, f5⟩ := hf it (by simp)
  exact wpAny_pyNext_range_end (I.ok.hd hc) st (by have : n <= i := hg; lia) fun h' eb => ⟨rfl, I.turned (t' := s.toks) (fun b o hb e => eb b o hb e) f0 f1 f3 f4 f5⟩
 self := fun A i s Q E st h => wpAny_pyIter_rangeiter st h
def RgC (i j c : Int) (n : Nat) : Prop := c ≠ 0 /\ c.natAbs < 1073741824 /\ Builtin.Range.small i j c = true /\ Builtin.Range.rangeSize i j c = n
theorem RgC.neg {i j : Int} (ha : -(2 ^ 62) <= i) (ha' : i < 2 ^ 62) (hb : -(2 ^ 62) <= j) (hb' : j < 2 ^ 62) : RgC i j (-1) (i - j).toNat :=
 ⟨by decide, by decide, PySem.W.small_down ha ha' hb hb', PySem.W.rangeSize_downNat i j⟩
inductive RgI (vs : List V) (H : Hp) (R : It -> Hp -> Prop) : Prop
 | mk (i j c : Int) (n : Nat) : vs = [.int i, .int j, .int c] -> RgC i j c n -> R (Itc i c n) H -> RgI vs H R
def iRng3 (ta : TA) : TI := fun σ H R => ta σ H fun vs H1 => RgI vs H1 R
section
variable {X : Cx} {tg : Expr}
theorem pi_range3 {a b c : Expr} {ta : TA} {p pos : Pos} (hg : Gl X "range") (hm : X.mg "range" = none) (ha : PA X [a, b, c] ta)
  (hs : starEach [a, b, c] X.env = (false, eval a X.env) :: starEach [b, c] X.env := by rfl) (hpl : (backTo pos (starEach [b, c] X.env)).any (·.1) = false := by rfl) :
  PI X tg (.Call (.Name "range" p) [a, b, c] [] pos) (iRng3 ta) := by
 intro pins s σ H R I h
 refine Call_ (ld_blt I hg hm boot_range (PyProof.Rows.callWith_type1 (thn (ha pos pins s σ H _ I h) fun us s1 ⟨vs, H1, I1, r1, q1⟩ => ?_) hs hpl))
 obtain ⟨i, j, k, n, e, ⟨c0, c1, c2, c3⟩, q⟩ := q1
 subst e
 cases r1 with
 | cons r rr =>
  cases rr with
  | cons r' rr =>
   cases rr with
   | cons r'' rr =>
    cases rr
    obtain ⟨t, rfl⟩ := r
    obtain ⟨t', rfl⟩ := r'
    obtain ⟨t'', rfl⟩ := r''
    refine call_range_3 c0 ?_ (.inl (PyProof.noPylong_small c1))
    refine wpAny_pyIter_range (IsRange.new ..) c2 ?_
    have I2 : Inv X pins σ H1 { s1 with heap := s1.heap.push { cls := .type "range", data := .fields #[.int i t, .int j t', .int k t''] } } := I1.kept (t' := s1.toks) fun b o e => Heap.get?_push_of_some _ e
    refine pi_one (tk := s1.toks) I2 _ (turn_rangeC _ i k n) ?_ q
    have e1 : i + ((0 : Nat) : Int) * k = i := by simp
    have e2 : (n : Int) - ((0 : Nat) : Int) = Builtin.Range.rangeSize i j k := by rw [c3]; simp
    show IsRangeIter _ _ (i + ((0 : Nat) : Int) * k) ((n : Int) - ((0 : Nat) : Int)) k
    rw [e1, e2]
    exact Heap.get?_push_size _ rfl
end
def Itv (K : PySem.W.Frag) (a : Addr) (n : Nat) : It :=
 ⟨fun i H => i < n /\ ∃ (xs : List V) (x : V), SqL K H a xs /\ xs[n - 1 - i]? = some x, fun i H x H' => H' = H /\ ∀ xs, SqL K H a xs -> xs[n - 1 - i]? = some x, fun i _ => n <= i⟩
theorem turn_rev {P : Program} {w : World} {K : PySem.W.Frag} {tg : Expr} (a it : Addr) (n : Nat) : Turn P w K tg (Itv K a n) [it] it (fun i h => i <= n /\ h.IsRevIter it a ((n : Int) - 1 - (i : Nat))) where
 mem := by simp
 obj := fun i h st b hb => by
  have e : b = it := by simpa using hb
  subst e
  obtain ⟨_, o, e, c, d⟩ := st
  exact ⟨o, e, fun v z => by rw [d] at z; cases z⟩
 keep := fun i h h' st k => ⟨st.1, st.2.at fun o e => k it (by simp) o e⟩
 item := by
  intro X hP hw hK hc i pins s σ H E I hf st hg
  subst hP hw hK
  obtain ⟨hin, xs, x, hq, hx⟩ := hg
  obtain ⟨its, rv, p, hz⟩ := I.list hq
  obtain ⟨u, hu, ru⟩ := rv.get hx
  obtain ⟨f0, f1, f2, f3, f4, f5⟩ := hf it (by simp)
  obtain ⟨_, hit⟩ := st
  have e1 : (n : Int) - 1 - ((i : Nat) : Int) = ((n - 1 - i : Nat) : Int) := by lia
  rw [e1] at hit
  refine wpAny_pyNext_rev_item hit p.isList (x := u) (by simpa using hu) fun h' st' sb => ?_
  have e2 : ((n - 1 - i : Nat) : Int) - 1 = (n : Int) - 1 - ((i + 1 : Nat) : Int) := by lia
  rw [e2] at st'
  have I1 : Inv X pins σ H { s with heap := h' } := I.turned (t' := s.toks) (fun b o hb e => (sb.2 b hb).trans e) f0 f1 f3 f4 f5
  obtain ⟨o, e, c, d⟩ := id st'
  exact ⟨u, rfl, go_of (s := { s with heap := h' }) e c d (by decide) ⟨x, H, I1, ru, ⟨rfl, fun ys hy => by rw [I.list_inj hy hq]; exact hx⟩, ⟨hin, st'⟩, fun b hb => (hf b hb).1⟩⟩
 done := by
  intro X hP hw hK hc i pins s σ H E I hf st hg
  subst hP hw hK
  obtain ⟨f0, f1, f2, f3, f4, f5⟩ := hf it (by simp)
  obtain ⟨hin, hit⟩ := st
  have hge : n <= i := hg
  have e1 : (n : Int) - 1 - ((i : Nat) : Int) = -1 := by lia
  rw [e1] at hit
  exact wpAny_pyNext_rev_end (I.ok.hd hc) hit fun h' eb => ⟨rfl, I.turned (t' := s.toks) (fun b o hb e => eb b o hb e) f0 f1 f3 f4 f5⟩
 self := fun A i s Q E st h => wpAny_pyIter_revIter st.2 h
inductive RvI (K : PySem.W.Frag) (vs : List V) (H : Hp) (R : It -> Hp -> Prop) : Prop
 | mk (a : Addr) (xs : List V) : vs = [.ref a] -> SqL K H a xs -> R (Itv K a xs.length) H -> RvI K vs H R
def iRev (K : PySem.W.Frag) (ta : TA) : TI := fun σ H R => ta σ H fun vs H1 => RvI K vs H1 R
section
variable {X : Cx} {tg : Expr}
theorem pi_reversed {e : Expr} {ta : TA} {p pos : Pos} (hg : Gl X "reversed") (hm : X.mg "reversed" = none) (ha : PA X [e] ta) (hs : starEach [e] X.env = [(false, eval e X.env)] := by rfl) : PI X tg (.Call (.Name "reversed" p) [e] [] pos) (iRev X.K ta) := by
 intro pins s σ H R I h
 refine Call_ (ld_blt I hg hm boot_reversed5 (PyProof.Rows.callWith_type1 (thn (ha pos pins s σ H _ I h) fun us s1 ⟨vs, H1, I1, r1, q1⟩ => ?_) hs rfl))
 obtain ⟨a, xs, e, hq, q⟩ := q1
 subst e
 cases r1 with
 | cons r rr =>
  cases rr
  cases r
  obtain ⟨its, rv, p', hz⟩ := I1.list hq
  have hl := rv.length
  have e1 : ((its.toArray.size : Nat) : Int) - 1 = (xs.length : Int) - 1 - ((0 : Nat) : Int) := by simp only [List.size_toArray]; lia
  refine call_reversed_list p'.isList (wpAny_pyIter_revIter (l := a) (i := ((its.toArray.size : Nat) : Int) - 1) ⟨_, Heap.get?_push_size _ rfl, rfl, rfl⟩ ?_)
  refine pi_one (tk := s1.toks) I1 _ (turn_rev a _ xs.length) ⟨Nat.zero_le _, ?_⟩ q
  rw [<- e1]
  exact ⟨_, Heap.get?_push_size _ rfl, rfl, rfl⟩
end
def Ite (K : PySem.W.Frag) (a : Addr) : It :=
 ⟨fun i H => ∃ (xs : List V) (x : V), SqL K H a xs /\ xs[i]? = some x, fun i H v H' => ∃ T x, v = .ref T /\ H T = none /\ H' = upd H T (.tup [.int (i : Nat), x]) /\ ∀ xs, SqL K H a xs -> xs[i]? = some x, fun i H => ∃ xs : List V, SqL K H a xs /\ xs.length <= i⟩
theorem turn_enum {P : Program} {w : World} {K : PySem.W.Frag} {elts : List Expr} {kk : Nat} {tpos : Pos} (a e it : Addr) :
  Turn P w K (.Tuple elts kk tpos) (Ite K a) [e, it] e (fun i h => (∃ old, IsEnum h e it ((i : Nat) : Int) old) /\ h.IsListIter it a i /\ e ≠ it) where
 mem := by simp
 obj := fun i h st b hb => by
  obtain ⟨⟨old, he⟩, ⟨o, ho, hc, hd⟩, _⟩ := st
  have e' : b = e \/ b = it := by simpa using hb
  rcases e' with z | z
  ·rw [z]; exact ⟨_, he, fun v q => nomatch q⟩
  ·rw [z]; exact ⟨o, ho, fun v q => by rw [hd] at q; cases q⟩
 keep := fun i h h' st k => let ⟨⟨old, he⟩, hi, hne⟩ := st; ⟨⟨old, k e (by simp) _ he⟩, hi.at fun o q => k it (by simp) o q, hne⟩
 item := by
  intro X hP hw hK hc i pins s σ H E I hf st hg
  subst hP hw hK
  obtain ⟨⟨old, he⟩, hit, hne⟩ := st
  obtain ⟨xs, x, hq, hx⟩ := hg
  obtain ⟨its, rv, p, hz⟩ := I.list hq
  obtain ⟨u, hu, ru⟩ := rv.get hx
  have hel : e < s.heap.objs.size := Heap.lt_size he
  have hil : it < s.heap.objs.size := by obtain ⟨_, q, _⟩ := hit; exact Heap.lt_size q
  refine wpAny_pyNext_enum_item he hit p.isList (x := u) (by simpa using hu) hne fun h' ho hit' hT hsz hk => ?_
  refine ⟨_, rfl, wpAny_letOwnedTupleGo_enum (s := { s with heap := h', toks := s.toks + 1 }) ho fun h'' he' sb => ?_⟩
  have hT2 : h''.get? s.heap.objs.size = some { cls := .type "tuple", data := .seq #[.int i s.toks, u] } := (sb.2 _ (Nat.ne_of_gt hel)).trans hT
  have new : ObjOk X.prog X.w (upd H s.heap.objs.size (.tup [.int (i : Nat), x])) h'' s.heap.objs.size (.tup [.int (i : Nat), x]) :=
   ⟨by show 2 <= sizeLine; decide, [.int i s.toks, u], .cons ⟨_, rfl⟩ (.cons ru .nil), ⟨_, hT2, rfl, _, rfl⟩⟩
  have I1 : Inv X pins σ (upd H s.heap.objs.size (.tup [.int (i : Nat), x])) { s with heap := h'', toks := s.toks + 1 } :=
   I.turnedNew (ch := [e, it]) (fun b ob hb q => (sb.2 b (fun z => hb (by simp [z]))).trans (hk b ob (fun z => hb (by simp [z])) (fun z => hb (by simp [z])) q)) hf (Nat.le_refl _) new
  refine ⟨.ref s.heap.objs.size, _, I1, rfl, ⟨_, x, rfl, I.hok.fresh (Nat.le_refl _), rfl, fun ys hy => by rw [I.list_inj hy hq]; exact hx⟩, ⟨⟨u, ?_⟩, hit'.at fun o q => (sb.2 it (Ne.symm hne)).trans q, hne⟩, fun b hb => ?_⟩
  ·have e1 : ((i + 1 : Nat) : Int) = (i : Int) + 1 := by lia
   rw [e1]; exact he'
  ·have hb' : b < s.heap.objs.size := by
    have e' : b = e \/ b = it := by simpa using hb
    rcases e' with z | z
    ·rw [z]; exact hel
    ·rw [z]; exact hil
   rw [upd_ne (Nat.ne_of_lt hb')]
   exact (hf b hb).1
 done := by
  intro X hP hw hK hc i pins s σ H E I hf st hg
  subst hP hw hK
  obtain ⟨⟨old, he⟩, hit, hne⟩ := st
  obtain ⟨xs, hq, hx⟩ := hg
  obtain ⟨its, rv, p, hz⟩ := I.list hq
  obtain ⟨f0, f1, f2, f3, f4, f5⟩ := hf it (by simp)
  have hl := rv.length
  exact wpAny_pyNext_enum_end (I.ok.hd hc) he hit p.isList (by simp; lia) fun h' eb => ⟨rfl, I.turned (t' := s.toks) (fun b o hb q => eb b o hb q) f0 f1 f3 f4 f5⟩
 self := fun A i s Q E st h => let ⟨⟨_, he⟩, _⟩ := st; wpAny_pyIter_enum he h
inductive EnI (K : PySem.W.Frag) (vs : List V) (H : Hp) (R : It -> Hp -> Prop) : Prop
 | mk (a : Addr) (xs : List V) : vs = [.ref a] -> SqL K H a xs -> R (Ite K a) H -> EnI K vs H R
def iEnum (K : PySem.W.Frag) (ta : TA) : TI := fun σ H R => ta σ H fun vs H1 => EnI K vs H1 R
theorem pi_enum {X : Cx} {e : Expr} {ta : TA} {p pos tpos : Pos} {elts : List Expr} {kk : Nat} (hg : Gl X "enumerate") (hm : X.mg "enumerate" = none) (ha : PA X [e] ta) (hs : starEach [e] X.env = [(false, eval e X.env)] := by rfl) :
  PI X (.Tuple elts kk tpos) (.Call (.Name "enumerate" p) [e] [] pos) (iEnum X.K ta) := by
 intro pins s σ H R I h
 refine Call_ (ld_blt I hg hm boot_enumerate (PyProof.Rows.callWith_type1 (thn (ha pos pins s σ H _ I h) fun us s1 ⟨vs, H1, I1, r1, q1⟩ => ?_) hs rfl))
 obtain ⟨a, xs, ex, hq, q⟩ := q1
 subst ex
 cases r1 with
 | cons r rr =>
  cases rr
  cases r
  obtain ⟨its, rv, p', hz⟩ := I1.list hq
  refine call_enumerate_list p'.isList fun h' he hit hsz hk => wpAny_pyIter_enum he ?_
  have I2 : Inv X pins σ H1 { s1 with heap := h' } := I1.kept (t' := s1.toks) hk
  refine ⟨s1.heap.objs.size + 1, [s1.heap.objs.size + 1, s1.heap.objs.size], _, _, H1, rfl, I2, turn_enum a (s1.heap.objs.size + 1) s1.heap.objs.size, ⟨⟨.none, he⟩, hit, Nat.succ_ne_self _⟩, fun b hb => ?_, q⟩
  have e' : b = s1.heap.objs.size + 1 \/ b = s1.heap.objs.size := by simpa using hb
  have hle : s1.heap.objs.size <= b := by
   rcases e' with z | z
   ·rw [z]; exact Nat.le_add_right _ _
   ·rw [z]; exact Nat.le_refl _
  exact I1.fpOk hle (I1.hok.fresh hle)
end L2
section 
namespace Bits
open PySem PyProof.Rows
end Bits
end 
section 
namespace L2
open PySem PySem.Spec PyProof.Rows
def defArgs (s : Stmt) : Arguments := match s with
 | .FunctionDef _ a _ _ _ _ _ _ _ _ => a
 | _ => { posonlyargs := [], args := [], vararg := none, kwonlyargs := [], kw_defaults := [], kwarg := none, defaults := [] }
def defBody (s : Stmt) : List Stmt := match s with
 | .FunctionDef _ _ b _ _ _ _ _ _ _ => b
 | _ => []
def defScope (s : Stmt) : Scope := match s with
 | .FunctionDef _ _ _ _ _ _ sc _ _ _ => sc
 | _ => { kind := .function, names := [], isGenerator := false, isCoroutine := false }
abbrev CX0 : CXT := fun _ _ _ _ _ _ => False
abbrev E0 : XK := fun _ _ _ => False
theorem pass0 {X : Cx} : Passes CX0 X E0 := fun _ _ _ _ _ _ _ h => h.elim
structure Fun (K : PySem.W.Frag) (x qual : Str) (st : Stmt) (f : Addr) (fd : FuncData) : Prop where
 ex : ∃ (oc : Value) (od : Option Addr) (kV doc pm : Value) (an : Option Addr) (cdv ct : Value) (osl : Array (Option Value)),
  fd = PySem.W.fnOf x qual (defArgs st) (defBody st) (defScope st) .none kV doc pm an cdv ct /\ K.lookup f = some ⟨oc, od, .func fd, osl⟩ /\ PySem.W.codeIn K cdv qual = true
 kp : PySem.W.keepIn K (.ref f) = true
section
variable {P : Program} {w : World} {K : PySem.W.Frag} {mg : Str -> Option Value} {base : Heap}
theorem Fun.ok {x qual : Str} {st : Stmt} {f : Addr} {fd : FuncData} {N ps : List Str} {k : Nat} {sp : Sp} (F : Fun K x qual st f fd) (S : FnScope N ps (defScope st)) (len : ∀ vs H Q E, sp vs H Q E -> vs.length = ps.length)
  (hbody : ∀ (cdv : Value) (A : Around) (outer : List Env) (s : Shared) (H : Hp) (vs : List V) (Q : VK) (E : XK), Room k (A.deeper (envOfC qual (defScope st) s.heap.objs.size f cdv)) -> sp vs H Q E ->
   ∃ t, PSs (cxOf CX0 P w K mg base N qual (defScope st) f cdv A outer s H E).nox (defBody st) t /\ t { nx := fun _ H' => Q .non H', rt := Q } (start N vs) H) : FnOk P w K mg base CX0 (k + 1) f fd ps sp := by
 obtain ⟨oc, od, kV, doc, pm, an, cdv, ct, osl, rfl, lk, hcd⟩ := F.ex
 refine fn_of lk hcd S len fun A outer s H vs Q E hr hsp => ?_
 obtain ⟨t, h, q⟩ := hbody cdv A outer s H vs Q E hr hsp
 exact ⟨t, h.nox, q⟩
theorem Fun.binds {x qual : Str} {st : Stmt} {f : Addr} {fd : FuncData} {ps : List Str} (F : Fun K x qual st f fd)
  (h : ∀ (kV doc pm : Value) (an : Option Addr) (cdv ct : Value) (us : List Value), us.length = ps.length -> bindArgs (PySem.W.fnOf x qual (defArgs st) (defBody st) (defScope st) .none kV doc pm an cdv ct) ⟨us, []⟩ = pure (ps.zip us)) : Binds K fd ps [] := by
 obtain ⟨oc, od, kV, doc, pm, an, cdv, ct, osl, rfl, lk, hcd⟩ := F.ex
 exact .all (h kV doc pm an cdv ct)
theorem fun_mk {x qual : Str} {st : Stmt} {f : Addr} {oc : Value} {od an : Option Addr} {osl : Array (Option Value)} {kV doc pm cdv ct : Value} (l : K.lookup f = some ⟨oc, od, .func (PySem.W.fnOf x qual (defArgs st) (defBody st) (defScope st) .none kV doc pm an cdv ct), osl⟩)
  (c : PySem.W.codeIn K cdv qual = true) (k : PySem.W.keepIn K (.ref f) = true) : Fun K x qual st f (PySem.W.fnOf x qual (defArgs st) (defBody st) (defScope st) .none kV doc pm an cdv ct) := ⟨⟨oc, od, kV, doc, pm, an, cdv, ct, osl, rfl, l, c⟩, k⟩
end
section
variable {X : Cx}
theorem pv (i : Nat) {x : Str} {pos : Pos} (hN : X.N[i]? = some x := by rfl) (hv : Vis X.env.scope x := by first | exact Or.inl rfl | exact Or.inr (Or.inl rfl) | exact Or.inr (Or.inr rfl)) (hd : (x == ("__debug__" : Str)) = false := by decide)
  (hcd : (x == ("__classdict__" : Str)) = false := by decide) : PE X (.Name x pos) (tVar i) := pe_var hN hv hd hcd
end
theorem iteF {A B : Prop} (h : B) : if false = true then A else B := by
 rw [if_neg Bool.false_ne_true]
 exact h
theorem iteT {A B : Prop} (h : A) : if true = true then A else B := by
 rw [if_pos rfl]
 exact h
def Same (H H' : Hp) : Prop := ∀ b o, H b = some o -> H' b = some o
theorem Same.refl (H : Hp) : Same H H := fun _ _ h => h
theorem Same.trans {H H1 H2 : Hp} (a : Same H H1) (b : Same H1 H2) : Same H H2 := fun c o h => b c o (a c o h)
theorem Same.free {H H' : Hp} (e : Same H H') {l : Addr} (h : H' l = Option.none) : H l = Option.none := by
 cases q : H l with
 | none => rfl
 | some o =>
  rw [e l o q] at h
  cases h
theorem Same.seq {K : PySem.W.Frag} {H H' : Hp} {a : Addr} {xs : List V} (e : Same H H') (h : SqL K H a xs) : SqL K H' a xs := by
 rcases h with (h | ⟨o, h⟩) | h
 ·exact .inl (.inl (e _ _ h))
 ·exact .inl (.inr ⟨o, e _ _ h⟩)
 ·exact .inr h
theorem at_of {xs : List V} {z : Int} {j : Nat} {v : V} (e : z = (j : Int)) (h : xs[j]? = some v) : atI xs z = some v := by
 rw [e]
 exact atI_nat h
end L2
set_option maxHeartbeats 2000000
namespace L2
open PySem PySem.Spec PyProof.Rows
open PySem.W (WData Codec OpenSpec Well WellAll ReadsW ReadsAllW)
mutual
inductive Dw (K : PySem.W.Frag) (H : Hp) : V -> WData -> Prop
 | non : Dw K H .non .none
 | bl (b : Bool) : Dw K H (.bl b) (.bool b)
 | int (i : Int) : Dw K H (.int i) (.int i)
 | str (x : Str) : Dw K H (.str x) (.str x)
 | byt (b : Array UInt8) : Dw K H (.byt b) (.bytes b.toList)
 | lst {a : Addr} {xs : List V} {ds : List WData} : SqL K H a xs -> DwAll K H xs ds -> Dw K H (.ref a) (.list ds)
 | tup {a : Addr} {xs : List V} {ds : List WData} : SqT K H a xs -> DwAll K H xs ds -> Dw K H (.ref a) (.tuple ds)
inductive DwAll (K : PySem.W.Frag) (H : Hp) : List V -> List WData -> Prop
 | nil : DwAll K H [] []
 | cons {v : V} {vs : List V} {d : WData} {ds : List WData} : Dw K H v d -> DwAll K H vs ds -> DwAll K H (v :: vs) (d :: ds)
end
theorem dw_ints {K : PySem.W.Frag} {H : Hp} : ∀ ns : List Int, DwAll K H (ns.map V.int) (ns.map WData.int) := by
 intro z0
 induction z0 with
 | nil =>
  exact .nil
 | cons n r ih =>
  exact .cons (.int n) (ih)
theorem ints_dw {K : PySem.W.Frag} {H : Hp} : ∀ (ns : List Int) (xs : List V), DwAll K H xs (ns.map WData.int) -> xs = ns.map V.int := by
 intro z0
 induction z0 with
 | nil =>
  intro xs h
  cases h
  rfl
 | cons n r ih =>
  intro xs h
  cases h with
  | cons h1 h2 =>
   cases h1
   rw [ih _ h2] <;> rfl
section
variable {P : Program} {w : World} {K : PySem.W.Frag} {H : Hp} {h : Heap} {R : PySem.W.WRecords} {cl : Str -> Option Addr}
theorem sqL_at {a : Addr} {xs : List V} (hok : HOk P w H h) (KX : K.In h) (q : SqL K H a xs) : ∃ (its : List Value) (o : Obj) (n : Nat), Vals xs its /\ h.get? a = some o /\ o.cls = .type "list" /\ o.data = .seq its.toArray n := by
 rcases q with q | ⟨o, its, n, e, hc, _, hd, _, hv⟩
 ·obtain ⟨_, its, n, hv, e⟩ := (show ObjOk P w H h a (.lst xs) from q.ok hok)
  exact ⟨its, _, n, hv, e, rfl, rfl⟩
 ·exact ⟨its.toList, o, n, hv, KX _ _ e, hc, by simp [hd]⟩
theorem sqT_at {a : Addr} {xs : List V} (hok : HOk P w H h) (KX : K.In h) (q : SqT K H a xs) : ∃ (its : List Value) (o : Obj) (n : Nat), Vals xs its /\ h.get? a = some o /\ o.cls = .type "tuple" /\ o.data = .seq its.toArray n := by
 rcases q with q | ⟨o, its, n, e, hc, hd, _, hv⟩
 ·obtain ⟨_, its, hv, o, e, hc, n, hd⟩ := (show ObjOk P w H h a (.tup xs) from q.ok hok)
  exact ⟨its, o, n, hv, e, hc, hd⟩
 ·exact ⟨its.toList, o, n, hv, KX _ _ e, hc, by simp [hd]⟩
mutual
theorem Dw.reads (hok : HOk P w H h) (KX : K.In h) : ∀ (d : WData) (v : V) (u : Value), Dw K H v d -> RelV v u -> ∃ as, ReadsW R cl h u d as
 | .none, _, _, x, r => by
  cases x
  cases r
  exact ⟨_, ReadsW.none⟩
 | .bool b, _, _, x, r => by
  cases x
  cases r
  exact ⟨_, ReadsW.bool b⟩
 | .int i, _, _, x, r => by
  cases x
  obtain ⟨t, rfl⟩ := r
  exact ⟨_, ReadsW.int i t⟩
 | .str s, _, _, x, r => by
  cases x
  obtain ⟨t, rfl⟩ := r
  exact ⟨_, ReadsW.str s t⟩
 | .bytes b, _, _, x, r => by
  cases x
  obtain ⟨t, rfl⟩ := r
  exact ⟨_, ReadsW.bytes _ t⟩
 | .list ds, _, _, x, r => by
  cases x with
  | lst hs ha =>
   cases r
   obtain ⟨its, o, n, rv, ho, hc, hd⟩ := sqL_at hok KX hs
   obtain ⟨as, hr⟩ := Dw.readsAll hok KX ds _ its ha rv
   exact ⟨_, ReadsW.list ho hc hd hr⟩
 | .tuple ds, _, _, x, r => by
  cases x with
  | tup hs ha =>
   cases r
   obtain ⟨its, o, n, rv, ho, hc, hd⟩ := sqT_at hok KX hs
   obtain ⟨as, hr⟩ := Dw.readsAll hok KX ds _ its ha rv
   exact ⟨_, ReadsW.tuple ho hc hd hr⟩
 | .float _, _, _, x, _ => by cases x
 | .dict _, _, _, x, _ => by cases x
 | .bytearray _, _, _, x, _ => by cases x
 | .set _, _, _, x, _ => by cases x
 | .frozenset _, _, _, x, _ => by cases x
 | .obj _ _, _, _, x, _ => by cases x
theorem Dw.readsAll (hok : HOk P w H h) (KX : K.In h) : ∀ (ds : List WData) (vs : List V) (us : List Value), DwAll K H vs ds -> Vals vs us -> ∃ as, ReadsAllW R cl h us ds as
 | [], _, _, x, r => by
  cases x
  cases r
  exact ⟨_, ReadsAllW.nil⟩
 | d :: ds, _, _, x, r => by
  cases x with
  | cons h1 h2 =>
   cases r with
   | cons r1 r2 =>
    obtain ⟨as, q1⟩ := Dw.reads hok KX d _ _ h1 r1
    obtain ⟨bs, q2⟩ := Dw.readsAll hok KX ds _ _ h2 r2
    exact ⟨_, ReadsAllW.cons q1 q2⟩
end
end
mutual
def plW : WData -> Bool
 | .none => true
 | .bool _ => true
 | .int _ => true
 | .str _ => true
 | .bytes _ => true
 | .list xs => plWs xs
 | .tuple xs => plWs xs
 | _ => false
def plWs : List WData -> Bool
 | [] => true
 | x :: r => plW x && plWs r
end
theorem plWs_map {α : Type} {f : α -> WData} (h : ∀ a, plW (f a) = true) : ∀ l : List α, plWs (l.map f) = true := by
 intro z0
 induction z0 with
 | nil =>
  exact rfl
 | cons x r ih =>
  show (plW (f x) && plWs (r.map f)) = true
  rw [h x, ih] <;> rfl
theorem pl_enc : ∀ (c : Codec) (a : c.denote), plW (c.enc a) = true
 | .unit, _ => rfl
 | .bool, _ => rfl
 | .int _ _, _ => rfl
 | .nat _ _, _ => rfl
 | .u8, _ => rfl
 | .bytes _ _, _ => rfl
 | .text _ _ _ _, _ => rfl
 | .list _ _ c, a => plWs_map (fun x => pl_enc c x) a
 | .pair c d, a => by
  show (plW (c.enc a.1) && (plW (d.enc a.2) && true)) = true
  rw [pl_enc c a.1, pl_enc d a.2] <;> rfl
 | .triple c d e, a => by
  show (plW (c.enc a.1) && (plW (d.enc a.2.1) && (plW (e.enc a.2.2) && true))) = true
  rw [pl_enc c a.1, pl_enc d a.2.1, pl_enc e a.2.2] <;> rfl
 | .option c, none => rfl
 | .option c, some x => pl_enc c x
theorem pl_encAll : ∀ (cs : List Codec) (a : Codec.denoteAll cs), plWs (Codec.encAll cs a) = true := by
 intro z0
 induction z0 with
 | nil =>
  intro _
  exact rfl
 | cons c cs ih =>
  intro a
  show (plW (c.enc a.1) && plWs (Codec.encAll cs a.2)) = true
  rw [pl_enc c a.1, ih a.2] <;> rfl
theorem weight_mem : ∀ {xs : List WData} {d : WData}, d ∈ xs -> d.weight <= WData.weightAll xs
 | [], d, h => absurd h (by simp)
 | x :: r, d, h => by
  show d.weight <= x.weight + 1 + WData.weightAll r
  rcases List.mem_cons.mp h with e | m
  ·rw [e]
   lia
  ·have z := weight_mem m
   lia
def toV : Value -> V
 | .none => .non
 | .bool b => .bl b
 | .int i _ => .int i
 | .str x _ => .str x
 | .bytes b _ => .byt b
 | .ref a => .ref a
 | _ => .non
def OkU (A : List Addr) : Value -> Prop
 | .none => True
 | .bool _ => True
 | .int _ _ => True
 | .str _ _ => True
 | .bytes _ _ => True
 | .ref a => a ∈ A
 | _ => False
theorem OkU.mono {A B : List Addr} (h : ∀ a ∈ A, a ∈ B) : ∀ {u : Value}, OkU A u -> OkU B u := fun {u} x => by
 cases u with
 | ref a => exact h a x
 | none => trivial
 | bool b => trivial
 | int i t => trivial
 | str s t => trivial
 | bytes b t => trivial
 | _ => exact False.elim x
theorem relV_toV {A : List Addr} {u : Value} (x : OkU A u) : RelV (toV u) u := by
 cases u with
 | ref a => rfl
 | none => rfl
 | bool b => rfl
 | int i t => exact ⟨t, rfl⟩
 | str s t => exact ⟨t, rfl⟩
 | bytes b t => exact ⟨t, rfl⟩
 | _ => exact False.elim x
theorem vals_toV {A : List Addr} : ∀ {vs : List Value}, (∀ u ∈ vs, OkU A u) -> Vals (vs.map toV) vs
 | [], _ => .nil
 | u :: r, h => .cons (relV_toV (h u (List.mem_cons_self ..))) (vals_toV fun x hx => h x (List.mem_cons_of_mem _ hx))
def ArgOb (h : Heap) (A : List Addr) (a : Addr) : Prop := ∃ vs : List Value, vs.length <= sizeLine /\ (∀ u ∈ vs, OkU A u) /\
 (h.get? a = some { cls := .type "list", data := .seq vs.toArray } \/ h.get? a = some { cls := .type "tuple", data := .seq vs.toArray })
theorem ArgOb.mono {h : Heap} {A B : List Addr} {a : Addr} (k : ∀ a ∈ A, a ∈ B) (x : ArgOb h A a) : ArgOb h B a := by
 obtain ⟨vs, h1, h2, h3⟩ := x
 exact ⟨vs, h1, fun u hu => (h2 u hu).mono k, h3⟩
theorem wellAll_len {P : Params} {h : Heap} : ∀ {vs : List Value} {ds : List WData}, WellAll P h vs ds -> vs.length = ds.length
 | _, _, .nil => rfl
 | _, _, .cons _ b => by
  show _ + 1 = _ + 1
  rw [wellAll_len b]
theorem well_list {P : Params} {h : Heap} {v : Value} {ds : List WData} (x : Well P h v (.list ds)) : ∃ (a : Addr) (vs : List Value), v = .ref a /\ h.get? a = some { cls := .type "list", data := .seq vs.toArray } /\ WellAll P h vs ds := by
 cases x with
 | list ho hall => exact ⟨_, _, rfl, ho, hall⟩
theorem well_tuple {P : Params} {h : Heap} {v : Value} {ds : List WData} (x : Well P h v (.tuple ds)) : ∃ (a : Addr) (vs : List Value), v = .ref a /\ h.get? a = some { cls := .type "tuple", data := .seq vs.toArray } /\ WellAll P h vs ds := by
 cases x with
 | tuple ho hall => exact ⟨_, _, rfl, ho, hall⟩
theorem well_cons {P : Params} {h : Heap} {us : List Value} {d : WData} {ds : List WData} (x : WellAll P h us (d :: ds)) : ∃ (v : Value) (vs : List Value), us = v :: vs /\ Well P h v d /\ WellAll P h vs ds := by
 cases x with
 | cons a b => exact ⟨_, _, rfl, a, b⟩
theorem line_of {n : Nat} (h : n <= 1048576) : n <= sizeLine := Nat.le_trans h (by decide)
section
variable {P : Params} {h : Heap}
mutual
theorem area_one : ∀ (d : WData) (v : Value), Well P h v d -> plW d = true -> d.weight <= 1048576 -> ∃ A : List Addr, OkU A v /\ ∀ a ∈ A, ArgOb h A a
 | .none, _, x, _, _ => by
  cases x
  exact ⟨[], trivial, fun a m => absurd m (by simp)⟩
 | .bool b, _, x, _, _ => by
  cases x
  exact ⟨[], trivial, fun a m => absurd m (by simp)⟩
 | .int i, _, x, _, _ => by
  cases x
  exact ⟨[], trivial, fun a m => absurd m (by simp)⟩
 | .str s, _, x, _, _ => by
  cases x
  exact ⟨[], trivial, fun a m => absurd m (by simp)⟩
 | .bytes b, _, x, _, _ => by
  cases x
  exact ⟨[], trivial, fun a m => absurd m (by simp)⟩
 | .list ds, _, x, p, z => by
  obtain ⟨a, vs, rfl, ho, hall⟩ := well_list x
  have z2 : WData.weightAll ds <= 1048576 := z
  obtain ⟨A, h1, h2⟩ := area_all ds _ hall p fun d hd => Nat.le_trans (weight_mem hd) z2
  have k : ∀ b ∈ A, b ∈ a :: A := fun b hb => List.mem_cons_of_mem _ hb
  refine ⟨a :: A, List.mem_cons_self .., fun b hb => ?_⟩
  rcases List.mem_cons.mp hb with e | m
  ·rw [e]
   exact ⟨vs, line_of (by rw [wellAll_len hall]; exact Nat.le_trans (PySem.W.length_le_weightAllW ds) z2), fun u hu => (h1 u hu).mono k, .inl ho⟩
  ·exact (h2 b m).mono k
 | .tuple ds, _, x, p, z => by
  obtain ⟨a, vs, rfl, ho, hall⟩ := well_tuple x
  have z2 : WData.weightAll ds <= 1048576 := z
  obtain ⟨A, h1, h2⟩ := area_all ds _ hall p fun d hd => Nat.le_trans (weight_mem hd) z2
  have k : ∀ b ∈ A, b ∈ a :: A := fun b hb => List.mem_cons_of_mem _ hb
  refine ⟨a :: A, List.mem_cons_self .., fun b hb => ?_⟩
  rcases List.mem_cons.mp hb with e | m
  ·rw [e]
   exact ⟨vs, line_of (by rw [wellAll_len hall]; exact Nat.le_trans (PySem.W.length_le_weightAllW ds) z2), fun u hu => (h1 u hu).mono k, .inr ho⟩
  ·exact (h2 b m).mono k
 | .float _, _, _, p, _ => Bool.noConfusion (show false = true from p)
 | .dict _, _, _, p, _ => Bool.noConfusion (show false = true from p)
 | .bytearray _, _, _, p, _ => Bool.noConfusion (show false = true from p)
 | .set _, _, _, p, _ => Bool.noConfusion (show false = true from p)
 | .frozenset _, _, _, p, _ => Bool.noConfusion (show false = true from p)
 | .obj _ _, _, _, p, _ => Bool.noConfusion (show false = true from p)
theorem area_all : ∀ (ds : List WData) (vs : List Value), WellAll P h vs ds -> plWs ds = true -> (∀ d ∈ ds, d.weight <= 1048576) -> ∃ A : List Addr, (∀ u ∈ vs, OkU A u) /\ ∀ a ∈ A, ArgOb h A a
 | [], _, x, _, _ => by
  cases x
  exact ⟨[], fun u m => absurd m (by simp), fun a m => absurd m (by simp)⟩
 | d :: ds, _, x, p, z => by
  obtain ⟨v, vs, rfl, x1, x2⟩ := well_cons x
  have q : plW d = true /\ plWs ds = true := Bool.and_eq_true_iff.mp p
  obtain ⟨A, a1, a2⟩ := area_one d v x1 q.1 (z d (List.mem_cons_self ..))
  obtain ⟨B, b1, b2⟩ := area_all ds vs x2 q.2 fun e he => z e (List.mem_cons_of_mem _ he)
  have kA : ∀ b ∈ A, b ∈ A ++ B := fun b hb => List.mem_append.mpr (.inl hb)
  have kB : ∀ b ∈ B, b ∈ A ++ B := fun b hb => List.mem_append.mpr (.inr hb)
  refine ⟨A ++ B, fun u hu => ?_, fun b hb => ?_⟩
  ·rcases List.mem_cons.mp hu with e | m
   ·rw [e]
    exact a1.mono kA
   ·exact (b1 u m).mono kB
  ·rcases List.mem_append.mp hb with m | m
   ·exact (a2 b m).mono kA
   ·exact (b2 b m).mono kB
end
end
def hoOf (o : Obj) : Option HO := match o.data with
 | .seq vs _ => if (o.cls == Value.type "list") = true then some (.frz o (.lst (vs.toList.map toV))) else some (.frz o (.tup (vs.toList.map toV)))
 | _ => none
def argH (K : PySem.W.Frag) (h : Heap) (A : List Addr) : Hp := fun b => if b ∈ A then (if (K.lookup b).isNone = true then (h.get? b).bind hoOf else none) else none
def OnlyF (H : Hp) : Prop := ∀ b, H b = none \/ ∃ o u, H b = some (.frz o u)
theorem hoOf_lst (vs : List Value) : hoOf { cls := .type "list", data := .seq vs.toArray } = some (.frz { cls := .type "list", data := .seq vs.toArray } (.lst (vs.map toV))) := by
 show (if (Value.type "list" == Value.type "list") = true then some (HO.frz { cls := .type "list", data := .seq vs.toArray } (.lst (vs.toArray.toList.map toV))) else some (HO.frz { cls := .type "list", data := .seq vs.toArray } (.tup (vs.toArray.toList.map toV)))) = _
 rw [if_pos (beq_self_eq_true _)]
theorem hoOf_tup (vs : List Value) : hoOf { cls := .type "tuple", data := .seq vs.toArray } = some (.frz { cls := .type "tuple", data := .seq vs.toArray } (.tup (vs.map toV))) := by
 show (if (Value.type "tuple" == Value.type "list") = true then some (HO.frz { cls := .type "tuple", data := .seq vs.toArray } (.lst (vs.toArray.toList.map toV))) else some (HO.frz { cls := .type "tuple", data := .seq vs.toArray } (.tup (vs.toArray.toList.map toV)))) = _
 rw [if_neg (by decide)]
section
variable {P : Program} {w : World} {K : PySem.W.Frag} {h : Heap} {A : List Addr}
theorem argH_at {b : Addr} {o : Obj} (hb : b ∈ A) (hk : K.lookup b = none) (e : h.get? b = some o) : argH K h A b = hoOf o := by
 unfold argH
 rw [if_pos hb, hk, if_pos (show (none : Option Obj).isNone = true from rfl), e] <;> rfl
theorem of_argH {b : Addr} {u : HO} (q : argH K h A b = some u) : b ∈ A /\ K.lookup b = none := by
 unfold argH at q
 by_cases hb : b ∈ A
 ·rw [if_pos hb] at q
  cases hk : K.lookup b with
  | none => exact ⟨hb, rfl⟩
  | some o =>
   rw [hk, if_neg (by simp)] at q
   cases q
 ·rw [if_neg hb] at q
  cases q
theorem argH_is (ar : ∀ a ∈ A, ArgOb h A a) {b : Addr} {u : HO} (q : argH K h A b = some u) : K.lookup b = none /\ ∃ vs : List Value, vs.length <= sizeLine /\ (∀ u ∈ vs, OkU A u) /\
    ((h.get? b = some { cls := .type "list", data := .seq vs.toArray } /\ u = .frz { cls := .type "list", data := .seq vs.toArray } (.lst (vs.map toV))) \/
     (h.get? b = some { cls := .type "tuple", data := .seq vs.toArray } /\ u = .frz { cls := .type "tuple", data := .seq vs.toArray } (.tup (vs.map toV)))) := by
  obtain ⟨hb, hk⟩ := of_argH q
  obtain ⟨vs, h1, h2, h3⟩ := ar b hb
  refine ⟨hk, vs, h1, h2, ?_⟩
  rcases h3 with e | e
  · rw [argH_at hb hk e, hoOf_lst] at q
    exact .inl ⟨e, (Option.some.inj q).symm⟩
  · rw [argH_at hb hk e, hoOf_tup] at q
    exact .inr ⟨e, (Option.some.inj q).symm⟩
theorem argH_only (ar : ∀ a ∈ A, ArgOb h A a) : OnlyF (argH K h A) := fun b => by
 cases q : argH K h A b with
 | none => exact .inl rfl
 | some u =>
  obtain ⟨_, vs, _, _, ⟨_, e⟩ | ⟨_, e⟩⟩ := argH_is ar q
  ·exact .inr ⟨_, _, by rw [e]⟩
  ·exact .inr ⟨_, _, by rw [e]⟩
theorem argH_ok (ar : ∀ a ∈ A, ArgOb h A a) : HOk P w (argH K h A) h := fun b u q => by
 obtain ⟨_, vs, h1, h2, ⟨e, rfl⟩ | ⟨e, rfl⟩⟩ := argH_is ar q
 ·exact ⟨e, by rw [List.length_map]; exact h1, vs, _, vals_toV h2, e⟩
 ·exact ⟨e, by rw [List.length_map]; exact h1, vs, vals_toV h2, _, e, rfl, _, rfl⟩
theorem seq_inj {c c' : Value} {vs us : List Value} (e : (some { cls := c, data := .seq vs.toArray } : Option Obj) = some { cls := c', data := .seq us.toArray }) : c = c' /\ vs = us := by
 have e1 := Option.some.inj e
 have e2 : c = c' := congrArg Obj.cls e1
 have e3 : Data.seq vs.toArray = Data.seq us.toArray := congrArg Obj.data e1
 injection e3 with e4
 refine ⟨e2, ?_⟩
 have e5 := congrArg Array.toList e4
 simpa using e5
theorem argL (KX : K.In h) (ar : ∀ a ∈ A, ArgOb h A a) {a : Addr} {vs : List Value} (ha : a ∈ A) (e : h.get? a = some { cls := .type "list", data := .seq vs.toArray }) : (∀ u ∈ vs, OkU A u) /\ SqL K (argH K h A) a (vs.map toV) := by
 obtain ⟨us, h1, h2, h3⟩ := ar a ha
 have hu : us = vs := by
  rcases h3 with q | q
  ·rw [e] at q
   exact (seq_inj q).2.symm
  ·rw [e] at q
   exact absurd (Value.type.inj (seq_inj q).1) (by decide)
 subst hu
 refine ⟨h2, ?_⟩
 cases hk : K.lookup a with
 | none => exact .inl (.inr ⟨_, by rw [argH_at ha hk e, hoOf_lst]⟩)
 | some o =>
  have e2 := KX a o hk
  rw [e] at e2
  obtain rfl := Option.some.inj e2
  exact .inr ⟨_, us.toArray, _, hk, rfl, rfl, rfl, by rw [List.size_toArray]; exact h1, by simpa using vals_toV h2⟩
theorem argT (KX : K.In h) (ar : ∀ a ∈ A, ArgOb h A a) {a : Addr} {vs : List Value} (ha : a ∈ A) (e : h.get? a = some { cls := .type "tuple", data := .seq vs.toArray }) : (∀ u ∈ vs, OkU A u) /\ SqT K (argH K h A) a (vs.map toV) := by
 obtain ⟨us, h1, h2, h3⟩ := ar a ha
 have hu : us = vs := by
  rcases h3 with q | q
  ·rw [e] at q
   exact absurd (Value.type.inj (seq_inj q).1) (by decide)
  ·rw [e] at q
   exact (seq_inj q).2.symm
 subst hu
 refine ⟨h2, ?_⟩
 cases hk : K.lookup a with
 | none => exact .inl (.inr ⟨_, by rw [argH_at ha hk e, hoOf_tup]⟩)
 | some o =>
  have e2 := KX a o hk
  rw [e] at e2
  obtain rfl := Option.some.inj e2
  exact .inr ⟨_, us.toArray, _, hk, rfl, rfl, by rw [List.size_toArray]; exact h1, by simpa using vals_toV h2⟩
mutual
theorem dw_one {Pm : Params} (KX : K.In h) (ar : ∀ a ∈ A, ArgOb h A a) : ∀ (d : WData) (v : Value), Well Pm h v d -> plW d = true -> OkU A v -> Dw K (argH K h A) (toV v) d
 | .none, _, x, _, _ => by
  cases x
  exact .non
 | .bool b, _, x, _, _ => by
  cases x
  exact .bl b
 | .int i, _, x, _, _ => by
  cases x
  exact .int i
 | .str s, _, x, _, _ => by
  cases x
  exact .str s
 | .bytes b, _, x, _, _ => by
  cases x
  have z := Dw.byt (K := K) (H := argH K h A) b.toArray
  exact z
 | .list ds, _, x, p, hu => by
  obtain ⟨a, vs, rfl, ho, hall⟩ := well_list x
  obtain ⟨h2, hs⟩ := argL KX ar hu ho
  exact .lst hs (dw_all KX ar ds _ hall p h2)
 | .tuple ds, _, x, p, hu => by
  obtain ⟨a, vs, rfl, ho, hall⟩ := well_tuple x
  obtain ⟨h2, hs⟩ := argT KX ar hu ho
  exact .tup hs (dw_all KX ar ds _ hall p h2)
 | .float _, _, _, p, _ => Bool.noConfusion (show false = true from p)
 | .dict _, _, _, p, _ => Bool.noConfusion (show false = true from p)
 | .bytearray _, _, _, p, _ => Bool.noConfusion (show false = true from p)
 | .set _, _, _, p, _ => Bool.noConfusion (show false = true from p)
 | .frozenset _, _, _, p, _ => Bool.noConfusion (show false = true from p)
 | .obj _ _, _, _, p, _ => Bool.noConfusion (show false = true from p)
theorem dw_all {Pm : Params} (KX : K.In h) (ar : ∀ a ∈ A, ArgOb h A a) : ∀ (ds : List WData) (vs : List Value), WellAll Pm h vs ds -> plWs ds = true -> (∀ u ∈ vs, OkU A u) -> DwAll K (argH K h A) (vs.map toV) ds
 | [], _, x, _, _ => by
  cases x
  exact .nil
 | d :: ds, _, x, p, hu => by
  obtain ⟨v, vs, rfl, x1, x2⟩ := well_cons x
  have q : plW d = true /\ plWs ds = true := Bool.and_eq_true_iff.mp p
  exact .cons (dw_one KX ar d v x1 q.1 (hu _ (List.mem_cons_self ..))) (dw_all KX ar ds vs x2 q.2 fun u m => hu u (List.mem_cons_of_mem _ m))
end
end
theorem seer_hid {h h' : Heap} (x : h.NoSeer) (ns : ∀ {b : Addr} {m : Str -> Option Value}, h.Ns b m -> h'.Ns b m) (md : ∀ {b : Addr} {o : Obj}, h.get? b = some o -> o.cls = .type "module" -> h'.get? b = some o) : h'.NoSeer where
 statics := let ⟨mc, a, b⟩ := x.statics; ⟨mc, ns a, b⟩
 mods := let ⟨mc, a, b⟩ := x.mods; ⟨mc, ns a, b⟩
 imp := let ⟨mc, a, b⟩ := x.imp; ⟨mc, ns a, b⟩
 main := let ⟨mg, bm, ob, a, b, c, d, e⟩ := x.main; ⟨mg, bm, ob, ns a, b, md c d, d, e⟩
theorem spec_call {P : Program} {w : World} {K : PySem.W.Frag} {mg mb : Str -> Option Value} {CX : CXT} {k : Nat} {fa : Addr} {fd : FuncData} {ps : List Str} {sp : Sp} {s₁ : Shared} {vals : List Value} {ds : List WData} {R : PySem.W.WRecords} {cl : Str -> Option Addr} {d0 : WData}
  (KX : K.In s₁.heap) (hns : s₁.heap.Ns mainGlobals mg) (hb : s₁.heap.Ns builtinsNs mb) (hbb : ∀ x : Str, x ≠ "__name__" -> mb x = bootBuiltins x) (hlim : s₁.heap.NoLimit) (hseer : s₁.heap.NoSeer) (hg : s₁.gens = #[])
  (hwl : WellAll w.params s₁.heap vals ds) (hpl : plWs ds = true) (hwt : ∀ d ∈ ds, d.weight <= 1048576) (hr : Room k callerA)
  (F : ∀ base : Heap, K.In base -> base.Ns mainGlobals mg -> FnOk P w K mg base CX k fa fd ps sp) (hbind : ∀ (s : Shared) (us : List Value), us.length = ps.length -> BindsTo s fd ⟨us, []⟩ (ps.zip us)) (hlen : ds.length = ps.length)
  (hsp : ∀ (H : Hp) (xs : List V), OnlyF H -> DwAll K H xs ds -> sp xs H (fun v H' => Dw K H' v d0) fun _ _ _ => False)
  (hCX : ∀ H e s', CX [] H s₁ (fun _ _ _ => False) e s' -> False) :
  codeAny (model P w) callerA (.call (.ref fa) ⟨vals, []⟩) (fun r s' => ∃ u as, r = .ok (.ret u) /\ ReadsW R cl s'.heap u d0 as /\ OldK s₁.heap s'.heap /\ s'.os = s₁.os /\ AllBare s'.gens) s₁ := by
 obtain ⟨A, ho, ar⟩ := area_all ds vals hwl hpl hwt
 have hO : OnlyF (argH K s₁.heap A) := argH_only ar
 have hok : HOk P w (argH K s₁.heap A) s₁.heap := argH_ok ar
 have hS := dw_all KX ar ds vals hwl hpl ho
 have hV := vals_toV ho
 have hK : ∀ b u, argH K s₁.heap A b = some u -> K.lookup b = none := fun b u q => (argH_is ar q).1
 have noA : ∀ {b : Addr} {o : Obj} {es : Array DictEntry} {ep : Nat}, s₁.heap.get? b = some o -> o.data = .dict es ep -> argH K s₁.heap A b = none := fun {b o es ep} e d => by
  cases q : argH K s₁.heap A b with
  | none => rfl
  | some u =>
   obtain ⟨_, vs, _, _, ⟨e2, _⟩ | ⟨e2, _⟩⟩ := argH_is ar q
   ·rw [e2] at e
    cases e
    have d' : Data.seq vs.toArray _ = Data.dict es ep := d
    cases d'
   ·rw [e2] at e
    cases e
    have d' : Data.seq vs.toArray _ = Data.dict es ep := d
    cases d'
 have noM : ∀ {b : Addr} {o : Obj}, s₁.heap.get? b = some o -> o.cls = .type "module" -> argH K s₁.heap A b = none := fun {b o} e d => by
  cases q : argH K s₁.heap A b with
  | none => rfl
  | some u =>
   obtain ⟨_, vs, _, _, ⟨e2, _⟩ | ⟨e2, _⟩⟩ := argH_is ar q
   ·rw [e2] at e
    cases e
    exact absurd (show Value.type "list" = Value.type "module" from d) (by decide)
   ·rw [e2] at e
    cases e
    exact absurd (show Value.type "tuple" = Value.type "module" from d) (by decide)
 generalize argH K s₁.heap A = H at hO hok hS hK noA noM
 have base_of : ∀ {b : Addr} {o : Obj}, s₁.heap.get? b = some o -> H b = none -> (hidT s₁.heap H).get? b = some o := fun e n => hidT_get e n
 have nsK : ∀ {b : Addr} {m : Str -> Option Value}, s₁.heap.Ns b m -> (hidT s₁.heap H).Ns b m := fun {b m} ⟨o, es, ep, e, d, r⟩ => ⟨o, es, ep, base_of e (noA e d), d, r⟩
 have nK : ∀ b o, K.lookup b = some o -> H b = none := fun b o e => by
  cases q : H b with
  | none => rfl
  | some u =>
   rw [hK b u q] at e
   cases e
 have hKb : K.In (hidT s₁.heap H) := fun b o e => base_of (KX b o e) (nK b o e)
 have hM : Mod K mg (hidT s₁.heap H) := ⟨hKb, nsK hns, ⟨mb, nsK hb, hbb⟩, (let ⟨mc, h1, h2⟩ := hlim; ⟨mc, nsK h1, h2⟩), seer_hid hseer nsK fun e c => base_of e (noM e c)⟩
 have e0 : Env0 P w K mg (hidT s₁.heap H) callerA [] s₁ H := ⟨rfl, hM, fun b o e => of_hidT e, Nat.le_of_eq (hidT_size _ _), trivial, fun b hb => absurd (show b ∈ ([] : List Addr) from hb) (by simp), hok, .of_eq hg⟩
 have hl : vals.length = ps.length := by rw [wellAll_len hwl]; exact hlen
 refine codeAny_mono ((F _ hKb (nsK hns)).run callerA [] s₁ H ⟨vals, []⟩ vals (vals.map toV) _ _ hr e0 (hbind s₁ vals hl) hV (hsp H _ hO hS)) fun r s' x => ?_
 cases r with
 | error e => exact (hCX H e s' x).elim
 | ok fl =>
  cases fl with
  | next => exact False.elim x
  | brk => exact False.elim x
  | cont => exact False.elim x
  | ret u =>
   obtain ⟨v, H', os, bare, un, hok', r', q⟩ := x
   have kept : ∀ b o, s₁.heap.get? b = some o -> s'.heap.get? b = some o := fun b o e => by
    cases q2 : H b with
    | none => exact un.keep b o e q2 (by intro z; exact absurd (show b ∈ ([] : List Addr) from z) (by simp)) (by simp)
    | some u2 =>
     rcases hO b with z | ⟨ob, u3, z⟩
     ·rw [q2] at z
      cases z
     ·have z2 := un.frzs b ob _ z
      obtain ⟨e1, _⟩ := hok b _ z
      obtain ⟨e2, _⟩ := hok' b _ z2
      rw [e] at e1
      cases e1
      exact e2
   have KX' : K.In s'.heap := fun b o e => kept b o (KX b o e)
   obtain ⟨as, hrd⟩ := Dw.reads (R := R) (cl := cl) hok' KX' d0 v u q r'
   exact ⟨u, as, rfl, hrd, OldK.of_keep kept, os, bare⟩
theorem layable_weight {ds : List WData} (h : WData.layableAll ds = true) : ∀ d ∈ ds, d.weight <= 1048576 := fun d hd =>
 (PySem.W.layableW_iff.mp (List.all_eq_true.mp h d hd)).2.2
theorem encAll_len : ∀ (cs : List Codec) (a : Codec.denoteAll cs), (Codec.encAll cs a).length = cs.length := by
 intro z0
 induction z0 with
 | nil =>
  intro _
  exact rfl
 | cons c cs ih =>
  intro a
  show (Codec.encAll cs a.2).length + 1 = cs.length + 1
  rw [ih a.2]
theorem walk_spec {r : OpenSpec} {k : Nat} {q : Program} {loose : List Str} {XP : (Str -> Option Value) -> Heap -> Prop} {YP : World -> Heap -> Prop} {d : DefRec} {K : Params -> PySem.W.Frag} {CX : World -> CXT} {ps : List Str} {sp : World -> Sp}
  (himp : importsNone q = true) (hwell : r.wellSaid = true) (hdf : d.params.defaults = []) (hlen : r.args.length = ps.length) (hr : Room k callerA)
  (hY : ∀ (w : World) (h : Heap), YP w h -> (K w.params).In h)
  (F : ∀ (w : World) (mg : Str -> Option Value) (fa : Addr) (h : Heap), YP w h -> (K w.params).In h -> h.Ns mainGlobals mg -> mg d.name = some (.ref fa) ->
   ∃ fd : FuncData, (∀ (s : Shared) (us : List Value), us.length = ps.length -> BindsTo s fd ⟨us, []⟩ (ps.zip us)) /\
    ∀ base : Heap, (K w.params).In base -> base.Ns mainGlobals mg -> FnOk r.prog w (K w.params) mg base (CX w) k fa fd ps (sp w))
  (hsp : ∀ (w : World) (H : Hp) (xs : List V) (a : Codec.denoteAll r.args), OnlyF H -> Codec.withinAll r.args a = true -> Codec.app r.args r.asked a = true -> DwAll (K w.params) H xs (Codec.encAll r.args a) ->
   sp w xs H (fun v H' => Dw (K w.params) H' v (r.ret.enc (Codec.app r.args r.f a))) fun _ _ _ => False)
  (hCX : ∀ (w : World) (H : Hp) (s : Shared) (e : Value) (s' : Shared), CX w [] H s (fun _ _ _ => False) e s' -> False) :
  PySem.W.WalkOS q loose XP YP r d [] (fun f vs => PySem.call f vs) := by
 intro w s_0 s₁ mg mb G Y fa o pm cd doc dV kV ho hd hcd hD hmg hg args vals as hpre hlay hrd hwl hlo
 obtain ⟨a, e1, e2⟩ := PySem.W.os_pre_some hpre
 obtain ⟨e3, hwi⟩ := Codec.encAll_of_decAll r.args args a e1
 subst e3
 have KX := hY w _ Y
 obtain ⟨fd, hb, hF⟩ := F w mg fa _ Y KX G.T.g hmg
 refine PySem.W.enter_call (codeAny_mono (spec_call (R := []) (cl := classAt s_0.heap) (d0 := r.ret.enc (Codec.app r.args r.f a)) KX G.T.g G.T.b G.T.builtins G.T.nolimit (G.T.seer himp) hg hwl (pl_encAll _ _) (layable_weight hlay) hr hF hb (by rw [encAll_len]; exact hlen)
  (fun H xs hO hS => hsp w H xs a hO hwi e2 hS) fun H e s' => hCX w H s₁ e s') fun r' s' hq => ?_)
 obtain ⟨u, as', rfl, h1, h2, h3, h4⟩ := hq
 exact ⟨.inl ⟨u, _, as', rfl, fun _ => rfl, h1, (OpenSpec.post_iff hwell hwi _ _).mpr rfl, fun z => Bool.noConfusion (show false = true from z)⟩, h2, h3, h4⟩
theorem walk_specK {r : OpenSpec} {k : Nat} {q : Program} {loose : List Str} {XP : (Str -> Option Value) -> Heap -> Prop} {YP : World -> Heap -> Prop} {d : DefRec} {K : Params -> PySem.W.Frag} {CX : CXT} {ps : List Str} {sp : PySem.W.Frag -> Sp}
  (himp : importsNone q = true) (hwell : r.wellSaid = true) (hdf : d.params.defaults = []) (hlen : r.args.length = ps.length) (hr : Room k callerA)
  (hY : ∀ (w : World) (h : Heap), YP w h -> (K w.params).In h)
  (F : ∀ (w : World) (mg : Str -> Option Value) (fa : Addr) (h : Heap), YP w h -> (K w.params).In h -> h.Ns mainGlobals mg -> mg d.name = some (.ref fa) ->
   ∃ fd : FuncData, (∀ (s : Shared) (us : List Value), us.length = ps.length -> BindsTo s fd ⟨us, []⟩ (ps.zip us)) /\
    ∀ base : Heap, (K w.params).In base -> base.Ns mainGlobals mg -> FnOk r.prog w (K w.params) mg base CX k fa fd ps (sp (K w.params)))
  (hsp : ∀ (K : PySem.W.Frag) (H : Hp) (xs : List V) (a : Codec.denoteAll r.args), OnlyF H -> Codec.withinAll r.args a = true -> Codec.app r.args r.asked a = true -> DwAll K H xs (Codec.encAll r.args a) ->
   sp K xs H (fun v H' => Dw K H' v (r.ret.enc (Codec.app r.args r.f a))) fun _ _ _ => False)
  (hCX : ∀ (H : Hp) (s : Shared) (e : Value) (s' : Shared), CX [] H s (fun _ _ _ => False) e s' -> False) :
  PySem.W.WalkOS q loose XP YP r d [] (fun f vs => PySem.call f vs) :=
 walk_spec (K := K) (CX := fun _ => CX) (sp := fun w => sp (K w.params)) himp hwell hdf hlen hr hY F (fun w H xs a h1 h2 h3 h4 => hsp (K w.params) H xs a h1 h2 h3 h4) fun _ H s e s' => hCX H s e s'
end L2
set_option Elab.async false
namespace My
open WrAlgn
def dvs (t b : Int) : Int := if b < 0 then -(Int.gcd t b : Int) else (Int.gcd t b : Int)
theorem gcd_pos {t b : Int} (hb : b ≠ 0) : 0 < Int.gcd t b := Int.gcd_pos_of_ne_zero_right t hb
theorem dvs_ne {t b : Int} (hb : b ≠ 0) : dvs t b ≠ 0 := by
 have := gcd_pos (t := t) hb
 unfold dvs; split <;> lia
theorem fdiv_of_dvd {a g : Int} (hg : g ≠ 0) (h : g ∣ a) : a.fdiv g = a / g := by
 obtain ⟨k, rfl⟩ := h
 rw [Int.mul_fdiv_cancel_left _ hg, Int.mul_ediv_cancel_left _ hg]
theorem low_num {t b : Int} (hb : b ≠ 0) : t.fdiv (dvs t b) = (Rat.divInt t b).num := by
 have hp := gcd_pos (t := t) hb
 have hd : (Int.gcd t b : Int) ∣ t := Int.gcd_dvd_left ..
 rw [Rat.num_divInt, Int.gcd_comm b t]
 unfold dvs
 by_cases h : b < 0
 ·rw [if_pos h, fdiv_of_dvd (by lia) (Int.neg_dvd.mpr hd), Int.sign_eq_neg_one_of_neg h]
  rw [Int.ediv_neg, Int.neg_mul, Int.one_mul, Int.neg_ediv_of_dvd hd]
 ·rw [if_neg h, fdiv_of_dvd (by lia) hd, Int.sign_eq_one_of_pos (by lia), Int.one_mul]
theorem low_den {t b : Int} (hb : b ≠ 0) : b.fdiv (dvs t b) = ((Rat.divInt t b).den : Int) := by
 have hp := gcd_pos (t := t) hb
 have hd : (Int.gcd t b : Int) ∣ b := Int.gcd_dvd_right ..
 rw [Rat.den_divInt, if_neg hb, Int.gcd_comm b t, Int.natCast_ediv]
 unfold dvs
 by_cases h : b < 0
 ·rw [if_pos h, fdiv_of_dvd (by lia) (Int.neg_dvd.mpr hd), Int.ediv_neg, <- Int.neg_ediv_of_dvd hd]
  congr 1
  lia
 ·rw [if_neg h, fdiv_of_dvd (by lia) hd]
  congr 1
  lia
theorem add_low (x y : Rat) : Rat.divInt (x.num * y.den + y.num * x.den) ((x.den : Int) * y.den) = x + y := by
 rw [<- Rat.divInt_add_divInt _ _ (by simp [x.den_nz]) (by simp [y.den_nz]), Rat.num_divInt_den, Rat.num_divInt_den]
theorem mul_low (x y : Rat) : Rat.divInt (x.num * y.num) ((x.den : Int) * y.den) = x * y := by
 rw [<- Rat.divInt_mul_divInt, Rat.num_divInt_den, Rat.num_divInt_den]
theorem div_low (x y : Rat) : Rat.divInt (x.num * y.den) ((x.den : Int) * y.num) = x / y := by
 rw [<- Rat.divInt_mul_divInt, Rat.num_divInt_den, Rat.div_def, Rat.inv_def]
theorem den_mul_ne (x y : Rat) : (x.den : Int) * y.den ≠ 0 := by
 have h1 := x.den_pos; have h2 := y.den_pos
 have := Int.mul_pos (Int.natCast_pos.mpr h1) (Int.natCast_pos.mpr h2)
 lia
structure Sz (x : Rat) (n : Nat) : Prop where
 num : x.num.natAbs < 2 ^ n
 den : x.den < 2 ^ n
theorem Sz.mono {x : Rat} {m n : Nat} (h : Sz x m) (hm : m <= n) : Sz x n :=
 ⟨Nat.lt_of_lt_of_le h.num (Nat.pow_le_pow_right (by decide) hm), Nat.lt_of_lt_of_le h.den (Nat.pow_le_pow_right (by decide) hm)⟩
theorem divInt_le {t b : Int} (hb : b ≠ 0) : (Rat.divInt t b).num.natAbs <= t.natAbs /\ (Rat.divInt t b).den <= b.natAbs := by
 constructor
 ·rw [Rat.num_divInt]
  have hd : (Int.gcd b t : Int) ∣ b.sign * t := Int.dvd_trans (Int.gcd_dvd_right ..) (Int.dvd_mul_left ..)
  rw [Int.natAbs_ediv_of_dvd hd, Int.natAbs_mul]
  have hs : b.sign.natAbs <= 1 := by
   rcases Int.lt_trichotomy b 0 with h | h | h
   ·rw [Int.sign_eq_neg_one_of_neg h]; decide
   ·exact absurd h hb
   ·rw [Int.sign_eq_one_of_pos h]; decide
  refine Nat.le_trans (Nat.div_le_self _ _) ?_
  exact Nat.le_trans (Nat.mul_le_mul_right _ hs) (by lia)
 ·rw [Rat.den_divInt, if_neg hb]
  exact Nat.div_le_self _ _
theorem lt_mul_pow {a b m n : Nat} (h1 : a < 2 ^ m) (h2 : b < 2 ^ n) : a * b < 2 ^ (m + n) := by
 rw [Nat.pow_add]
 exact Nat.mul_lt_mul'' h1 h2
theorem mul_nat (a b : Int) : (a * b).natAbs = a.natAbs * b.natAbs := Int.natAbs_mul a b
theorem Sz.mul {x y : Rat} {m n : Nat} (h : Sz x m) (k : Sz y n) : Sz (x * y) (m + n) := by
 rw [<- mul_low]
 obtain ⟨h1, h2⟩ := divInt_le (t := x.num * y.num) (den_mul_ne x y)
 refine ⟨Nat.lt_of_le_of_lt h1 ?_, Nat.lt_of_le_of_lt h2 ?_⟩
 ·rw [mul_nat]; exact lt_mul_pow h.num k.num
 ·rw [mul_nat]; exact lt_mul_pow h.den k.den
theorem lt_add_pow {a b n : Nat} (h1 : a < 2 ^ n) (h2 : b < 2 ^ n) : a + b < 2 ^ (n + 1) := by
 rw [Nat.pow_succ]; lia
theorem Sz.add {x y : Rat} {m n : Nat} (h : Sz x m) (k : Sz y n) : Sz (x + y) (m + n + 1) := by
 rw [<- add_low]
 obtain ⟨h1, h2⟩ := divInt_le (t := x.num * y.den + y.num * x.den) (den_mul_ne x y)
 have a1 : x.num.natAbs * y.den < 2 ^ (m + n) := lt_mul_pow h.num k.den
 have a2 : y.num.natAbs * x.den < 2 ^ (m + n) := by rw [Nat.add_comm]; exact lt_mul_pow k.num h.den
 have a3 := Int.natAbs_add_le (x.num * y.den) (y.num * x.den)
 rw [mul_nat, mul_nat, Int.natAbs_natCast, Int.natAbs_natCast] at a3
 refine ⟨Nat.lt_of_le_of_lt (Nat.le_trans h1 a3) (lt_add_pow a1 a2), Nat.lt_of_le_of_lt h2 ?_⟩
 rw [mul_nat]
 exact Nat.lt_trans (lt_mul_pow h.den k.den) (Nat.pow_lt_pow_right (by decide) (by lia))
theorem num_ne {y : Rat} (hy : y ≠ 0) : y.num ≠ 0 := fun h => hy (Rat.num_eq_zero.mp h)
theorem den_mul_num_ne {x y : Rat} (hy : y ≠ 0) : (x.den : Int) * y.num ≠ 0 :=
 Int.mul_ne_zero (by have := x.den_pos; lia) (num_ne hy)
theorem ofFrac_eq {x : Frac} (h : fracOk x = true) : (ofFrac x).num = x.1 /\ ((ofFrac x).den : Int) = x.2 := by
 unfold fracOk at h
 simp only [Bool.and_eq_true, decide_eq_true_eq] at h
 obtain ⟨h1, h2, _, _⟩ := h
 have e : ofFrac x = Rat.divInt x.1 x.2 := by unfold ofFrac; rw [Rat.divInt_eq_div]
 have hg : Int.gcd x.2 x.1 = 1 := by rw [Int.gcd_comm]; exact h2
 rw [e]
 constructor
 ·rw [Rat.num_divInt, hg, Int.sign_eq_one_of_pos h1]; simp
 ·rw [Rat.den_divInt, if_neg (by lia), hg]; lia
theorem fracOk_sz {x : Frac} (h : fracOk x = true) : Sz (ofFrac x) 20 := by
 obtain ⟨e1, e2⟩ := ofFrac_eq h
 unfold fracOk BIG at h
 simp only [Bool.and_eq_true, decide_eq_true_eq] at h
 obtain ⟨h1, h2, h3, h4⟩ := h
 constructor
 ·rw [e1]; exact Nat.lt_trans h3 (by decide)
 ·have : (ofFrac x).den < 10 ^ 6 := by lia
  exact Nat.lt_trans this (by decide)
theorem fracOk_iff (t b : Int) : fracOk (t, b) = (if b < 1 \/ 1000000 <= b \/ 1000000 <= (if t < 0 then -t else t) then false else decide (((Int.gcd t b : Nat) : Int) = 1)) := by
 unfold fracOk BIG
 show (decide (0 < b) && (decide (Nat.gcd t.natAbs b.natAbs = 1) && (decide (t.natAbs < 10 ^ 6) && decide (b.natAbs < 10 ^ 6)))) = _
 by_cases h : b < 1 \/ 1000000 <= b \/ 1000000 <= (if t < 0 then -t else t)
 ·rw [if_pos h]
  rw [Bool.eq_false_iff]
  intro q
  simp only [Bool.and_eq_true, decide_eq_true_eq] at q
  obtain ⟨q1, q2, q3, q4⟩ := q
  split at h <;> lia
 ·rw [if_neg h]
  have h1 : 0 < b := by lia
  have h2 : t.natAbs < 10 ^ 6 := by split at h <;> lia
  have h3 : b.natAbs < 10 ^ 6 := by omega
  rw [decide_eq_true h1, decide_eq_true h2, decide_eq_true h3]
  simp only [Bool.true_and, Bool.and_true]
  have : Int.gcd t b = Nat.gcd t.natAbs b.natAbs := rfl
  rw [this]
  by_cases e : Nat.gcd t.natAbs b.natAbs = 1
  ·rw [decide_eq_true e, e]; rfl
  ·rw [decide_eq_false e, decide_eq_false (by lia)]
open WrAlgnNeutral (fracs)
def flat (fs : List Frac) : List Int := fs.flatMap fun x => [x.1, x.2]
theorem flat_len : ∀ fs : List Frac, (flat fs).length = 2 * fs.length := by
 intro z0
 induction z0 with
 | nil =>
  exact rfl
 | cons x r ih =>
  show (flat r).length + 1 + 1 = 2 * (r.length + 1)
  rw [ih]; lia
theorem flat_fracs : ∀ {n : Nat} {ns : List Int}, ns.length = 2 * n -> flat (fracs ns) = ns /\ (fracs ns).length = n
 | 0, [], _ => ⟨rfl, rfl⟩
 | n + 1, a :: b :: r, h => by
  have h' : r.length = 2 * n := by simp at h; lia
  obtain ⟨e1, e2⟩ := flat_fracs h'
  constructor
  ·show a :: b :: flat (fracs r) = a :: b :: r
   rw [e1]
  ·show (fracs r).length + 1 = n + 1
   rw [e2]
 | 0, _ :: _, h => by simp at h
 | n + 1, [], h => by simp at h
 | n + 1, [_], h => by simp at h; lia
theorem flat_at : ∀ {fs : List Frac} {k : Nat} {x : Frac}, fs[k]? = some x -> (flat fs)[2 * k]? = some x.1 /\ (flat fs)[2 * k + 1]? = some x.2
 | [], k, x, h => by simp at h
 | y :: r, 0, x, h => by
  have e : y = x := by simpa using h
  subst e
  exact ⟨rfl, rfl⟩
 | y :: r, k + 1, x, h => by
  obtain ⟨h1, h2⟩ := flat_at (fs := r) (k := k) (x := x) (by simpa using h)
  have e1 : 2 * (k + 1) = 2 * k + 1 + 1 := by lia
  have e2 : 2 * (k + 1) + 1 = 2 * k + 1 + 1 + 1 := by lia
  rw [e2, e1]
  exact ⟨h1, h2⟩
theorem at_rev (p : Poly) (x : Rat) : p.reverse.foldl (fun v a => v * x + a) 0 = at_ p x := by
 unfold at_
 rw [List.foldl_reverse]
 congr 1
 funext c v
 rw [Rat.add_comm, Rat.mul_comm]
def polySz (p : Poly) (n : Nat) : Prop := ∀ c ∈ p, Sz c n
theorem ofPoly_sz {fs : List Frac} (h : fs.all fracOk = true) : polySz (ofPoly fs) 20 := by
 intro c hc
 obtain ⟨x, hx, rfl⟩ := List.mem_map.mp hc
 exact fracOk_sz (List.all_eq_true.mp h x hx)
theorem zero_sz : Sz 0 1 := ⟨by decide, by decide⟩
def co (p : Poly) (i : Nat) : Rat := p.getD i 0
def Nm (p : Poly) : Prop := p.getLast? ≠ some 0
theorem co_nil (i : Nat) : co [] i = 0 := by simp [co]
theorem co_cons_zero (a : Rat) (p : Poly) : co (a :: p) 0 = a := by simp [co]
theorem co_cons_succ (a : Rat) (p : Poly) (i : Nat) : co (a :: p) (i + 1) = co p i := by simp [co]
theorem co_of_ge {p : Poly} {i : Nat} (h : p.length <= i) : co p i = 0 := by
 unfold co; rw [List.getD_eq_getElem?_getD, List.getElem?_eq_none_iff.mpr h]; rfl
theorem co_of_get {p : Poly} {i : Nat} {c : Rat} (h : p[i]? = some c) : co p i = c := by
 unfold co; rw [List.getD_eq_getElem?_getD, h]; rfl
theorem co_lt {p : Poly} {i : Nat} (h : i < p.length) : p[i]? = some (co p i) := by
 unfold co; rw [List.getD_eq_getElem?_getD, List.getElem?_eq_getElem h]; rfl
theorem co_append (p q : Poly) (i : Nat) : co (p ++ q) i = if i < p.length then co p i else co q (i - p.length) := by
 unfold co
 simp only [List.getD_eq_getElem?_getD, List.getElem?_append]
 split <;> rfl
theorem norm_snoc (p : Poly) (c : Rat) : norm (p ++ [c]) = if c = 0 then norm p else p ++ [c] := by
 unfold norm
 rw [List.reverse_append, List.reverse_singleton, List.singleton_append, List.dropWhile_cons]
 by_cases h : c = 0
 ·subst h; simp
 ·rw [if_neg (by simpa using h), if_neg h]; simp
theorem snoc_ind {P : Poly -> Prop} (h0 : P []) (hs : ∀ p c, P p -> P (p ++ [c])) : ∀ p, P p := by
 have H : ∀ n (p : Poly), p.length = n -> P p := by
  intro n
  induction n with
  | zero => intro p hp; rw [List.length_eq_zero_iff.mp hp]; exact h0
  | succ n ih =>
   intro p hp
   have hne : p ≠ [] := fun e => by rw [e] at hp; simp at hp
   rw [<- List.dropLast_concat_getLast hne]
   exact hs _ _ (ih _ (by rw [List.length_dropLast]; lia))
 exact fun p => H _ p rfl
theorem nm_nil : Nm [] := by simp [Nm]
theorem nm_snoc {p : Poly} {c : Rat} (h : c ≠ 0) : Nm (p ++ [c]) := by
 unfold Nm; rw [List.getLast?_append]; simpa using h
theorem nm_norm (p : Poly) : Nm (norm p) := by
 refine snoc_ind (P := fun p => Nm (norm p)) nm_nil (fun p c ih => ?_) p
 rw [norm_snoc]
 split
 ·exact ih
 ·exact nm_snoc (by assumption)
theorem norm_of_nm {p : Poly} (h : Nm p) : norm p = p := by
 revert h
 refine snoc_ind (P := fun p => Nm p -> norm p = p) (fun _ => rfl) (fun p c _ h => ?_) p
 rw [norm_snoc, if_neg]
 intro e
 apply h
 rw [List.getLast?_append, e]; rfl
theorem co_norm (p : Poly) (i : Nat) : co (norm p) i = co p i := by
 revert i
 refine snoc_ind (P := fun p => ∀ i, co (norm p) i = co p i) (fun i => rfl) (fun p c ih i => ?_) p
 rw [norm_snoc]
 split
 ·rename_i h
  rw [ih, co_append, h]
  split
  ·rfl
  ·rename_i h2
   rw [co_of_ge (by lia)]
   unfold co
   cases i - p.length with
   | zero => rfl
   | succ n => simp
 ·rfl
theorem lead_snoc (p : Poly) (c : Rat) : lead (p ++ [c]) = c := by
 unfold lead; rw [List.getLastD_eq_getLast?, List.getLast?_append]; rfl
theorem nm_cases {p : Poly} (h : Nm p) : p = [] \/ ∃ q c, p = q ++ [c] /\ c ≠ 0 := by
 by_cases hne : p = []
 ·exact .inl hne
 ·refine .inr ⟨p.dropLast, p.getLast hne, (List.dropLast_concat_getLast hne).symm, fun e => h ?_⟩
  rw [List.getLast?_eq_some_getLast hne, e]
theorem lead_co (p : Poly) : lead p = co p (p.length - 1) := by
 refine snoc_ind (P := fun p => lead p = co p (p.length - 1)) rfl (fun p c _ => ?_) p
 rw [lead_snoc, co_append, List.length_append]
 simp [co]
theorem lead_ne {p : Poly} (h : Nm p) (hne : p ≠ []) : lead p ≠ 0 := by
 rcases nm_cases h with e | ⟨q, c, rfl, hc⟩
 ·exact absurd e hne
 ·rw [lead_snoc]; exact hc
theorem nm_le {p : Poly} {n : Nat} (h : Nm p) (hz : ∀ i, n <= i -> co p i = 0) : p.length <= n := by
 rcases nm_cases h with e | ⟨q, c, rfl, hc⟩
 ·rw [e]; exact Nat.zero_le _
 ·rcases Nat.lt_or_ge n (q ++ [c]).length with hl | hl
  ·exfalso
   have := hz q.length (by simp at hl; lia)
   rw [co_append, if_neg (by lia)] at this
   simp [co] at this
   exact hc this
  ·exact hl
theorem ext_nm {p q : Poly} (hp : Nm p) (hq : Nm q) (h : ∀ i, co p i = co q i) : p = q := by
 have l1 : p.length <= q.length := nm_le hp fun i hi => by rw [h, co_of_ge hi]
 have l2 : q.length <= p.length := nm_le hq fun i hi => by rw [<- h, co_of_ge hi]
 apply List.ext_getElem?
 intro i
 by_cases hi : i < p.length
 ·rw [co_lt hi, co_lt (by lia), h]
 ·rw [List.getElem?_eq_none_iff.mpr (by lia), List.getElem?_eq_none_iff.mpr (by lia)]
theorem ext_norm {p q : Poly} (h : ∀ i, co p i = co q i) : norm p = norm q :=
 ext_nm (nm_norm p) (nm_norm q) fun i => by rw [co_norm, co_norm, h]
theorem norm_eq_of {p q : Poly} (hq : Nm q) (h : ∀ i, co p i = co q i) : norm p = q :=
 ext_nm (nm_norm p) hq fun i => by rw [co_norm, h]
theorem take_norm {p : Poly} {s : Nat} (hs : s <= p.length) (hz : ∀ i, s <= i -> co p i = 0) (hl : s = 0 \/ co p (s - 1) ≠ 0) : p.take s = norm p := by
 have hco : ∀ i, co (p.take s) i = co p i := fun i => by
  by_cases hi : i < s
  ·refine co_of_get ?_
   rw [List.getElem?_take_of_lt hi]
   exact co_lt (by lia)
  ·rw [co_of_ge (by rw [List.length_take]; lia), hz i (by lia)]
 refine (norm_eq_of ?_ fun i => (hco i).symm).symm
 rcases hl with rfl | hl
 ·simp [nm_nil]
 ·unfold Nm
  intro e
  rw [List.getLast?_eq_getElem?, List.length_take, Nat.min_eq_left hs] at e
  by_cases h0 : s = 0
  ·subst h0; simp at e
  ·rw [List.getElem?_take_of_lt (by lia)] at e
   exact hl (co_of_get e)
theorem zip_co {f : Rat -> Rat -> Rat} (hf : f 0 0 = 0) : ∀ (p q : Poly) (i : Nat), co (zipWith f p q) i = f (co p i) (co q i)
 | [], [], i => by rw [zipWith, co_nil, hf]
 | a :: r, [], 0 => by rw [zipWith, co_cons_zero, co_cons_zero, co_nil]
 | a :: r, [], i + 1 => by rw [zipWith, co_cons_succ, co_cons_succ, zip_co hf r [] i, co_nil, co_nil]
 | [], b :: s, 0 => by rw [zipWith, co_cons_zero, co_cons_zero, co_nil]
 | [], b :: s, i + 1 => by rw [zipWith, co_cons_succ, co_cons_succ, zip_co hf [] s i, co_nil, co_nil]
 | a :: r, b :: s, 0 => by rw [zipWith, co_cons_zero, co_cons_zero, co_cons_zero]
 | a :: r, b :: s, i + 1 => by rw [zipWith, co_cons_succ, co_cons_succ, co_cons_succ, zip_co hf r s i]
theorem co_add (p q : Poly) (i : Nat) : co (add p q) i = co p i + co q i := by
 unfold add; rw [co_norm, zip_co (by grind)]
theorem co_sub (p q : Poly) (i : Nat) : co (sub p q) i = co p i - co q i := by
 unfold sub; rw [co_norm, zip_co (by grind)]
theorem co_map (c : Rat) (p : Poly) (i : Nat) : co (p.map fun a => c * a) i = c * co p i := by
 unfold co
 rw [List.getD_eq_getElem?_getD, List.getD_eq_getElem?_getD, List.getElem?_map]
 cases p[i]? with
 | none => simp
 | some x => simp
theorem co_scale (c : Rat) (p : Poly) (i : Nat) : co (scale c p) i = c * co p i := by
 unfold scale; rw [co_norm, co_map]
theorem nm_add (p q : Poly) : Nm (add p q) := nm_norm _
theorem nm_sub (p q : Poly) : Nm (sub p q) := nm_norm _
theorem nm_scale (c : Rat) (p : Poly) : Nm (scale c p) := nm_norm _
theorem nm_mul : ∀ p q : Poly, Nm (mul p q)
 | [], _ => nm_nil
 | _ :: _, _ => nm_add _ _
theorem co_cons (a : Rat) (p : Poly) (i : Nat) : co (a :: p) i = if i = 0 then a else co p (i - 1) := by
 cases i with
 | zero => rw [co_cons_zero, if_pos rfl]
 | succ n => rw [co_cons_succ, if_neg (by lia)]; rfl
theorem co_mul_cons (a : Rat) (r q : Poly) (i : Nat) : co (mul (a :: r) q) i = a * co q i + if i = 0 then 0 else co (mul r q) (i - 1) := by
 rw [mul, co_add, co_scale, co_norm, co_cons]
def pm (p q : Poly) : Nat -> Nat -> Rat
 | 0, _ => 0
 | n + 1, j => pm p q n j + if n <= j then co p n * co q (j - n) else 0
theorem pm_cons (a : Rat) (r q : Poly) : ∀ n j, pm (a :: r) q (n + 1) j = a * co q j + if j = 0 then 0 else pm r q n (j - 1) := by
 intro z0
 induction z0 with
 | zero =>
  intro j
  simp only [pm, co_cons_zero]
  rw [if_pos (Nat.zero_le _), Nat.sub_zero]
  split <;> grind
 | succ n ih =>
  intro j
  rw [pm, ih j, co_cons_succ]
  by_cases hj : j = 0
  ·subst hj; simp; grind
  ·rw [if_neg hj, if_neg hj, pm]
   by_cases h : n + 1 <= j
   ·rw [if_pos h, if_pos (by lia), show j - 1 - n = j - (n + 1) by lia]; grind
   ·rw [if_neg h, if_neg (by lia)]; grind
theorem co_mul : ∀ (p q : Poly) (j : Nat), co (mul p q) j = pm p q p.length j := by
 intro z0
 induction z0 with
 | nil =>
  intro q j
  rw [mul, co_nil]; rfl
 | cons a r ih =>
  intro q j
  rw [co_mul_cons, List.length_cons, pm_cons]
  split
  ·rfl
  ·rw [ih q]
theorem pm_high {p q : Poly} : ∀ {n j : Nat}, n + q.length <= j + 1 -> n <= j + 1 -> (∀ i, i < n -> j < i + q.length -> co p i = 0) -> pm p q n j = 0
 | 0, j, _, _, _ => rfl
 | n + 1, j, h1, h2, h3 => by
  rw [pm, pm_high (by lia) (by lia) (fun i hi => h3 i (by lia))]
  split
  ·rw [co_of_ge (p := q) (by lia)]; grind
  ·grind
theorem pm_last {p q : Poly} (hp : p ≠ []) (hq : q ≠ []) : pm p q p.length (p.length + q.length - 2) = lead p * lead q := by
 have l1 : 0 < p.length := List.length_pos_iff.mpr hp
 have l2 : 0 < q.length := List.length_pos_iff.mpr hq
 obtain ⟨n, hn⟩ : ∃ n, p.length = n + 1 := ⟨p.length - 1, by lia⟩
 rw [hn, pm, pm_high (by lia) (by lia) (fun i hi h => by lia), if_pos (by lia), lead_co p, lead_co q, hn]
 rw [show n + 1 + q.length - 2 - n = q.length - 1 by lia, show n + 1 - 1 = n by lia]
 grind
theorem prod_eq {p q : Poly} (hp : Nm p) (hq : Nm q) (hp0 : p ≠ []) (hq0 : q ≠ []) {l : Poly} (hl : l.length = p.length + q.length - 1) (h : ∀ j, j < l.length -> co l j = pm p q p.length j) : l = mul p q := by
 have l1 : 0 < p.length := List.length_pos_iff.mpr hp0
 have l2 : 0 < q.length := List.length_pos_iff.mpr hq0
 refine ext_nm ?_ (nm_mul p q) fun j => ?_
 ·unfold Nm
  intro e
  rw [List.getLast?_eq_getElem?] at e
  have e1 := co_of_get e
  rw [h _ (by lia), hl, show p.length + q.length - 1 - 1 = p.length + q.length - 2 by lia, pm_last hp0 hq0] at e1
  rcases Rat.mul_eq_zero.mp e1 with z | z
  ·exact lead_ne hp hp0 z
  ·exact lead_ne hq hq0 z
 ·rw [co_mul]
  by_cases hj : j < l.length
  ·exact h j hj
  ·rw [co_of_ge (by lia), pm_high (by lia) (by lia) (fun i hi h => by lia)]
theorem co_mono (f : Rat) (q : Poly) : ∀ n i : Nat, co (mul (List.replicate n 0 ++ [f]) q) i = if n <= i then f * co q (i - n) else 0 := by
 intro z0
 induction z0 with
 | zero =>
  intro i
  show co (mul [f] q) i = _
  rw [co_mul_cons, mul, if_pos (Nat.zero_le _)]
  split
  ·simp; grind
  ·rw [co_nil]; simp; grind
 | succ n ih =>
  intro i
  show co (mul (0 :: (List.replicate n 0 ++ [f])) q) i = _
  rw [co_mul_cons]
  by_cases hi : i = 0
  ·subst hi; simp; grind
  ·rw [if_neg hi, ih (i - 1)]
   by_cases h : n + 1 <= i
   ·rw [if_pos h, if_pos (by lia), show i - 1 - n = i - (n + 1) by lia]; grind
   ·rw [if_neg h, if_neg (by lia)]; grind
theorem shift_one (n : Nat) (f : Rat) : shift n [f] = List.replicate n 0 ++ [f] := by
 unfold shift; rw [if_neg (by simp)]
theorem co_replicate (n i : Nat) : co (List.replicate n 0) i = 0 := by
 unfold co
 rw [List.getD_eq_getElem?_getD, List.getElem?_replicate]
 split <;> rfl
def dvStep (q : Poly) (n : Nat) (f : Rat) (r : Poly) : Poly := r.mapIdx fun j c => if n <= j /\ j < n + q.length then c - f * co q (j - n) else c
def dvF (q : Poly) (n : Nat) (r : Poly) : Rat := co r (n + q.length - 1) / lead q
def dv (q : Poly) : Nat -> Poly -> Poly × Poly
 | 0, r => ([], r)
 | n + 1, r => ((dv q n (dvStep q n (dvF q n r) r)).1 ++ [dvF q n r], (dv q n (dvStep q n (dvF q n r) r)).2)
theorem dvStep_len (q : Poly) (n : Nat) (f : Rat) (r : Poly) : (dvStep q n f r).length = r.length := by unfold dvStep; rw [List.length_mapIdx]
theorem co_dvStep {q : Poly} {n : Nat} {f : Rat} {r : Poly} (hn : n + q.length <= r.length) (j : Nat) : co (dvStep q n f r) j = co r j - if n <= j then f * co q (j - n) else 0 := by
 by_cases hj : j < r.length
 ·have e : (dvStep q n f r)[j]? = some (if n <= j /\ j < n + q.length then co r j - f * co q (j - n) else co r j) := by
   unfold dvStep
   rw [List.getElem?_mapIdx, co_lt hj]; rfl
  rw [co_of_get e]
  by_cases h1 : n <= j
  ·by_cases h2 : j < n + q.length
   ·rw [if_pos ⟨h1, h2⟩, if_pos h1]
   ·rw [if_neg (by lia), if_pos h1, co_of_ge (p := q) (by lia)]; grind
  ·rw [if_neg (by lia), if_neg h1]; grind
 ·rw [co_of_ge (by rw [dvStep_len]; lia), co_of_ge (p := r) (by lia), co_of_ge (p := q) (by lia)]
  split <;> grind
theorem dv_len (q : Poly) : ∀ n r, (dv q n r).1.length = n := by
 intro z0
 induction z0 with
 | zero =>
  intro r
  exact rfl
 | succ n ih =>
  intro r
  show ((dv q n _).1 ++ [_]).length = n + 1
  rw [List.length_append, ih]; rfl
theorem dv_zero {q : Poly} (hq : Nm q) (hq0 : q ≠ []) {n : Nat} {r : Poly} (hn : n + q.length <= r.length) (hz : ∀ j, n + 1 + q.length <= j + 1 -> co r j = 0) :
  ∀ j, n + q.length <= j + 1 -> co (dvStep q n (dvF q n r) r) j = 0 := by
 intro j hj
 have l2 : 0 < q.length := List.length_pos_iff.mpr hq0
 rw [co_dvStep hn]
 by_cases e : j = n + q.length - 1
 ·subst e
  rw [if_pos (by lia), show n + q.length - 1 - n = q.length - 1 by lia, <- lead_co q]
  unfold dvF
  rw [Rat.div_mul_cancel (lead_ne hq hq0)]
  grind
 ·rw [hz j (by lia), co_of_ge (p := q) (by lia)]
  split <;> grind
theorem dv_low {q : Poly} (hq : Nm q) (hq0 : q ≠ []) : ∀ n r, (n ≠ 0 -> n + q.length <= r.length + 1) -> (∀ j, n + q.length <= j + 1 -> co r j = 0) -> ∀ j, q.length <= j + 1 -> co (dv q n r).2 j = 0 := by
 intro z0
 induction z0 with
 | zero =>
  intro r _ hz j hj
  exact hz j (by lia)
 | succ n ih =>
  intro r hn hz j hj
  have hn := hn (by lia)
  exact ih _ (fun _ => by rw [dvStep_len]; lia) (dv_zero hq hq0 (by lia) hz) j hj
theorem dv_spec {q : Poly} (hq : Nm q) (hq0 : q ≠ []) : ∀ n f r, (n ≠ 0 -> n + q.length <= r.length + 1) -> (∀ j, n + q.length <= j + 1 -> co r j = 0) -> n <= f -> divFrom f (norm r) q = (norm (dv q n r).1, norm (dv q n r).2) := by
 have l2 : 0 < q.length := List.length_pos_iff.mpr hq0
 intro n
 induction n with
 | zero =>
  intro f r _ hz _
  have hl : (norm r).length <= q.length - 1 := nm_le (nm_norm r) fun i hi => by rw [co_norm]; exact hz i (by lia)
  cases f with
  | zero => rfl
  | succ f =>
   unfold divFrom
   rw [if_pos (.inl (by lia))]
   rfl
 | succ n ih =>
  intro f r hn hz hf
  have hn := hn (by lia)
  obtain ⟨f, rfl⟩ : ∃ g, f = g + 1 := ⟨f - 1, by lia⟩
  have hz' := dv_zero hq hq0 (n := n) (r := r) (by lia) hz
  by_cases hc : co r (n + q.length - 1) = 0
  ·have f0 : dvF q n r = 0 := by unfold dvF; rw [hc]; grind
   have e : norm (dvStep q n (dvF q n r) r) = norm r := ext_norm fun j => by
    rw [co_dvStep (by lia), f0]; split <;> grind
   have := ih (f + 1) (dvStep q n (dvF q n r) r) (fun _ => by rw [dvStep_len]; lia) hz' (by lia)
   rw [e] at this
   rw [this]
   show _ = (norm (_ ++ [dvF q n r]), _)
   rw [f0, norm_snoc, if_pos rfl, <- f0]
   rfl
  ·have hle : (norm r).length <= n + q.length := nm_le (nm_norm r) fun i hi => by rw [co_norm]; exact hz i (by lia)
   have hge : n + q.length <= (norm r).length := by
    rcases Nat.lt_or_ge (norm r).length (n + q.length) with h | h
    ·exfalso
     apply hc
     rw [<- co_norm, co_of_ge (by lia)]
    ·exact h
   have hlen : (norm r).length = n + q.length := Nat.le_antisymm hle hge
   have hne : norm r ≠ [] := fun e => by rw [e] at hlen; simp at hlen; lia
   have hld : lead (norm r) = co r (n + q.length - 1) := by rw [lead_co, hlen, co_norm]
   unfold divFrom
   rw [if_neg (by intro h; rcases h with h | h; lia; exact hne h)]
   have ht : shift ((norm r).length - q.length) [lead (norm r) / lead q] = List.replicate n 0 ++ [dvF q n r] := by
    rw [shift_one, hlen, hld, show n + q.length - q.length = n by lia]; rfl
   have es : sub (norm r) (mul (List.replicate n 0 ++ [dvF q n r]) q) = norm (dvStep q n (dvF q n r) r) := by
    refine ext_nm (nm_sub _ _) (nm_norm _) fun j => ?_
    rw [co_sub, co_norm, co_mono, co_norm, co_dvStep (by lia)]
   have := ih f (dvStep q n (dvF q n r) r) (fun _ => by rw [dvStep_len]; lia) hz' (by lia)
   simp only [ht, es, this]
   refine Prod.ext ?_ rfl
   show add _ (norm _) = norm (_ ++ [_])
   refine ext_nm (nm_add _ _) (nm_norm _) fun j => ?_
   rw [co_add, co_norm, co_norm, co_append, co_append, List.length_replicate, dv_len, co_replicate]
   by_cases hj : j < n
   ·rw [if_pos hj, if_pos hj]; grind
   ·rw [if_neg hj, if_neg hj, co_of_ge (p := (dv q n _).1) (by rw [dv_len]; lia)]; grind
def shifts (p q : Poly) : Nat := p.length + 1 - q.length
theorem dv_pre (p q : Poly) : (shifts p q ≠ 0 -> shifts p q + q.length <= p.length + 1) /\ ∀ j, shifts p q + q.length <= j + 1 -> co p j = 0 := by
 unfold shifts
 exact ⟨fun h => by lia, fun j hj => co_of_ge (by lia)⟩
theorem nm_quot {p q : Poly} (hp : Nm p) (hq : Nm q) (hq0 : q ≠ []) : Nm (dv q (shifts p q) p).1 := by
 have l2 : 0 < q.length := List.length_pos_iff.mpr hq0
 cases h : shifts p q with
 | zero => exact nm_nil
 | succ n =>
  have hn : n + q.length = p.length := by unfold shifts at h; lia
  have hp0 : p ≠ [] := fun e => by rw [e] at hn; have : ([] : Poly).length = 0 := rfl; lia
  refine nm_snoc ?_
  unfold dvF
  rw [hn, <- lead_co]
  intro e
  have := congrArg (· * lead q) e
  simp only [Rat.div_mul_cancel (lead_ne hq hq0)] at this
  exact lead_ne hp hp0 (by grind)
theorem divMod_eq {p q : Poly} (hp : Nm p) (hq : Nm q) (hq0 : q ≠ []) : divMod p q = ((dv q (shifts p q) p).1, norm (dv q (shifts p q) p).2) := by
 unfold divMod
 have h := dv_spec hq hq0 (shifts p q) (p.length + 1) p (dv_pre p q).1 (dv_pre p q).2 (by unfold shifts; lia)
 rw [norm_of_nm hp, norm_of_nm (nm_quot hp hq hq0)] at h
 exact h
theorem nm_rest {p q : Poly} (hp : Nm p) (hq : Nm q) (hq0 : q ≠ []) : Nm (divMod p q).2 := by
 rw [divMod_eq hp hq hq0]; exact nm_norm _
theorem rest_len {p q : Poly} (hp : Nm p) (hq : Nm q) (hq0 : q ≠ []) : (divMod p q).2.length < q.length := by
 have l2 : 0 < q.length := List.length_pos_iff.mpr hq0
 rw [divMod_eq hp hq hq0]
 have : (norm (dv q (shifts p q) p).2).length <= q.length - 1 := nm_le (nm_norm _) fun i hi => by
  rw [co_norm]
  exact dv_low hq hq0 _ _ (dv_pre p q).1 (dv_pre p q).2 i (by lia)
 show (norm _).length < _
 lia
theorem nm_map {c : Rat} (hc : c ≠ 0) {p : Poly} (hp : Nm p) : Nm (p.map fun a => c * a) := by
 rcases nm_cases hp with rfl | ⟨q, d, rfl, hd⟩
 ·exact nm_nil
 ·rw [List.map_append]
  exact nm_snoc (by intro e; rcases Rat.mul_eq_zero.mp e with z | z; exact hc z; exact hd z)
theorem scale_map {c : Rat} (hc : c ≠ 0) {p : Poly} (hp : Nm p) : scale c p = p.map fun a => c * a := by
 unfold scale; exact norm_of_nm (nm_map hc hp)
theorem scale_len {c : Rat} (hc : c ≠ 0) {p : Poly} (hp : Nm p) : (scale c p).length = p.length := by rw [scale_map hc hp, List.length_map]
theorem scale_nil_iff {c : Rat} (hc : c ≠ 0) {p : Poly} (hp : Nm p) : scale c p = [] ↔ p = [] := by
 rw [scale_map hc hp, List.map_eq_nil_iff]
theorem scale_lead {c : Rat} (hc : c ≠ 0) {p : Poly} (hp : Nm p) : lead (scale c p) = c * lead p := by
 rw [lead_co, lead_co, scale_len hc hp, co_scale]
theorem scale_scale (c d : Rat) (p : Poly) : scale c (scale d p) = scale (c * d) p :=
 ext_nm (nm_scale _ _) (nm_scale _ _) fun i => by rw [co_scale, co_scale, co_scale]; grind
theorem scale_one {p : Poly} (hp : Nm p) : scale 1 p = p := ext_nm (nm_scale _ _) hp fun i => by rw [co_scale]; grind
theorem divFrom_scale {c d : Rat} (hc : c ≠ 0) (hd : d ≠ 0) {q : Poly} (hq : Nm q) (hq0 : q ≠ []) : ∀ f p, Nm p -> (divFrom f (scale c p) (scale d q)).2 = scale c (divFrom f p q).2 := by
 intro z0
 induction z0 with
 | zero =>
  intro p _
  exact rfl
 | succ f ih =>
  intro p hp
  unfold divFrom
  rw [scale_len hc hp, scale_len hd hq]
  by_cases h : p.length < q.length \/ p = []
  ·rw [if_pos h, if_pos (h.imp id (scale_nil_iff hc hp).mpr)]
  ·rw [if_neg h, if_neg (fun z => h (z.imp id (scale_nil_iff hc hp).mp))]
   have e : sub (scale c p) (mul (shift (p.length - q.length) [lead (scale c p) / lead (scale d q)]) (scale d q)) = scale c (sub p (mul (shift (p.length - q.length) [lead p / lead q]) q)) := by
    refine ext_nm (nm_sub _ _) (nm_scale _ _) fun j => ?_
    rw [co_sub, co_scale, co_scale, co_sub, shift_one, shift_one, co_mono, co_mono, co_scale, scale_lead hc hp, scale_lead hd hq]
    have hl := lead_ne hq hq0
    split
    ·have : c * lead p / (d * lead q) * (d * co q (j - (p.length - q.length))) = c * (lead p / lead q * co q (j - (p.length - q.length))) := by
      rw [Rat.div_def, Rat.div_def]
      have e1 : (d * lead q)⁻¹ * d = (lead q)⁻¹ := by
       have hm : d * lead q ≠ 0 := fun z => by rcases Rat.mul_eq_zero.mp z with z | z; exact hd z; exact hl z
       have h1 := Rat.inv_mul_cancel _ hm
       have h2 := Rat.mul_inv_cancel _ hl
       calc (d * lead q)⁻¹ * d = (d * lead q)⁻¹ * d * (lead q * (lead q)⁻¹) := by rw [h2]; grind
        _ = ((d * lead q)⁻¹ * (d * lead q)) * (lead q)⁻¹ := by grind
        _ = (lead q)⁻¹ := by rw [h1]; grind
      calc c * lead p * (d * lead q)⁻¹ * (d * co q (j - (p.length - q.length))) = c * lead p * ((d * lead q)⁻¹ * d) * co q (j - (p.length - q.length)) := by grind
       _ = _ := by rw [e1]; grind
     rw [this]; grind
    ·grind
   simp only [e]
   exact ih _ (nm_sub _ _)
theorem divMod_scale {c d : Rat} (hc : c ≠ 0) (hd : d ≠ 0) {p q : Poly} (hp : Nm p) (hq : Nm q) (hq0 : q ≠ []) : (divMod (scale c p) (scale d q)).2 = scale c (divMod p q).2 := by
 unfold divMod
 rw [scale_len hc hp]
 exact divFrom_scale hc hd hq hq0 _ p hp
theorem inv_ne {x : Rat} (h : x ≠ 0) : 1 / x ≠ 0 := fun e => by
 have := Rat.div_mul_cancel (a := 1) h
 rw [e] at this
 grind
theorem monic_of {p : Poly} (hne : p ≠ []) : monic p = scale (1 / lead p) p := by unfold monic; rw [if_neg hne]
theorem nm_monic {p : Poly} : Nm (monic p) := by
 unfold monic; split
 ·exact nm_nil
 ·exact nm_scale _ _
theorem monic_scale {c : Rat} (hc : c ≠ 0) {p : Poly} (hp : Nm p) : monic (scale c p) = monic p := by
 by_cases h : p = []
 ·subst h; rw [(scale_nil_iff hc hp).mpr rfl]
 ·rw [monic_of h, monic_of (fun e => h ((scale_nil_iff hc hp).mp e)), scale_lead hc hp, scale_scale]
  congr 1
  have hl := lead_ne hp h
  have hm : c * lead p ≠ 0 := fun z => by rcases Rat.mul_eq_zero.mp z with z | z; exact hc z; exact hl z
  have h1 := Rat.div_mul_cancel (a := 1) hm
  have h2 := Rat.div_mul_cancel (a := 1) hl
  calc 1 / (c * lead p) * c = 1 / (c * lead p) * c * (1 / lead p * lead p) := by rw [h2]; grind
   _ = 1 / (c * lead p) * (c * lead p) * (1 / lead p) := by grind
   _ = 1 / lead p := by rw [h1]; grind
theorem nm_gcdFrom : ∀ f p q, Nm p -> Nm q -> Nm (gcdFrom f p q) := by
 intro z0
 induction z0 with
 | zero =>
  intro p q hp _
  exact hp
 | succ f ih =>
  intro p q hp hq
  unfold gcdFrom
  split
  ·exact hp
  ·exact ih q _ hq nm_monic
theorem monic_len (p : Poly) (hp : Nm p) : (monic p).length = p.length := by
 by_cases h : p = []
 ·subst h; rfl
 ·rw [monic_of h, scale_len (inv_ne (lead_ne hp h)) hp]
theorem gcdFrom_scale : ∀ f p q (c d : Rat), Nm p -> Nm q -> c ≠ 0 -> d ≠ 0 -> monic (gcdFrom f (scale c p) (scale d q)) = monic (gcdFrom f p q) := by
 intro z0
 induction z0 with
 | zero =>
  intro p q c d hp _ hc _
  exact monic_scale hc hp
 | succ f ih =>
  intro p q c d hp hq hc hd
  unfold gcdFrom
  by_cases h : q = []
  ·rw [if_pos h, if_pos ((scale_nil_iff hd hq).mpr h), monic_scale hc hp]
  ·rw [if_neg h, if_neg (fun e => h ((scale_nil_iff hd hq).mp e)), divMod_scale hc hd hp hq h, monic_scale hc (nm_rest hp hq h)]
   have := ih q (monic (divMod p q).2) d 1 hq nm_monic hd (by decide)
   rw [scale_one nm_monic] at this
   exact this
theorem gcdFrom_fuel : ∀ f p q, Nm p -> Nm q -> q.length <= f -> gcdFrom (f + 1) p q = gcdFrom f p q := by
 intro z0
 induction z0 with
 | zero =>
  intro p q hp hq h
  have : q = [] := List.length_eq_zero_iff.mp (by lia)
  unfold gcdFrom
  rw [if_pos this]
 | succ f ih =>
  intro p q hp hq h
  rw [gcdFrom]
  conv => rhs; rw [gcdFrom]
  by_cases h0 : q = []
  ·rw [if_pos h0, if_pos h0]
  ·rw [if_neg h0, if_neg h0]
   refine ih q _ hq nm_monic ?_
   rw [monic_len _ (nm_rest hp hq h0)]
   have := rest_len hp hq h0
   lia
theorem gcdFrom_more {p q : Poly} (hp : Nm p) (hq : Nm q) (n : Nat) : gcdFrom (q.length + n) p q = gcdFrom q.length p q := by
 induction n with
 | zero => rfl
 | succ n ih => rw [<- Nat.add_assoc, gcdFrom_fuel _ p q hp hq (by lia), ih]
def gcdOf2 (p q : Poly) : Poly := monic (gcdFrom q.length p q)
theorem gcd_eq {p q : Poly} (hp : Nm p) (hq : Nm q) : gcd p q = gcdOf2 p q := by
 unfold gcd gcdOf2
 rw [show p.length + q.length + 2 = q.length + (p.length + 2) by lia, gcdFrom_more hp hq]
theorem gcdOf2_nil {p : Poly} : gcdOf2 p [] = monic p := rfl
theorem gcdOf2_step {p q : Poly} (hp : Nm p) (hq : Nm q) (hq0 : q ≠ []) {c : Rat} (hc : c ≠ 0) : gcdOf2 q (scale c (divMod p q).2) = gcdOf2 p q := by
 have hr := nm_rest hp hq hq0
 have hl := rest_len hp hq hq0
 generalize hx : (divMod p q).2 = x at hr hl
 unfold gcdOf2
 obtain ⟨n, hn⟩ : ∃ n, q.length = n + 1 := ⟨q.length - 1, by lia⟩
 have e1 : gcdFrom q.length p q = gcdFrom n q (monic x) := by
  rw [hn, gcdFrom, if_neg hq0, hx]
 rw [e1, scale_len hc hr]
 have e2 : gcdFrom n q (monic x) = gcdFrom x.length q (monic x) := by
  have h := gcdFrom_more hq (nm_monic (p := x)) (n - x.length)
  rw [monic_len x hr, show x.length + (n - x.length) = n by lia] at h
  exact h
 rw [e2]
 by_cases h0 : x = []
 ·subst h0
  rw [(scale_nil_iff hc hr).mpr rfl]; rfl
 ·have hl0 := lead_ne hr h0
  rw [monic_of h0]
  have a1 := gcdFrom_scale x.length q x 1 c hq hr (by decide) hc
  have a2 := gcdFrom_scale x.length q x 1 (1 / lead x) hq hr (by decide) (inv_ne hl0)
  rw [scale_one hq] at a1 a2
  rw [a1, a2]
def cTop (p : Poly) : Nat := p.foldl (fun t c => Nat.gcd t c.num.natAbs) 0
def cBot (p : Poly) : Nat := p.foldl (fun b c => Nat.lcm b c.den) 1
theorem cTop_snoc (p : Poly) (c : Rat) : cTop (p ++ [c]) = Nat.gcd (cTop p) c.num.natAbs := by unfold cTop; rw [List.foldl_append]; rfl
theorem cBot_snoc (p : Poly) (c : Rat) : cBot (p ++ [c]) = Nat.lcm (cBot p) c.den := by unfold cBot; rw [List.foldl_append]; rfl
theorem cBot_pos (p : Poly) : 0 < cBot p := by
 refine snoc_ind (P := fun p => 0 < cBot p) (by decide) (fun p c ih => ?_) p
 rw [cBot_snoc]
 exact Nat.lcm_pos ih c.den_pos
theorem cop (p : Poly) : Nat.Coprime (cTop p) (cBot p) := by
 refine snoc_ind (P := fun p => Nat.Coprime (cTop p) (cBot p)) (by decide) (fun p c ih => ?_) p
 rw [cTop_snoc, cBot_snoc]
 have h1 : Nat.Coprime (Nat.gcd (cTop p) c.num.natAbs) (cBot p) := Nat.Coprime.coprime_dvd_left (Nat.gcd_dvd_left _ _) ih
 have h2 : Nat.Coprime (Nat.gcd (cTop p) c.num.natAbs) c.den := Nat.Coprime.coprime_dvd_left (Nat.gcd_dvd_right _ _) c.reduced
 have h3 : Nat.Coprime (Nat.gcd (cTop p) c.num.natAbs) (cBot p * c.den) := Nat.Coprime.mul_right h1 h2
 exact Nat.Coprime.coprime_dvd_right (Nat.lcm_dvd (Nat.dvd_mul_right _ _) (Nat.dvd_mul_left _ _)) h3
theorem rat_eq (c : Rat) : c * (c.den : Rat) = (c.num : Rat) := by
 have h := Rat.num_divInt_den c
 rw [Rat.divInt_eq_div] at h
 have hd : ((c.den : Int) : Rat) ≠ 0 := by
  have := c.den_nz
  intro e
  exact this (by exact_mod_cast e)
 have h2 := Rat.div_mul_cancel (a := (c.num : Rat)) hd
 rw [h] at h2
 exact h2
theorem mul_num {c : Rat} {b : Nat} (h : c.den ∣ b) : (c * (b : Rat)) = ((c.num * ((b / c.den : Nat) : Int) : Int) : Rat) := by
 obtain ⟨k, rfl⟩ := h
 rw [Nat.mul_div_cancel_left _ c.den_pos]
 have := rat_eq c
 rw [Rat.natCast_mul, Rat.intCast_mul, <- this]
 show _ = c * (c.den : Rat) * ((k : Int) : Rat)
 have e : ((k : Int) : Rat) = (k : Rat) := rfl
 rw [e]
 grind
theorem gcdOf_snoc (l : List Nat) (n : Nat) : gcdOf (l ++ [n]) = Nat.gcd (gcdOf l) n := by unfold gcdOf; rw [List.foldl_append]; rfl
theorem gcd_cross {t n b d : Nat} (hb : 0 < b) (hd : 0 < d) (h1 : Nat.Coprime t b) (h2 : Nat.Coprime n d) : Nat.gcd (t * (Nat.lcm b d / b)) (n * (Nat.lcm b d / d)) = Nat.gcd t n := by
 have hg : 0 < Nat.gcd b d := Nat.gcd_pos_of_pos_left _ hb
 have e1 : Nat.lcm b d / b = d / Nat.gcd b d := by
  unfold Nat.lcm
  rw [Nat.mul_div_assoc _ (Nat.gcd_dvd_right b d), Nat.mul_div_cancel_left _ hb]
 have e2 : Nat.lcm b d / d = b / Nat.gcd b d := by
  unfold Nat.lcm
  rw [Nat.mul_comm b d, Nat.mul_div_assoc _ (Nat.gcd_dvd_left b d), Nat.mul_div_cancel_left _ hd]
 rw [e1, e2]
 have c1 : Nat.Coprime (b / Nat.gcd b d) (d / Nat.gcd b d) := Nat.coprime_div_gcd_div_gcd hg
 have c2 : Nat.Coprime n (d / Nat.gcd b d) := Nat.Coprime.coprime_dvd_right (Nat.div_dvd_of_dvd (Nat.gcd_dvd_right b d)) h2
 have c3 : Nat.Coprime t (b / Nat.gcd b d) := Nat.Coprime.coprime_dvd_right (Nat.div_dvd_of_dvd (Nat.gcd_dvd_left b d)) h1
 rw [Nat.Coprime.gcd_mul_right_cancel _ (Nat.Coprime.mul_right c2.symm c1.symm), Nat.Coprime.gcd_mul_right_cancel_right _ c3.symm]
theorem content_gcd : ∀ (p : Poly) (b : Nat), cBot p ∣ b -> gcdOf (p.map fun c => (c * (b : Rat)).num.natAbs) = cTop p * (b / cBot p) := by
 intro p
 refine snoc_ind (P := fun p => ∀ b : Nat, cBot p ∣ b -> gcdOf (p.map fun c => (c * (b : Rat)).num.natAbs) = cTop p * (b / cBot p)) (fun b _ => by simp [gcdOf, cTop]) (fun p c ih b hb => ?_) p
 rw [cBot_snoc] at hb
 obtain ⟨m, rfl⟩ := hb
 have d1 : cBot p ∣ Nat.lcm (cBot p) c.den * m := Nat.dvd_mul_right_of_dvd (Nat.dvd_lcm_left _ _) m
 have d2 : c.den ∣ Nat.lcm (cBot p) c.den * m := Nat.dvd_mul_right_of_dvd (Nat.dvd_lcm_right _ _) m
 rw [List.map_append, List.map_singleton, gcdOf_snoc, ih _ d1, cTop_snoc, cBot_snoc, mul_num d2, Rat.num_intCast, Int.natAbs_mul, Int.natAbs_natCast]
 have hpos : 0 < Nat.lcm (cBot p) c.den := Nat.lcm_pos (cBot_pos p) c.den_pos
 have e1 : Nat.lcm (cBot p) c.den * m / cBot p = Nat.lcm (cBot p) c.den / cBot p * m := Nat.mul_div_right_comm (Nat.dvd_lcm_left _ _) m
 have e2 : Nat.lcm (cBot p) c.den * m / c.den = Nat.lcm (cBot p) c.den / c.den * m := Nat.mul_div_right_comm (Nat.dvd_lcm_right _ _) m
 rw [e1, e2, <- Nat.mul_assoc, <- Nat.mul_assoc, Nat.gcd_mul_right, gcd_cross (cBot_pos p) c.den_pos (cop p) c.reduced, Nat.mul_div_cancel_left _ hpos]
theorem lcmOf_eq (p : Poly) : lcmOf (p.map fun c => c.den) = cBot p := by unfold lcmOf cBot; rw [List.foldl_map]
theorem gcdOf_eq (p : Poly) : gcdOf (p.map fun c => (c * ((cBot p : Nat) : Rat)).num.natAbs) = cTop p := by
 rw [content_gcd p _ (Nat.dvd_refl _), Nat.div_self (cBot_pos p), Nat.mul_one]
theorem cTop_dvd : ∀ p : Poly, ∀ c ∈ p, cTop p ∣ c.num.natAbs := by
 intro p
 refine snoc_ind (P := fun p => ∀ c ∈ p, cTop p ∣ c.num.natAbs) (fun c h => by simp at h) (fun p c ih x hx => ?_) p
 rw [cTop_snoc]
 rcases List.mem_append.mp hx with h | h
 ·exact Nat.dvd_trans (Nat.gcd_dvd_left _ _) (ih x h)
 ·rw [List.mem_singleton.mp h]
  exact Nat.gcd_dvd_right _ _
theorem cBot_dvd_of {D : Nat} : ∀ p : Poly, (∀ c ∈ p, c.den ∣ D) -> cBot p ∣ D := by
 intro p
 refine snoc_ind (P := fun p => (∀ c ∈ p, c.den ∣ D) -> cBot p ∣ D) (fun _ => Nat.one_dvd _) (fun p c ih h => ?_) p
 rw [cBot_snoc]
 exact Nat.lcm_dvd (ih fun x hx => h x (List.mem_append_left _ hx)) (h c (by simp))
theorem den_dvd_cBot : ∀ p : Poly, ∀ c ∈ p, c.den ∣ cBot p := by
 intro p
 refine snoc_ind (P := fun p => ∀ c ∈ p, c.den ∣ cBot p) (fun c h => by simp at h) (fun p c ih x hx => ?_) p
 rw [cBot_snoc]
 rcases List.mem_append.mp hx with h | h
 ·exact Nat.dvd_trans (ih x h) (Nat.dvd_lcm_left _ _)
 ·rw [List.mem_singleton.mp h]
  exact Nat.dvd_lcm_right _ _
theorem lead_mem {p : Poly} (hne : p ≠ []) : lead p ∈ p := by
 unfold lead
 rw [List.getLastD_eq_getLast?, List.getLast?_eq_some_getLast hne]
 exact List.getLast_mem hne
theorem cTop_pos {p : Poly} (hp : Nm p) (hne : p ≠ []) : 0 < cTop p := by
 refine Nat.pos_of_ne_zero fun e => ?_
 have h := cTop_dvd p _ (lead_mem hne)
 rw [e, Nat.zero_dvd] at h
 exact num_ne (lead_ne hp hne) (Int.natAbs_eq_zero.mp h)
def cNum (p : Poly) : Int := if 0 < (lead p).num then (cTop p : Int) else -(cTop p : Int)
def ct (p : Poly) : Rat := Rat.divInt (cNum p) (cBot p)
theorem cNum_abs (p : Poly) : (cNum p).natAbs = cTop p := by unfold cNum; split <;> lia
theorem ct_num (p : Poly) : (ct p).num = cNum p := by
 unfold ct
 have hg : Int.gcd (cBot p : Int) (cNum p) = 1 := by
  rw [Int.gcd_comm]
  show Nat.gcd (cNum p).natAbs (cBot p : Int).natAbs = 1
  rw [cNum_abs]
  exact cop p
 rw [Rat.num_divInt, hg, Int.sign_eq_one_of_pos (by have := cBot_pos p; lia)]
 simp
theorem ct_den (p : Poly) : (ct p).den = cBot p := by
 unfold ct
 have hg : Int.gcd (cBot p : Int) (cNum p) = 1 := by
  rw [Int.gcd_comm]
  show Nat.gcd (cNum p).natAbs (cBot p : Int).natAbs = 1
  rw [cNum_abs]
  exact cop p
 have := cBot_pos p
 rw [Rat.den_divInt, if_neg (by lia), hg]
 lia
theorem ct_ne {p : Poly} (hp : Nm p) (hne : p ≠ []) : ct p ≠ 0 := by
 intro e
 have h1 := ct_num p
 rw [e] at h1
 have h2 := cNum_abs p
 rw [<- h1] at h2
 have := cTop_pos hp hne
 simp at h2
 lia
theorem num_pos_iff (x : Rat) : 0 < x.num ↔ 0 < x := by
 rw [Rat.lt_iff]
 simp
theorem part_eq {p : Poly} (hp : Nm p) (hne : p ≠ []) : part p = p.map fun c => c / ct p := by
 have hl := lead_ne hp hne
 have ht := cTop_pos hp hne
 have hb := cBot_pos p
 unfold part
 rw [if_neg hne]
 simp only [lcmOf_eq, gcdOf_eq]
 generalize hk : ((cBot p : Nat) : Rat) / ((cTop p : Nat) : Rat) * (if lead p < 0 then -1 else 1) = k
 have tq : ((cTop p : Nat) : Rat) ≠ 0 := fun e => by
  have : cTop p = 0 := by exact_mod_cast e
  lia
 have bq : ((cBot p : Nat) : Rat) ≠ 0 := fun e => by
  have : cBot p = 0 := by exact_mod_cast e
  lia
 have key : k * ct p = 1 := by
  have e1 : ct p = ((cNum p : Int) : Rat) / ((cBot p : Nat) : Rat) := by unfold ct; rw [Rat.divInt_eq_div]; rfl
  have e2 : ((cNum p : Int) : Rat) = (if lead p < 0 then -1 else 1) * ((cTop p : Nat) : Rat) := by
   unfold cNum
   by_cases h : lead p < 0
   ·have : ¬ 0 < (lead p).num := by rw [num_pos_iff]; intro h2; grind
    rw [if_pos h, if_neg this, Rat.intCast_neg]
    show -((cTop p : Nat) : Rat) = _
    grind
   ·have : 0 < (lead p).num := by rw [num_pos_iff]; grind
    rw [if_neg h, if_pos this]
    show ((cTop p : Nat) : Rat) = _
    grind
  rw [<- hk, e1, e2]
  have f1 := Rat.div_mul_cancel (a := ((cBot p : Nat) : Rat)) tq
  have f2 : ∀ a : Rat, a / ((cBot p : Nat) : Rat) * ((cBot p : Nat) : Rat) = a := fun a => Rat.div_mul_cancel bq
  generalize hs : (if lead p < 0 then (-1 : Rat) else 1) = sg
  have hss : sg * sg = 1 := by rw [<- hs]; split <;> grind
  have f3 := f2 (sg * ((cTop p : Nat) : Rat))
  generalize ((cBot p : Nat) : Rat) / ((cTop p : Nat) : Rat) = u at f1 ⊢
  generalize sg * ((cTop p : Nat) : Rat) / ((cBot p : Nat) : Rat) = v at f3 ⊢
  have f4 := Rat.mul_inv_cancel _ bq
  generalize ((cTop p : Nat) : Rat) = T at f1 f3 ⊢
  generalize ((cBot p : Nat) : Rat)⁻¹ = Bi at f4
  generalize ((cBot p : Nat) : Rat) = B at f1 f3 f4 ⊢
  calc u * sg * v = u * sg * v * (B * Bi) := by rw [f4]; grind
   _ = u * sg * (v * B) * Bi := by grind
   _ = u * sg * (sg * T) * Bi := by rw [f3]
   _ = (sg * sg) * (u * T) * Bi := by grind
   _ = 1 := by rw [hss, f1]; grind
 have hc := ct_ne hp hne
 have hk0 : k ≠ 0 := fun e => by rw [e] at key; grind
 rw [scale_map hk0 hp]
 refine List.map_congr_left fun c _ => ?_
 have h1 := Rat.div_mul_cancel (a := c) hc
 generalize c / ct p = y at h1 ⊢
 calc k * c = k * (y * ct p) := by rw [h1]
  _ = y * (k * ct p) := by grind
  _ = y := by rw [key]; grind
theorem part_scale {p : Poly} (hp : Nm p) (hne : p ≠ []) : ∃ c : Rat, c ≠ 0 /\ part p = scale c p := by
 have hc := ct_ne hp hne
 refine ⟨1 / ct p, inv_ne hc, ?_⟩
 rw [part_eq hp hne, scale_map (inv_ne hc) hp]
 refine List.map_congr_left fun c _ => ?_
 rw [Rat.div_def, Rat.div_def]; grind
theorem nm_part {p : Poly} : Nm (part p) := by
 unfold part; split
 ·exact nm_nil
 ·exact nm_scale _ _
theorem part_len {p : Poly} (hp : Nm p) (hne : p ≠ []) : (part p).length = p.length := by rw [part_eq hp hne, List.length_map]
theorem monic_eq {p : Poly} (hp : Nm p) (hne : p ≠ []) : monic p = p.map fun c => c / lead p := by
 rw [monic_of hne, scale_map (inv_ne (lead_ne hp hne)) hp]
 refine List.map_congr_left fun c _ => ?_
 rw [Rat.div_def, Rat.div_def]; grind
theorem slope_len : ∀ (n : Nat) (l : Poly), (slopeFrom n l).length = l.length
 | _, [] => rfl
 | n, c :: r => by
  show (slopeFrom (n + 1) r).length + 1 = r.length + 1
  rw [slope_len (n + 1) r]
theorem slope_get : ∀ (n : Nat) (l : Poly) (i : Nat), (slopeFrom n l)[i]? = l[i]?.map fun c => ((n + i : Nat) : Rat) * c
 | _, [], i => by simp [slopeFrom]
 | n, c :: r, 0 => by simp [slopeFrom]
 | n, c :: r, i + 1 => by
  show (slopeFrom (n + 1) r)[i]? = _
  rw [slope_get (n + 1) r i, List.getElem?_cons_succ, show n + 1 + i = n + (i + 1) by lia]
theorem nm_slope (n : Nat) (hn : 0 < n) {l : Poly} (hl : l.getLast? ≠ some 0) : Nm (slopeFrom n l) := by
 unfold Nm
 intro e
 rw [List.getLast?_eq_getElem?, slope_len, slope_get] at e
 obtain ⟨c, hc, h⟩ := Option.map_eq_some_iff.mp e
 rcases Rat.mul_eq_zero.mp h with z | z
 ·have : n + (l.length - 1) = 0 := by exact_mod_cast z
  lia
 ·apply hl
  rw [List.getLast?_eq_getElem?, hc, z]
theorem slope_eq {p : Poly} (hp : Nm p) : slope p = slopeFrom 1 (p.drop 1) := by
 unfold slope
 refine norm_of_nm (nm_slope 1 (by decide) ?_)
 intro e
 apply hp
 rw [List.getLast?_drop] at e
 split at e
 ·cases e
 ·exact e
structure IF (p : Poly) (a d : Nat) : Prop where
 ex : ∃ D : Nat, 0 < D /\ D < 2 ^ d /\ ∀ i, ∃ z : Int, z.natAbs < 2 ^ a /\ co p i * (D : Rat) = (z : Rat)
theorem pow_le {m n : Nat} (h : m <= n) : 2 ^ m <= 2 ^ n := Nat.pow_le_pow_right (by decide) h
theorem pow_pos (n : Nat) : 0 < 2 ^ n := Nat.pow_pos (by decide)
theorem IF.mono {p : Poly} {a d a' d' : Nat} (h : IF p a d) (ha : a <= a') (hd : d <= d') : IF p a' d' := by
 obtain ⟨D, h1, h2, h3⟩ := h.ex
 exact ⟨D, h1, Nat.lt_of_lt_of_le h2 (pow_le hd), fun i => let ⟨z, z1, z2⟩ := h3 i; ⟨z, Nat.lt_of_lt_of_le z1 (pow_le ha), z2⟩⟩
theorem over_int {c : Rat} {D : Nat} {z : Int} (hD : 0 < D) (h : c * (D : Rat) = (z : Rat)) : c = Rat.divInt z D := by
 have dq : ((D : Nat) : Rat) ≠ 0 := fun e => by
  have : D = 0 := by exact_mod_cast e
  lia
 rw [Rat.divInt_eq_div, <- h]
 show c = c * (D : Rat) / (D : Rat)
 have h1 := Rat.mul_inv_cancel _ dq
 rw [Rat.div_def, Rat.mul_assoc, h1]; grind
theorem over_le {c : Rat} {D : Nat} {z : Int} (hD : 0 < D) (h : c * (D : Rat) = (z : Rat)) : c.num.natAbs <= z.natAbs /\ c.den <= D := by
 rw [over_int hD h]
 have := divInt_le (t := z) (b := (D : Int)) (by lia)
 exact ⟨this.1, by have := this.2; lia⟩
theorem over_dvd {c : Rat} {D : Nat} {z : Int} (hD : 0 < D) (h : c * (D : Rat) = (z : Rat)) : c.den ∣ D := by
 rw [over_int hD h, Rat.den_divInt, if_neg (by lia)]
 exact Nat.div_dvd_of_dvd (by
  have := Int.gcd_dvd_left (a := (D : Int)) (b := z)
  exact Int.natCast_dvd_natCast.mp (by simpa using this))
theorem IF.sz {p : Poly} {a d : Nat} (h : IF p a d) (i : Nat) : Sz (co p i) (max a d) := by
 obtain ⟨D, h1, h2, h3⟩ := h.ex
 obtain ⟨z, z1, z2⟩ := h3 i
 obtain ⟨l1, l2⟩ := over_le h1 z2
 exact ⟨Nat.lt_of_le_of_lt l1 (Nat.lt_of_lt_of_le z1 (pow_le (Nat.le_max_left _ _))), Nat.lt_of_le_of_lt l2 (Nat.lt_of_lt_of_le h2 (pow_le (Nat.le_max_right _ _)))⟩
theorem IF.szm {p : Poly} {a d : Nat} (h : IF p a d) {c : Rat} (hc : c ∈ p) : Sz c (max a d) := by
 obtain ⟨i, hi⟩ := List.getElem?_of_mem hc
 have := h.sz i
 rwa [co_of_get hi] at this
theorem IF.zero (a d : Nat) (hd : 0 < d) : IF [] a d := ⟨1, by decide, by
 have := pow_le (m := 1) (n := d) (by lia)
 lia, fun i => ⟨0, by simpa using pow_pos a, by rw [co_nil]; simp⟩⟩
theorem IF.init : ∀ {p : Poly} {n : Nat}, polySz p n -> IF p (n * p.length + 1 + n) (n * p.length + 1)
 | [], n, _ => IF.zero _ _ (by lia)
 | c :: r, n, h => by
  obtain ⟨D, h1, h2, h3⟩ := (IF.init (p := r) (n := n) fun x hx => h x (List.mem_cons_of_mem _ hx)).ex
  have hc := h c (List.mem_cons_self ..)
  have e : n * (c :: r).length + 1 = n + (n * r.length + 1) := by rw [List.length_cons, Nat.mul_succ]; lia
  rw [e]
  refine ⟨c.den * D, Nat.mul_pos c.den_pos h1, lt_mul_pow hc.den h2, fun i => ?_⟩
  cases i with
  | zero =>
   refine ⟨c.num * (D : Int), ?_, ?_⟩
   ·rw [Int.natAbs_mul, Int.natAbs_natCast, Nat.add_comm]
    exact lt_mul_pow hc.num (Nat.lt_of_lt_of_le h2 (pow_le (by lia)))
   ·rw [co_cons_zero, Rat.natCast_mul, <- Rat.mul_assoc, rat_eq, Rat.intCast_mul]; rfl
  | succ i =>
   obtain ⟨z, z1, z2⟩ := h3 i
   refine ⟨(c.den : Int) * z, ?_, ?_⟩
   ·rw [Int.natAbs_mul, Int.natAbs_natCast, show n + (n * r.length + 1) + n = n + (n * r.length + 1 + n) by lia]
    exact lt_mul_pow hc.den z1
   ·rw [co_cons_succ, Rat.natCast_mul, Rat.intCast_mul, <- z2]
    show _ = ((c.den : Nat) : Rat) * _
    grind
theorem IF.den {p : Poly} {a d : Nat} (h : IF p a d) : cBot p < 2 ^ d := by
 obtain ⟨D, h1, h2, h3⟩ := h.ex
 refine Nat.lt_of_le_of_lt (Nat.le_of_dvd h1 (cBot_dvd_of p fun c hc => ?_)) h2
 obtain ⟨i, hi⟩ := List.getElem?_of_mem hc
 obtain ⟨z, _, z2⟩ := h3 i
 rw [co_of_get hi] at z2
 exact over_dvd h1 z2
theorem IF.part {p : Poly} {a d : Nat} (h : IF p a d) (hp : Nm p) (hne : p ≠ []) : IF (part p) a 1 := by
 obtain ⟨D, h1, h2, h3⟩ := h.ex
 refine ⟨1, by decide, by decide, fun i => ?_⟩
 by_cases hi : i < p.length
 ·obtain ⟨z, z1, z2⟩ := h3 i
  have hm : co p i ∈ p := List.mem_of_getElem? (co_lt hi)
  have e : co (WrAlgn.part p) i = co p i / ct p := by
   rw [part_eq hp hne]
   refine co_of_get ?_
   rw [List.getElem?_map, co_lt hi]; rfl
  rw [e]
  generalize co p i = c at z2 hm ⊢
  have hb := den_dvd_cBot p c hm
  have hD := over_dvd h1 z2
  have ht : cNum p ∣ c.num := by
   rw [<- Int.natAbs_dvd_natAbs, cNum_abs]; exact cTop_dvd p c hm
  obtain ⟨k, hk⟩ := ht
  have hc := ct_ne hp hne
  have ez : z = c.num * ((D / c.den : Nat) : Int) := by
   have := mul_num hD
   rw [z2] at this
   exact_mod_cast this
  have hbpos := cBot_pos p
  have bq : ((cBot p : Nat) : Rat) ≠ 0 := fun e => by
   have : cBot p = 0 := by exact_mod_cast e
   lia
  have e1 : ct p * ((cBot p : Nat) : Rat) = ((cNum p : Int) : Rat) := by
   have := rat_eq (ct p)
   rw [ct_num, ct_den] at this
   exact this
  have e2 := mul_num hb
  refine ⟨k * ((cBot p / c.den : Nat) : Int), ?_, ?_⟩
  ·refine Nat.lt_of_le_of_lt ?_ z1
   rw [ez, Int.natAbs_mul, Int.natAbs_mul, Int.natAbs_natCast, Int.natAbs_natCast]
   refine Nat.mul_le_mul ?_ (Nat.div_le_div_right (Nat.le_of_dvd h1 (cBot_dvd_of p fun x hx => ?_)))
   ·rw [hk, Int.natAbs_mul, cNum_abs]
    exact Nat.le_mul_of_pos_left _ (cTop_pos hp hne)
   ·obtain ⟨i', hi'⟩ := List.getElem?_of_mem hx
    obtain ⟨z', _, z2'⟩ := h3 i'
    rw [co_of_get hi'] at z2'
    exact over_dvd h1 z2'
  ·have hdiv := Rat.div_mul_cancel (a := c) hc
   generalize c / ct p = y at hdiv ⊢
   have hcn : ((cNum p : Int) : Rat) ≠ 0 := fun e => by
    have h0 : cNum p = 0 := by exact_mod_cast e
    have := cNum_abs p
    rw [h0] at this
    have := cTop_pos hp hne
    simp at *
    lia
   have e3 : y * ((cNum p : Int) : Rat) = ((k * ((cBot p / c.den : Nat) : Int) : Int) : Rat) * ((cNum p : Int) : Rat) := by
    rw [<- e1, <- Rat.mul_assoc, hdiv, e2, e1, hk, Rat.intCast_mul, Rat.intCast_mul, Rat.intCast_mul]
    grind
   have e4 := congrArg (· * ((cNum p : Int) : Rat)⁻¹) e3
   simp only [Rat.mul_assoc, Rat.mul_inv_cancel _ hcn] at e4
   have e5 : y = ((k * ((cBot p / c.den : Nat) : Int) : Int) : Rat) := by grind
   rw [e5]
   show _ * ((1 : Nat) : Rat) = _
   have : ((1 : Nat) : Rat) = 1 := rfl
   rw [this]; grind
 ·exact ⟨0, by simpa using pow_pos a, by rw [co_of_ge (by rw [part_len hp hne]; lia)]; simp⟩
theorem gcd_nil_iff {p q : Poly} (hp : Nm p) (hq : Nm q) (hp0 : p ≠ []) : gcdOf2 p q ≠ [] := by
 have H : ∀ (n : Nat) {p q : Poly}, q.length <= n -> Nm p -> Nm q -> p ≠ [] -> gcdOf2 p q ≠ [] := by
  intro n
  induction n with
  | zero =>
   intro p q hq hp hqn hp0
   have e : q = [] := List.length_eq_zero_iff.mp (by lia)
   subst e
   rw [gcdOf2_nil]
   intro z
   have := monic_len p hp
   rw [z] at this
   exact hp0 (List.length_eq_zero_iff.mp this.symm)
  | succ n ih =>
   intro p q hq hp hqn hp0
   by_cases h0 : q = []
   ·subst h0
    rw [gcdOf2_nil]
    intro z
    have := monic_len p hp
    rw [z] at this
    exact hp0 (List.length_eq_zero_iff.mp this.symm)
   ·have hr := nm_rest hp hqn h0
    have hl := rest_len hp hqn h0
    have e := gcdOf2_step hp hqn h0 (c := 1) (by decide)
    rw [scale_one hr] at e
    rw [<- e]
    exact ih (by lia) hqn hr h0
 exact H _ (Nat.le_refl _) hp hq hp0
theorem nm_gcdOf2 (p q : Poly) : Nm (gcdOf2 p q) := nm_monic
theorem IF.nine {p : Poly} {n : Nat} (hp : polySz p n) (hl : p.length <= 9) (hn : n <= 20) : IF p 201 181 := by
 have e : n * p.length <= 20 * 9 := Nat.mul_le_mul hn hl
 exact (IF.init hp).mono (by lia) (by lia)
theorem slope_length {p : Poly} (hp : Nm p) : (slope p).length = p.length - 1 := by
 rw [slope_eq hp, slope_len, List.length_drop]
theorem nm_slope' (p : Poly) : Nm (slope p) := nm_norm _
theorem slope_map {p : Poly} (hp : Nm p) : slope p = (p.mapIdx fun k a => ((k : Nat) : Rat) * a).drop 1 := by
 rw [slope_eq hp]
 apply List.ext_getElem?
 intro i
 rw [slope_get, List.getElem?_drop, List.getElem?_drop, List.getElem?_mapIdx]
theorem at_nil (x : Rat) : at_ [] x = 0 := rfl
theorem at_cons (c : Rat) (p : Poly) (x : Rat) : at_ (c :: p) x = c + x * at_ p x := rfl
theorem at_append (p q : Poly) (x : Rat) : at_ (p ++ q) x = at_ p x + x ^ p.length * at_ q x := by
 induction p with
 | nil => rw [List.nil_append, at_nil, List.length_nil, Rat.pow_zero]; grind
 | cons c r ih => rw [List.cons_append, at_cons, at_cons, ih, List.length_cons, Rat.pow_succ]; grind
theorem at_norm (p : Poly) (x : Rat) : at_ (norm p) x = at_ p x := by
 refine snoc_ind (P := fun p => at_ (norm p) x = at_ p x) rfl (fun p c ih => ?_) p
 rw [norm_snoc]
 split
 ·rename_i h
  rw [ih, at_append, h, at_cons, at_nil]; grind
 ·rfl
theorem at_zip_add (x : Rat) : ∀ p q : Poly, at_ (zipWith (fun a b => a + b) p q) x = at_ p x + at_ q x
 | [], [] => by rw [zipWith, at_nil]; grind
 | a :: r, [] => by rw [zipWith, at_cons, at_cons, at_zip_add x r [], at_nil]; grind
 | [], b :: s => by rw [zipWith, at_cons, at_cons, at_zip_add x [] s, at_nil]; grind
 | a :: r, b :: s => by rw [zipWith, at_cons, at_cons, at_cons, at_zip_add x r s]; grind
theorem at_zip_sub (x : Rat) : ∀ p q : Poly, at_ (zipWith (fun a b => a - b) p q) x = at_ p x - at_ q x
 | [], [] => by rw [zipWith, at_nil]; grind
 | a :: r, [] => by rw [zipWith, at_cons, at_cons, at_zip_sub x r [], at_nil]; grind
 | [], b :: s => by rw [zipWith, at_cons, at_cons, at_zip_sub x [] s, at_nil]; grind
 | a :: r, b :: s => by rw [zipWith, at_cons, at_cons, at_cons, at_zip_sub x r s]; grind
theorem at_add (p q : Poly) (x : Rat) : at_ (add p q) x = at_ p x + at_ q x := by unfold add; rw [at_norm, at_zip_add]
theorem at_sub (p q : Poly) (x : Rat) : at_ (sub p q) x = at_ p x - at_ q x := by unfold sub; rw [at_norm, at_zip_sub]
theorem at_map_mul (c : Rat) (p : Poly) (x : Rat) : at_ (p.map fun a => c * a) x = c * at_ p x := by
 induction p with
 | nil => rw [List.map_nil, at_nil]; grind
 | cons a r ih => rw [List.map_cons, at_cons, at_cons, ih]; grind
theorem at_scale (c : Rat) (p : Poly) (x : Rat) : at_ (scale c p) x = c * at_ p x := by unfold scale; rw [at_norm, at_map_mul]
theorem at_mul (p q : Poly) (x : Rat) : at_ (mul p q) x = at_ p x * at_ q x := by
 induction p with
 | nil => rw [mul, at_nil]; grind
 | cons a r ih => rw [mul, at_add, at_scale, at_norm, at_cons, ih, at_cons]; grind
theorem at_divFrom (x : Rat) (q : Poly) : ∀ f p, at_ p x = at_ (divFrom f p q).1 x * at_ q x + at_ (divFrom f p q).2 x := by
 intro z0
 induction z0 with
 | zero =>
  intro p
  unfold divFrom; rw [at_nil]; grind
 | succ f ih =>
  intro p
  unfold divFrom
  split
  ·rw [at_nil]; grind
  ·have ih := ih (sub p (mul (shift (p.length - q.length) [lead p / lead q]) q))
   rw [at_sub, at_mul] at ih
   show at_ p x = at_ (add _ _) x * at_ q x + _
   rw [at_add]
   grind
theorem at_divMod (p q : Poly) (x : Rat) : at_ p x = at_ (divMod p q).1 x * at_ q x + at_ (divMod p q).2 x := at_divFrom x q _ p
theorem at_monic {p : Poly} (hp : Nm p) (hne : p ≠ []) (x : Rat) : at_ (monic p) x = 1 / lead p * at_ p x := by rw [monic_of hne, at_scale]
theorem at_slopeFrom (x : Rat) : ∀ (n : Nat) (l : Poly), at_ (slopeFrom n l) x = ((n : Nat) : Rat) * at_ l x + x * at_ (slopeFrom 1 (l.drop 1)) x
 | n, [] => by rw [slopeFrom]; show (0 : Rat) = _ * 0 + x * at_ (slopeFrom 1 []) x; rw [slopeFrom, at_nil]; grind
 | n, d :: s => by
  rw [slopeFrom, at_cons, at_slopeFrom x (n + 1) s, at_cons]
  show _ = _ + x * at_ (slopeFrom 1 s) x
  rw [at_slopeFrom x 1 s]
  have : ((n + 1 : Nat) : Rat) = (n : Rat) + 1 := by simp
  rw [this]
  have : ((1 : Nat) : Rat) = 1 := rfl
  rw [this]
  grind
def der (p : Poly) (x : Rat) : Rat := at_ (slope p) x
theorem der_nil (x : Rat) : der [] x = 0 := rfl
theorem der_cons (c : Rat) (r : Poly) (x : Rat) : der (c :: r) x = at_ r x + x * der r x := by
 unfold der slope
 rw [at_norm, at_norm]
 show at_ (slopeFrom 1 r) x = _
 rw [at_slopeFrom]
 have : ((1 : Nat) : Rat) = 1 := rfl
 rw [this]; grind
def tay : Poly -> Rat -> Rat -> Rat
 | [], _, _ => 0
 | _ :: r, x, y => der r x + y * tay r x y
theorem taylor (p : Poly) (x y : Rat) : at_ p y - at_ p x = (y - x) * der p x + (y - x) * (y - x) * tay p x y := by
 induction p with
 | nil => rw [at_nil, at_nil, der_nil, tay]; grind
 | cons c r ih =>
  rw [at_cons, at_cons, der_cons, tay]
  have : at_ r y = at_ r x + (y - x) * der r x + (y - x) * (y - x) * tay r x y := by grind
  rw [this]
  grind
def ab (x : Rat) : Rat := if x < 0 then -x else x
theorem ab_nonneg (x : Rat) : 0 <= ab x := by unfold ab; split <;> grind
theorem ab_mul (x y : Rat) : ab (x * y) = ab x * ab y := by
 unfold ab
 by_cases hx : x < 0 <;> by_cases hy : y < 0
 ·have h1 : 0 <= x * y := by
   have := Rat.mul_nonneg (a := -x) (b := -y) (by grind) (by grind)
   grind
  rw [if_pos hx, if_pos hy, if_neg (by grind)]; grind
 ·rw [if_pos hx, if_neg hy]
  have h1 : 0 <= (-x) * y := Rat.mul_nonneg (by grind) (by grind)
  by_cases hz : x * y < 0
  ·rw [if_pos hz]; grind
  ·rw [if_neg hz]; grind
 ·rw [if_neg hx, if_pos hy]
  have h1 : 0 <= x * (-y) := Rat.mul_nonneg (by grind) (by grind)
  by_cases hz : x * y < 0
  ·rw [if_pos hz]; grind
  ·rw [if_neg hz]; grind
 ·have h1 : 0 <= x * y := Rat.mul_nonneg (by grind) (by grind)
  rw [if_neg hx, if_neg hy, if_neg (by grind)]
theorem ab_add (x y : Rat) : ab (x + y) <= ab x + ab y := by unfold ab; split <;> split <;> split <;> grind
theorem ab_neg (x : Rat) : ab (-x) = ab x := by unfold ab; split <;> split <;> grind
theorem ab_le {x B : Rat} : ab x <= B ↔ -B <= x /\ x <= B := by unfold ab; split <;> constructor <;> intro h <;> grind
theorem mul_le_mul_nn {a b c d : Rat} (ha : 0 <= a) (hd : 0 <= d) (h1 : a <= b) (h2 : c <= d) : a * c <= b * d := by
 have e1 : a * c <= a * d := Rat.mul_le_mul_of_nonneg_left h2 ha
 have e2 : a * d <= b * d := Rat.mul_le_mul_of_nonneg_right h1 hd
 grind
def vb (p : Poly) (B : Rat) : Rat := at_ (p.map ab) B
theorem vb_cons (c : Rat) (p : Poly) (B : Rat) : vb (c :: p) B = ab c + B * vb p B := rfl
theorem vb_nonneg {B : Rat} (hB : 0 <= B) : ∀ p : Poly, 0 <= vb p B := by
 intro z0
 induction z0 with
 | nil =>
  show (0 : Rat) <= 0; grind
 | cons c p ih =>
  rw [vb_cons]
  have h1 := ab_nonneg c
  have h2 := Rat.mul_nonneg hB (ih)
  grind
theorem at_le {B x : Rat} (hB : 0 <= B) (hx : ab x <= B) : ∀ p : Poly, ab (at_ p x) <= vb p B := by
 intro z0
 induction z0 with
 | nil =>
  show ab 0 <= 0; decide
 | cons c p ih =>
  rw [at_cons, vb_cons]
  have h1 := ab_add c (x * at_ p x)
  have h2 := ab_mul x (at_ p x)
  have h3 := mul_le_mul_nn (ab_nonneg x) (vb_nonneg hB p) hx (ih)
  grind
def db : Poly -> Rat -> Rat
 | [], _ => 0
 | _ :: r, B => vb r B + B * db r B
theorem db_nonneg {B : Rat} (hB : 0 <= B) : ∀ p : Poly, 0 <= db p B := by
 intro z0
 induction z0 with
 | nil =>
  show (0 : Rat) <= 0; grind
 | cons _ p ih =>
  rw [db]
  have h1 := vb_nonneg hB p
  have h2 := Rat.mul_nonneg hB (ih)
  grind
theorem der_le {B x : Rat} (hB : 0 <= B) (hx : ab x <= B) : ∀ p : Poly, ab (der p x) <= db p B := by
 intro z0
 induction z0 with
 | nil =>
  show ab 0 <= 0; decide
 | cons c p ih =>
  rw [der_cons, db]
  have h1 := ab_add (at_ p x) (x * der p x)
  have h2 := ab_mul x (der p x)
  have h3 := mul_le_mul_nn (ab_nonneg x) (db_nonneg hB p) hx (ih)
  have h4 := at_le hB hx p
  grind
def tb : Poly -> Rat -> Rat
 | [], _ => 0
 | _ :: r, B => db r B + B * tb r B
theorem tb_nonneg {B : Rat} (hB : 0 <= B) : ∀ p : Poly, 0 <= tb p B := by
 intro z0
 induction z0 with
 | nil =>
  show (0 : Rat) <= 0; grind
 | cons _ p ih =>
  rw [tb]
  have h1 := db_nonneg hB p
  have h2 := Rat.mul_nonneg hB (ih)
  grind
theorem tay_le {B x y : Rat} (hB : 0 <= B) (hx : ab x <= B) (hy : ab y <= B) : ∀ p : Poly, ab (tay p x y) <= tb p B := by
 intro z0
 induction z0 with
 | nil =>
  show ab 0 <= 0; decide
 | cons c p ih =>
  rw [tay, tb]
  have h1 := ab_add (der p x) (y * tay p x y)
  have h2 := ab_mul y (tay p x y)
  have h3 := mul_le_mul_nn (ab_nonneg y) (tb_nonneg hB p) hy (ih)
  have h4 := der_le hB hx p
  grind
def chord : Poly -> Rat -> Rat -> Rat
 | [], _, _ => 0
 | _ :: r, x, y => at_ r y + x * chord r x y
theorem chord_eq (p : Poly) (x y : Rat) : at_ p y - at_ p x = (y - x) * chord p x y := by
 induction p with
 | nil => rw [at_nil, at_nil, chord]; grind
 | cons c r ih =>
  rw [at_cons, at_cons, chord]
  have : at_ r x = at_ r y - (y - x) * chord r x y := by grind
  rw [this]; grind
theorem chord_le {B x y : Rat} (hB : 0 <= B) (hx : ab x <= B) (hy : ab y <= B) : ∀ p : Poly, ab (chord p x y) <= db p B := by
 intro z0
 induction z0 with
 | nil =>
  show ab 0 <= 0; decide
 | cons c p ih =>
  rw [chord, db]
  have h1 := ab_add (at_ p y) (x * chord p x y)
  have h2 := ab_mul x (chord p x y)
  have h3 := mul_le_mul_nn (ab_nonneg x) (db_nonneg hB p) hx (ih)
  have h4 := at_le hB hy p
  grind
theorem lip {B x y : Rat} (hB : 0 <= B) (hx : ab x <= B) (hy : ab y <= B) (p : Poly) : ab (at_ p y - at_ p x) <= ab (y - x) * db p B := by
 rw [chord_eq, ab_mul]
 exact Rat.mul_le_mul_of_nonneg_left (chord_le hB hx hy p) (ab_nonneg _)
theorem rat_tri (a b : Rat) : a < b \/ a = b \/ b < a := by grind
theorem rat_lt_or_ge (a b : Rat) : a < b \/ b <= a := by grind
theorem half_pos : (0 : Rat) < 1 / 2 := by grind
theorem mul_pos_cases {a b : Rat} (h : 0 < a * b) : (0 < a /\ 0 < b) \/ (a < 0 /\ b < 0) := by
 rcases rat_tri a 0 with ha | ha | ha
 ·rcases rat_tri b 0 with hb | hb | hb
  ·exact .inr ⟨ha, hb⟩
  ·subst hb; grind
  ·exfalso
   have := Rat.mul_pos (a := -a) (b := b) (by grind) hb
   grind
 ·subst ha; grind
 ·rcases rat_tri b 0 with hb | hb | hb
  ·exfalso
   have := Rat.mul_pos (a := a) (b := -b) ha (by grind)
   grind
  ·subst hb; grind
  ·exact .inl ⟨ha, hb⟩
theorem mul_neg_cases {a b : Rat} (h : a * b < 0) : (0 < a /\ b < 0) \/ (a < 0 /\ 0 < b) := by
 rcases mul_pos_cases (a := a) (b := -b) (by grind) with h | h
 ·exact .inl ⟨h.1, by grind⟩
 ·exact .inr ⟨h.1, by grind⟩
theorem pos_mul_neg {a b : Rat} (ha : 0 < a) (hb : b < 0) : a * b < 0 := by
 have := Rat.mul_pos (a := a) (b := -b) ha (by grind)
 grind
theorem neg_mul_neg' {a b : Rat} (ha : a < 0) (hb : b < 0) : 0 < a * b := by
 have := Rat.mul_pos (a := -a) (b := -b) (by grind) (by grind)
 grind
def nz (l : List Rat) : List Rat := l.filter fun v => v != 0
theorem nz_cons_ne {a : Rat} (h : a ≠ 0) (l : List Rat) : nz (a :: l) = a :: nz l := by
 unfold nz; rw [List.filter_cons, if_pos (by simpa using h)]
theorem nz_cons_zero (l : List Rat) : nz (0 :: l) = nz l := by
 unfold nz; rw [List.filter_cons, if_neg (by simp)]
def sc (a b : Rat) : Nat := if a * b < 0 then 1 else 0
theorem changes_cons2 (a b : Rat) (l : List Rat) : changes (a :: b :: l) = sc a b + changes (b :: l) := by
 rw [changes]; rfl
def ch (l : List Rat) : Nat := changes (nz l)
theorem ch_cons2 {a b : Rat} (ha : a ≠ 0) (hb : b ≠ 0) (l : List Rat) : ch (a :: b :: l) = sc a b + ch (b :: l) := by
 unfold ch
 rw [nz_cons_ne ha, nz_cons_ne hb, changes_cons2]
theorem ch_zero (l : List Rat) : ch (0 :: l) = ch l := by unfold ch; rw [nz_cons_zero]
theorem ch_skip {a : Rat} (ha : a ≠ 0) (l : List Rat) : ch (a :: 0 :: l) = ch (a :: l) := by
 unfold ch
 rw [nz_cons_ne ha, nz_cons_ne ha, nz_cons_zero]
theorem changesAt_eq (l : List Poly) (x : Rat) : changesAt l x = ch (l.map fun p => at_ p x) := rfl
theorem sc_pos {a b : Rat} (h : 0 < a * b) : sc a b = 0 := by unfold sc; rw [if_neg (by grind)]
theorem sc_neg {a b : Rat} (h : a * b < 0) : sc a b = 1 := by unfold sc; rw [if_pos h]
theorem ch_mid {a b c : Rat} (h : a * c < 0) (l : List Rat) : ch (a :: b :: c :: l) = 1 + ch (c :: l) := by
 have ha : a ≠ 0 := fun e => by subst e; grind
 have hc : c ≠ 0 := fun e => by subst e; grind
 by_cases hb : b = 0
 ·subst hb
  rw [ch_skip ha, ch_cons2 ha hc, sc_neg h]
 ·rw [ch_cons2 ha hb, ch_cons2 hb hc]
  rcases rat_tri (a * b) 0 with q | q | q
  ·have q2 : 0 < b * c := by
    rcases mul_neg_cases q with z | z <;> rcases mul_neg_cases h with w | w <;> first | (exfalso; grind) | exact Rat.mul_pos z.2 w.2 | exact neg_mul_neg' z.2 w.2
   rw [sc_neg q, sc_pos q2]; lia
  ·rcases Rat.mul_eq_zero.mp q with z | z
   ·exact absurd z ha
   ·exact absurd z hb
  ·have q2 : b * c < 0 := by
    rcases mul_pos_cases q with z | z <;> rcases mul_neg_cases h with w | w <;> first | (exfalso; grind) | exact pos_mul_neg z.2 w.2 | (have := pos_mul_neg w.2 z.2; grind)
   rw [sc_pos q, sc_neg q2]; lia
inductive Good : List (Rat × Rat) -> Prop
 | one {u v : Rat} : 0 < u * v -> Good [(u, v)]
 | two {u v u' v' : Rat} {t : List (Rat × Rat)} : 0 < u * v -> 0 < u' * v' -> Good ((u', v') :: t) -> Good ((u, v) :: (u', v') :: t)
 | three {u v u' v' u2 v2 : Rat} {t : List (Rat × Rat)} : 0 < u * v -> u * u2 < 0 -> v * v2 < 0 -> Good ((u2, v2) :: t) -> Good ((u, v) :: (u', v') :: (u2, v2) :: t)
theorem ne_of_mul_pos {u v : Rat} (h : 0 < u * v) : u ≠ 0 /\ v ≠ 0 :=
 ⟨fun e => by subst e; grind, fun e => by subst e; grind⟩
theorem sc_same {u v u' v' : Rat} (h : 0 < u * v) (h' : 0 < u' * v') : sc u u' = sc v v' := by
 unfold sc
 rcases mul_pos_cases h with a | a <;> rcases mul_pos_cases h' with b | b
 ·have h1 := Rat.mul_pos a.1 b.1; have h2 := Rat.mul_pos a.2 b.2
  rw [if_neg (by grind), if_neg (by grind)]
 ·have h1 := pos_mul_neg a.1 b.1; have h2 := pos_mul_neg a.2 b.2
  rw [if_pos h1, if_pos h2]
 ·have h1 := pos_mul_neg b.1 a.1; have h2 := pos_mul_neg b.2 a.2
  rw [if_pos (by grind), if_pos (by grind)]
 ·have h1 := neg_mul_neg' a.1 b.1; have h2 := neg_mul_neg' a.2 b.2
  rw [if_neg (by grind), if_neg (by grind)]
theorem Good.ch {l : List (Rat × Rat)} (h : Good l) : My.ch (l.map fun x => x.1) = My.ch (l.map fun x => x.2) := by
 induction h with
 | one h =>
  obtain ⟨h1, h2⟩ := ne_of_mul_pos h
  simp only [List.map_cons, List.map_nil]
  unfold My.ch
  rw [nz_cons_ne h1, nz_cons_ne h2]
  rfl
 | two h h' _ ih =>
  obtain ⟨h1, h2⟩ := ne_of_mul_pos h
  obtain ⟨h3, h4⟩ := ne_of_mul_pos h'
  simp only [List.map_cons] at ih ⊢
  rw [ch_cons2 h1 h3, ch_cons2 h2 h4, ih, sc_same h h']
 | three h h1 h2 _ ih =>
  simp only [List.map_cons] at ih ⊢
  rw [ch_mid h1, ch_mid h2, ih]
def Near2 (B : Rat) (F : Rat -> Rat -> Prop) : Prop := ∃ d : Rat, 0 < d /\ ∀ a b : Rat, -B <= a -> a < b -> b <= B -> b - a <= d -> F a b
theorem Near2.and {B : Rat} {F G : Rat -> Rat -> Prop} (h : Near2 B F) (k : Near2 B G) : Near2 B fun a b => F a b /\ G a b := by
 obtain ⟨d, d0, hd⟩ := h
 obtain ⟨e, e0, he⟩ := k
 by_cases q : d <= e
 ·exact ⟨d, d0, fun a b h1 h2 h3 h4 => ⟨hd a b h1 h2 h3 h4, he a b h1 h2 h3 (by grind)⟩⟩
 ·exact ⟨e, e0, fun a b h1 h2 h3 h4 => ⟨hd a b h1 h2 h3 (by grind), he a b h1 h2 h3 h4⟩⟩
theorem Near2.mono {B : Rat} {F G : Rat -> Rat -> Prop} (h : Near2 B F) (k : ∀ a b, -B <= a -> a < b -> b <= B -> F a b -> G a b) : Near2 B G := by
 obtain ⟨d, d0, hd⟩ := h
 exact ⟨d, d0, fun a b h1 h2 h3 h4 => k a b h1 h2 h3 (hd a b h1 h2 h3 h4)⟩
theorem small_mul {e m : Rat} (he : 0 < e) (hm : 0 <= m) : ∃ d : Rat, 0 < d /\ d * m < e := by
 have h1 : (0 : Rat) < m + 1 := by grind
 refine ⟨e / (m + 1), ?_, ?_⟩
 ·rw [Rat.div_def]; exact Rat.mul_pos he (Rat.inv_pos.mpr h1)
 ·have h2 := Rat.div_mul_cancel (a := e) (b := m + 1) (by grind)
  have h3 : 0 < e / (m + 1) := by rw [Rat.div_def]; exact Rat.mul_pos he (Rat.inv_pos.mpr h1)
  have : e / (m + 1) * (m + 1) = e / (m + 1) * m + e / (m + 1) := by grind
  grind
theorem near_small {B : Rat} (hB : 0 <= B) (q : Poly) {e : Rat} (he : 0 < e) : Near2 B fun a b => at_ q a * at_ q b <= 0 -> ab (at_ q a) < e /\ ab (at_ q b) < e := by
 obtain ⟨d, d0, hd⟩ := small_mul he (db_nonneg hB q)
 refine ⟨d, d0, fun a b h1 h2 h3 h4 hs => ?_⟩
 have ha : ab a <= B := ab_le.mpr ⟨h1, by grind⟩
 have hb : ab b <= B := ab_le.mpr ⟨by grind, h3⟩
 have hl := lip hB ha hb q
 have e1 : ab (b - a) = b - a := by unfold ab; rw [if_neg (by grind)]
 rw [e1] at hl
 have h5 : (b - a) * db q B <= d * db q B := Rat.mul_le_mul_of_nonneg_right h4 (db_nonneg hB q)
 have h6 : ab (at_ q b - at_ q a) < e := by grind
 generalize at_ q a = u at *
 generalize at_ q b = v at *
 have h7 := ab_le (x := v - u) (B := ab (v - u))
 have key : ab u <= ab (v - u) /\ ab v <= ab (v - u) := by
  rcases rat_tri u 0 with hu | hu | hu
  ·have hv : 0 <= v := by
    rcases rat_tri v 0 with hv | hv | hv
    ·have := neg_mul_neg' hu hv; grind
    ·grind
    ·grind
   unfold ab; constructor <;> split <;> split <;> grind
  ·subst hu
   unfold ab; constructor <;> split <;> split <;> grind
  ·have hv : v <= 0 := by
    rcases rat_tri v 0 with hv | hv | hv
    ·grind
    ·grind
    ·have := Rat.mul_pos hu hv; grind
   unfold ab; constructor <;> split <;> split <;> grind
 grind
def Bz (p q : Poly) : Prop := ∃ u v : Poly, ∀ x, at_ u x * at_ p x + at_ v x * at_ q x = 1
theorem Bz.symm {p q : Poly} (h : Bz p q) : Bz q p := let ⟨u, v, e⟩ := h; ⟨v, u, fun x => by have := e x; grind⟩
theorem Bz.step {p q r : Poly} (h : Bz p q) (Q : Poly) (e : ∀ x, at_ p x = at_ Q x * at_ q x - at_ r x) : Bz q r := by
 obtain ⟨u, v, h⟩ := h
 refine ⟨add (mul u Q) v, scale (-1) u, fun x => ?_⟩
 have := h x
 rw [e] at this
 rw [at_add, at_mul, at_scale]
 grind
theorem Bz.far {p q : Poly} (h : Bz p q) {B : Rat} (hB : 0 <= B) : ∃ e c : Rat, 0 < e /\ 0 < c /\ ∀ x, ab x <= B -> ab (at_ q x) < e -> c < ab (at_ p x) := by
 obtain ⟨u, v, h⟩ := h
 obtain ⟨e, e0, he⟩ := small_mul (e := 1 / 2) half_pos (vb_nonneg hB v)
 obtain ⟨c, c0, hc⟩ := small_mul (e := 1 / 2) half_pos (vb_nonneg hB u)
 refine ⟨e, c, e0, c0, fun x hx hq => ?_⟩
 rcases rat_lt_or_ge c (ab (at_ p x)) with z | z
 ·exact z
 ·exfalso
  have hu := at_le hB hx u
  have hv := at_le hB hx v
  have h1 := mul_le_mul_nn (ab_nonneg (at_ u x)) (Rat.le_of_lt c0) hu z
  have h2 := mul_le_mul_nn (ab_nonneg (at_ v x)) (Rat.le_of_lt e0) hv (Rat.le_of_lt hq)
  have h3 := ab_add (at_ u x * at_ p x) (at_ v x * at_ q x)
  rw [h x, ab_mul, ab_mul] at h3
  have h4 : ab 1 = 1 := by decide
  rw [h4] at h3
  have e3 : vb u B * c = c * vb u B := by grind
  have e4 : vb v B * e = e * vb v B := by grind
  grind
theorem opp_of {x y c : Rat} (hx : c < ab x) (h : ab (y + x) <= c) : x * y < 0 := by
 have h1 := (ab_le (x := y + x) (B := c)).mp h
 unfold ab at hx
 split at hx
 ·rename_i h0
  have hy : 0 < y := by grind
  have := pos_mul_neg hy h0
  grind
 ·have hy : y < 0 := by grind
  have h0 : 0 < x := by grind
  exact pos_mul_neg h0 hy
inductive Row2 : Poly -> Poly -> List Poly -> Prop
 | nil {p q : Poly} : Row2 p q []
 | cons {p q r : Poly} {t : List Poly} (Q : Poly) (k : Rat) : 0 < k -> (∀ x, at_ p x = at_ Q x * at_ q x - k * at_ r x) -> Row2 p q (r :: t)
inductive Row : Poly -> List Poly -> Prop
 | last {p : Poly} : (∃ u : Poly, ∀ x, at_ u x * at_ p x = 1) -> Row p []
 | step {p q : Poly} {t : List Poly} : Bz p q -> Row2 p q t -> Row q t -> Row p (q :: t)
def prs (l : List Poly) (a b : Rat) : List (Rat × Rat) := l.map fun p => (at_ p a, at_ p b)
theorem prs_fst (l : List Poly) (a b : Rat) : (prs l a b).map (fun x => x.1) = l.map fun p => at_ p a := by unfold prs; rw [List.map_map]; rfl
theorem prs_snd (l : List Poly) (a b : Rat) : (prs l a b).map (fun x => x.2) = l.map fun p => at_ p b := by unfold prs; rw [List.map_map]; rfl
theorem last_near {q : Poly} (h : ∃ u : Poly, ∀ x, at_ u x * at_ q x = 1) {B : Rat} (hB : 0 <= B) : Near2 B fun a b => 0 < at_ q a * at_ q b := by
 obtain ⟨u, h⟩ := h
 obtain ⟨e, e0, he⟩ := small_mul (e := 1) (by decide) (vb_nonneg hB u)
 refine (near_small hB q e0).mono fun a b h1 h2 h3 hs => ?_
 rcases rat_lt_or_ge 0 (at_ q a * at_ q b) with z | z
 ·exact z
 ·exfalso
  have hq := (hs z).1
  have ha : ab a <= B := ab_le.mpr ⟨h1, by grind⟩
  have hu := at_le hB ha u
  have h5 := mul_le_mul_nn (ab_nonneg (at_ u a)) (Rat.le_of_lt e0) hu (Rat.le_of_lt hq)
  rw [<- ab_mul, h a] at h5
  have h6 : ab 1 = 1 := by decide
  rw [h6] at h5
  have e4 : vb u B * e = e * vb u B := by grind
  grind
theorem mid_near {p q r Q : Poly} {k : Rat} (hz : Bz p q) (hk : 0 < k) (e : ∀ x, at_ p x = at_ Q x * at_ q x - k * at_ r x) {B : Rat} (hB : 0 <= B) :
  Near2 B fun a b => at_ q a * at_ q b <= 0 -> at_ p a * at_ r a < 0 /\ at_ p b * at_ r b < 0 := by
 obtain ⟨e1, c, e10, c0, hf⟩ := hz.far hB
 obtain ⟨e2, e20, he2⟩ := small_mul c0 (vb_nonneg hB Q)
 refine ((near_small hB q e10).and (near_small hB q e20)).mono fun a b h1 h2 h3 hs hq => ?_
 obtain ⟨s1, s2⟩ := hs
 obtain ⟨s1a, s1b⟩ := s1 hq
 obtain ⟨s2a, s2b⟩ := s2 hq
 have ha : ab a <= B := ab_le.mpr ⟨h1, by grind⟩
 have hb : ab b <= B := ab_le.mpr ⟨by grind, h3⟩
 have one : ∀ x, ab x <= B -> ab (at_ q x) < e1 -> ab (at_ q x) < e2 -> at_ p x * at_ r x < 0 := by
  intro x hx x1 x2
  have hp := hf x hx x1
  have hQ := at_le hB hx Q
  have h5 := mul_le_mul_nn (ab_nonneg (at_ Q x)) (Rat.le_of_lt e20) hQ (Rat.le_of_lt x2)
  rw [<- ab_mul] at h5
  have e4 : vb Q B * e2 = e2 * vb Q B := by grind
  have h6 : at_ p x * (k * at_ r x) < 0 := by
   refine opp_of (c := c) hp ?_
   have : k * at_ r x + at_ p x = at_ Q x * at_ q x := by have := e x; grind
   rw [this]; grind
  rcases mul_neg_cases h6 with z | z
  ·refine pos_mul_neg z.1 ?_
   rcases rat_lt_or_ge (at_ r x) 0 with w | w
   ·exact w
   ·have := Rat.mul_nonneg (Rat.le_of_lt hk) w; grind
  ·have : 0 < at_ r x := by
    rcases rat_lt_or_ge 0 (at_ r x) with w | w
    ·exact w
    ·have := Rat.mul_nonneg (Rat.le_of_lt hk) (b := -at_ r x) (by grind); grind
   have := pos_mul_neg this z.1
   grind
 exact ⟨one a ha s1a s2a, one b hb s1b s2b⟩
theorem pos_chain {pa pb ra rb : Rat} (h : 0 < pa * pb) (h1 : pa * ra < 0) (h2 : pb * rb < 0) : 0 < ra * rb := by
 rcases mul_pos_cases h with z | z <;> rcases mul_neg_cases h1 with w | w <;> rcases mul_neg_cases h2 with v | v <;> first | (exfalso; grind) | exact neg_mul_neg' w.2 v.2 | exact Rat.mul_pos w.2 v.2
theorem Row.near {B : Rat} (hB : 0 <= B) : ∀ (n : Nat) {p : Poly} {t : List Poly}, t.length <= n -> Row p t -> Near2 B fun a b => 0 < at_ p a * at_ p b -> Good (prs (p :: t) a b) := by
 intro n
 induction n using Nat.strongRecOn with
 | ind n ih =>
  intro p t hn h
  cases h with
  | last h => exact ⟨1, by decide, fun a b _ _ _ _ hp => .one hp⟩
  | step hz h2 hr =>
   rename_i q t
   have iq := ih (n - 1) (by simp at hn; lia) (p := q) (t := t) (by simp at hn; lia) hr
   cases h2 with
   | nil =>
    cases hr with
    | last hl =>
     refine (last_near hl hB).mono fun a b _ _ _ hq hp => ?_
     exact .two hp hq (.one hq)
   | cons Q k hk e =>
    rename_i r t
    cases hr with
    | step hz' h2' hr' =>
     have ir := ih (n - 2) (by simp at hn; lia) (p := r) (t := t) (by simp at hn; lia) hr'
     refine ((iq.and ir).and (mid_near hz hk e hB)).mono fun a b _ _ _ hs hp => ?_
     obtain ⟨⟨i1, i2⟩, i3⟩ := hs
     rcases rat_lt_or_ge 0 (at_ q a * at_ q b) with z | z
     ·exact .two hp z (i1 z)
     ·obtain ⟨o1, o2⟩ := i3 z
      exact .three hp o1 o2 (i2 (pos_chain hp o1 o2))
structure Sturm (p : Poly) (l : List Poly) : Prop where
 ex : (∃ (q : Poly) (t : List Poly) (k : Rat), l = p :: q :: t /\ 0 < k /\ (∀ x, at_ q x = k * der p x) /\ Row p (q :: t)) \/ (l = [p] /\ Row p [])
def cross (p : Poly) (a b : Rat) : Nat := if at_ p a ≠ 0 /\ at_ p a * at_ p b <= 0 then 1 else 0
theorem der_near {p q : Poly} {k : Rat} (hk : 0 < k) (hd : ∀ x, at_ q x = k * der p x) (hz : Bz p q) {B : Rat} (hB : 0 <= B) :
  Near2 B fun a b => at_ p a * at_ p b <= 0 -> 0 < at_ q a * at_ q b /\ 0 < (at_ p b - at_ p a) * at_ q a := by
 obtain ⟨e1, c, e10, c0, hf⟩ := hz.symm.far hB
 obtain ⟨d1, d10, hd1⟩ := small_mul c0 (db_nonneg hB q)
 obtain ⟨d2, d20, hd2⟩ := small_mul c0 (Rat.mul_nonneg (Rat.le_of_lt hk) (tb_nonneg hB p))
 have n1 : Near2 B fun a b => b - a <= d1 := ⟨d1, d10, fun _ _ _ _ _ h => h⟩
 have n2 : Near2 B fun a b => b - a <= d2 := ⟨d2, d20, fun _ _ _ _ _ h => h⟩
 refine ((near_small hB p e10).and (n1.and n2)).mono fun a b h1 h2 h3 hs hp => ?_
 obtain ⟨s1, m1, m2⟩ := hs
 obtain ⟨sa, sb⟩ := s1 hp
 have ha : ab a <= B := ab_le.mpr ⟨h1, by grind⟩
 have hb : ab b <= B := ab_le.mpr ⟨by grind, h3⟩
 have qa := hf a ha sa
 have qb := hf b hb sb
 have e1' : ab (b - a) = b - a := by unfold ab; rw [if_neg (by grind)]
 have hl := lip hB ha hb q
 rw [e1'] at hl
 have h5 : (b - a) * db q B <= d1 * db q B := Rat.mul_le_mul_of_nonneg_right m1 (db_nonneg hB q)
 have h6 : ab (at_ q b - at_ q a) < c := by grind
 have hqq : 0 < at_ q a * at_ q b := by
  have h7 := (ab_le (x := at_ q b - at_ q a) (B := c)).mp (Rat.le_of_lt h6)
  generalize at_ q a = u at *
  generalize at_ q b = v at *
  unfold ab at qa
  split at qa
  ·exact neg_mul_neg' (by grind) (by grind)
  ·exact Rat.mul_pos (by grind) (by grind)
 refine ⟨hqq, ?_⟩
 have ht := taylor p a b
 have hty := tay_le hB ha hb p
 have hq := hd a
 have e2 : k * (at_ p b - at_ p a) = (b - a) * (at_ q a + (b - a) * (k * tay p a b)) := by rw [ht, hq]; grind
 have h8 : ab ((b - a) * (k * tay p a b)) < c := by
  rw [ab_mul, ab_mul, e1']
  have ek : ab k = k := by unfold ab; rw [if_neg (by grind)]
  rw [ek]
  have z1 : k * ab (tay p a b) <= k * tb p B := Rat.mul_le_mul_of_nonneg_left hty (Rat.le_of_lt hk)
  have z2 := mul_le_mul_nn (a := b - a) (b := d2) (by grind) (Rat.mul_nonneg (Rat.le_of_lt hk) (tb_nonneg hB p)) m2 z1
  grind
 have h9 := (ab_le (x := (b - a) * (k * tay p a b)) (B := c)).mp (Rat.le_of_lt h8)
 generalize (b - a) * (k * tay p a b) = w at *
 have hba : 0 < b - a := by grind
 have h10 : 0 < k * (at_ p b - at_ p a) * at_ q a := by
  rw [e2]
  unfold ab at qa
  split at qa
  ·have x1 : at_ q a + w < 0 := by grind
   have x2 := pos_mul_neg hba x1
   exact neg_mul_neg' x2 (by grind)
  ·have x1 : 0 < at_ q a + w := by grind
   exact Rat.mul_pos (Rat.mul_pos hba x1) (by grind)
 rcases rat_lt_or_ge 0 ((at_ p b - at_ p a) * at_ q a) with z | z
 ·exact z
 ·exfalso
  have := Rat.mul_nonneg (Rat.le_of_lt hk) (b := -((at_ p b - at_ p a) * at_ q a)) (by grind)
  grind
theorem Sturm.near {p : Poly} {l : List Poly} (h : Sturm p l) {B : Rat} (hB : 0 <= B) : Near2 B fun a b => changesAt l a = changesAt l b + cross p a b := by
 rcases h.ex with ⟨q, t, k, rfl, hk, hd, hr⟩ | ⟨rfl, hr⟩
 ·have hr' := hr
  cases hr with
  | step hz h2 hq =>
   refine (((hr'.near hB _ (Nat.le_refl _)).and (hq.near hB _ (Nat.le_refl _))).and (der_near hk hd hz hB)).mono fun a b _ hab _ hs => ?_
   obtain ⟨⟨g1, g2⟩, g3⟩ := hs
   rw [changesAt_eq, changesAt_eq]
   rcases rat_lt_or_ge 0 (at_ p a * at_ p b) with z | z
   ·have := (g1 z).ch
    rw [prs_fst, prs_snd] at this
    rw [this]
    unfold cross
    rw [if_neg (fun w => by grind)]
    rfl
   ·obtain ⟨c1, c2⟩ := g3 z
    have gq := (g2 c1).ch
    rw [prs_fst, prs_snd] at gq
    obtain ⟨na, nb⟩ := ne_of_mul_pos c1
    simp only [List.map_cons] at gq ⊢
    unfold cross
    by_cases pa : at_ p a = 0
    ·rw [if_neg (fun w => w.1 pa), pa, ch_zero, gq]
     have pb : at_ p b ≠ 0 := fun e => by rw [pa, e] at c2; grind
     rw [ch_cons2 pb nb]
     have : sc (at_ p b) (at_ q b) = 0 := by
      refine sc_pos ?_
      rw [pa] at c2
      have c3 : 0 < at_ p b * at_ q a := by grind
      rcases mul_pos_cases c1 with w | w <;> rcases mul_pos_cases c3 with v | v <;> first | (exfalso; grind) | exact Rat.mul_pos v.1 w.2 | exact neg_mul_neg' v.1 w.2
     rw [this]; lia
    ·rw [if_pos ⟨pa, z⟩, ch_cons2 pa na]
     have s1 : sc (at_ p a) (at_ q a) = 1 := by
      refine sc_neg ?_
      rcases mul_pos_cases c2 with w | w
      ·have : at_ p a < 0 := by
        rcases rat_tri (at_ p a) 0 with v | v | v
        ·exact v
        ·exact absurd v pa
        ·exfalso
         have := Rat.mul_pos v (b := at_ p b) (by grind)
         grind
       have := pos_mul_neg w.2 this
       grind
      ·have : 0 < at_ p a := by
        rcases rat_tri (at_ p a) 0 with v | v | v
        ·exfalso
         have := neg_mul_neg' v (b := at_ p b) (by grind)
         grind
        ·exact absurd v pa
        ·exact v
       exact pos_mul_neg this w.2
     rw [s1, gq]
     by_cases pb : at_ p b = 0
     ·rw [pb, ch_zero]; lia
     ·rw [ch_cons2 pb nb]
      have : sc (at_ p b) (at_ q b) = 0 := by
       refine sc_pos ?_
       have hpp : at_ p a * at_ p b < 0 := by
        rcases rat_tri (at_ p a * at_ p b) 0 with v | v | v
        ·exact v
        ·rcases Rat.mul_eq_zero.mp v with v | v
         ·exact absurd v pa
         ·exact absurd v pb
        ·grind
       rcases mul_pos_cases c1 with w | w <;> rcases mul_pos_cases c2 with v | v <;> rcases mul_neg_cases hpp with y | y <;> first | (exfalso; grind) | exact Rat.mul_pos y.2 w.2 | exact neg_mul_neg' y.2 w.2
      rw [this]; lia
 ·cases hr with
  | last hl =>
   refine (last_near hl hB).mono fun a b _ _ _ hq => ?_
   rw [changesAt_eq, changesAt_eq]
   unfold cross
   rw [if_neg (fun w => by grind)]
   obtain ⟨na, nb⟩ := ne_of_mul_pos hq
   simp only [List.map_cons, List.map_nil]
   unfold ch
   rw [nz_cons_ne na, nz_cons_ne nb]
   rfl
theorem arch (x : Rat) {d : Rat} (hd : 0 < d) : ∃ n : Nat, x <= (n : Rat) * d := by
 have h1 : x <= ((x / d).ceil : Rat) * d := by
  have h2 := Rat.div_mul_cancel (a := x) (b := d) (by grind)
  have h3 : x / d <= ((x / d).ceil : Rat) := Rat.le_ceil
  have h4 := Rat.mul_le_mul_of_nonneg_right h3 (Rat.le_of_lt hd)
  grind
 refine ⟨(x / d).ceil.toNat, ?_⟩
 have h5 : (x / d).ceil <= (((x / d).ceil.toNat : Nat) : Int) := by lia
 have h6 : ((x / d).ceil : Rat) <= ((((x / d).ceil.toNat : Nat) : Int) : Rat) := Rat.intCast_le_intCast.mpr h5
 have h7 := Rat.mul_le_mul_of_nonneg_right h6 (Rat.le_of_lt hd)
 have e : ((((x / d).ceil.toNat : Nat) : Int) : Rat) = (((x / d).ceil.toNat : Nat) : Rat) := rfl
 rw [e] at h7
 grind
theorem Near2.all {B : Rat} {F : Rat -> Rat -> Prop} (h : Near2 B F) (tr : ∀ a b c, -B <= a -> a < b -> b < c -> c <= B -> F a b -> F b c -> F a c) : ∀ a b, -B <= a -> a < b -> b <= B -> F a b := by
 obtain ⟨d, d0, hd⟩ := h
 have H : ∀ (n : Nat) (a b : Rat), -B <= a -> a < b -> b <= B -> b - a <= (n : Rat) * d -> F a b := by
  intro n
  induction n with
  | zero =>
   intro a b h1 h2 h3 h4
   exfalso
   have : ((0 : Nat) : Rat) = 0 := rfl
   rw [this] at h4
   grind
  | succ n ih =>
   intro a b h1 h2 h3 h4
   rcases rat_lt_or_ge d (b - a) with z | z
   ·have e : ((n + 1 : Nat) : Rat) = (n : Rat) + 1 := by simp
    rw [e] at h4
    exact tr a (a + d) b h1 (by grind) (by grind) h3 (hd a (a + d) h1 (by grind) (by grind) (by grind)) (ih (a + d) b (by grind) (by grind) h3 (by grind))
   ·exact hd a b h1 h2 h3 z
 intro a b h1 h2 h3
 obtain ⟨n, hn⟩ := arch (b - a) d0
 exact H n a b h1 h2 h3 hn
theorem bound2 (a b : Rat) : ∃ B : Rat, 0 <= B /\ -B <= a /\ b <= B := by
 refine ⟨ab a + ab b, ?_, ?_, ?_⟩
 ·have := ab_nonneg a; have := ab_nonneg b; grind
 ·have := ab_nonneg b; unfold ab at *; split <;> split <;> grind
 ·have := ab_nonneg a; unfold ab at *; split <;> split <;> grind
theorem Sturm.mono {p : Poly} {l : List Poly} (h : Sturm p l) {a b : Rat} (hab : a <= b) : changesAt l b <= changesAt l a := by
 rcases rat_tri a b with z | z | z
 ·obtain ⟨B, hB, h1, h2⟩ := bound2 a b
  refine ((h.near hB).mono (G := fun a b => changesAt l b <= changesAt l a) fun a b _ _ _ e => by lia).all (fun a b c _ _ _ _ x y => by lia) a b h1 z h2
 ·rw [z]; exact Nat.le_refl _
 ·grind
theorem Sturm.add {p : Poly} {l : List Poly} (h : Sturm p l) {a b c : Rat} (hab : a <= b) (hbc : b <= c) : between l a b + between l b c = between l a c := by
 have h1 := h.mono hab
 have h2 := h.mono hbc
 unfold between
 lia
theorem within_all {a0 b0 B : Rat} {F : Rat -> Rat -> Prop} (h1 : -B <= a0) (h2 : b0 <= B) (h : Near2 B fun a b => a0 <= a -> b <= b0 -> F a b) (tr : ∀ a b c, a0 <= a -> a < b -> b < c -> c <= b0 -> F a b -> F b c -> F a c) {a b : Rat} (ha : a0 <= a) (hab : a < b) (hb : b <= b0) : F a b :=
 h.all (F := fun a b => a0 <= a -> b <= b0 -> F a b) (fun a b c _ x y _ f g p q => tr a b c p x y q (f p (by grind)) (g (by grind) q)) a b (by grind) hab (by grind) ha hb
theorem Sturm.none {p : Poly} {l : List Poly} (h : Sturm p l) {a b : Rat} (hab : a <= b) (hp : ∀ x y, a <= x -> x < y -> y <= b -> 0 < at_ p x * at_ p y) : between l a b = 0 := by
 rcases rat_tri a b with z | z | z
 ·obtain ⟨B, hB, h1, h2⟩ := bound2 a b
  have : changesAt l a = changesAt l b := within_all (F := fun a b => changesAt l a = changesAt l b) h1 h2 ((h.near hB).mono fun x y _ q _ e hx hy => by
   have := hp x y hx q hy
   rw [e]
   unfold cross
   rw [if_neg (fun w => by grind)]; rfl) (fun _ _ _ _ _ _ _ x y => x.trans y) (Rat.le_refl) z (Rat.le_refl)
  unfold between; lia
 ·subst z; unfold between; lia
 ·grind
theorem rise {p : Poly} {a b c : Rat} (hc : 0 < c) (hd : ∀ x, a <= x -> x <= b -> c <= der p x) {x y : Rat} (hx : a <= x) (hxy : x < y) (hy : y <= b) : at_ p x < at_ p y := by
 obtain ⟨B, hB, h1, h2⟩ := bound2 a b
 obtain ⟨d, d0, hd0⟩ := small_mul hc (tb_nonneg hB p)
 refine within_all (F := fun x y => at_ p x < at_ p y) h1 h2 ⟨d, d0, fun u v w1 w2 w3 w4 w5 w6 => ?_⟩ (fun _ _ _ _ _ _ _ x y => by grind) hx hxy hy
 have hu : ab u <= B := ab_le.mpr ⟨w1, by grind⟩
 have hv : ab v <= B := ab_le.mpr ⟨by grind, w3⟩
 have ht := taylor p u v
 have hty := (ab_le (B := tb p B)).mp (tay_le hB hu hv p)
 have hdu := hd u w5 (by grind)
 have e1 : (v - u) * tb p B <= d * tb p B := Rat.mul_le_mul_of_nonneg_right w4 (tb_nonneg hB p)
 have e2 : (v - u) * (-(tb p B)) <= (v - u) * tay p u v := Rat.mul_le_mul_of_nonneg_left hty.1 (by grind)
 have e3 : 0 < der p u + (v - u) * tay p u v := by grind
 have e4 := Rat.mul_pos (a := v - u) (by grind) e3
 grind
theorem fall {p : Poly} {a b c : Rat} (hc : 0 < c) (hd : ∀ x, a <= x -> x <= b -> der p x <= -c) {x y : Rat} (hx : a <= x) (hxy : x < y) (hy : y <= b) : at_ p y < at_ p x := by
 obtain ⟨B, hB, h1, h2⟩ := bound2 a b
 obtain ⟨d, d0, hd0⟩ := small_mul hc (tb_nonneg hB p)
 refine within_all (F := fun x y => at_ p y < at_ p x) h1 h2 ⟨d, d0, fun u v w1 w2 w3 w4 w5 w6 => ?_⟩ (fun _ _ _ _ _ _ _ x y => by grind) hx hxy hy
 have hu : ab u <= B := ab_le.mpr ⟨w1, by grind⟩
 have hv : ab v <= B := ab_le.mpr ⟨by grind, w3⟩
 have ht := taylor p u v
 have hty := (ab_le (B := tb p B)).mp (tay_le hB hu hv p)
 have hdu := hd u w5 (by grind)
 have e1 : (v - u) * tb p B <= d * tb p B := Rat.mul_le_mul_of_nonneg_right w4 (tb_nonneg hB p)
 have e2 : (v - u) * tay p u v <= (v - u) * tb p B := Rat.mul_le_mul_of_nonneg_left hty.2 (by grind)
 have e3 : der p u + (v - u) * tay p u v < 0 := by grind
 have e4 := pos_mul_neg (a := v - u) (by grind) e3
 grind
theorem cross_rise {p : Poly} {a b : Rat} (h : at_ p a < at_ p b) : cross p a b = if at_ p a < 0 /\ 0 <= at_ p b then 1 else 0 := by
 unfold cross
 generalize at_ p a = u at *
 generalize at_ p b = v at *
 by_cases h1 : u < 0 /\ 0 <= v
 ·have h2 := Rat.mul_nonneg (a := -u) (b := v) (by grind) h1.2
  have h3 : u ≠ 0 /\ u * v <= 0 := ⟨by grind, by grind⟩
  rw [if_pos h1, if_pos h3]
 ·rw [if_neg h1, if_neg]
  rintro ⟨q1, q2⟩
  rcases rat_tri u 0 with z | z | z
  ·have : v < 0 := by grind
   have := neg_mul_neg' z this
   grind
  ·exact q1 z
  ·have := Rat.mul_pos z (b := v) (by grind)
   grind
theorem cross_fall {p : Poly} {a b : Rat} (h : at_ p b < at_ p a) : cross p a b = if 0 < at_ p a /\ at_ p b <= 0 then 1 else 0 := by
 unfold cross
 generalize at_ p a = u at *
 generalize at_ p b = v at *
 by_cases h1 : 0 < u /\ v <= 0
 ·have h2 := Rat.mul_nonneg (a := u) (b := -v) (by grind) (by grind)
  have h3 : u ≠ 0 /\ u * v <= 0 := ⟨by grind, by grind⟩
  rw [if_pos h1, if_pos h3]
 ·rw [if_neg h1, if_neg]
  rintro ⟨q1, q2⟩
  rcases rat_tri u 0 with z | z | z
  ·have := neg_mul_neg' z (b := v) (by grind)
   grind
  ·exact q1 z
  ·have : 0 < v := by grind
   have := Rat.mul_pos z this
   grind
theorem Sturm.slope {p : Poly} {l : List Poly} (h : Sturm p l) {a b c : Rat} (hab : a < b) (hc : 0 < c) (hd : (∀ x, a <= x -> x <= b -> c <= der p x) \/ (∀ x, a <= x -> x <= b -> der p x <= -c)) : changesAt l a = changesAt l b + cross p a b := by
 obtain ⟨B, hB, h1, h2⟩ := bound2 a b
 refine within_all (F := fun a b => changesAt l a = changesAt l b + cross p a b) h1 h2 ((h.near hB).mono fun x y _ q _ e hx hy => e) (fun x y z hx hxy hyz hz e f => ?_) (Rat.le_refl) hab (Rat.le_refl)
 rw [e, f]
 rcases hd with hd | hd
 ·have r1 := rise hc hd hx hxy (by grind)
  have r2 := rise hc hd (by grind) hyz hz
  rw [cross_rise r1, cross_rise r2, cross_rise (by grind : at_ p x < at_ p z)]
  by_cases q1 : at_ p x < 0 <;> by_cases q2 : 0 <= at_ p y <;> by_cases q3 : 0 <= at_ p z <;> simp [q1, q2, q3] <;> grind
 ·have r1 := fall hc hd hx hxy (by grind)
  have r2 := fall hc hd (by grind) hyz hz
  rw [cross_fall r1, cross_fall r2, cross_fall (by grind : at_ p z < at_ p x)]
  by_cases q1 : 0 < at_ p x <;> by_cases q2 : at_ p y <= 0 <;> by_cases q3 : at_ p z <= 0 <;> simp [q1, q2, q3] <;> grind
theorem Sturm.root {p : Poly} {l : List Poly} (h : Sturm p l) {a m : Rat} (hm : at_ p m = 0) (ha : a < m) : 1 <= between l a m := by
 obtain ⟨B, hB, h1, h2⟩ := bound2 a m
 have key : ∃ a', a <= a' /\ a' < m /\ changesAt l a' = changesAt l m + 1 := by
  rcases h.ex with ⟨q, t, k, rfl, hk, hd, hr⟩ | ⟨rfl, hr⟩
  ·cases hr with
   | step hz _ _ =>
    obtain ⟨d, d0, hn⟩ := (h.near hB).and (der_near hk hd hz hB)
    have fin : ∀ a', a <= a' -> a' < m -> m - a' <= d -> changesAt (p :: q :: t) a' = changesAt (p :: q :: t) m + 1 := by
     intro a' x1 x2 x3
     obtain ⟨e1, e2⟩ := hn a' m (by grind) x2 h2 x3
     rw [e1]
     unfold cross
     rw [hm]
     have e3 := e2 (by rw [hm]; grind)
     have e5 : at_ p a' ≠ 0 /\ at_ p a' * 0 <= 0 := ⟨fun e => by
      have e4 := e3.2
      rw [hm, e] at e4
      grind, by grind⟩
     rw [if_pos e5]
    rcases rat_lt_or_ge d (m - a) with z | z
    ·exact ⟨m - d, by grind, by grind, fin _ (by grind) (by grind) (by grind)⟩
    ·exact ⟨a, Rat.le_refl, ha, fin a (Rat.le_refl) ha z⟩
  ·cases hr with
   | last hl =>
    obtain ⟨u, hu⟩ := hl
    have := hu m
    rw [hm] at this
    grind
 obtain ⟨a', x1, x2, x3⟩ := key
 have := h.mono x1
 unfold between
 lia
theorem der_zero_of {p : Poly} (h : ∀ x, at_ p x = 0) (x : Rat) : der p x = 0 := by
 by_cases hd : der p x = 0
 ·exact hd
 ·exfalso
  have hpos : 0 < ab (der p x) := by unfold ab; split <;> grind
  have hB : (0 : Rat) <= ab x + 1 := by have := ab_nonneg x; grind
  obtain ⟨d, d0, hdl⟩ := small_mul hpos (tb_nonneg hB p)
  have key : ∀ e : Rat, 0 < e -> e <= 1 -> e <= d -> False := by
   intro e e0 e1 e2
   have ht := taylor p x (x + e)
   rw [h, h] at ht
   have ee : x + e - x = e := by grind
   rw [ee] at ht
   have h1 : der p x = -(e * tay p x (x + e)) := by
    have h2 : e * (der p x + e * tay p x (x + e)) = 0 := by grind
    rcases Rat.mul_eq_zero.mp h2 with z | z
    ·grind
    ·grind
   have hx : ab x <= ab x + 1 := by grind
   have hy : ab (x + e) <= ab x + 1 := by
    have := ab_add x e
    have e3 : ab e = e := by unfold ab; rw [if_neg (by grind)]
    grind
   have hty := tay_le hB hx hy p
   have h3 : ab (der p x) = ab e * ab (tay p x (x + e)) := by
    have h4 : ab (-(e * tay p x (x + e))) = ab e * ab (tay p x (x + e)) := by rw [ab_neg, ab_mul]
    rw [<- h1] at h4
    exact h4
   have e3 : ab e = e := by unfold ab; rw [if_neg (by grind)]
   rw [e3] at h3
   have h5 := mul_le_mul_nn (a := e) (b := d) (by grind) (tb_nonneg hB p) e2 hty
   grind
  rcases rat_lt_or_ge d 1 with z | z
  ·exact key d d0 (by grind) (Rat.le_refl)
  ·exact key 1 (by decide) (Rat.le_refl) z
theorem zero_at : ∀ (n : Nat) {p : Poly}, p.length <= n -> Nm p -> (∀ x, at_ p x = 0) -> p = [] := by
 intro n
 induction n with
 | zero => intro p hl _ _; exact List.length_eq_zero_iff.mp (by lia)
 | succ n ih =>
  intro p hl hp h
  have hs := slope_length hp
  have e : slope p = [] := ih (by lia) (nm_slope' p) (fun x => der_zero_of h x)
  rw [e] at hs
  have hs : 0 = p.length - 1 := hs
  match p, hp, h, hs with
  | [], _, _, _ => rfl
  | [c], hp, h, _ =>
   exfalso
   have := h 0
   rw [at_cons, at_nil] at this
   have hc : c = 0 := by grind
   subst hc
   exact hp rfl
  | _ :: _ :: _, _, _, hs => simp at hs
theorem ext_at {p q : Poly} (hp : Nm p) (hq : Nm q) (h : ∀ x, at_ p x = at_ q x) : p = q := by
 have hs : sub p q = [] := zero_at _ (Nat.le_refl _) (nm_sub p q) (fun x => by rw [at_sub, h]; grind)
 refine ext_nm hp hq fun i => ?_
 have := co_sub p q i
 rw [hs, co_nil] at this
 grind
theorem nil_of_at {p : Poly} (hp : Nm p) (h : ∀ x, at_ p x = 0) : p = [] := zero_at _ (Nat.le_refl _) hp h
theorem der_snoc0 (x : Rat) : ∀ p : Poly, der (p ++ [0]) x = der p x := by
 intro z0
 induction z0 with
 | nil =>
  rw [List.nil_append, der_cons, der_nil, at_nil]; grind
 | cons a r ih =>
  rw [List.cons_append, der_cons, der_cons, ih, at_append, at_cons, at_nil]; grind
theorem der_norm (p : Poly) (x : Rat) : der (norm p) x = der p x := by
 refine snoc_ind (P := fun p => der (norm p) x = der p x) rfl (fun p c ih => ?_) p
 rw [norm_snoc]
 split
 ·rename_i h
  rw [ih, h, der_snoc0]
 ·rfl
theorem der_ext {p q : Poly} (h : ∀ x, at_ p x = at_ q x) (x : Rat) : der p x = der q x := by
 rw [<- der_norm p, <- der_norm q, ext_at (nm_norm p) (nm_norm q) fun y => by rw [at_norm, at_norm, h]]
theorem der_zip (x : Rat) : ∀ p q : Poly, der (zipWith (fun a b => a + b) p q) x = der p x + der q x
 | [], [] => by rw [zipWith, der_nil]; grind
 | a :: r, [] => by rw [zipWith, der_cons, der_cons, der_zip x r [], at_zip_add, at_nil, der_nil]; grind
 | [], b :: s => by rw [zipWith, der_cons, der_cons, der_zip x [] s, at_zip_add, at_nil, der_nil]; grind
 | a :: r, b :: s => by rw [zipWith, der_cons, der_cons, der_cons, der_zip x r s, at_zip_add]; grind
theorem der_add (p q : Poly) (x : Rat) : der (add p q) x = der p x + der q x := by unfold add; rw [der_norm, der_zip]
theorem der_map (c : Rat) (x : Rat) : ∀ p : Poly, der (p.map fun a => c * a) x = c * der p x := by
 intro z0
 induction z0 with
 | nil =>
  rw [List.map_nil, der_nil]; grind
 | cons a r ih =>
  rw [List.map_cons, der_cons, der_cons, ih, at_map_mul]; grind
theorem der_scale (c : Rat) (p : Poly) (x : Rat) : der (scale c p) x = c * der p x := by unfold scale; rw [der_norm, der_map]
theorem der_mul (p q : Poly) (x : Rat) : der (mul p q) x = der p x * at_ q x + at_ p x * der q x := by
 induction p with
 | nil => rw [mul, der_nil, at_nil]; grind
 | cons a r ih => rw [mul, der_add, der_scale, der_norm, der_cons, der_cons, at_cons, ih, at_mul]; grind
theorem mul_ne {p q : Poly} (hp : Nm p) (hq : Nm q) (hp0 : p ≠ []) (hq0 : q ≠ []) : mul p q ≠ [] := by
 intro e
 have h := pm_last (p := p) (q := q) hp0 hq0
 rw [<- co_mul, e, co_nil] at h
 rcases Rat.mul_eq_zero.mp h.symm with z | z
 ·exact lead_ne hp hp0 z
 ·exact lead_ne hq hq0 z
theorem mul_length {p q : Poly} (hp : Nm p) (hq : Nm q) (hp0 : p ≠ []) (hq0 : q ≠ []) : (mul p q).length + 1 = p.length + q.length := by
 have l1 : 0 < p.length := List.length_pos_iff.mpr hp0
 have l2 : 0 < q.length := List.length_pos_iff.mpr hq0
 have hle : (mul p q).length <= p.length + q.length - 1 := nm_le (nm_mul p q) fun j hj => by
  rw [co_mul]; exact pm_high (by lia) (by lia) (fun i hi h => by lia)
 have hge : p.length + q.length - 1 <= (mul p q).length := by
  rcases Nat.lt_or_ge (mul p q).length (p.length + q.length - 1) with h | h
  ·exfalso
   have h2 := pm_last (p := p) (q := q) hp0 hq0
   rw [<- co_mul, co_of_ge (by lia)] at h2
   rcases Rat.mul_eq_zero.mp h2.symm with z | z
   ·exact lead_ne hp hp0 z
   ·exact lead_ne hq hq0 z
  ·exact h
 lia
theorem at_cancel {h a b : Poly} (hh : ∃ x, at_ h x ≠ 0) (e : ∀ x, at_ h x * at_ a x = at_ h x * at_ b x) (x : Rat) : at_ a x = at_ b x := by
 have hn : norm h ≠ [] := fun z => by
  obtain ⟨y, hy⟩ := hh
  apply hy
  rw [<- at_norm, z, at_nil]
 by_cases hs : sub a b = []
 ·have := at_sub a b x
  rw [hs, at_nil] at this
  grind
 ·exfalso
  refine mul_ne (nm_norm h) (nm_sub a b) hn hs (nil_of_at (nm_mul _ _) fun y => ?_)
  rw [at_mul, at_norm, at_sub]
  have := e y
  grind
theorem ne_at {p : Poly} (hp : Nm p) (h : p ≠ []) : ∃ x, at_ p x ≠ 0 := by
 refine Classical.byContradiction fun z => h (nil_of_at hp fun x => ?_)
 exact Classical.byContradiction fun y => z ⟨x, y⟩
def Dv (g p : Poly) : Prop := ∃ a : Poly, ∀ x, at_ p x = at_ a x * at_ g x
theorem gcd_dv : ∀ (n : Nat) {p q : Poly}, q.length <= n -> Nm p -> Nm q -> Dv (gcdOf2 p q) p /\ Dv (gcdOf2 p q) q /\ ∃ u v : Poly, ∀ x, at_ (gcdOf2 p q) x = at_ u x * at_ p x + at_ v x * at_ q x := by
 have base : ∀ {p : Poly}, Nm p -> Dv (gcdOf2 p []) p /\ Dv (gcdOf2 p []) [] /\ ∃ u v : Poly, ∀ x, at_ (gcdOf2 p []) x = at_ u x * at_ p x + at_ v x * at_ [] x := by
  intro p hp
  rw [gcdOf2_nil]
  by_cases h : p = []
  ·subst h
   exact ⟨⟨[], fun x => by rw [at_nil]; grind⟩, ⟨[], fun x => by rw [at_nil]; grind⟩, [], [], fun x => by show (0 : Rat) = 0 * 0 + 0 * 0; grind⟩
  ·have hl := lead_ne hp h
   have h1 := Rat.div_mul_cancel (a := 1) hl
   refine ⟨⟨[lead p], fun x => ?_⟩, ⟨[], fun x => by rw [at_nil]; grind⟩, [1 / lead p], [], fun x => ?_⟩
   ·rw [at_monic hp h, at_cons, at_nil]; grind
   ·rw [at_monic hp h, at_cons, at_nil]; grind
 intro n
 induction n with
 | zero =>
  intro p q hq hp hqn
  have e : q = [] := List.length_eq_zero_iff.mp (by lia)
  subst e
  exact base hp
 | succ n ih =>
  intro p q hq hp hqn
  by_cases h0 : q = []
  ·subst h0; exact base hp
  ·have hr := nm_rest hp hqn h0
   have hl := rest_len hp hqn h0
   have e := gcdOf2_step hp hqn h0 (c := 1) (by decide)
   rw [scale_one hr] at e
   obtain ⟨⟨a, ha⟩, ⟨b, hb⟩, u, v, huv⟩ := ih (p := q) (q := (divMod p q).2) (by lia) hqn hr
   rw [e] at ha hb huv
   refine ⟨⟨add (mul (divMod p q).1 a) b, fun x => ?_⟩, ⟨a, ha⟩, v, sub u (mul v (divMod p q).1), fun x => ?_⟩
   ·rw [at_divMod p q x, at_add, at_mul, ha x, hb x]; grind
   ·rw [huv x, at_sub, at_mul]
    have := at_divMod p q x
    grind
theorem div_exact {p g : Poly} (hp : Nm p) (hg : Nm g) (hg0 : g ≠ []) (h : Dv g p) : (divMod p g).2 = [] /\ ∀ x, at_ p x = at_ (divMod p g).1 x * at_ g x := by
 obtain ⟨a, ha⟩ := h
 have hr := nm_rest hp hg hg0
 have hl := rest_len hp hg hg0
 have key : (divMod p g).2 = [] := by
  refine Classical.byContradiction fun hne => ?_
  have e : (divMod p g).2 = mul (sub a (divMod p g).1) g := ext_at hr (nm_mul _ _) fun x => by
   rw [at_mul, at_sub]
   have h1 := at_divMod p g x
   have h2 := ha x
   grind
  have hs : sub a (divMod p g).1 ≠ [] := fun z => by rw [z] at e; exact hne (by rw [e]; rfl)
  have := mul_length (nm_sub a (divMod p g).1) hg hs hg0
  rw [<- e] at this
  have l1 : 0 < (sub a (divMod p g).1).length := List.length_pos_iff.mpr hs
  lia
 refine ⟨key, fun x => ?_⟩
 have := at_divMod p g x
 rw [key, at_nil] at this
 grind
def pw (h : Poly) : Nat -> Poly
 | 0 => [1]
 | n + 1 => mul h (pw h n)
theorem nm_pw (h : Poly) : ∀ n, Nm (pw h n)
 | 0 => by unfold pw Nm; decide
 | n + 1 => nm_mul _ _
theorem pw_len {h : Poly} (hh : Nm h) (h2 : 2 <= h.length) : ∀ n, pw h n ≠ [] /\ n + 1 <= (pw h n).length := by
 intro z0
 induction z0 with
 | zero =>
  exact ⟨by simp [pw], by simp [pw]⟩
 | succ n ih =>
  obtain ⟨i1, i2⟩ := ih
  have hne : h ≠ [] := fun e => by rw [e] at h2; simp at h2
  refine ⟨mul_ne hh (nm_pw h n) hne i1, ?_⟩
  have := mul_length hh (nm_pw h n) hne i1
  show n + 1 + 1 <= (mul h (pw h n)).length
  lia
theorem der_pw (h : Poly) (x : Rat) : ∀ n, at_ h x * der (pw h n) x = ((n : Nat) : Rat) * at_ (pw h n) x * der h x := by
 intro z0
 induction z0 with
 | zero =>
  have e : ((0 : Nat) : Rat) = 0 := rfl
  rw [pw, der_cons, at_nil, der_nil, e]; grind
 | succ n ih =>
  have ih := ih
  have e : ((n + 1 : Nat) : Rat) = (n : Rat) + 1 := by simp
  rw [pw, der_mul, at_mul, e]
  grind
theorem cop_slope {g s w h a b u v : Poly} (hg0 : ∃ x, at_ g x ≠ 0) (hgn : Nm g) (hh : Nm h) (h2 : 2 <= h.length)
  (e1 : ∀ x, der g x * at_ s x = at_ g x * (at_ w x - der s x)) (e2 : ∀ x, at_ s x = at_ a x * at_ h x) (e3 : ∀ x, der s x = at_ b x * at_ h x) (e4 : ∀ x, at_ u x * at_ s x + at_ v x * at_ w x = 1) : False := by
 have hne : h ≠ [] := fun e => by rw [e] at h2; simp at h2
 obtain ⟨x0, hx0⟩ := ne_at hh hne
 have H : ∀ k : Nat, ∃ G : Poly, ∀ x, at_ g x = at_ (pw h k) x * at_ G x := by
  intro k
  induction k with
  | zero => exact ⟨g, fun x => by rw [pw, at_cons, at_nil]; grind⟩
  | succ k ih =>
   obtain ⟨G, hG⟩ := ih
   have dg : ∀ x, der g x = der (pw h k) x * at_ G x + at_ (pw h k) x * der G x := fun x => by
    rw [<- der_mul]; exact der_ext (fun y => by rw [at_mul, hG]) x
   have ds : ∀ x, der s x = der a x * at_ h x + at_ a x * der h x := fun x => by
    rw [<- der_mul]; exact der_ext (fun y => by rw [at_mul, e2]) x
   let kk : Poly := [((k : Nat) : Rat)]
   let R : Poly := add (add (mul (mul kk (sub b (slope a))) G) (mul (slope G) a)) (mul G b)
   have hkk : ∀ x, at_ kk x = ((k : Nat) : Rat) := fun x => by show at_ [((k : Nat) : Rat)] x = _; rw [at_cons, at_nil]; grind
   have hR : ∀ x, at_ R x = ((k : Nat) : Rat) * (at_ b x - der a x) * at_ G x + der G x * at_ a x + at_ G x * at_ b x := fun x => by
    show at_ (add (add (mul (mul kk (sub b (slope a))) G) (mul (slope G) a)) (mul G b)) x = _
    rw [at_add, at_add, at_mul, at_mul, at_mul, at_mul, at_sub, hkk]; rfl
   have hpk : ∃ x, at_ (mul h (pw h k)) x ≠ 0 := ne_at (nm_mul _ _) (mul_ne hh (nm_pw h k) hne (pw_len hh h2 k).1)
   have key : ∀ x, at_ (mul G w) x = at_ (mul h R) x := by
    refine at_cancel hpk fun x => ?_
    rw [at_mul, at_mul, at_mul, hR]
    have f1 := e1 x
    have f2 := e2 x
    have f3 := e3 x
    have f5 := dg x
    have f6 := ds x
    have f7 := der_pw h x k
    have f8 := hG x
    rw [f5, f8, f2] at f1
    generalize at_ (pw h k) x = P at *
    generalize der (pw h k) x = dP at *
    generalize at_ h x = hv at *
    generalize der h x = dh at *
    generalize at_ G x = Gv at *
    generalize der G x = dG at *
    generalize at_ a x = av at *
    generalize der a x = da at *
    generalize at_ b x = bv at *
    generalize at_ w x = wv at *
    generalize der s x = ds' at *
    generalize ((k : Nat) : Rat) = kv at *
    have f9 : (kv * P * dh * Gv + hv * P * dG) * (av * hv) = hv * (P * Gv * (wv - ds')) := by
     rw [<- f7]
     have := congrArg (fun z => hv * z) f1
     try simp only at this
     grind
    have f10 : av * dh = (bv - da) * hv := by grind
    rw [f3] at f9
    have f11 : kv * P * dh * Gv * (av * hv) = kv * P * Gv * hv * ((bv - da) * hv) := by rw [<- f10]; grind
    grind
   refine ⟨add (mul (mul u a) G) (mul v R), fun x => ?_⟩
   have g1 := key x
   rw [at_mul, at_mul] at g1
   have g2 := e4 x
   rw [e2 x] at g2
   rw [pw, at_mul, at_add, at_mul, at_mul, at_mul, hG x]
   generalize at_ (pw h k) x = P at *
   generalize at_ G x = Gv at *
   generalize at_ h x = hv at *
   generalize at_ u x = uv at *
   generalize at_ v x = vv at *
   generalize at_ a x = av at *
   generalize at_ w x = wv at *
   generalize at_ R x = Rv at *
   have g3 : Gv = uv * (av * hv) * Gv + vv * (hv * Rv) := by
    rw [<- g1]
    have := congrArg (fun z => z * Gv) g2
    try simp only at this
    grind
   have g4 : P * Gv = P * (uv * (av * hv) * Gv + vv * (hv * Rv)) := by rw [<- g3]
   rw [g4]; grind
 obtain ⟨G, hG⟩ := H g.length
 obtain ⟨y, hy⟩ := hg0
 have hg : g = mul (pw h g.length) (norm G) := ext_at hgn (nm_mul _ _) fun x => by rw [at_mul, at_norm, hG]
 have hGn : norm G ≠ [] := fun z => by
  apply hy
  rw [hG y, <- at_norm G, z, at_nil]; grind
 obtain ⟨p1, p2⟩ := pw_len hh h2 g.length
 have hl := mul_length (nm_pw h g.length) (nm_norm G) p1 hGn
 rw [<- hg] at hl
 have : 0 < (norm G).length := List.length_pos_iff.mpr hGn
 lia
theorem gcd_dv' {p q : Poly} (hp : Nm p) (hq : Nm q) : Dv (gcd p q) p /\ Dv (gcd p q) q /\ ∃ u v : Poly, ∀ x, at_ (gcd p q) x = at_ u x * at_ p x + at_ v x * at_ q x := by
 rw [gcd_eq hp hq]; exact gcd_dv _ (Nat.le_refl _) hp hq
theorem nm_gcd {p q : Poly} (hp : Nm p) (hq : Nm q) : Nm (gcd p q) := by rw [gcd_eq hp hq]; exact nm_gcdOf2 p q
theorem gcd_ne {p q : Poly} (hp : Nm p) (hq : Nm q) (hp0 : p ≠ []) : gcd p q ≠ [] := by rw [gcd_eq hp hq]; exact gcd_nil_iff hp hq hp0
def sq (p : Poly) : Poly := (divMod p (gcd p (slope p))).1
theorem nm_sq {p : Poly} (hp : Nm p) (hp0 : p ≠ []) : Nm (sq p) := by
 unfold sq
 have hg := nm_gcd hp (nm_slope' p)
 have hg0 := gcd_ne hp (nm_slope' p) hp0
 rw [divMod_eq hp hg hg0]
 exact nm_quot hp hg hg0
theorem sq_at {p : Poly} (hp : Nm p) (hp0 : p ≠ []) (x : Rat) : at_ p x = at_ (sq p) x * at_ (gcd p (slope p)) x :=
 (div_exact hp (nm_gcd hp (nm_slope' p)) (gcd_ne hp (nm_slope' p) hp0) (gcd_dv' hp (nm_slope' p)).1).2 x
theorem sq_ne {p : Poly} (hp : Nm p) (hp0 : p ≠ []) : sq p ≠ [] := fun e => by
 obtain ⟨x, hx⟩ := ne_at hp hp0
 apply hx
 rw [sq_at hp hp0, e, at_nil]; grind
theorem bz_const {p q : Poly} {c : Rat} (hc : c ≠ 0) (h : ∃ u v : Poly, ∀ x, c = at_ u x * at_ p x + at_ v x * at_ q x) : Bz p q := by
 obtain ⟨u, v, h⟩ := h
 refine ⟨scale (1 / c) u, scale (1 / c) v, fun x => ?_⟩
 have h1 := Rat.div_mul_cancel (a := 1) hc
 have := h x
 rw [at_scale, at_scale]
 generalize 1 / c = d at *
 have e : d * at_ u x * at_ p x + d * at_ v x * at_ q x = d * (at_ u x * at_ p x + at_ v x * at_ q x) := by grind
 rw [e, <- this]; exact h1
theorem sq_bz {p : Poly} (hp : Nm p) (hp0 : p ≠ []) : Bz (sq p) (slope (sq p)) := by
 have hg := nm_gcd hp (nm_slope' p)
 have hg0 := gcd_ne hp (nm_slope' p) hp0
 obtain ⟨⟨s, hs⟩, ⟨w, hw⟩, u, v, huv⟩ := gcd_dv' hp (nm_slope' p)
 have hsn := nm_sq hp hp0
 have hgx := ne_at hg hg0
 have e0 := sq_at hp hp0
 have hsl := nm_slope' (sq p)
 obtain ⟨⟨a, ha⟩, ⟨b, hb⟩, u', v', huv'⟩ := gcd_dv' hsn hsl
 have hhn := nm_gcd hsn hsl
 have hh0 := gcd_ne hsn hsl (sq_ne hp hp0)
 rcases Nat.lt_or_ge (gcd (sq p) (slope (sq p))).length 2 with hl | hl
 ·-- the common divisor is a number
  have l1 : 0 < (gcd (sq p) (slope (sq p))).length := List.length_pos_iff.mpr hh0
  match hq : gcd (sq p) (slope (sq p)), hl, l1, hhn with
  | [c], _, _, hhn =>
   rw [hq] at huv'
   refine bz_const (c := c) (fun e => hhn (by rw [e]; rfl)) ⟨u', v', fun x => ?_⟩
   have := huv' x
   rw [at_cons, at_nil] at this
   have e : c + x * 0 = c := by grind
   rw [e] at this
   exact this
  | [], _, l1, _ => simp at l1
  | _ :: _ :: _, hl, _, _ => simp at hl; lia
 ·exfalso
  have dp : ∀ x, der p x = der (sq p) x * at_ (gcd p (slope p)) x + at_ (sq p) x * der (gcd p (slope p)) x := fun x => by
   rw [<- der_mul]; exact der_ext (fun y => by rw [at_mul, e0]) x
  refine cop_slope (g := gcd p (slope p)) (s := sq p) (w := w) (a := a) (b := b) (u := u) (v := v) hgx hg hhn hl (fun x => ?_) ha hb ?_
  ·have h1 := dp x
   have h2 := hw x
   have h3 : der p x = at_ w x * at_ (gcd p (slope p)) x := h2
   grind
  ·intro x
   have key := at_cancel (h := gcd p (slope p)) (a := add (mul u (sq p)) (mul v w)) (b := [1]) hgx (fun y => by
    rw [at_add, at_mul, at_mul, at_cons, at_nil]
    have h1 := huv y
    have h2 := hw y
    have h3 := e0 y
    rw [h2, h3] at h1
    generalize at_ (gcd p (slope p)) y = G at *
    grind) x
   rw [at_add, at_mul, at_mul, at_cons, at_nil] at key
   grind
theorem squareFree_eq (p : Poly) : squareFree p = part (sq p) := rfl
theorem part_at {p : Poly} (hp : Nm p) (hne : p ≠ []) : ∃ c : Rat, c ≠ 0 /\ ∀ x, at_ (part p) x = c * at_ p x := by
 obtain ⟨c, hc, e⟩ := part_scale hp hne
 exact ⟨c, hc, fun x => by rw [e, at_scale]⟩
theorem bz_scale {p q : Poly} {c d : Rat} (hc : c ≠ 0) (hd : d ≠ 0) {p' q' : Poly} (h1 : ∀ x, at_ p' x = c * at_ p x) (h2 : ∀ x, at_ q' x = d * at_ q x) (h : Bz p q) : Bz p' q' := by
 obtain ⟨u, v, h⟩ := h
 refine ⟨scale (1 / c) u, scale (1 / d) v, fun x => ?_⟩
 have e1 := Rat.div_mul_cancel (a := 1) hc
 have e2 := Rat.div_mul_cancel (a := 1) hd
 have := h x
 rw [at_scale, at_scale, h1, h2]
 generalize 1 / c = c' at *
 generalize 1 / d = d' at *
 have e : c' * at_ u x * (c * at_ p x) + d' * at_ v x * (d * at_ q x) = (c' * c) * (at_ u x * at_ p x) + (d' * d) * (at_ v x * at_ q x) := by grind
 rw [e, e1, e2]; grind
theorem nm_squareFree (p : Poly) : Nm (squareFree p) := nm_part
def SF (p : Poly) : Prop := Nm p /\ p ≠ [] /\ Bz p (slope p)
theorem sf_scale {p p' : Poly} {c : Rat} (hc : c ≠ 0) (hn : Nm p') (h : ∀ x, at_ p' x = c * at_ p x) (hs : SF p) : SF p' := by
 refine ⟨hn, fun e => ?_, ?_⟩
 ·obtain ⟨x, hx⟩ := ne_at hs.1 hs.2.1
  have := h x
  rw [e, at_nil] at this
  rcases Rat.mul_eq_zero.mp this.symm with z | z
  ·exact hc z
  ·exact hx z
 ·refine bz_scale hc hc h (fun x => ?_) hs.2.2
  have e : ∀ x, at_ p' x = at_ (scale c p) x := fun x => by rw [h, at_scale]
  have := der_ext e x
  rw [der_scale] at this
  exact this
theorem sf_sq {p : Poly} (hp : Nm p) (hp0 : p ≠ []) : SF (sq p) := ⟨nm_sq hp hp0, sq_ne hp hp0, sq_bz hp hp0⟩
theorem sf_squareFree {p : Poly} (hp : Nm p) (hp0 : p ≠ []) : SF (squareFree p) := by
 obtain ⟨c, hc, h⟩ := part_at (nm_sq hp hp0) (sq_ne hp hp0)
 exact sf_scale hc (nm_squareFree p) h (sf_sq hp hp0)
theorem sturmFrom_row : ∀ (f : Nat) {p q : Poly}, Nm p -> Nm q -> q.length <= f -> Bz p q -> ∃ t, sturmFrom f p q = p :: t /\ Row p t /\ (q = [] -> t = []) /\ (q ≠ [] -> ∃ t', t = q :: t') := by
 intro f
 induction f with
 | zero =>
  intro p q hp hq hl hb
  have e : q = [] := List.length_eq_zero_iff.mp (by lia)
  subst e
  refine ⟨[], rfl, .last ?_, fun _ => rfl, fun h => absurd rfl h⟩
  obtain ⟨u, v, h⟩ := hb
  exact ⟨u, fun x => by have := h x; rw [at_nil] at this; grind⟩
 | succ f ih =>
  intro p q hp hq hl hb
  unfold sturmFrom
  by_cases h0 : q = []
  ·rw [if_pos h0]
   subst h0
   refine ⟨[], rfl, .last ?_, fun _ => rfl, fun h => absurd rfl h⟩
   obtain ⟨u, v, h⟩ := hb
   exact ⟨u, fun x => by have := h x; rw [at_nil] at this; grind⟩
  ·rw [if_neg h0]
   have hr := nm_rest hp hq h0
   have hrl := rest_len hp hq h0
   have e : ∀ x, at_ p x = at_ (divMod p q).1 x * at_ q x - at_ (scale (-1) (divMod p q).2) x := fun x => by
    rw [at_scale]
    have := at_divMod p q x
    grind
   have hbz := hb.step _ e
   have hsl : (scale (-1) (divMod p q).2).length = (divMod p q).2.length := scale_len (by decide) hr
   obtain ⟨t, h1, h2, h3, h4⟩ := ih (p := q) (q := scale (-1) (divMod p q).2) hq (nm_scale _ _) (by lia) hbz
   refine ⟨q :: t, by rw [h1], .step hb ?_ h2, fun h => absurd h h0, fun _ => ⟨t, rfl⟩⟩
   by_cases hr0 : scale (-1) (divMod p q).2 = []
   ·rw [h3 hr0]; exact .nil
   ·obtain ⟨t', rfl⟩ := h4 hr0
    exact .cons (divMod p q).1 1 (by decide) (fun x => by rw [e x]; grind)
theorem sturm_is {p : Poly} (h : SF p) : Sturm p (sturm p) := by
 obtain ⟨hp, hp0, hb⟩ := h
 obtain ⟨t, h1, h2, h3, h4⟩ := sturmFrom_row (p.length + 1) hp (nm_slope' p) (by rw [slope_length hp]; lia) hb
 unfold sturm
 rw [h1]
 by_cases hs : slope p = []
 ·have ht := h3 hs
  subst ht
  exact ⟨.inr ⟨rfl, h2⟩⟩
 ·obtain ⟨t', rfl⟩ := h4 hs
  exact ⟨.inl ⟨slope p, t', 1, rfl, by decide, fun x => by show _ = 1 * at_ (slope p) x; grind, h2⟩⟩
theorem cross_scale {p p' : Poly} {c : Rat} (hc : c ≠ 0) (h : ∀ x, at_ p' x = c * at_ p x) (a b : Rat) : cross p' a b = cross p a b := by
 unfold cross
 rw [h, h]
 have hcc : 0 < c * c := by
  rcases rat_tri c 0 with z | z | z
  ·exact neg_mul_neg' z z
  ·exact absurd z hc
  ·exact Rat.mul_pos z z
 have e : c * at_ p a * (c * at_ p b) = c * c * (at_ p a * at_ p b) := by grind
 rw [e]
 generalize at_ p a * at_ p b = y
 have e1 : c * at_ p a ≠ 0 ↔ at_ p a ≠ 0 := by
  constructor
  ·intro z w; apply z; rw [w]; grind
  ·intro z w
   rcases Rat.mul_eq_zero.mp w with w | w
   ·exact hc w
   ·exact z w
 have e2 : c * c * y <= 0 ↔ y <= 0 := by
  constructor
  ·intro z
   rcases rat_lt_or_ge 0 y with w | w
   ·have := Rat.mul_pos hcc w; grind
   ·exact w
  ·intro z
   have := Rat.mul_nonneg (Rat.le_of_lt hcc) (b := -y) (by grind)
   grind
 simp only [e1, e2]
theorem Sturm.same {p p' : Poly} {l l' : List Poly} (h : Sturm p l) (h' : Sturm p' l') {c : Rat} (hc : c ≠ 0) (e : ∀ x, at_ p' x = c * at_ p x) {a b : Rat} (hab : a <= b) : between l a b = between l' a b := by
 have key : changesAt l a + changesAt l' b = changesAt l' a + changesAt l b := by
  rcases rat_tri a b with z | z | z
  ·obtain ⟨B, hB, h1, h2⟩ := bound2 a b
   refine (((h.near hB).and (h'.near hB)).mono (G := fun a b => changesAt l a + changesAt l' b = changesAt l' a + changesAt l b) fun a b _ _ _ q => ?_).all (fun a b c _ _ _ _ x y => by lia) a b h1 z h2
   have := cross_scale hc e a b
   lia
  ·rw [z]; lia
  ·grind
 have m1 := h.mono hab
 have m2 := h'.mono hab
 unfold between
 lia
theorem changes_parity : ∀ (l : List Rat) (a : Rat), (∀ v ∈ a :: l, v ≠ 0) -> (changes (a :: l) % 2 = 0 ↔ 0 < a * (a :: l).getLast (by simp)) := by
 intro z0
 induction z0 with
 | nil =>
  intro a h
  have ha := h a (by simp)
  have e : changes [a] = 0 := rfl
  rw [e]
  show _ ↔ 0 < a * a
  constructor
  ·intro _
   rcases rat_tri a 0 with z | z | z
   ·exact neg_mul_neg' z z
   ·exact absurd z ha
   ·exact Rat.mul_pos z z
  ·intro _; rfl
 | cons b l ih =>
  intro a h
  have ih := ih b (fun v hv => h v (by simp at hv ⊢; exact .inr hv))
  have ha := h a (by simp)
  have hb := h b (by simp)
  rw [changes_cons2]
  have e : (a :: b :: l).getLast (by simp) = (b :: l).getLast (by simp) := by simp
  rw [e]
  have hz : (b :: l).getLast (by simp) ≠ 0 := h _ (List.mem_cons_of_mem _ (List.getLast_mem _))
  generalize (b :: l).getLast (by simp) = z at *
  rcases rat_tri (a * b) 0 with q | q | q
  ·rw [sc_neg q]
   have : (1 + changes (b :: l)) % 2 = 0 ↔ ¬ changes (b :: l) % 2 = 0 := by lia
   rw [this, ih]
   rcases mul_neg_cases q with w | w <;> rcases rat_tri z 0 with v | v | v
   ·have h1 := pos_mul_neg w.1 v; have h2 := neg_mul_neg' w.2 v; grind
   ·exact absurd v hz
   ·have h1 := Rat.mul_pos w.1 v; have h2 := pos_mul_neg v w.2; grind
   ·have h1 := neg_mul_neg' w.1 v; have h2 := pos_mul_neg w.2 v; grind
   ·exact absurd v hz
   ·have h1 := pos_mul_neg v w.1; have h2 := Rat.mul_pos w.2 v; grind
  ·rcases Rat.mul_eq_zero.mp q with w | w
   ·exact absurd w ha
   ·exact absurd w hb
  ·rw [sc_pos q, Nat.zero_add, ih]
   rcases mul_pos_cases q with w | w <;> rcases rat_tri z 0 with v | v | v
   ·have h1 := pos_mul_neg w.1 v; have h2 := pos_mul_neg w.2 v; grind
   ·exact absurd v hz
   ·have h1 := Rat.mul_pos w.1 v; have h2 := Rat.mul_pos w.2 v; grind
   ·have h1 := neg_mul_neg' w.1 v; have h2 := neg_mul_neg' w.2 v; grind
   ·exact absurd v hz
   ·have h1 := pos_mul_neg v w.1; have h2 := pos_mul_neg v w.2; grind
theorem nz_mem {l : List Rat} {v : Rat} (h : v ∈ nz l) : v ≠ 0 := by
 unfold nz at h
 have := (List.mem_filter.mp h).2
 simpa using this
theorem nz_last : ∀ (l : List Rat) (z : Rat), z ≠ 0 -> nz (l ++ [z]) = nz l ++ [z] := by
 intro l z hz
 unfold nz
 rw [List.filter_append, List.filter_cons, if_pos (by simpa using hz)]
 rfl
theorem ch_parity {a z : Rat} {l : List Rat} (ha : a ≠ 0) (hz : z ≠ 0) : ch (a :: (l ++ [z])) % 2 = 0 ↔ 0 < a * z := by
 unfold ch
 rw [nz_cons_ne ha, nz_last l z hz]
 have h := changes_parity (nz l ++ [z]) a (fun v hv => by
  rcases List.mem_cons.mp hv with e | hv
  ·rw [e]; exact ha
  ·rcases List.mem_append.mp hv with hv | hv
   ·exact nz_mem hv
   ·rw [List.mem_singleton.mp hv]; exact hz)
 rw [h]
 have e : ∀ (k : List Rat) (hk : a :: (k ++ [z]) ≠ []), (a :: (k ++ [z])).getLast hk = z := by
  intro k hk
  rw [List.getLast_cons (by simp), List.getLast_append_of_ne_nil _ (by simp)]
  rfl
 rw [e]
theorem Row.lastOf {p : Poly} {t : List Poly} (h : Row p t) : (t = [] /\ ∃ u : Poly, ∀ x, at_ u x * at_ p x = 1) \/ ∃ (t' : List Poly) (q : Poly), t = t' ++ [q] /\ ∃ u : Poly, ∀ x, at_ u x * at_ q x = 1 := by
 induction h with
 | last h => exact .inl ⟨rfl, h⟩
 | step _ _ _ ih =>
  rename_i p q t _ _ _
  rcases ih with ⟨rfl, h⟩ | ⟨t', q', rfl, h⟩
  ·exact .inr ⟨[], q, rfl, h⟩
  ·exact .inr ⟨q :: t', q', rfl, h⟩
theorem last_same {q : Poly} (h : ∃ u : Poly, ∀ x, at_ u x * at_ q x = 1) (a b : Rat) : 0 < at_ q a * at_ q b := by
 have one : ∀ a b, a < b -> 0 < at_ q a * at_ q b := by
  intro a b hab
  obtain ⟨B, hB, h1, h2⟩ := bound2 a b
  refine (last_near h hB).all (fun x y z _ _ _ _ e f => ?_) a b h1 hab h2
  rcases mul_pos_cases e with v | v <;> rcases mul_pos_cases f with w | w <;> first | (exfalso; grind) | exact Rat.mul_pos v.1 w.2 | exact neg_mul_neg' v.1 w.2
 rcases rat_tri a b with z | z | z
 ·exact one a b z
 ·subst z
  obtain ⟨u, hu⟩ := h
  have := hu a
  rcases rat_tri (at_ q a) 0 with w | w | w
  ·exact neg_mul_neg' w w
  ·rw [w] at this; grind
  ·exact Rat.mul_pos w w
 ·have := one b a z; grind
theorem par_iff {x y : Nat} (h : y <= x) : (x - y) % 2 = 0 ↔ (x % 2 = 0 ↔ y % 2 = 0) := by
 obtain ⟨d, rfl⟩ : ∃ d, x = y + d := ⟨x - y, by lia⟩
 rw [Nat.add_sub_cancel_left, Nat.add_mod]
 rcases Nat.mod_two_eq_zero_or_one y with hy | hy <;> rcases Nat.mod_two_eq_zero_or_one d with hd | hd <;> simp [hy, hd]
theorem Sturm.parity {p : Poly} {l : List Poly} (h : Sturm p l) {a b : Rat} (hab : a <= b) (ha : at_ p a ≠ 0) (hb : at_ p b ≠ 0) : between l a b % 2 = 0 ↔ 0 < at_ p a * at_ p b := by
 have hm := h.mono hab
 have key : ∃ (t : List Poly) (q : Poly), l = p :: (t ++ [q]) /\ (∃ u : Poly, ∀ x, at_ u x * at_ q x = 1) \/ (l = [p] /\ ∃ u : Poly, ∀ x, at_ u x * at_ p x = 1) := by
  rcases h.ex with ⟨q, t, k, rfl, _, _, hr⟩ | ⟨rfl, hr⟩
  ·rcases hr.lastOf with ⟨e, _⟩ | ⟨t', q', e, hu⟩
   ·cases e
   ·exact ⟨t', q', .inl ⟨by rw [e], hu⟩⟩
  ·rcases hr.lastOf with ⟨_, hu⟩ | ⟨t', q', e, _⟩
   ·exact ⟨[], [], .inr ⟨rfl, hu⟩⟩
   ·simp at e
 obtain ⟨t, q, hk⟩ := key
 rcases hk with ⟨rfl, hu⟩ | ⟨rfl, hu⟩
 ·have hq := last_same hu a b
  obtain ⟨qa, qb⟩ := ne_of_mul_pos hq
  have pa := ch_parity (a := at_ p a) (z := at_ q a) (l := t.map fun r => at_ r a) ha qa
  have pb := ch_parity (a := at_ p b) (z := at_ q b) (l := t.map fun r => at_ r b) hb qb
  have ea : changesAt (p :: (t ++ [q])) a = ch (at_ p a :: ((t.map fun r => at_ r a) ++ [at_ q a])) := by rw [changesAt_eq]; simp
  have eb : changesAt (p :: (t ++ [q])) b = ch (at_ p b :: ((t.map fun r => at_ r b) ++ [at_ q b])) := by rw [changesAt_eq]; simp
  rw [<- ea] at pa
  rw [<- eb] at pb
  have e : between (p :: (t ++ [q])) a b % 2 = 0 ↔ (changesAt (p :: (t ++ [q])) a % 2 = 0 ↔ changesAt (p :: (t ++ [q])) b % 2 = 0) := by
   unfold between; exact par_iff hm
  rw [e, pa, pb]
  rcases mul_pos_cases hq with w | w <;> rcases rat_tri (at_ p a) 0 with v | v | v <;> rcases rat_tri (at_ p b) 0 with y | y | y <;> first | exact absurd v ha | exact absurd y hb | skip
  ·have h1 := pos_mul_neg w.1 v; have h2 := pos_mul_neg w.2 y; have h3 := neg_mul_neg' v y; grind
  ·have h1 := pos_mul_neg w.1 v; have h2 := Rat.mul_pos w.2 y; have h3 := pos_mul_neg y v; grind
  ·have h1 := Rat.mul_pos w.1 v; have h2 := pos_mul_neg w.2 y; have h3 := pos_mul_neg v y; grind
  ·have h1 := Rat.mul_pos w.1 v; have h2 := Rat.mul_pos w.2 y; have h3 := Rat.mul_pos v y; grind
  ·have h1 := neg_mul_neg' w.1 v; have h2 := neg_mul_neg' w.2 y; have h3 := neg_mul_neg' v y; grind
  ·have h1 := neg_mul_neg' w.1 v; have h2 := pos_mul_neg y w.2; have h3 := pos_mul_neg y v; grind
  ·have h1 := pos_mul_neg v w.1; have h2 := neg_mul_neg' w.2 y; have h3 := pos_mul_neg v y; grind
  ·have h1 := pos_mul_neg v w.1; have h2 := pos_mul_neg y w.2; have h3 := Rat.mul_pos v y; grind
 ·have hp := last_same hu a b
  have e : between [p] a b = 0 := by
   obtain ⟨na, nb⟩ := ne_of_mul_pos hp
   have ca : changesAt [p] a = 0 := by
    rw [changesAt_eq]; simp only [List.map_cons, List.map_nil]; unfold ch; rw [nz_cons_ne na]; rfl
   unfold between; lia
  rw [e]
  exact ⟨fun _ => hp, fun _ => rfl⟩
theorem horner_far {L M x : Rat} (hL : 0 < L) (hM : 0 <= M) (hx : M + 1 <= ab x) : ∀ (p : Poly), p ≠ [] -> (∀ c ∈ p, ab c <= M * L) -> L <= ab (lead p) -> L <= ab (at_ p x)
 | [], h, _, _ => absurd rfl h
 | [c], _, _, hl => by
  rw [at_cons, at_nil]
  have e : lead [c] = c := rfl
  rw [e] at hl
  have e2 : c + x * 0 = c := by grind
  rw [e2]; exact hl
 | c :: d :: r, _, hc, hl => by
  have e : lead (c :: d :: r) = lead (d :: r) := by unfold lead; simp [List.getLastD]
  rw [e] at hl
  have ih := horner_far hL hM hx (d :: r) (by simp) (fun y hy => hc y (List.mem_cons_of_mem _ hy)) hl
  rw [at_cons]
  have h1 := hc c (by simp)
  have h2 := mul_le_mul_nn (a := M + 1) (b := ab x) (c := L) (d := ab (at_ (d :: r) x)) (by grind) (ab_nonneg _) hx ih
  rw [<- ab_mul] at h2
  have h3 := ab_add (c + x * at_ (d :: r) x) (-c)
  rw [ab_neg] at h3
  have e3 : c + x * at_ (d :: r) x + -c = x * at_ (d :: r) x := by grind
  rw [e3] at h3
  grind
theorem far_same {L M x y : Rat} (hL : 0 < L) (hM : 0 <= M) (hx : M + 1 <= ab x) (hy : M + 1 <= ab y) (hxy : 0 < x * y) : ∀ (p : Poly), p ≠ [] -> (∀ c ∈ p, ab c <= M * L) -> L <= ab (lead p) -> 0 < at_ p x * at_ p y
 | [], h, _, _ => absurd rfl h
 | [c], _, _, hl => by
  rw [at_cons, at_cons, at_nil]
  have e : lead [c] = c := rfl
  rw [e] at hl
  have e2 : ∀ x : Rat, c + x * at_ [] y = c := fun x => by rw [at_nil]; grind
  rw [e2, show c + x * 0 = c by grind]
  rcases rat_tri c 0 with w | w | w
  ·exact neg_mul_neg' w w
  ·subst w
   have : ab 0 = 0 := by decide
   grind
  ·exact Rat.mul_pos w w
 | c :: d :: r, _, hc, hl => by
  have e : lead (c :: d :: r) = lead (d :: r) := by unfold lead; simp [List.getLastD]
  rw [e] at hl
  have hc' : ∀ z ∈ d :: r, ab z <= M * L := fun z hz => hc z (List.mem_cons_of_mem _ hz)
  have ih := far_same hL hM hx hy hxy (d :: r) (by simp) hc' hl
  have one : ∀ x, M + 1 <= ab x -> 0 < (c + x * at_ (d :: r) x) * (x * at_ (d :: r) x) := by
   intro x hx
   have hf := horner_far hL hM hx (d :: r) (by simp) hc' hl
   have h1 := hc c (by simp)
   have h2 := mul_le_mul_nn (a := M + 1) (b := ab x) (c := L) (d := ab (at_ (d :: r) x)) (by grind) (ab_nonneg _) hx hf
   rw [<- ab_mul] at h2
   generalize x * at_ (d :: r) x = w at *
   have h3 := (ab_le (x := c) (B := M * L)).mp h1
   unfold ab at h2
   split at h2
   ·exact neg_mul_neg' (by grind) (by grind)
   ·exact Rat.mul_pos (by grind) (by grind)
  have ox := one x hx
  have oy := one y hy
  rw [at_cons c (d :: r) x, at_cons c (d :: r) y]
  have hw : 0 < (x * at_ (d :: r) x) * (y * at_ (d :: r) y) := by
   have := Rat.mul_pos hxy ih
   grind
  generalize x * at_ (d :: r) x = u at *
  generalize y * at_ (d :: r) y = v at *
  rcases mul_pos_cases ox with a | a <;> rcases mul_pos_cases oy with b | b <;> rcases mul_pos_cases hw with k | k <;> first | (exfalso; grind) | exact Rat.mul_pos a.1 b.1 | exact neg_mul_neg' a.1 b.1
theorem nodup_le : ∀ (n : Nat) (l : List Nat), l.Nodup -> (∀ x ∈ l, x < n) -> l.length <= n := by
 intro n
 induction n with
 | zero =>
  intro l _ h
  cases l with
  | nil => simp
  | cons a r => have := h a (by simp); lia
 | succ n ih =>
  intro l hl h
  have h1 : (l.erase n).length <= n := ih (l.erase n) (hl.erase n) fun x hx => by
   have hx' := List.mem_of_mem_erase hx
   have := h x hx'
   have hne : x ≠ n := fun e => by
    subst e
    exact (hl.not_mem_erase) hx
   lia
  by_cases hm : n ∈ l
  ·rw [List.length_erase_of_mem hm] at h1
   lia
  ·rw [List.erase_of_not_mem hm] at h1
   lia
theorem pigeon {n m : Nat} {f : Nat -> Nat} (hf : ∀ i, i < m -> f i < n) (h : n < m) : ∃ i j, i < j /\ j < m /\ f i = f j := by
 refine Classical.byContradiction fun hno => ?_
 have hnd : ((List.range m).map f).Nodup := by
  unfold List.Nodup
  rw [List.pairwise_map]
  refine (List.pairwise_lt_range (n := m)).imp_of_mem fun {a b} ha hb hab e => ?_
  exact hno ⟨a, b, hab, List.mem_range.mp hb, e⟩
 have := nodup_le n _ hnd fun x hx => by
  obtain ⟨i, hi, rfl⟩ := List.mem_map.mp hx
  exact hf i (List.mem_range.mp hi)
 rw [List.length_map, List.length_range] at this
 lia
def sumI : Nat -> (Nat -> Int) -> Int
 | 0, _ => 0
 | n + 1, f => sumI n f + f n
theorem sumI_sub (f g : Nat -> Int) : ∀ n, sumI n (fun k => f k - g k) = sumI n f - sumI n g := by
 intro z0
 induction z0 with
 | zero =>
  simp [sumI]
 | succ n ih =>
  simp only [sumI]; rw [ih]; lia
theorem sumI_congr {f g : Nat -> Int} : ∀ {n : Nat}, (∀ k, k < n -> f k = g k) -> sumI n f = sumI n g
 | 0, _ => rfl
 | n + 1, h => by simp only [sumI]; rw [sumI_congr fun k hk => h k (by lia), h n (by lia)]
theorem sumI_abs {f : Nat -> Int} {d : Nat -> Int} {X : Nat} (hd : ∀ k, (d k).natAbs <= X) : ∀ n, (sumI n fun k => f k * d k).natAbs <= (sumI n fun k => ((f k).natAbs : Int)).natAbs * X /\ 0 <= sumI n fun k => ((f k).natAbs : Int) := by
 intro z0
 induction z0 with
 | zero =>
  simp [sumI]
 | succ n ih =>
  obtain ⟨h1, h2⟩ := ih
  simp only [sumI]
  refine ⟨?_, by lia⟩
  have h3 := Int.natAbs_add_le (sumI n fun k => f k * d k) (f n * d n)
  have h4 : (f n * d n).natAbs <= (f n).natAbs * X := by rw [Int.natAbs_mul]; exact Nat.mul_le_mul_left _ (hd n)
  generalize sumI n (fun k => ((f k).natAbs : Int)) = S at *
  have e : (S + ((f n).natAbs : Int)).natAbs = S.natAbs + (f n).natAbs := by rw [Int.natAbs_add_of_nonneg h2 (Int.natCast_nonneg _), Int.natAbs_natCast]
  rw [e, Nat.add_mul]
  lia
theorem nab_add {x y : Int} {a b c : Nat} (hx : x.natAbs <= a) (hy : y.natAbs <= b) (h : a + b <= c) : (x + y).natAbs <= c :=
 Nat.le_trans (Int.natAbs_add_le x y) (Nat.le_trans (Nat.add_le_add hx hy) h)
theorem nab_sub {x y : Int} {a b c : Nat} (hx : x.natAbs <= a) (hy : y.natAbs <= b) (h : a + b <= c) : (x - y).natAbs <= c :=
 Nat.le_trans (Int.natAbs_sub_le x y) (Nat.le_trans (Nat.add_le_add hx hy) h)
theorem sh_inj {x y Y : Int} (hx : -Y <= x) (hy : -Y <= y) (e : (x + Y).toNat = (y + Y).toNat) : x = y := by
 have h1 := Int.toNat_of_nonneg (show 0 <= x + Y by lia)
 have h2 := Int.toNat_of_nonneg (show 0 <= y + Y by lia)
 rw [e] at h1
 lia
theorem nab_low {x : Int} {a : Nat} (h : x.natAbs <= a) : -(a : Int) <= x := by lia
def dig (X i j : Nat) : Nat := i / X ^ j % X
theorem dig_lt {X : Nat} (hX : 0 < X) (i j : Nat) : dig X i j < X := Nat.mod_lt _ hX
theorem dig_inj {X : Nat} (hX : 0 < X) : ∀ (n : Nat) {i i' : Nat}, i < X ^ n -> i' < X ^ n -> (∀ j, j < n -> dig X i j = dig X i' j) -> i = i'
 | 0, i, i', h, h', _ => by simp at h h'; lia
 | n + 1, i, i', h, h', e => by
  have e0 := e 0 (by lia)
  unfold dig at e0
  rw [Nat.pow_zero, Nat.div_one, Nat.div_one] at e0
  have ih : i / X = i' / X := dig_inj hX n
   (Nat.div_lt_of_lt_mul (by rw [Nat.pow_succ, Nat.mul_comm] at h; exact h)) (Nat.div_lt_of_lt_mul (by rw [Nat.pow_succ, Nat.mul_comm] at h'; exact h'))
   (fun j hj => by
    have := e (j + 1) (by lia)
    unfold dig at this ⊢
    rw [Nat.pow_succ, Nat.mul_comm (X ^ j) X, <- Nat.div_div_eq_div_mul, <- Nat.div_div_eq_div_mul] at this
    exact this)
  have h1 := Nat.div_add_mod i X
  have h2 := Nat.div_add_mod i' X
  rw [ih, e0] at h1
  lia
def enc (R : Nat) (y : Nat -> Nat) : Nat -> Nat
 | 0 => 0
 | n + 1 => enc R y n + y n * R ^ n
theorem enc_lt {R : Nat} {y : Nat -> Nat} : ∀ n, (∀ j, j < n -> y j < R) -> enc R y n < R ^ n := by
 intro z0
 induction z0 with
 | zero =>
  intro _
  simp [enc]
 | succ n ih =>
  intro h
  have ih := ih (fun j hj => h j (by lia))
  have h1 := h n (by lia)
  simp only [enc]
  have h2 : y n * R ^ n + R ^ n <= R * R ^ n := by
   rw [<- Nat.succ_mul]
   exact Nat.mul_le_mul_right _ h1
  rw [Nat.pow_succ, Nat.mul_comm (R ^ n) R]
  lia
theorem enc_inj {R : Nat} {y z : Nat -> Nat} : ∀ n, (∀ j, j < n -> y j < R) -> (∀ j, j < n -> z j < R) -> enc R y n = enc R z n -> ∀ j, j < n -> y j = z j := by
 intro z0
 induction z0 with
 | zero =>
  intro _ _ _ j hj
  lia
 | succ n ih =>
  intro hy hz e j hj
  have l1 := enc_lt n (fun j hj => hy j (by lia))
  have l2 := enc_lt n (fun j hj => hz j (by lia))
  simp only [enc] at e
  have hp : 0 < R ^ n := by lia
  have ey : y n = z n := by
   have a1 : (enc R y n + y n * R ^ n) / R ^ n = y n := by rw [Nat.add_mul_div_right _ _ hp, Nat.div_eq_of_lt l1]; lia
   have a2 : (enc R z n + z n * R ^ n) / R ^ n = z n := by rw [Nat.add_mul_div_right _ _ hp, Nat.div_eq_of_lt l2]; lia
   rw [<- a1, e, a2]
  by_cases hjn : j = n
  ·subst hjn; exact ey
  ·refine ih (fun j hj => hy j (by lia)) (fun j hj => hz j (by lia)) ?_ j (by lia)
   rw [ey] at e
   lia
theorem siegel {M A : Nat} (a : Nat -> Nat -> Int) (hA : ∀ j, j < M -> sumI (M + 1) (fun k => ((a j k).natAbs : Int)) <= (A : Int)) :
  ∃ d : Nat -> Int, (∃ k, k < M + 1 /\ d k ≠ 0) /\ (∀ k, (d k).natAbs <= (2 * A + 1) ^ M) /\ ∀ j, j < M -> sumI (M + 1) (fun k => a j k * d k) = 0 := by
 let X : Nat := (2 * A + 1) ^ M + 1
 have hX : 0 < X := Nat.succ_pos _
 let val : Nat -> Nat -> Int := fun i j => sumI (M + 1) fun k => a j k * ((dig X i k : Nat) : Int)
 have hv : ∀ i j, j < M -> (val i j).natAbs <= A * (X - 1) := by
  intro i j hj
  obtain ⟨h1, h2⟩ := sumI_abs (f := fun k => a j k) (d := fun k => ((dig X i k : Nat) : Int)) (X := X - 1) (fun k => by
   have := dig_lt hX i k
   simp only [Int.natAbs_natCast]
   lia) (M + 1)
  refine Nat.le_trans h1 (Nat.mul_le_mul_right _ ?_)
  have := hA j hj
  lia
 let R : Nat := 2 * (A * (X - 1)) + 1
 let sh : Nat -> Nat -> Nat := fun i j => (val i j + ((A * (X - 1) : Nat) : Int)).toNat
 have hsh : ∀ i j, j < M -> sh i j < R := by
  intro i j hj
  have h0 := hv i j hj
  show (val i j + ((A * (X - 1) : Nat) : Int)).toNat < 2 * (A * (X - 1)) + 1
  generalize A * (X - 1) = Y at *
  lia
 have hlt : R ^ M < X ^ (M + 1) := by
  have hR : R <= (2 * A + 1) * X := by
   show 2 * (A * (X - 1)) + 1 <= (2 * A + 1) * X
   have : A * (X - 1) <= A * X := Nat.mul_le_mul_left _ (by lia)
   rw [Nat.add_mul, Nat.one_mul, Nat.mul_assoc]
   lia
  have h1 : R ^ M <= ((2 * A + 1) * X) ^ M := Nat.pow_le_pow_left hR M
  rw [Nat.mul_pow] at h1
  have h2 : (2 * A + 1) ^ M * X ^ M < X * X ^ M := Nat.mul_lt_mul_of_pos_right (Nat.lt_succ_self _) (Nat.pow_pos hX)
  rw [Nat.pow_succ, Nat.mul_comm (X ^ M) X]
  lia
 obtain ⟨i, i', hii, hi', he⟩ := pigeon (f := fun i => enc R (sh i) M) (fun i _ => enc_lt M (fun j hj => hsh i j hj)) hlt
 have heq := enc_inj M (fun j hj => hsh i j hj) (fun j hj => hsh i' j hj) he
 refine ⟨fun k => ((dig X i' k : Nat) : Int) - ((dig X i k : Nat) : Int), ?_, fun k => ?_, fun j hj => ?_⟩
 ·refine Classical.byContradiction fun hno => ?_
  have : i = i' := dig_inj hX (M + 1) (by lia) hi' fun j hj => by
   refine Classical.byContradiction fun hne => hno ⟨j, hj, ?_⟩
   show ((dig X i' j : Nat) : Int) - ((dig X i j : Nat) : Int) ≠ 0
   lia
  lia
 ·have h1 := dig_lt hX i k
  have h2 := dig_lt hX i' k
  show (((dig X i' k : Nat) : Int) - ((dig X i k : Nat) : Int)).natAbs <= X - 1
  lia
 ·have e1 : sh i j = sh i' j := heq j hj
  have h0 := hv i j hj
  have h0' := hv i' j hj
  have e2 : val i j = val i' j := by
   have e3 : (val i j + ((A * (X - 1) : Nat) : Int)).toNat = (val i' j + ((A * (X - 1) : Nat) : Int)).toNat := e1
   exact sh_inj (nab_low h0) (nab_low h0') e3
  have e4 : sumI (M + 1) (fun k => a j k * (((dig X i' k : Nat) : Int) - ((dig X i k : Nat) : Int))) = val i' j - val i j := by
   rw [show val i' j - val i j = sumI (M + 1) (fun k => a j k * ((dig X i' k : Nat) : Int) - a j k * ((dig X i k : Nat) : Int)) from (sumI_sub _ _ _).symm]
   exact sumI_congr fun k _ => by rw [Int.mul_sub]
  rw [e4, e2]
  lia
theorem sumI_split (f : Nat -> Int) (m : Nat) : ∀ r, sumI (m + r) f = sumI m f + sumI r (fun k => f (m + k)) := by
 intro z0
 induction z0 with
 | zero =>
  simp [sumI]
 | succ r ih =>
  show sumI (m + r) f + f (m + r) = _
  rw [ih]
  simp only [sumI]
  lia
theorem sumI_le {f : Nat -> Int} {c : Int} : ∀ {n : Nat}, (∀ k, k < n -> f k <= c) -> sumI n f <= (n : Int) * c
 | 0, _ => by simp [sumI]
 | n + 1, h => by
  have h1 := sumI_le (n := n) fun k hk => h k (by lia)
  have h2 := h n (by lia)
  simp only [sumI]
  have e : ((n + 1 : Nat) : Int) * c = (n : Int) * c + c := by rw [Int.natCast_add, Int.add_mul]; simp
  rw [e]; lia
def cz (p : Poly) (i : Nat) : Int := (co p i).num
structure Wh (p : Poly) (H : Nat) : Prop where
 whole : ∀ i, co p i = ((cz p i : Int) : Rat)
 le : ∀ i, (cz p i).natAbs <= H
def vec (d : Nat -> Int) (m : Nat) : Poly := (List.range m).map fun k => ((d k : Int) : Rat)
theorem vec_len (d : Nat -> Int) (m : Nat) : (vec d m).length = m := by unfold vec; rw [List.length_map, List.length_range]
theorem vec_co {d : Nat -> Int} {m k : Nat} (h : k < m) : co (vec d m) k = ((d k : Int) : Rat) := by
 refine co_of_get ?_
 unfold vec
 rw [List.getElem?_map, List.getElem?_range h]; rfl
theorem pm_vec {d : Nat -> Int} {m : Nat} {q : Poly} {Q : Nat -> Int} (hQ : ∀ i, co q i = ((Q i : Int) : Rat)) (i : Nat) : ∀ r, r <= m -> pm (vec d m) q r i = ((sumI r (fun k => (if k <= i then Q (i - k) else 0) * d k) : Int) : Rat) := by
 intro z0
 induction z0 with
 | zero =>
  intro _
  exact rfl
 | succ r ih =>
  intro hr
  rw [pm, ih (by lia), vec_co (by lia)]
  simp only [sumI]
  rw [Rat.intCast_add, Rat.intCast_mul]
  by_cases h : r <= i
  ·rw [if_pos h, if_pos h, hQ]; grind
  ·rw [if_neg h, if_neg h]
   have : ((0 : Int) : Rat) = 0 := rfl
   rw [this]; grind
theorem slope_co {p : Poly} (hp : Nm p) (i : Nat) : co (slope p) i = ((i + 1 : Nat) : Rat) * co p (i + 1) := by
 rw [slope_eq hp]
 unfold co
 rw [List.getD_eq_getElem?_getD, List.getD_eq_getElem?_getD, slope_get, List.getElem?_drop, show 1 + i = i + 1 by lia]
 cases p[i + 1]? with
 | none => simp
 | some c => rfl
theorem at_vec_zero {d : Nat -> Int} {m : Nat} (h : norm (vec d m) = []) {k : Nat} (hk : k < m) : d k = 0 := by
 have h1 := co_norm (vec d m) k
 rw [h, co_nil, vec_co hk] at h1
 exact_mod_cast h1.symm
theorem ab_int {y : Int} {N : Nat} (h : y.natAbs <= N) : ab ((y : Int) : Rat) <= ((N : Nat) : Rat) := by
 refine ab_le.mpr ⟨?_, ?_⟩
 ·have := Rat.intCast_le_intCast.mpr (show (-(N : Int)) <= y by lia)
  rw [Rat.intCast_neg] at this
  exact this
 ·exact Rat.intCast_le_intCast.mpr (show y <= (N : Int) by lia)
theorem small_bz2 {p q : Poly} {H n m : Nat} (hp : Nm p) (hp0 : p ≠ []) (hb : Bz p q) (hw : Wh p H) (hwq : Wh q H) (hn : p.length = n + 1) (hm : q.length = m + 1) (hn1 : 1 <= n) :
  ∃ (u v : Poly) (N : Int), N ≠ 0 /\ (∀ x, at_ u x * at_ p x + at_ v x * at_ q x = ((N : Int) : Rat)) /\ (∀ i, ab (co u i) <= (((2 * ((n + m) * H) + 1) ^ (n + m - 1) : Nat) : Rat)) /\ (∀ i, ab (co v i) <= (((2 * ((n + m) * H) + 1) ^ (n + m - 1) : Nat) : Rat)) /\ u.length <= m /\ v.length <= n := by
 let D : Nat -> Int := fun i => cz q i
 have hD : ∀ i, co q i = ((D i : Int) : Rat) := hwq.whole
 have hDl : ∀ i, (D i).natAbs <= H := hwq.le
 have hPl : ∀ i, (cz p i).natAbs <= H := hw.le
 let a : Nat -> Nat -> Int := fun j k => if k < m then (if k <= j + 1 then cz p (j + 1 - k) else 0) else (if k - m <= j + 1 then D (j + 1 - (k - m)) else 0)
 have ha : ∀ j k, (((a j k).natAbs : Nat) : Int) <= ((H : Nat) : Int) := fun j k => by
  show (((if k < m then (if k <= j + 1 then cz p (j + 1 - k) else 0) else (if k - m <= j + 1 then D (j + 1 - (k - m)) else 0) : Int).natAbs : Nat) : Int) <= _
  split
  ·split
   ·exact Int.ofNat_le.mpr (hPl _)
   ·exact Int.ofNat_le.mpr (Nat.zero_le _)
  ·split
   ·exact Int.ofNat_le.mpr (hDl _)
   ·exact Int.ofNat_le.mpr (Nat.zero_le _)
 obtain ⟨d, hd0, hdl, hde⟩ := siegel (M := n + m - 1) (A := (n + m) * H) a fun j _ => by
  have := sumI_le (n := n + m - 1 + 1) (f := fun k => (((a j k).natAbs : Nat) : Int)) fun k _ => ha j k
  rw [show n + m - 1 + 1 = n + m by lia] at this ⊢
  rw [Int.natCast_mul]; exact this
 let u := vec d m
 let v := vec (fun k => d (m + k)) n
 have ul : u.length = m := vec_len _ _
 have vl : v.length = n := vec_len _ _
 let w := add (mul u p) (mul v q)
 have cw : ∀ i, co w i = ((sumI m (fun k => (if k <= i then cz p (i - k) else 0) * d k) + sumI n (fun k => (if k <= i then D (i - k) else 0) * d (m + k)) : Int) : Rat) := fun i => by
  show co (add (mul u p) (mul v q)) i = _
  rw [co_add, co_mul, co_mul, ul, vl]
  show pm (vec d m) p m i + pm (vec (fun k => d (m + k)) n) q n i = _
  rw [pm_vec hw.whole i m (Nat.le_refl _), pm_vec hD i n (Nat.le_refl _), Rat.intCast_add]
 have cw0 : ∀ j, co w (j + 1) = 0 := fun j => by
  by_cases hj : j < n + m - 1
  ·rw [cw]
   have h1 := hde j hj
   rw [show n + m - 1 + 1 = m + n by lia, sumI_split] at h1
   have e1 : sumI m (fun k => a j k * d k) = sumI m (fun k => (if k <= j + 1 then cz p (j + 1 - k) else 0) * d k) := sumI_congr fun k hk => by
    show (if k < m then _ else _) * d k = _
    rw [if_pos hk]
   have e2 : sumI n (fun k => a j (m + k) * d (m + k)) = sumI n (fun k => (if k <= j + 1 then D (j + 1 - k) else 0) * d (m + k)) := sumI_congr fun k hk => by
    show (if m + k < m then _ else (if m + k - m <= j + 1 then D (j + 1 - (m + k - m)) else 0)) * d (m + k) = _
    rw [if_neg (by lia), show m + k - m = k by lia]
   rw [e1, e2] at h1
   rw [h1]; rfl
  ·show co (add (mul u p) (mul v q)) (j + 1) = 0
   rw [co_add, co_mul, co_mul, pm_high (by lia) (by lia) (fun i hi h => by lia), pm_high (by lia) (by lia) (fun i hi h => by lia)]
   grind
 obtain ⟨N, hN⟩ : ∃ N : Int, co w 0 = ((N : Int) : Rat) := ⟨_, cw 0⟩
 have hwat : ∀ x, at_ w x = ((N : Int) : Rat) := fun x => by
  have e : w = norm [((N : Int) : Rat)] := ext_nm (nm_add _ _) (nm_norm _) fun i => by
   rw [co_norm]
   cases i with
   | zero => rw [hN, co_cons_zero]
   | succ j => rw [cw0, co_cons_succ, co_nil]
  rw [e, at_norm, at_cons, at_nil]; grind
 have hval : ∀ x, at_ u x * at_ p x + at_ v x * at_ q x = ((N : Int) : Rat) := fun x => by
  have := hwat x
  show at_ u x * at_ p x + at_ v x * at_ q x = _
  rw [<- this, <- at_mul, <- at_mul, <- at_add]
 refine ⟨u, v, N, fun h0 => ?_, hval, fun i => ?_, fun i => ?_, by lia, by lia⟩
 ·-- all would be 0
  subst h0
  obtain ⟨s, t, hst⟩ := hb
  have z0 : ((0 : Int) : Rat) = 0 := rfl
  have hv : norm v = [] := by
   refine Classical.byContradiction fun hne => ?_
   have e : norm v = mul (sub (mul v s) (mul t u)) p := ext_at (nm_norm _) (nm_mul _ _) fun x => by
    rw [at_norm, at_mul, at_sub, at_mul, at_mul]
    have h1 := hst x
    have h2 := hval x
    rw [z0] at h2
    have h4 : at_ v x = at_ v x * (at_ s x * at_ p x + at_ t x * at_ q x) := by rw [h1]; grind
    rw [h4]
    grind
   have hs0 : sub (mul v s) (mul t u) ≠ [] := fun z => by rw [z] at e; exact hne (by rw [e]; rfl)
   have hl := mul_length (nm_sub (mul v s) (mul t u)) hp hs0 hp0
   rw [<- e] at hl
   have l1 : 0 < (sub (mul v s) (mul t u)).length := List.length_pos_iff.mpr hs0
   have l2 : (norm v).length <= v.length := by
    unfold norm
    rw [List.length_reverse]
    exact Nat.le_trans (List.dropWhile_sublist _).length_le (by rw [List.length_reverse]; exact Nat.le_refl _)
   lia
  have hu : norm u = [] := by
   refine Classical.byContradiction fun hne => mul_ne (nm_norm u) hp hne hp0 (nil_of_at (nm_mul _ _) fun x => ?_)
   have h2 := hval x
   rw [z0, <- at_norm v, hv, at_nil] at h2
   rw [at_mul, at_norm]; grind
  obtain ⟨k, hk, hne⟩ := hd0
  apply hne
  by_cases hkn : k < m
  ·exact at_vec_zero hu hkn
  ·have := at_vec_zero (d := fun k => d (m + k)) (m := n) hv (k := k - m) (by lia)
   have e : m + (k - m) = k := by lia
   rw [e] at this
   exact this
 ·by_cases hi : i < m
  ·have e : co u i = ((d i : Int) : Rat) := vec_co hi
   rw [e]
   exact ab_int (hdl i)
  ·rw [co_of_ge (by lia)]
   exact ab_int (y := 0) (Nat.zero_le _)
 ·by_cases hi : i < n
  ·have e : co v i = ((d (m + i) : Int) : Rat) := vec_co hi
   rw [e]
   exact ab_int (hdl (m + i))
  ·rw [co_of_ge (by lia)]
   exact ab_int (y := 0) (Nat.zero_le _)
theorem small_bz {p : Poly} {H n : Nat} (hs : SF p) (hw : Wh p H) (hn : p.length = n + 1) (hn1 : 1 <= n) :
  ∃ (u v : Poly) (N : Int), N ≠ 0 /\ (∀ x, at_ u x * at_ p x + at_ v x * der p x = ((N : Int) : Rat)) /\ (∀ i, ab (co u i) <= (((2 * ((2 * n - 1) * (n * H)) + 1) ^ (2 * n - 2) : Nat) : Rat)) /\ (∀ i, ab (co v i) <= (((2 * ((2 * n - 1) * (n * H)) + 1) ^ (2 * n - 2) : Nat) : Rat)) /\ u.length <= n /\ v.length <= n := by
 obtain ⟨hp, hp0, hb⟩ := hs
 have hD : ∀ i, co (slope p) i = (((((i + 1 : Nat) : Int) * cz p (i + 1)) : Int) : Rat) := fun i => by
  rw [slope_co hp, hw.whole, Rat.intCast_mul]; rfl
 have hcz : ∀ i, cz (slope p) i = ((i + 1 : Nat) : Int) * cz p (i + 1) := fun i => by
  unfold cz
  rw [hD]; rfl
 have hwq : Wh (slope p) (n * H) := ⟨fun i => by rw [hcz]; exact hD i, fun i => by
  rw [hcz, Int.natAbs_mul, Int.natAbs_natCast]
  by_cases hi : i + 1 <= n
  ·exact Nat.mul_le_mul hi (hw.le _)
  ·have : cz p (i + 1) = 0 := by unfold cz; rw [co_of_ge (by lia)]; rfl
   rw [this]; simp⟩
 have hw' : Wh p (n * H) := ⟨hw.whole, fun i => Nat.le_trans (hw.le i) (Nat.le_mul_of_pos_left _ hn1)⟩
 obtain ⟨u, v, N, h1, h2, h3, h4, h5, h6⟩ := small_bz2 (m := n - 1) hp hp0 hb hw' hwq hn (by rw [slope_length hp, hn]; lia) hn1
 rw [show n + (n - 1) = 2 * n - 1 by lia, show 2 * n - 1 - 1 = 2 * n - 2 by lia] at h3 h4
 exact ⟨u, v, N, h1, h2, h3, h4, by lia, h6⟩
theorem one_le_pow {B : Rat} (hB : 1 <= B) : ∀ m : Nat, 1 <= B ^ m := by
 intro z0
 induction z0 with
 | zero =>
  rw [Rat.pow_zero]; exact Rat.le_refl
 | succ m ih =>
  rw [Rat.pow_succ]
  have := mul_le_mul_nn (a := 1) (b := B ^ m) (c := 1) (d := B) (by decide) (by grind) (ih) hB
  grind
theorem nat_nonneg (m : Nat) : (0 : Rat) <= (m : Rat) := Rat.natCast_le_natCast.mpr (Nat.zero_le m)
theorem vb_le {X B : Rat} (hX : 0 <= X) (hB : 1 <= B) : ∀ (p : Poly) (m : Nat), (∀ i, ab (co p i) <= X) -> p.length <= m -> vb p B <= X * (m : Rat) * B ^ m
 | [], m, _, _ => by
  show (0 : Rat) <= _
  have h1 := one_le_pow hB m
  exact Rat.mul_nonneg (Rat.mul_nonneg hX (nat_nonneg m)) (by grind)
 | c :: r, 0, _, h => by simp at h
 | c :: r, m + 1, hc, hl => by
  have ih := vb_le hX hB r m (fun i => by have := hc (i + 1); rw [co_cons_succ] at this; exact this) (by simp at hl; lia)
  have h0 := hc 0
  rw [co_cons_zero] at h0
  rw [vb_cons]
  have h1 := one_le_pow hB (m + 1)
  have e : ((m + 1 : Nat) : Rat) = (m : Rat) + 1 := by simp
  rw [e]
  have h2 : B * vb r B <= B * (X * (m : Rat) * B ^ m) := Rat.mul_le_mul_of_nonneg_left ih (by grind)
  have e2 : B * (X * (m : Rat) * B ^ m) = X * (m : Rat) * B ^ (m + 1) := by rw [Rat.pow_succ]; grind
  have h3 := Rat.mul_le_mul_of_nonneg_left h1 hX
  have e3 : X * ((m : Rat) + 1) * B ^ (m + 1) = X * (m : Rat) * B ^ (m + 1) + X * B ^ (m + 1) := by grind
  rw [e3]
  grind
theorem db_le {X B : Rat} (hX : 0 <= X) (hB : 1 <= B) : ∀ (p : Poly) (m : Nat), (∀ i, ab (co p i) <= X) -> p.length <= m -> db p B <= X * ((m : Rat) * (m : Rat)) * B ^ m
 | [], m, _, _ => by
  show (0 : Rat) <= _
  have h1 := one_le_pow hB m
  exact Rat.mul_nonneg (Rat.mul_nonneg hX (Rat.mul_nonneg (nat_nonneg m) (nat_nonneg m))) (by grind)
 | c :: r, 0, _, h => by simp at h
 | c :: r, m + 1, hc, hl => by
  have hc' : ∀ i, ab (co r i) <= X := fun i => by have := hc (i + 1); rw [co_cons_succ] at this; exact this
  have ih := db_le hX hB r m hc' (by simp at hl; lia)
  have iv := vb_le hX hB r m hc' (by simp at hl; lia)
  rw [db]
  have h1 := one_le_pow hB m
  have e : ((m + 1 : Nat) : Rat) = (m : Rat) + 1 := by simp
  rw [e]
  have h2 : B * db r B <= B * (X * ((m : Rat) * (m : Rat)) * B ^ m) := Rat.mul_le_mul_of_nonneg_left ih (by grind)
  have e2 : B * (X * ((m : Rat) * (m : Rat)) * B ^ m) = X * ((m : Rat) * (m : Rat)) * B ^ (m + 1) := by rw [Rat.pow_succ]; grind
  have h3 : X * (m : Rat) * B ^ m * 1 <= X * (m : Rat) * B ^ m * B := Rat.mul_le_mul_of_nonneg_left hB (Rat.mul_nonneg (Rat.mul_nonneg hX (nat_nonneg m)) (by grind))
  have e3 : X * (m : Rat) * B ^ m * B = X * (m : Rat) * B ^ (m + 1) := by rw [Rat.pow_succ]; grind
  rw [e3] at h3
  have h4 : 0 <= X * (m : Rat) * B ^ (m + 1) := Rat.mul_nonneg (Rat.mul_nonneg hX (nat_nonneg m)) (by have := one_le_pow hB (m + 1); grind)
  have h5 : 0 <= X * B ^ (m + 1) := Rat.mul_nonneg hX (by have := one_le_pow hB (m + 1); grind)
  have e4 : X * (((m : Rat) + 1) * ((m : Rat) + 1)) * B ^ (m + 1) = X * ((m : Rat) * (m : Rat)) * B ^ (m + 1) + X * (m : Rat) * B ^ (m + 1) + X * (m : Rat) * B ^ (m + 1) + X * B ^ (m + 1) := by grind
  rw [e4]
  grind
theorem pos_trans {x y z : Rat} (h : 0 < x * y) (k : 0 < y * z) : 0 < x * z := by
 rcases mul_pos_cases h with a | a <;> rcases mul_pos_cases k with b | b <;> first | (exfalso; grind) | exact Rat.mul_pos a.1 b.2 | exact neg_mul_neg' a.1 b.2
theorem off_same {q : Poly} {a b e : Rat} (he : 0 < e) (h : ∀ x, a <= x -> x <= b -> e <= ab (at_ q x)) {x y : Rat} (hx : a <= x) (hxy : x < y) (hy : y <= b) : 0 < at_ q x * at_ q y := by
 obtain ⟨B, hB, h1, h2⟩ := bound2 a b
 refine within_all (F := fun x y => 0 < at_ q x * at_ q y) h1 h2 ((near_small hB q he).mono fun u v _ q1 _ hs hu hv => ?_) (fun _ _ _ _ _ _ _ f g => pos_trans f g) hx hxy hy
 rcases rat_lt_or_ge 0 (at_ q u * at_ q v) with z | z
 ·exact z
 ·have := (hs z).1
  have := h u hu (by grind)
  grind
theorem apart {p : Poly} {l : List Poly} (h : Sturm p l) {a b B c : Rat} (hB : 0 <= B) (ha : -B <= a) (hab : a < b) (hb : b <= B) (hc : 0 < c) (hf : ∀ x, ab x <= B -> ab (at_ p x) < c -> c < ab (der p x)) (hw : (b - a) * db p B <= c / 2) :
  between l a b + (if at_ p a = 0 then 1 else 0) <= 1 := by
 have hc2 : 0 < c / 2 := by grind
 have inB : ∀ x, a <= x -> x <= b -> ab x <= B := fun x h1 h2 => ab_le.mpr ⟨by grind, by grind⟩
 by_cases hex : ∃ x0, a <= x0 /\ x0 <= b /\ ab (at_ p x0) < c / 2
 ·obtain ⟨x0, h1, h2, h3⟩ := hex
  have small : ∀ x, a <= x -> x <= b -> ab (at_ p x) < c := by
   intro x hx hx'
   have hl := lip hB (inB x0 h1 h2) (inB x hx hx') p
   have h4 : ab (x - x0) <= b - a := by unfold ab; split <;> grind
   have h5 : ab (x - x0) * db p B <= (b - a) * db p B := Rat.mul_le_mul_of_nonneg_right h4 (db_nonneg hB p)
   have h6 := ab_add (at_ p x - at_ p x0) (at_ p x0)
   have e : at_ p x - at_ p x0 + at_ p x0 = at_ p x := by grind
   rw [e] at h6
   grind
  have big : ∀ x, a <= x -> x <= b -> c < ab (der p x) := fun x hx hx' => hf x (inB x hx hx') (small x hx hx')
  have same : ∀ x, a < x -> x <= b -> 0 < der p a * der p x := fun x hx hx' => off_same (q := slope p) hc (fun y hy hy' => Rat.le_of_lt (big y hy hy')) (Rat.le_refl) hx hx'
  have hd : (∀ x, a <= x -> x <= b -> c <= der p x) \/ (∀ x, a <= x -> x <= b -> der p x <= -c) := by
   have ba := big a (Rat.le_refl) (by grind)
   rcases rat_lt_or_ge (der p a) 0 with z | z
   ·refine .inr fun x hx hx' => ?_
    have bx := big x hx hx'
    have : der p x < 0 := by
     rcases rat_tri a x with w | w | w
     ·rcases mul_pos_cases (same x w hx') with v | v <;> grind
     ·subst w; exact z
     ·grind
    unfold ab at bx
    rw [if_pos this] at bx
    grind
   ·refine .inl fun x hx hx' => ?_
    have bx := big x hx hx'
    have : ¬ der p x < 0 := by
     rcases rat_tri a x with w | w | w
     ·rcases mul_pos_cases (same x w hx') with v | v <;> grind
     ·subst w; grind
     ·grind
    unfold ab at bx
    rw [if_neg this] at bx
    grind
  have hs := h.slope hab hc hd
  have hbt : between l a b = cross p a b := by unfold between; lia
  rw [hbt]
  unfold cross
  by_cases hz : at_ p a = 0
  ·rw [if_neg (fun w => w.1 hz), if_pos hz]; lia
  ·rw [if_neg hz]
   split <;> lia
 ·have big : ∀ x, a <= x -> x <= b -> c / 2 <= ab (at_ p x) := fun x hx hx' => by
   rcases rat_lt_or_ge (ab (at_ p x)) (c / 2) with z | z
   ·exact absurd ⟨x, hx, hx', z⟩ hex
   ·exact z
  have h0 := h.none (Rat.le_of_lt hab) fun x y hx hxy hy => off_same hc2 big hx hxy hy
  have h1 : at_ p a ≠ 0 := fun e => by
   have := big a (Rat.le_refl) (by grind)
   rw [e] at this
   have e0 : ab 0 = 0 := by decide
   grind
  rw [h0, if_neg h1]
  lia
def bzX (n H : Nat) : Nat := (2 * ((2 * n - 1) * (n * H)) + 1) ^ (2 * n - 2)
theorem bzX_pos (n H : Nat) : 1 <= bzX n H := Nat.pow_pos (by lia)
theorem apart_num {p : Poly} {l : List Poly} {H n : Nat} (h : Sturm p l) (hs : SF p) (hw : Wh p H) (hn : p.length = n + 1) (hn1 : 1 <= n) {a b : Rat} {B : Nat} (hB : 1 <= B) (ha : -(B : Rat) <= a) (hab : a < b) (hb : b <= (B : Rat))
  (hd : (b - a) * ((4 * (bzX n H * n * B ^ n) * (H * ((n + 1) * (n + 1)) * B ^ (n + 1)) : Nat) : Rat) <= 1) : between l a b + (if at_ p a = 0 then 1 else 0) <= 1 := by
 obtain ⟨u, v, N, hN, hval, hu, hv, ul, vl⟩ := small_bz hs hw hn hn1
 have hB1 : (1 : Rat) <= (B : Rat) := by
  have := Rat.natCast_le_natCast.mpr hB
  exact this
 have hB0 : (0 : Rat) <= (B : Rat) := by grind
 have hX0 : (0 : Rat) <= ((bzX n H : Nat) : Rat) := nat_nonneg _
 have vu := vb_le hX0 hB1 u n hu ul
 have vv := vb_le hX0 hB1 v n hv vl
 have hH : ∀ i, ab (co p i) <= ((H : Nat) : Rat) := fun i => by
  rw [hw.whole i]
  have h1 := hw.le i
  refine ab_le.mpr ⟨?_, ?_⟩
  ·have : (-(H : Int)) <= cz p i := by lia
   have := Rat.intCast_le_intCast.mpr this
   rw [Rat.intCast_neg] at this
   exact this
  ·have : cz p i <= (H : Int) := by lia
   exact Rat.intCast_le_intCast.mpr this
 have hdb := db_le (nat_nonneg H) hB1 p (n + 1) hH (by lia)
 generalize hU : ((bzX n H * n * B ^ n : Nat) : Rat) = U
 have eU : ((bzX n H : Nat) : Rat) * (n : Rat) * (B : Rat) ^ n = U := by rw [<- hU, Rat.natCast_mul, Rat.natCast_mul, Rat.natCast_pow]
 rw [eU] at vu vv
 generalize hL : ((H * ((n + 1) * (n + 1)) * B ^ (n + 1) : Nat) : Rat) = Ld
 have eL : ((H : Nat) : Rat) * (((n + 1 : Nat) : Rat) * ((n + 1 : Nat) : Rat)) * (B : Rat) ^ (n + 1) = Ld := by rw [<- hL, Rat.natCast_mul, Rat.natCast_mul, Rat.natCast_mul, Rat.natCast_pow]
 rw [eL] at hdb
 have hU1 : 1 <= U := by
  rw [<- hU]
  have : 1 <= bzX n H * n * B ^ n := Nat.mul_pos (Nat.mul_pos (bzX_pos n H) hn1) (Nat.pow_pos hB)
  exact Rat.natCast_le_natCast.mpr this
 have hd' : (b - a) * (4 * U * Ld) <= 1 := by
  rw [Rat.natCast_mul, Rat.natCast_mul, hU, hL] at hd
  exact hd
 have hUi := Rat.mul_inv_cancel (2 * U) (by grind)
 have hUp : 0 < (2 * U)⁻¹ := Rat.inv_pos.mpr (by grind)
 refine apart h (c := (2 * U)⁻¹) hB0 ha hab hb hUp (fun x hx hp => ?_) ?_
 ·-- the slope
  have hux := at_le hB0 hx u
  have hvx := at_le hB0 hx v
  have h3 := ab_add (at_ u x * at_ p x) (at_ v x * der p x)
  rw [hval x, ab_mul, ab_mul] at h3
  have hN1 : 1 <= ab ((N : Int) : Rat) := by
   unfold ab
   rcases (show N < 0 \/ 0 < N from by lia) with z | z
   ·have z1 : ((N : Int) : Rat) <= -1 := by
     have := Rat.intCast_le_intCast.mpr (show N <= -1 by lia)
     exact this
    rw [if_pos (by grind)]; grind
   ·have z1 : 1 <= ((N : Int) : Rat) := by
     have := Rat.intCast_le_intCast.mpr (show 1 <= N by lia)
     exact this
    rw [if_neg (by grind)]; exact z1
  have h4 := mul_le_mul_nn (ab_nonneg (at_ u x)) (ab_nonneg (at_ p x)) (Rat.le_trans hux vu) (Rat.le_refl (a := ab (at_ p x)))
  have h5 := mul_le_mul_nn (ab_nonneg (at_ v x)) (ab_nonneg (der p x)) (Rat.le_trans hvx vv) (Rat.le_refl (a := ab (der p x)))
  have h6 : U * ab (at_ p x) < U * (2 * U)⁻¹ := Rat.mul_lt_mul_of_pos_left hp (by grind)
  have e6 : U * (2 * U)⁻¹ = 1 / 2 := by grind
  rcases rat_lt_or_ge ((2 * U)⁻¹) (ab (der p x)) with z | z
  ·exact z
  ·exfalso
   have h7 : U * ab (der p x) <= U * (2 * U)⁻¹ := Rat.mul_le_mul_of_nonneg_left z (by grind)
   grind
 ·have h8 : (b - a) * db p B <= (b - a) * Ld := Rat.mul_le_mul_of_nonneg_left hdb (by grind)
  have h9 : (b - a) * Ld * (4 * U) <= 1 := by grind
  have h10 : (2 * U)⁻¹ / 2 * (4 * U) = 1 := by grind
  rcases rat_lt_or_ge ((2 * U)⁻¹ / 2) ((b - a) * Ld) with z | z
  ·exfalso
   have h11 : (2 * U)⁻¹ / 2 * (4 * U) < (b - a) * Ld * (4 * U) := Rat.mul_lt_mul_of_pos_right z (by grind)
   grind
  ·grind
theorem poly_if : ∀ p : Poly, ∃ a d, IF p a d := by
 intro p
 have : ∃ n, polySz p n := by
  induction p with
  | nil => exact ⟨0, fun c hc => by simp at hc⟩
  | cons c r ih =>
   obtain ⟨n, hn⟩ := ih
   refine ⟨n + c.num.natAbs + c.den, fun x hx => ?_⟩
   rcases List.mem_cons.mp hx with rfl | hx
   ·refine ⟨Nat.lt_of_lt_of_le Nat.lt_two_pow_self (pow_le (by lia)), Nat.lt_of_lt_of_le Nat.lt_two_pow_self (pow_le (by lia))⟩
   ·exact (hn x hx).mono (by lia)
 obtain ⟨n, hn⟩ := this
 exact ⟨_, _, IF.init hn⟩
theorem part_whole {p : Poly} (hp : Nm p) (hne : p ≠ []) (i : Nat) : co (part p) i = ((cz (part p) i : Int) : Rat) := by
 obtain ⟨a, d, h⟩ := poly_if p
 obtain ⟨D, D1, D2, D3⟩ := (h.part hp hne).ex
 have e : D = 1 := by simp at D2; lia
 subst e
 obtain ⟨z, _, hz⟩ := D3 i
 have e1 : ((1 : Nat) : Rat) = 1 := rfl
 rw [e1, Rat.mul_one] at hz
 unfold cz
 rw [hz, Rat.num_intCast]
theorem whole_den {p : Poly} (h : ∀ i, co p i = ((cz p i : Int) : Rat)) {c : Rat} (hc : c ∈ p) : c.den = 1 := by
 obtain ⟨i, hi⟩ := List.getElem?_of_mem hc
 have := h i
 rw [co_of_get hi] at this
 rw [this]; rfl
theorem gcdOf_mul (k : Nat) : ∀ l : List Nat, gcdOf (l.map fun x => k * x) = k * gcdOf l := by
 have H : ∀ (n : Nat) (l : List Nat), l.length = n -> gcdOf (l.map fun x => k * x) = k * gcdOf l := by
  intro n
  induction n with
  | zero => intro l hl; rw [List.length_eq_zero_iff.mp hl]; simp [gcdOf]
  | succ n ih =>
   intro l hl
   have hne : l ≠ [] := fun e => by rw [e] at hl; simp at hl
   rw [<- List.dropLast_concat_getLast hne, List.map_append, List.map_singleton, gcdOf_snoc, gcdOf_snoc, ih _ (by rw [List.length_dropLast]; lia), Nat.gcd_mul_left]
 exact fun l => H _ l rfl
theorem ct_part {p : Poly} (hp : Nm p) (hne : p ≠ []) : ct (part p) = 1 := by
 have hw := part_whole hp hne
 have hc := ct_ne hp hne
 have hb : cBot (part p) = 1 := by
  have h1 : cBot (part p) ∣ 1 := cBot_dvd_of _ fun c hc => by rw [whole_den hw hc]; exact Nat.dvd_refl _
  exact Nat.dvd_one.mp h1
 have ht : cTop (part p) = 1 := by
  have e1 := gcdOf_eq p
  have e2 : (p.map fun c => (c * ((cBot p : Nat) : Rat)).num.natAbs) = ((part p).map fun c => c.num.natAbs).map fun x => cTop p * x := by
   rw [List.map_map, part_eq hp hne, List.map_map]
   refine List.map_congr_left fun c hcm => ?_
   show (c * ((cBot p : Nat) : Rat)).num.natAbs = cTop p * (c / ct p).num.natAbs
   have hm : c / ct p ∈ part p := by rw [part_eq hp hne]; exact List.mem_map.mpr ⟨c, hcm, rfl⟩
   have hd := whole_den hw hm
   have h1 := rat_eq (c / ct p)
   rw [hd] at h1
   have e1' : ((1 : Nat) : Rat) = 1 := rfl
   rw [e1', Rat.mul_one] at h1
   have h2 := Rat.div_mul_cancel (a := c) hc
   have h3 : ct p * ((cBot p : Nat) : Rat) = ((cNum p : Int) : Rat) := by
    have := rat_eq (ct p)
    rw [ct_num, ct_den] at this
    exact this
   have h4 : c * ((cBot p : Nat) : Rat) = (((c / ct p).num * cNum p : Int) : Rat) := by
    rw [Rat.intCast_mul, <- h1, <- h3, <- Rat.mul_assoc, h2]
   rw [h4, Rat.num_intCast, Int.natAbs_mul, cNum_abs, Nat.mul_comm]
  rw [e2, gcdOf_mul] at e1
  have e3 : gcdOf ((part p).map fun c => c.num.natAbs) = cTop (part p) := by unfold gcdOf cTop; rw [List.foldl_map]
  rw [e3] at e1
  have hpos := cTop_pos hp hne
  have : cTop p * cTop (part p) = cTop p * 1 := by lia
  exact Nat.eq_of_mul_eq_mul_left hpos this
 have hl : 0 < (lead (part p)).num := by
  rw [num_pos_iff]
  have hpn : part p ≠ [] := fun e => by have := part_len hp hne; rw [e] at this; exact hne (List.length_eq_zero_iff.mp this.symm)
  have e : lead (part p) = lead p / ct p := by
   rw [lead_co, part_len hp hne, part_eq hp hne, lead_co]
   refine co_of_get ?_
   rw [List.getElem?_map, co_lt (by have := List.length_pos_iff.mpr hne; lia)]; rfl
  rw [e]
  have h2 := Rat.div_mul_cancel (a := lead p) hc
  generalize lead p / ct p = y at *
  have hln := lead_ne hp hne
  have hsg : 0 < ct p ↔ 0 < lead p := by
   rw [<- num_pos_iff, <- num_pos_iff, ct_num]
   unfold cNum
   have := cTop_pos hp hne
   split
   ·constructor <;> intro <;> first | assumption | lia
   ·constructor <;> intro <;> lia
  rcases rat_tri y 0 with z | z | z
  ·exfalso
   rcases rat_tri (ct p) 0 with w | w | w
   ·have h3 := neg_mul_neg' z w
    rw [h2] at h3
    have := hsg.mpr h3
    grind
   ·exact hc w
   ·have h3 := pos_mul_neg w z
    have := hsg.mp w
    grind
  ·exfalso; subst z; apply hln; rw [<- h2]; grind
  ·exact z
 unfold ct cNum
 rw [if_pos hl, ht, hb]; rfl
theorem part_part {p : Poly} (hp : Nm p) (hne : p ≠ []) : part (part p) = part p := by
 have hpn : part p ≠ [] := fun e => by have := part_len hp hne; rw [e] at this; exact hne (List.length_eq_zero_iff.mp this.symm)
 rw [part_eq nm_part hpn, ct_part hp hne]
 have : ∀ c : Rat, c / 1 = c := fun c => by grind
 simp [this]
theorem part_lead_pos {p : Poly} (hp : Nm p) (hne : p ≠ []) : 0 < lead (part p) := by
 have hpn : part p ≠ [] := fun e => by have := part_len hp hne; rw [e] at this; exact hne (List.length_eq_zero_iff.mp this.symm)
 have h := ct_part hp hne
 have h1 := ct_num (part p)
 rw [h] at h1
 unfold cNum at h1
 by_cases z : 0 < (lead (part p)).num
 ·exact (num_pos_iff _).mp z
 ·rw [if_neg z] at h1
  have : (1 : Rat).num = 1 := rfl
  rw [this] at h1
  lia
theorem weight_snoc (p : Poly) (c : Rat) : weight (p ++ [c]) = weight p + Nat.log2 (c.num.natAbs + 1) + Nat.log2 c.den + 2 := by
 unfold weight; rw [List.foldl_append]; rfl
theorem weight_mem : ∀ p : Poly, ∀ c ∈ p, Nat.log2 (c.num.natAbs + 1) + 2 <= weight p := by
 intro p
 refine snoc_ind (P := fun p => ∀ c ∈ p, Nat.log2 (c.num.natAbs + 1) + 2 <= weight p) (fun c h => by simp at h) (fun p c ih x hx => ?_) p
 rw [weight_snoc]
 rcases List.mem_append.mp hx with h | h
 ·have := ih x h; lia
 ·rw [List.mem_singleton.mp h]; lia
theorem weight_le {p : Poly} {c : Rat} (h : c ∈ p) : c.num.natAbs < 2 ^ weight p := by
 have h1 := weight_mem p c h
 have h2 : c.num.natAbs + 1 < 2 ^ (Nat.log2 (c.num.natAbs + 1) + 1) := Nat.lt_log2_self
 exact Nat.lt_of_lt_of_le (by lia : c.num.natAbs < 2 ^ (Nat.log2 (c.num.natAbs + 1) + 1)) (pow_le (by lia))
theorem wh_part {p : Poly} (hp : Nm p) (hne : p ≠ []) : Wh (part p) (2 ^ weight (part p)) := by
 refine ⟨part_whole hp hne, fun i => ?_⟩
 by_cases hi : i < (part p).length
 ·exact Nat.le_of_lt (weight_le (List.mem_of_getElem? (co_lt hi)))
 ·unfold cz; rw [co_of_ge (by lia)]; simp
theorem size_ab (x : Rat) : size x = ab x := rfl
def mxc (p : Poly) : Nat := (p.map fun c => (size (c / lead p)).ceil.toNat).foldl max 0
theorem boundOf_eq (p : Poly) : boundOf p = Nat.log2 (mxc p + 1) + 2 := rfl
theorem le_foldl_max : ∀ (l : List Nat) (a : Nat), a <= l.foldl max a /\ ∀ x ∈ l, x <= l.foldl max a := by
 intro z0
 induction z0 with
 | nil =>
  intro a
  exact ⟨Nat.le_refl _, fun x h => by simp at h⟩
 | cons y l ih =>
  intro a
  obtain ⟨h1, h2⟩ := ih (max a y)
  refine ⟨?_, fun x hx => ?_⟩
  ·show a <= l.foldl max (max a y)
   lia
  ·show x <= l.foldl max (max a y)
   rcases List.mem_cons.mp hx with rfl | hx
   ·lia
   ·exact h2 x hx
theorem mxc_le {p : Poly} (hp : Nm p) (hne : p ≠ []) {c : Rat} (hc : c ∈ p) : ab c <= ((mxc p : Nat) : Rat) * ab (lead p) := by
 have hl := lead_ne hp hne
 have h1 := (le_foldl_max (p.map fun c => (size (c / lead p)).ceil.toNat) 0).2 _ (List.mem_map.mpr ⟨c, hc, rfl⟩)
 have h2 : size (c / lead p) <= ((size (c / lead p)).ceil : Rat) := Rat.le_ceil
 have h3 : (size (c / lead p)).ceil <= (((size (c / lead p)).ceil.toNat : Nat) : Int) := by lia
 have h4 : ((size (c / lead p)).ceil : Rat) <= ((((size (c / lead p)).ceil.toNat : Nat) : Int) : Rat) := Rat.intCast_le_intCast.mpr h3
 have h5 : (((size (c / lead p)).ceil.toNat : Nat) : Rat) <= ((mxc p : Nat) : Rat) := Rat.natCast_le_natCast.mpr h1
 have e : ((((size (c / lead p)).ceil.toNat : Nat) : Int) : Rat) = (((size (c / lead p)).ceil.toNat : Nat) : Rat) := rfl
 rw [e] at h4
 have h6 : ab (c / lead p) <= ((mxc p : Nat) : Rat) := by rw [size_ab] at h2 h4 h5; grind
 have h7 := Rat.div_mul_cancel (a := c) hl
 have h8 : ab c = ab (c / lead p) * ab (lead p) := by rw [<- ab_mul, h7]
 rw [h8]
 exact Rat.mul_le_mul_of_nonneg_right h6 (ab_nonneg _)
theorem two_eq_pow (n : Nat) : two n = ((2 ^ n : Nat) : Rat) := rfl
theorem two_pos (n : Nat) : 0 < two n := by
 have : 1 <= 2 ^ n := pow_pos n
 have := Rat.natCast_le_natCast.mpr this
 rw [two_eq_pow]
 have e : ((1 : Nat) : Rat) = 1 := rfl
 rw [e] at this
 grind
theorem bound_ge (p : Poly) : ((mxc p : Nat) : Rat) + 1 <= two (boundOf p) := by
 have h1 : mxc p + 1 < 2 ^ (Nat.log2 (mxc p + 1) + 1) := Nat.lt_log2_self
 have h2 : 2 ^ (Nat.log2 (mxc p + 1) + 1) <= 2 ^ boundOf p := pow_le (by rw [boundOf_eq]; lia)
 have h3 : mxc p + 1 <= 2 ^ boundOf p := by lia
 have := Rat.natCast_le_natCast.mpr h3
 rw [two_eq_pow]
 have e : ((mxc p + 1 : Nat) : Rat) = ((mxc p : Nat) : Rat) + 1 := by simp
 rw [e] at this
 exact this
theorem beyond {p : Poly} (hp : Nm p) (hne : p ≠ []) {x y : Rat} (hx : two (boundOf p) <= ab x) (hy : two (boundOf p) <= ab y) (hxy : 0 < x * y) : 0 < at_ p x * at_ p y := by
 have hl := lead_ne hp hne
 have hL : 0 < ab (lead p) := by unfold ab; split <;> grind
 have hb := bound_ge p
 exact far_same hL (nat_nonneg _) (by grind) (by grind) hxy p hne (fun c hc => mxc_le hp hne hc) (Rat.le_refl)
theorem beyond_ne {p : Poly} (hp : Nm p) (hne : p ≠ []) {x : Rat} (hx : two (boundOf p) <= ab x) : at_ p x ≠ 0 := by
 have h0 := two_pos (boundOf p)
 have h := beyond hp hne hx hx (by
  rcases rat_tri x 0 with z | z | z
  ·exact neg_mul_neg' z z
  ·subst z
   have : ab 0 = 0 := by decide
   grind
  ·exact Rat.mul_pos z z)
 exact (ne_of_mul_pos h).1
structure Pr (p : Poly) (n : Nat) : Prop where
 sf : SF p
 len : p.length = n + 1
 pos : 1 <= n
 prim : part p = p
theorem Pr.wh {p : Poly} {n : Nat} (h : Pr p n) : Wh p (2 ^ weight p) := by
 have := wh_part h.sf.1 h.sf.2.1
 rw [h.prim] at this
 exact this
theorem Pr.lead1 {p : Poly} {n : Nat} (h : Pr p n) : 1 <= lead p := by
 have h1 := part_lead_pos h.sf.1 h.sf.2.1
 rw [h.prim] at h1
 have h2 := h.wh.whole (p.length - 1)
 rw [<- lead_co] at h2
 rw [h2] at h1 ⊢
 have e : ((0 : Int) : Rat) = 0 := rfl
 rw [<- e] at h1
 have h3 := Rat.intCast_lt_intCast.mp h1
 exact Rat.intCast_le_intCast.mpr (show (1 : Int) <= cz p (p.length - 1) by lia)
theorem foldl_max_le {b : Nat} : ∀ (l : List Nat) (a : Nat), a <= b -> (∀ x ∈ l, x <= b) -> l.foldl max a <= b := by
 intro z0
 induction z0 with
 | nil =>
  intro a h _
  exact h
 | cons y l ih =>
  intro a h k
  exact ih (max a y) (by have := k y (by simp); lia) (fun x hx => k x (List.mem_cons_of_mem _ hx))
theorem log2_mono {a b : Nat} (ha : a ≠ 0) (h : a <= b) : Nat.log2 a <= Nat.log2 b := by
 have h1 : 2 ^ Nat.log2 a <= a := Nat.log2_self_le ha
 have h2 : 2 ^ Nat.log2 a <= b := by lia
 exact (Nat.le_log2 (by lia)).mpr h2
theorem Pr.bound {p : Poly} {n : Nat} (h : Pr p n) : boundOf p <= weight p := by
 rw [boundOf_eq]
 have hne := h.sf.2.1
 have key : ∀ b : Nat, (∀ c ∈ p, c.num.natAbs <= b) -> mxc p <= b := by
  intro b hb
  refine foldl_max_le _ 0 (Nat.zero_le _) fun x hx => ?_
  obtain ⟨c, hc, rfl⟩ := List.mem_map.mp hx
  have h1 := hb c hc
  have hl := h.lead1
  have hden := whole_den h.wh.whole hc
  have hcn := rat_eq c
  rw [hden] at hcn
  have e1' : ((1 : Nat) : Rat) = 1 := rfl
  rw [e1', Rat.mul_one] at hcn
  have h2 : size (c / lead p) <= (((b : Nat) : Int) : Rat) := by
   rw [size_ab]
   have h7 := Rat.div_mul_cancel (a := c) (b := lead p) (by grind)
   have h8 : ab c = ab (c / lead p) * ab (lead p) := by rw [<- ab_mul, h7]
   have h9 : ab (lead p) = lead p := by unfold ab; rw [if_neg (by grind)]
   have h10 : ab c <= (((b : Nat) : Int) : Rat) := by
    rw [hcn]
    refine ab_le.mpr ⟨?_, ?_⟩
    ·rw [<- Rat.intCast_neg]
     exact Rat.intCast_le_intCast.mpr (by lia)
    ·exact Rat.intCast_le_intCast.mpr (by lia)
   have h11 : ab (c / lead p) * 1 <= ab (c / lead p) * ab (lead p) := Rat.mul_le_mul_of_nonneg_left (by rw [h9]; exact hl) (ab_nonneg _)
   grind
  have h3 : (size (c / lead p)).ceil <= ((b : Nat) : Int) := by
   have h4 : ((size (c / lead p)).ceil : Rat) < size (c / lead p) + 1 := Rat.ceil_lt
   have h5 : ((size (c / lead p)).ceil : Rat) < ((((b : Nat) : Int) + 1 : Int) : Rat) := by
    rw [Rat.intCast_add]
    have e : ((1 : Int) : Rat) = 1 := rfl
    rw [e]; grind
   have := Rat.intCast_lt_intCast.mp h5
   lia
  lia
 have hex : ∃ c ∈ p, mxc p <= c.num.natAbs := by
  refine Classical.byContradiction fun hno => ?_
  have hall : ∀ c ∈ p, c.num.natAbs < mxc p := fun c hc => by
   rcases Nat.lt_or_ge c.num.natAbs (mxc p) with z | z
   ·exact z
   ·exact absurd ⟨c, hc, z⟩ hno
  have hm : 0 < mxc p := by
   have := hall _ (lead_mem hne); lia
  have := key (mxc p - 1) fun c hc => by have := hall c hc; lia
  lia
 obtain ⟨c, hc, hle⟩ := hex
 have h1 := weight_mem p c hc
 have h2 := log2_mono (a := mxc p + 1) (b := c.num.natAbs + 1) (by lia) (by lia)
 lia
def sep (p : Poly) : Nat := 4 * ((p.length - 1) * (p.length - 1)) + 4 * ((p.length - 1) * weight p) + 2 * weight p + 7 * (p.length - 1) + 6
theorem Pr.apart {p : Poly} {l : List Poly} {n : Nat} (h : Pr p n) (hl : Sturm p l) {a b : Rat} (ha : -two (boundOf p) <= a) (hab : a < b) (hb : b <= two (boundOf p)) (hd : (b - a) * two (sep p) <= 1) :
  between l a b + (if at_ p a = 0 then 1 else 0) <= 1 := by
 have hB : 1 <= 2 ^ boundOf p := pow_pos _
 refine apart_num hl h.sf h.wh h.len h.pos hB ha hab hb ?_
 refine Rat.le_trans (Rat.mul_le_mul_of_nonneg_left ?_ (by grind)) hd
 rw [two_eq_pow]
 refine Rat.natCast_le_natCast.mpr ?_
 have hk := h.bound
 have hn := h.pos
 have el : p.length - 1 = n := by have := h.len; lia
 unfold sep
 rw [el]
 generalize weight p = W at *
 generalize boundOf p = k at *
 have hn2 : n <= 2 ^ n := Nat.le_of_lt Nat.lt_two_pow_self
 have hn3 : n + 1 <= 2 ^ n := Nat.lt_two_pow_self
 have h1 : bzX n (2 ^ W) <= 2 ^ ((2 * n + 2 + W) * (2 * n - 2)) := by
  unfold bzX
  rw [Nat.pow_mul]
  refine Nat.pow_le_pow_left ?_ _
  have e1 : 2 ^ (2 * n + 2 + W) = 4 * (2 ^ n * 2 ^ n) * 2 ^ W := by
   rw [Nat.pow_add, Nat.pow_add, show 2 * n = n + n by lia, Nat.pow_add, Nat.mul_comm (2 ^ n * 2 ^ n) (2 ^ 2)]
  rw [e1]
  have h2 : n * n <= 2 ^ n * 2 ^ n := Nat.mul_le_mul hn2 hn2
  have h3 : (2 * n - 1) * (n * 2 ^ W) + n * 2 ^ W <= 2 * (n * n * 2 ^ W) := by
   have : (2 * n - 1) * (n * 2 ^ W) + n * 2 ^ W = (2 * n) * (n * 2 ^ W) := by
    rw [<- Nat.succ_mul]; congr 1; lia
   rw [this, Nat.mul_assoc, Nat.mul_assoc]; exact Nat.le_refl _
  have h4 : n * n * 2 ^ W <= 2 ^ n * 2 ^ n * 2 ^ W := Nat.mul_le_mul_right _ h2
  have h5 : 1 <= n * 2 ^ W := Nat.mul_pos hn (pow_pos W)
  rw [Nat.mul_assoc 4]
  lia
 have h6 : bzX n (2 ^ W) * n * (2 ^ k) ^ n <= 2 ^ ((2 * n + 2 + W) * (2 * n - 2) + n + k * n) := by
  rw [Nat.pow_add, Nat.pow_add, Nat.pow_mul 2 k n]
  exact Nat.mul_le_mul_right _ (Nat.mul_le_mul h1 hn2)
 have h7 : 2 ^ W * ((n + 1) * (n + 1)) * (2 ^ k) ^ (n + 1) <= 2 ^ (W + (n + n) + k * (n + 1)) := by
  rw [Nat.pow_add 2 (W + (n + n)), Nat.pow_add 2 W, Nat.pow_add 2 n n, Nat.pow_mul 2 k (n + 1)]
  exact Nat.mul_le_mul_right _ (Nat.mul_le_mul_left _ (Nat.mul_le_mul hn3 hn3))
 have h8 : 4 * (bzX n (2 ^ W) * n * (2 ^ k) ^ n) * (2 ^ W * ((n + 1) * (n + 1)) * (2 ^ k) ^ (n + 1)) <= 4 * 2 ^ ((2 * n + 2 + W) * (2 * n - 2) + n + k * n) * 2 ^ (W + (n + n) + k * (n + 1)) :=
  Nat.mul_le_mul (Nat.mul_le_mul_left _ h6) h7
 have e4 : (4 : Nat) = 2 ^ 2 := rfl
 rw [e4, <- Nat.pow_add, <- Nat.pow_add] at h8
 refine Nat.le_trans h8 (pow_le ?_)
 have k1 : k * n <= W * n := Nat.mul_le_mul_right _ hk
 have k2 : k * (n + 1) = k * n + k := Nat.mul_succ _ _
 have k3 : (2 * n + 2 + W) * (2 * n - 2) + 2 * (2 * n + 2 + W) = (2 * n + 2 + W) * (2 * n) := by
  rw [Nat.mul_comm 2 (2 * n + 2 + W), <- Nat.mul_add]; congr 1; lia
 have k4 : (2 * n + 2 + W) * (2 * n) = 4 * (n * n) + 4 * n + 2 * (n * W) := by
  rw [Nat.add_mul, Nat.add_mul]
  have a1 : 2 * n * (2 * n) = 4 * (n * n) := by rw [Nat.mul_mul_mul_comm]
  have a2 : W * (2 * n) = 2 * (n * W) := by rw [Nat.mul_left_comm, Nat.mul_comm W n]
  rw [a1, a2]; lia
 have k5 : W * n = n * W := Nat.mul_comm _ _
 generalize n * W = nW at *
 generalize n * n = nn at *
 generalize (2 * n + 2 + W) * (2 * n - 2) = Y at *
 generalize k * n = kn at *
 lia
theorem sep_halvings {p : Poly} {n : Nat} (h : Pr p n) : 2 * (sep p + 3 * weight p) + 16 <= halvings p := by
 unfold sep halvings
 rw [h.prim, h.len]
 generalize weight p = W
 rw [show n + 1 - 1 = n by lia]
 have e : 8 * (n + 1 + 2) * (W + (n + 1) + 8) = 8 * (n * n) + 8 * (n * W) + 96 * n + 24 * W + 216 := by
  have e1 : (n + 1 + 2) * (W + (n + 1) + 8) = n * n + n * W + 12 * n + 3 * W + 27 := by
   have a1 : (n + 3) * (W + n + 9) = n * (W + n + 9) + 3 * (W + n + 9) := Nat.add_mul _ _ _
   have a2 : n * (W + n + 9) = n * W + n * n + n * 9 := by rw [Nat.mul_add, Nat.mul_add]
   rw [show n + 1 + 2 = n + 3 by lia, show W + (n + 1) + 8 = W + n + 9 by lia, a1, a2]
   lia
  rw [Nat.mul_assoc, e1]; lia
 rw [e]
 generalize n * W = nW
 generalize n * n = nn
 lia
theorem two_succ (n : Nat) : two (n + 1) = 2 * two n := by
 rw [two_eq_pow, two_eq_pow, Nat.pow_succ, Rat.natCast_mul]
 have : ((2 : Nat) : Rat) = 2 := rfl
 rw [this]; grind
theorem two_zero : two 0 = 1 := rfl
theorem two_add (m n : Nat) : two (m + n) = two m * two n := by
 rw [two_eq_pow, two_eq_pow, two_eq_pow, Nat.pow_add, Rat.natCast_mul]
theorem two_mono {m n : Nat} (h : m <= n) : two m <= two n := by
 rw [two_eq_pow, two_eq_pow]; exact Rat.natCast_le_natCast.mpr (pow_le h)
section
variable {p : Poly} {l : List Poly}
def zr (p : Poly) (x : Rat) : Nat := if at_ p x = 0 then 1 else 0
def ins (p : Poly) (l : List Poly) (a b : Rat) : Nat := between l a b - zr p b
theorem zr_le (h : Sturm p l) {a b : Rat} (hab : a < b) : zr p b <= between l a b := by
 unfold zr
 split
 ·rename_i e; exact h.root e hab
 ·exact Nat.zero_le _
theorem ins_split (h : Sturm p l) {a m b : Rat} (ham : a < m) (hmb : m < b) : ins p l a b = ins p l a m + zr p m + ins p l m b := by
 have h1 := h.add (Rat.le_of_lt ham) (Rat.le_of_lt hmb)
 have h2 := zr_le h ham
 have h3 := zr_le h hmb
 unfold ins
 lia
def CellAt (p : Poly) (l : List Poly) (a : Rat) (i : Nat) (c : Cell) : Prop :=
 (c.1 = c.2 /\ at_ p c.1 = 0 /\ a < c.1 /\ between l a c.1 = i + 1) \/ (c.1 < c.2 /\ a <= c.1 /\ at_ p c.1 ≠ 0 /\ at_ p c.2 ≠ 0 /\ between l a c.1 = i /\ between l a c.2 = i + 1)
structure IsCells (p : Poly) (l : List Poly) (a b : Rat) (L : List Cell) : Prop where
 len : L.length = ins p l a b
 all : ∀ i c, L[i]? = some c -> CellAt p l a i c /\ c.2 <= b
theorem CellAt.left (h : Sturm p l) {a m : Rat} {i : Nat} {c : Cell} (ham : a <= m) (hc : CellAt p l m i c) : CellAt p l a (between l a m + i) c := by
 rcases hc with ⟨e, z, q, n⟩ | ⟨e, q, z1, z2, n1, n2⟩
 ·have := h.add ham (Rat.le_of_lt q)
  exact .inl ⟨e, z, by grind, by lia⟩
 ·have a1 := h.add ham q
  have a2 := h.add ham (show m <= c.2 by grind)
  exact .inr ⟨e, by grind, z1, z2, by lia, by lia⟩
theorem IsCells.join (h : Sturm p l) {a m b : Rat} {L1 L2 : List Cell} (ham : a < m) (hmb : m < b) (h1 : IsCells p l a m L1) (h2 : IsCells p l m b L2) : IsCells p l a b (L1 ++ ((if at_ p m = 0 then [(m, m)] else []) ++ L2)) := by
 have hs := ins_split h ham hmb
 have hz := zr_le h ham
 have hl : (if at_ p m = 0 then [(m, m)] else [] : List Cell).length = zr p m := by unfold zr; split <;> rfl
 refine ⟨?_, fun i c hi => ?_⟩
 ·rw [List.length_append, List.length_append, h1.len, h2.len, hl]; lia
 ·rw [List.getElem?_append] at hi
  by_cases q1 : i < L1.length
  ·rw [if_pos q1] at hi
   obtain ⟨z1, z2⟩ := h1.all i c hi
   exact ⟨z1, by grind⟩
  ·rw [if_neg q1, List.getElem?_append, hl] at hi
   have e1 := h1.len
   by_cases q2 : i - L1.length < zr p m
   ·rw [if_pos q2] at hi
    unfold zr at q2
    by_cases hm : at_ p m = 0
    ·rw [if_pos hm] at hi q2
     have ei : i - L1.length = 0 := by lia
     rw [ei] at hi
     have ec : (m, m) = c := by simpa using hi
     subst ec
     have ez : zr p m = 1 := by unfold zr; rw [if_pos hm]
     refine ⟨.inl ⟨rfl, hm, ham, ?_⟩, by show m <= b; grind⟩
     show between l a m = i + 1
     unfold ins at e1
     lia
    ·rw [if_neg hm] at q2; lia
   ·rw [if_neg q2] at hi
    obtain ⟨z1, z2⟩ := h2.all _ c hi
    have z3 := CellAt.left h (Rat.le_of_lt ham) z1
    have ei : between l a m + (i - L1.length - zr p m) = i := by
     unfold ins at e1
     lia
    rw [ei] at z3
    exact ⟨z3, z2⟩
theorem IsCells.nil {a b : Rat} (h : ins p l a b = 0) : IsCells p l a b [] := ⟨by rw [h]; rfl, fun i c hi => by simp at hi⟩
theorem IsCells.one (h : Sturm p l) {a b : Rat} (hab : a < b) (hi : ins p l a b = 1) (ha : at_ p a ≠ 0) (hb : at_ p b ≠ 0) : IsCells p l a b [(a, b)] := by
 have ez : zr p b = 0 := by unfold zr; rw [if_neg hb]
 have e : between l a b = 1 := by unfold ins at hi; lia
 refine ⟨by rw [hi]; rfl, fun i c hc => ?_⟩
 cases i with
 | zero =>
  have ec : (a, b) = c := by simpa using hc
  subst ec
  exact ⟨.inr ⟨hab, Rat.le_refl, ha, hb, by unfold between; simp, e⟩, Rat.le_refl⟩
 | succ i => simp at hc
def Shape (low0 E : Nat) (c : Cell) : Prop := (c.1 = c.2 /\ ∃ (e : Nat) (s : Int), c.1 * two e = (s : Rat)) \/ ∃ (e : Nat) (s : Int), low0 <= e /\ e <= E /\ c.1 * two e = (s : Rat) /\ c.2 * two e = (s : Rat) + 1
theorem cellsFrom_ok {n : Nat} (hpr : Pr p n) (h : Sturm p l) (low0 E : Nat) : ∀ (f j deep low e : Nat) (a b : Rat) (s : Int), a < b -> -two (boundOf p) <= a -> b <= two (boundOf p) ->
  (b - a) * two e = two deep -> (0 < deep -> e = 0) -> low = low0 - e -> a * two e = (s : Rat) * two deep -> deep + low <= j -> (b - a) * two (sep p) <= two j -> j + 1 <= f -> e + j <= E + deep ->
  IsCells p l a b (cellsFrom p l f deep low a b) /\ ∀ c ∈ cellsFrom p l f deep low a b, Shape low0 E c := by
 intro f
 induction f with
 | zero => intro j deep low e a b s _ _ _ _ _ _ _ _ _ hf; lia
 | succ f ih =>
  intro j deep low e a b s hab hA hB hw hde hlow hal hdl hsep hf hE
  have hin : between l a b - (if at_ p b = 0 then 1 else 0) = ins p l a b := rfl
  unfold cellsFrom
  simp only [hin]
  by_cases hn : ins p l a b = 0
  ·rw [if_pos hn]
   exact ⟨.nil hn, fun c hc => by simp at hc⟩
  rw [if_neg hn]
  by_cases hret : deep = 0 /\ low = 0 /\ ins p l a b = 1 /\ at_ p a ≠ 0 /\ at_ p b ≠ 0
  ·rw [if_pos hret]
   obtain ⟨r1, r2, r3, r4, r5⟩ := hret
   refine ⟨.one h hab r3 r4 r5, fun c hc => ?_⟩
   rw [List.mem_singleton.mp hc]
   subst r1
   rw [two_zero] at hw hal
   refine .inr ⟨e, s, by lia, by lia, by grind, ?_⟩
   show b * two e = (s : Rat) + 1
   grind
  rw [if_neg hret]
  have hj : j ≠ 0 := fun hj0 => by
   subst hj0
   have d0 : deep = 0 := by lia
   have l0 : low = 0 := by lia
   rw [two_zero] at hsep
   have hap := hpr.apart h hA hab hB hsep
   have hz := zr_le h hab
   apply hret
   have e1 : ins p l a b <= between l a b := Nat.sub_le _ _
   have ha : at_ p a ≠ 0 := fun z => by rw [if_pos z] at hap; lia
   rw [if_neg ha] at hap
   have hb : at_ p b ≠ 0 := fun z => by
    have ez : zr p b = 1 := by unfold zr; rw [if_pos z]
    unfold ins at hn
    lia
   exact ⟨d0, l0, by lia, ha, hb⟩
  obtain ⟨j, rfl⟩ : ∃ i, j = i + 1 := ⟨j - 1, by lia⟩
  have hsep' : ∀ x y : Rat, y - x = (b - a) / 2 -> (y - x) * two (sep p) <= two j := fun x y q => by
   rw [q]
   rw [two_succ] at hsep
   have e2 : (b - a) / 2 * two (sep p) = (b - a) * two (sep p) / 2 := by grind
   rw [e2]; grind
  have ham : a < (a + b) / 2 := by grind
  have hmb : (a + b) / 2 < b := by grind
  have key : ∃ (deep' low' e' : Nat) (s1 s2 : Int), deep' = deep - 1 /\ low' = (if deep = 0 then low - 1 else low) /\ (b - a) / 2 * two e' = two deep' /\ (0 < deep' -> e' = 0) /\ low' = low0 - e' /\ a * two e' = (s1 : Rat) * two deep' /\ (a + b) / 2 * two e' = (s2 : Rat) * two deep' /\ deep' + low' <= j /\ e' + j <= E + deep' := by
   by_cases hd : deep = 0
   ·subst hd
    rw [two_zero] at hw hal
    refine ⟨0, low - 1, e + 1, 2 * s, 2 * s + 1, rfl, by rw [if_pos rfl], ?_, fun q => absurd q (by lia), by rw [hlow]; exact Nat.sub_sub low0 e 1, ?_, ?_, by lia, by lia⟩
    ·rw [two_succ, two_zero]; grind
    ·rw [two_succ, two_zero, Rat.intCast_mul]
     have : ((2 : Int) : Rat) = 2 := rfl
     rw [this]; grind
    ·rw [two_succ, two_zero, Rat.intCast_add, Rat.intCast_mul]
     have : ((2 : Int) : Rat) = 2 := rfl
     have t1 : ((1 : Int) : Rat) = 1 := rfl
     rw [this, t1]; grind
   ·obtain ⟨d, rfl⟩ : ∃ d, deep = d + 1 := ⟨deep - 1, by lia⟩
    have e0 : e = 0 := hde (by lia)
    subst e0
    rw [two_zero, two_succ] at hw hal
    refine ⟨d, low, 0, 2 * s, 2 * s + 1, by lia, by rw [if_neg (by omega)], ?_, fun _ => rfl, by omega, ?_, ?_, by lia, by lia⟩
    ·rw [two_zero]; grind
    ·rw [two_zero, Rat.intCast_mul]
     have : ((2 : Int) : Rat) = 2 := rfl
     rw [this]; grind
    ·rw [two_zero, Rat.intCast_add, Rat.intCast_mul]
     have : ((2 : Int) : Rat) = 2 := rfl
     have t1 : ((1 : Int) : Rat) = 1 := rfl
     rw [this, t1]; grind
  obtain ⟨deep', low', e', s1, s2, k1, k2, k3, k4, k5, k6, k7, k8, k9⟩ := key
  rw [<- k1, <- k2]
  obtain ⟨i1, i2⟩ := ih j deep' low' e' a ((a + b) / 2) s1 ham hA (by grind) (by rw [<- k3]; congr 1; grind) k4 k5 k6 k8 (hsep' _ _ (by grind)) (by lia) k9
  obtain ⟨i3, i4⟩ := ih j deep' low' e' ((a + b) / 2) b s2 hmb (by grind) hB (by rw [<- k3]; congr 1; grind) k4 k5 k7 k8 (hsep' _ _ (by grind)) (by lia) k9
  refine ⟨i1.join h ham hmb i3, fun c hc => ?_⟩
  rcases List.mem_append.mp hc with hc | hc
  ·exact i2 c hc
  ·rcases List.mem_append.mp hc with hc | hc
   ·split at hc
    ·rw [List.mem_singleton.mp hc]
     refine .inl ⟨rfl, e', s2 * ((2 ^ deep' : Nat) : Int), ?_⟩
     rw [Rat.intCast_mul]; exact k7
    ·simp at hc
   ·exact i4 c hc
end
def hh (m d : Int) : Poly -> Int
 | [] => 0
 | c :: r => c.num * d ^ r.length + m * hh m d r
theorem hh_at {x : Rat} : ∀ (p : Poly), p ≠ [] -> (∀ c ∈ p, c.den = 1) -> ((hh x.num x.den p : Int) : Rat) = at_ p x * ((x.den : Int) : Rat) ^ (p.length - 1)
 | [], h, _ => absurd rfl h
 | [c], _, hc => by
  have e := rat_eq c
  rw [hc c (by simp)] at e
  have e1 : ((1 : Nat) : Rat) = 1 := rfl
  rw [e1, Rat.mul_one] at e
  show ((c.num * (x.den : Int) ^ 0 + x.num * 0 : Int) : Rat) = at_ [c] x * ((x.den : Int) : Rat) ^ 0
  rw [at_cons, at_nil, Rat.pow_zero, Int.pow_zero, Int.mul_one, Int.mul_zero, Int.add_zero, <- e]
  grind
 | c :: d :: r, _, hc => by
  have ih := hh_at (x := x) (d :: r) (by simp) (fun y hy => hc y (List.mem_cons_of_mem _ hy))
  have e := rat_eq c
  rw [hc c (by simp)] at e
  have e1 : ((1 : Nat) : Rat) = 1 := rfl
  rw [e1, Rat.mul_one] at e
  have ex := rat_eq x
  show ((c.num * (x.den : Int) ^ (d :: r).length + x.num * hh x.num x.den (d :: r) : Int) : Rat) = _
  rw [Rat.intCast_add, Rat.intCast_mul, Rat.intCast_mul, ih, at_cons, Rat.intCast_pow, <- e, <- ex]
  show _ = (c + x * at_ (d :: r) x) * ((x.den : Int) : Rat) ^ (r.length + 1)
  show c * ((x.den : Int) : Rat) ^ (r.length + 1) + x * ((x.den : Nat) : Rat) * (at_ (d :: r) x * ((x.den : Int) : Rat) ^ r.length) = _
  have e2 : ((x.den : Nat) : Rat) = ((x.den : Int) : Rat) := rfl
  rw [e2, Rat.pow_succ]
  grind
theorem hh_mod (m d : Int) : ∀ (p : Poly), p ≠ [] -> d ∣ hh m d p - (lead p).num * m ^ (p.length - 1)
 | [], h => absurd rfl h
 | [c], _ => by
  show d ∣ (c.num * d ^ 0 + m * 0) - c.num * m ^ 0
  rw [Int.pow_zero, Int.pow_zero]
  exact ⟨0, by lia⟩
 | c :: e :: r, _ => by
  obtain ⟨k, hk⟩ := hh_mod m d (e :: r) (by simp)
  have el : lead (c :: e :: r) = lead (e :: r) := by unfold lead; simp [List.getLastD]
  rw [el]
  show d ∣ (c.num * d ^ (r.length + 1) + m * hh m d (e :: r)) - (lead (e :: r)).num * m ^ (r.length + 1)
  have hk' : hh m d (e :: r) = (lead (e :: r)).num * m ^ r.length + d * k := by
   have : hh m d (e :: r) - (lead (e :: r)).num * m ^ r.length = d * k := hk
   lia
  rw [hk', Int.pow_succ, Int.pow_succ]
  refine ⟨c.num * d ^ r.length + m * k, ?_⟩
  generalize (lead (e :: r)).num = L
  generalize d ^ r.length = D
  generalize m ^ r.length = M
  grind
theorem cop_pow {a b : Nat} (h : Nat.Coprime a b) : ∀ n, Nat.Coprime a (b ^ n) := by
 intro z0
 induction z0 with
 | zero =>
  rw [Nat.pow_zero]; exact Nat.coprime_one_right a
 | succ n ih =>
  rw [Nat.pow_succ]; exact Nat.Coprime.mul_right (ih) h
theorem root_den {p : Poly} (hp : p ≠ []) (hc : ∀ c ∈ p, c.den = 1) {x : Rat} (hx : at_ p x = 0) : x.den ∣ (lead p).num.natAbs := by
 have h1 := hh_at (x := x) p hp hc
 rw [hx] at h1
 have h0 : hh x.num x.den p = 0 := by
  have : ((hh x.num x.den p : Int) : Rat) = ((0 : Int) : Rat) := by rw [h1]; show 0 * _ = (0 : Rat); grind
  exact_mod_cast this
 have h2 := hh_mod x.num x.den p hp
 rw [h0] at h2
 have h3 : (x.den : Int) ∣ (lead p).num * x.num ^ (p.length - 1) := by
  obtain ⟨k, hk⟩ := h2
  exact ⟨-k, by rw [Int.mul_neg]; lia⟩
 have h4 : x.den ∣ (lead p).num.natAbs * x.num.natAbs ^ (p.length - 1) := by
  have := Int.natAbs_dvd_natAbs.mpr h3
  rw [Int.natAbs_mul, Int.natAbs_pow, Int.natAbs_natCast] at this
  exact this
 exact Nat.Coprime.dvd_of_dvd_mul_right (cop_pow x.reduced.symm _) h4
theorem twos_ge : ∀ (f n t : Nat), n ≠ 0 -> n < 2 ^ f -> 2 ^ t ∣ n -> t <= twos f n := by
 intro z0
 induction z0 with
 | zero =>
  intro n t h0 hf _
  simp at hf; lia
 | succ f ih =>
  intro n t h0 hf hd
  unfold twos
  cases t with
  | zero => exact Nat.zero_le _
  | succ t =>
   obtain ⟨k, hk⟩ := hd
   have e : n = 2 * (2 ^ t * k) := by rw [hk, Nat.pow_succ]; rw [Nat.mul_comm (2 ^ t) 2, Nat.mul_assoc]
   have hodd : ¬ (n = 0 \/ n % 2 = 1) := by lia
   rw [if_neg hodd]
   have ih := ih (n / 2) t (by lia) (by rw [Nat.pow_succ] at hf; lia) ⟨k, by lia⟩
   lia
theorem twos_le : ∀ (f n : Nat), twos f n <= f := by
 intro z0
 induction z0 with
 | zero =>
  intro _
  exact Nat.le_refl _
 | succ f ih =>
  intro n
  unfold twos
  split
  ·exact Nat.zero_le _
  ·have := ih (n / 2); lia
def Dya (x : Rat) : Prop := ∃ (e : Nat) (s : Int), x * two e = (s : Rat)
theorem pow_dvd_two : ∀ (e d : Nat), d ∣ 2 ^ e -> ∃ t, d = 2 ^ t := by
 intro z0
 induction z0 with
 | zero =>
  intro d h
  exact ⟨0, by simpa using h⟩
 | succ e ih =>
  intro d h
  by_cases h2 : d % 2 = 0
  ·obtain ⟨k, rfl⟩ : ∃ k, d = 2 * k := ⟨d / 2, by lia⟩
   rw [Nat.pow_succ, Nat.mul_comm (2 ^ e) 2] at h
   obtain ⟨t, rfl⟩ := ih k (Nat.dvd_of_mul_dvd_mul_left (by decide) h)
   exact ⟨t + 1, by rw [Nat.pow_succ, Nat.mul_comm]⟩
  ·have hc : Nat.Coprime d 2 := by
    rw [Nat.coprime_comm]
    have : Nat.gcd 2 d = 1 := by
     rw [Nat.gcd_rec]
     have : d % 2 = 1 := by lia
     rw [this]; rfl
    exact this
   have h3 : Nat.Coprime d (2 ^ (e + 1)) := cop_pow hc _
   exact ⟨0, by have := Nat.Coprime.eq_one_of_dvd h3 h; simpa using this⟩
section
variable {p : Poly} {l : List Poly}
def DCell (p : Poly) (l : List Poly) (x0 : Rat) (i : Nat) (D : Cell) : Prop :=
 (D.1 = D.2 /\ at_ p D.1 = 0 /\ Dya D.1 /\ x0 < D.1 /\ between l x0 D.1 = i + 1) \/
 (D.1 < D.2 /\ x0 <= D.1 /\ at_ p D.1 ≠ 0 /\ at_ p D.2 ≠ 0 /\ between l x0 D.1 = i /\ between l x0 D.2 = i + 1 /\ (∀ m, Dya m -> D.1 <= m -> m <= D.2 -> at_ p m ≠ 0) /\
  ∃ (n : Nat) (k : Int), D.1 * two n = (k : Rat) /\ D.2 * two n = (k : Rat) + 1 /\
   ∀ n', n' < n -> ∀ k' : Int, (k' : Rat) <= D.1 * two n' -> D.2 * two n' <= (k' : Rat) + 1 -> between l ((k' : Rat) / two n') (((k' : Rat) + 1) / two n') + zr p ((k' : Rat) / two n') ≠ 1)
theorem mul_two_le {x y : Rat} (n : Nat) (h : x <= y) : x * two n <= y * two n := Rat.mul_le_mul_of_nonneg_right h (Rat.le_of_lt (two_pos n))
theorem le_of_mul_two {x y : Rat} (n : Nat) (h : x * two n <= y * two n) : x <= y := by
 rcases rat_lt_or_ge y x with z | z
 ·have := Rat.mul_lt_mul_of_pos_right z (two_pos n)
  grind
 ·exact z
theorem eq_of_mul_two {x y : Rat} (n : Nat) (h : x * two n = y * two n) : x = y := by
 have h1 := le_of_mul_two (x := x) (y := y) n (by grind)
 have h2 := le_of_mul_two (x := y) (y := x) n (by grind)
 grind
theorem div_two (k : Rat) (n : Nat) : k / two n * two n = k := Rat.div_mul_cancel (by have := two_pos n; grind)
theorem grid_up {x : Rat} {n d : Nat} {k : Int} (h : x * two n = (k : Rat)) : x * two (n + d) = ((k * ((2 ^ d : Nat) : Int) : Int) : Rat) := by
 rw [two_add, <- Rat.mul_assoc, h, Rat.intCast_mul]; rfl
theorem floor_grid {x : Rat} {n d : Nat} {s : Int} (h : x * two (n + d) = (s : Rat)) : ((x * two n).floor : Rat) <= x * two n /\ (s : Rat) + 1 <= (((x * two n).floor : Rat) + 1) * two d := by
 refine ⟨Rat.floor_le _, ?_⟩
 have h1 := Rat.lt_floor_add_one (x * two n)
 have h2 := Rat.mul_lt_mul_of_pos_right h1 (two_pos d)
 rw [Rat.mul_assoc, <- two_add, h] at h2
 have e : (((x * two n).floor + 1 : Int) : Rat) * two d = ((((x * two n).floor + 1) * ((2 ^ d : Nat) : Int) : Int) : Rat) := by rw [Rat.intCast_mul]; rfl
 rw [e] at h2
 have h3 := Rat.intCast_lt_intCast.mp h2
 have h4 : s + 1 <= ((x * two n).floor + 1) * ((2 ^ d : Nat) : Int) := by lia
 have h5 := Rat.intCast_le_intCast.mpr h4
 rw [<- e, Rat.intCast_add, Rat.intCast_add] at h5
 exact h5
theorem leastCell_ok (h : Sturm p l) {x0 : Rat} {i : Nat} {c : Cell} {e : Nat} {s : Int} (x0g : ∃ z : Int, x0 = (z : Rat)) (hx : x0 <= c.1) (hc : c.1 < c.2) (z1 : at_ p c.1 ≠ 0) (z2 : at_ p c.2 ≠ 0) (n1 : between l x0 c.1 = i) (n2 : between l x0 c.2 = i + 1)
  (g1 : c.1 * two e = (s : Rat)) (g2 : c.2 * two e = (s : Rat) + 1) (no : ∀ m, Dya m -> c.1 <= m -> m <= c.2 -> at_ p m ≠ 0) :
  ∀ (f n : Nat), n <= e -> e - n + 1 <= f -> (∀ n', n' < n -> between l (((c.1 * two n').floor : Rat) / two n') ((((c.1 * two n').floor : Rat) + 1) / two n') + zr p (((c.1 * two n').floor : Rat) / two n') ≠ 1) -> DCell p l x0 i (leastCell p l c f n) := by
 intro f
 induction f with
 | zero => intro n _ hf; lia
 | succ f ih =>
  intro n hn hf hno
  obtain ⟨d, hd⟩ : ∃ d, e = n + d := ⟨e - n, by lia⟩
  have g1' := g1
  rw [hd] at g1'
  obtain ⟨f1, f2⟩ := floor_grid g1'
  unfold leastCell
  simp only
  have ez : ∀ x, (if at_ p x = 0 then 1 else 0 : Nat) = zr p x := fun x => rfl
  rw [ez]
  generalize hk : (c.1 * two n).floor = k at *
  have la : (k : Rat) / two n <= c.1 := le_of_mul_two n (by rw [div_two]; exact f1)
  have lb : c.2 <= ((k : Rat) + 1) / two n := by
   refine le_of_mul_two (n + d) ?_
   rw [<- hd, g2, hd, two_add, <- Rat.mul_assoc, div_two]
   exact f2
  have xa : x0 <= (k : Rat) / two n := by
   obtain ⟨z, rfl⟩ := x0g
   refine le_of_mul_two n ?_
   rw [div_two]
   have e1 : (z : Rat) * two n = ((z * ((2 ^ n : Nat) : Int) : Int) : Rat) := by rw [Rat.intCast_mul]; rfl
   rw [e1]
   refine Rat.intCast_le_intCast.mpr ?_
   rw [<- hk]
   refine Rat.le_floor_iff.mpr ?_
   rw [<- e1]
   exact mul_two_le n hx
  have gA : (k : Rat) / two n * two n = (k : Rat) := div_two _ _
  have gB : ((k : Rat) + 1) / two n * two n = (k : Rat) + 1 := div_two _ _
  generalize (k : Rat) / two n = A at *
  generalize ((k : Rat) + 1) / two n = B at *
  by_cases ht : between l A B + zr p A = 1
  ·rw [if_pos ht]
   have hAB : A < B := by grind
   have a1 := h.add (a := x0) (b := A) (c := c.1) xa la
   have a2 := h.add (a := A) (b := c.1) (c := c.2) la (Rat.le_of_lt hc)
   have a3 := h.add (a := A) (b := c.2) (c := B) (by grind) lb
   have a4 := h.add (a := x0) (b := c.1) (c := c.2) hx (Rat.le_of_lt hc)
   have a5 := h.add (a := x0) (b := A) (c := B) xa (Rat.le_of_lt hAB)
   have zA : at_ p A ≠ 0 := fun z => by
    have : zr p A = 1 := by unfold zr; rw [if_pos z]
    lia
   have zA' : zr p A = 0 := by unfold zr; rw [if_neg zA]
   have zB : at_ p B ≠ 0 := fun z => by
    rcases rat_tri c.2 B with w | w | w
    ·have := h.root z w; lia
    ·rw [<- w] at z; exact z2 z
    ·grind
   have nA : between l x0 A = i := by lia
   have nB : between l x0 B = i + 1 := by lia
   refine .inr ⟨hAB, xa, zA, zB, nA, nB, fun m dm m1 m2 mz => ?_, n, k, gA, gB, fun n' hn' k' q1 q2 => ?_⟩
   ·rcases rat_lt_or_ge m c.1 with w | w
    ·rcases rat_tri A m with v | v | v
     ·have := h.root mz v
      have a6 := h.add (a := A) (b := m) (c := c.1) (by grind) (by grind)
      lia
     ·rw [<- v] at mz; exact zA mz
     ·exact absurd m1 (by grind)
    ·rcases rat_lt_or_ge c.2 m with v | v
     ·have := h.root mz v
      have a6 := h.add (a := c.2) (b := m) (c := B) (by grind) m2
      lia
     ·exact no m dm w v mz
   ·have q1 : (k' : Rat) <= A * two n' := q1
    have q2 : B * two n' <= (k' : Rat) + 1 := q2
    have ek : (c.1 * two n').floor = k' := by
     have u1 : (k' : Rat) <= c.1 * two n' := Rat.le_trans q1 (mul_two_le n' la)
     have u2 : c.1 * two n' < (k' : Rat) + 1 := by
      have := Rat.mul_lt_mul_of_pos_right (show c.1 < B by grind) (two_pos n')
      grind
     have v1 := Rat.le_floor_iff.mpr u1
     have e1 : (k' : Rat) + 1 = ((k' + 1 : Int) : Rat) := by rw [Rat.intCast_add]; rfl
     rw [e1] at u2
     have v2 := Rat.floor_lt_iff.mpr u2
     lia
    rw [<- ek]
    exact hno n' hn'
  ·rw [if_neg ht]
   have hne : n ≠ e := fun q => by
    apply ht
    have d0 : d = 0 := by lia
    subst d0
    have hd' : e = n := by omega
    subst hd'
    have eA : A = c.1 := eq_of_mul_two e (by
     rw [gA, g1]
     have : k = s := by rw [<- hk, g1, Rat.floor_intCast]
     rw [this])
    have eB : B = c.2 := eq_of_mul_two e (by
     rw [gB, g2]
     have : k = s := by rw [<- hk, g1, Rat.floor_intCast]
     rw [this])
    rw [eA, eB]
    have a4 := h.add (a := x0) (b := c.1) (c := c.2) hx (Rat.le_of_lt hc)
    have ez : zr p c.1 = 0 := by unfold zr; rw [if_neg z1]
    lia
   refine ih (n + 1) (by lia) (by lia) fun n' hn' => ?_
   by_cases q : n' = n
   ·subst q
    rw [hk]
    have eA : (k : Rat) / two n' = A := eq_of_mul_two n' (by rw [div_two, gA])
    have eB : ((k : Rat) + 1) / two n' = B := eq_of_mul_two n' (by rw [div_two, gB])
    rw [eA, eB]
    exact ht
   ·exact hno n' (by lia)
end
def lowOf (p : Poly) : Nat := twos (Nat.log2 (lead p).num.natAbs + 1) (lead p).num.natAbs
theorem Pr.dy_root {p : Poly} {n : Nat} (h : Pr p n) {m : Rat} (hm : at_ p m = 0) (hd : Dya m) : ∃ s : Int, m * two (lowOf p) = (s : Rat) := by
 obtain ⟨e, s, hs⟩ := hd
 have h1 : m.den ∣ 2 ^ e := over_dvd (pow_pos e) hs
 obtain ⟨t, ht⟩ := pow_dvd_two e m.den h1
 have h2 := root_den h.sf.2.1 (fun c hc => whole_den h.wh.whole hc) hm
 rw [ht] at h2
 have hl := h.lead1
 have hne : (lead p).num.natAbs ≠ 0 := fun z => by
  have := Rat.num_eq_zero.mp (Int.natAbs_eq_zero.mp z)
  grind
 have h3 := twos_ge (Nat.log2 (lead p).num.natAbs + 1) _ t hne Nat.lt_log2_self h2
 have h4 : m * two t = ((m.num : Int) : Rat) := by
  have := rat_eq m
  rw [ht] at this
  exact this
 obtain ⟨d, hd⟩ : ∃ d, lowOf p = t + d := ⟨lowOf p - t, by unfold lowOf; lia⟩
 rw [hd]
 exact ⟨_, grid_up h4⟩
theorem Pr.low_le {p : Poly} {n : Nat} (h : Pr p n) : lowOf p <= weight p := by
 have h1 := twos_le (Nat.log2 (lead p).num.natAbs + 1) (lead p).num.natAbs
 have h2 := weight_mem p _ (lead_mem h.sf.2.1)
 have hl := h.lead1
 have hne : (lead p).num.natAbs ≠ 0 := fun z => by
  have := Rat.num_eq_zero.mp (Int.natAbs_eq_zero.mp z)
  grind
 have h3 := log2_mono (a := (lead p).num.natAbs) (b := (lead p).num.natAbs + 1) hne (by lia)
 unfold lowOf
 lia
theorem Pr.found {p : Poly} {l : List Poly} {n : Nat} (h : Pr p n) (hl : Sturm p l) :
  IsCells p l (-two (boundOf p)) (two (boundOf p)) (cellsFrom p l (halvings p) (boundOf p + 1) (lowOf p + 1) (-two (boundOf p)) (two (boundOf p))) /\
   ∀ c ∈ cellsFrom p l (halvings p) (boundOf p + 1) (lowOf p + 1) (-two (boundOf p)) (two (boundOf p)), Shape (lowOf p + 1) (sep p + lowOf p + 1) c := by
 have hk := h.bound
 have hlo := h.low_le
 have hs := sep_halvings h
 have h2 := two_pos (boundOf p)
 obtain ⟨F, hF⟩ : ∃ F, halvings p = F + 1 := ⟨halvings p - 1, by lia⟩
 rw [hF]
 unfold cellsFrom
 have hin : ∀ a b, between l a b - (if at_ p b = 0 then 1 else 0) = ins p l a b := fun a b => rfl
 simp only [hin]
 by_cases hn : ins p l (-two (boundOf p)) (two (boundOf p)) = 0
 ·rw [if_pos hn]
  exact ⟨.nil hn, fun c hc => by simp at hc⟩
 rw [if_neg hn, if_neg (fun z => by lia)]
 have em : (-two (boundOf p) + two (boundOf p)) / 2 = 0 := by grind
 rw [em, show boundOf p + 1 - 1 = boundOf p by lia, if_neg (by lia)]
 have w1 : two (boundOf p) * two (sep p) <= two (boundOf p + sep p + lowOf p + 1) := by
  rw [<- two_add]
  exact two_mono (by lia)
 have i0 : ((0 : Int) : Rat) = 0 := rfl
 have i1 : ((1 : Int) : Rat) = 1 := rfl
 have w2 : (0 - -two (boundOf p)) * two (sep p) <= two (boundOf p + sep p + lowOf p + 1) := by
  have e : 0 - -two (boundOf p) = two (boundOf p) := by grind
  rw [e]; exact w1
 have w3 : (two (boundOf p) - 0) * two (sep p) <= two (boundOf p + sep p + lowOf p + 1) := by
  have e : two (boundOf p) - 0 = two (boundOf p) := by grind
  rw [e]; exact w1
 have g1 : -two (boundOf p) * two 0 = ((-1 : Int) : Rat) * two (boundOf p) := by rw [two_zero, Rat.intCast_neg, i1]; grind
 have g2 : (0 : Rat) * two 0 = ((0 : Int) : Rat) * two (boundOf p) := by rw [i0]; grind
 have c1 := cellsFrom_ok h hl (lowOf p + 1) (sep p + lowOf p + 1) F (boundOf p + sep p + lowOf p + 1) (boundOf p) (lowOf p + 1) 0 (-two (boundOf p)) 0 (-1) (by grind) (Rat.le_refl) (by grind) (by rw [two_zero]; grind) (fun _ => rfl) (by lia) g1 (by lia) w2 (by lia) (by lia)
 have c2 := cellsFrom_ok h hl (lowOf p + 1) (sep p + lowOf p + 1) F (boundOf p + sep p + lowOf p + 1) (boundOf p) (lowOf p + 1) 0 0 (two (boundOf p)) 0 h2 (by grind) (Rat.le_refl) (by rw [two_zero]; grind) (fun _ => rfl) (by lia) g2 (by lia) w3 (by lia) (by lia)
 refine ⟨c1.1.join hl (by grind) h2 c2.1, fun c hc => ?_⟩
 rcases List.mem_append.mp hc with hc | hc
 ·exact c1.2 c hc
 ·rcases List.mem_append.mp hc with hc | hc
  ·split at hc
   ·rw [List.mem_singleton.mp hc]
    refine .inl ⟨rfl, 0, 0, ?_⟩
    have : ((0 : Int) : Rat) = 0 := rfl
    rw [this]; show (0 : Rat) * _ = 0; grind
   ·simp at hc
  ·exact c2.2 c hc
def cellsOf (p : Poly) : List Cell := (cellsFrom p (sturm p) (halvings p) (boundOf p + 1) (lowOf p + 1) (-two (boundOf p)) (two (boundOf p))).map fun c => if c.1 = c.2 then c else leastCell p (sturm p) c (halvings p) 0
theorem cells_eq (q : Poly) : cells q = if (squareFree q).length <= 1 then [] else cellsOf (squareFree q) := rfl
theorem two_int (n : Nat) : -two n = ((-((2 ^ n : Nat) : Int) : Int) : Rat) := by rw [Rat.intCast_neg]; rfl
theorem Pr.cells {p : Poly} {n : Nat} (h : Pr p n) :
  (cellsOf p).length = between (sturm p) (-two (boundOf p)) (two (boundOf p)) /\ ∀ i D, (cellsOf p)[i]? = some D -> DCell p (sturm p) (-two (boundOf p)) i D := by
 have hl := sturm_is h.sf
 obtain ⟨f1, f2⟩ := h.found hl
 have hs := sep_halvings h
 have hlo := h.low_le
 have h2 := two_pos (boundOf p)
 unfold cellsOf
 refine ⟨?_, fun i D hD => ?_⟩
 ·rw [List.length_map, f1.len]
  unfold ins zr
  rw [if_neg (beyond_ne h.sf.1 h.sf.2.1 (by unfold ab; split <;> grind))]
  lia
 ·rw [List.getElem?_map] at hD
  obtain ⟨c, hc, rfl⟩ := Option.map_eq_some_iff.mp hD
  obtain ⟨c1, c2⟩ := f1.all i c hc
  have sh := f2 c (List.mem_of_getElem? hc)
  rcases c1 with ⟨e1, z, q, m⟩ | ⟨e1, q, z1, z2, m1, m2⟩
  ·rw [if_pos e1]
   refine .inl ⟨e1, z, ?_, q, m⟩
   rcases sh with ⟨_, hd⟩ | ⟨e, s, _, _, g1, g2⟩
   ·exact hd
   ·exact ⟨e, s, g1⟩
  ·rw [if_neg (by grind)]
   rcases sh with ⟨e2, _⟩ | ⟨e, s, he1, he2, g1, g2⟩
   ·grind
   ·refine leastCell_ok hl ⟨_, two_int _⟩ q e1 z1 z2 m1 m2 g1 g2 (fun m dm m1 m2 mz => ?_) (halvings p) 0 (by lia) (by lia) (fun n' hn' => by lia)
    obtain ⟨s', hs'⟩ := h.dy_root mz dm
    obtain ⟨d, hd⟩ : ∃ d, e = lowOf p + d := ⟨e - lowOf p, by lia⟩
    have hg := grid_up (d := d) hs'
    rw [<- hd] at hg
    have n1 : c.1 ≠ m := fun w => by rw [<- w] at mz; exact z1 mz
    have n2 : c.2 ≠ m := fun w => by rw [<- w] at mz; exact z2 mz
    have l1 : c.1 < m := by grind
    have l2 : m < c.2 := by grind
    have u1 := Rat.mul_lt_mul_of_pos_right l1 (two_pos e)
    have u2 := Rat.mul_lt_mul_of_pos_right l2 (two_pos e)
    rw [g1, hg] at u1
    rw [g2, hg] at u2
    have e3 : (s : Rat) + 1 = ((s + 1 : Int) : Rat) := by rw [Rat.intCast_add]; rfl
    rw [e3] at u2
    have v1 := Rat.intCast_lt_intCast.mp u1
    have v2 := Rat.intCast_lt_intCast.mp u2
    lia
abbrev Vc := Nat -> Rat
def ex (f : List Vc -> Rat) (c : Nat) : List Vc -> List Vc -> Rat
 | _, [] => 0
 | pre, r :: post => r c * f (pre ++ post) - ex f c (pre ++ [r]) post
def De : List Nat -> List Vc -> Rat
 | [], [] => 1
 | [], _ :: _ => 0
 | c :: cs, rows => ex (De cs) c [] rows
def lin (x y : Rat) (r s : Vc) : Vc := fun i => x * r i + y * s i
theorem ex_lin1 {f : List Vc -> Rat} {x y : Rat} {r s : Vc} (c : Nat) (h : ∀ u v, f (u ++ lin x y r s :: v) = x * f (u ++ r :: v) + y * f (u ++ s :: v)) :
  ∀ (post u v : List Vc), ex f c (u ++ lin x y r s :: v) post = x * ex f c (u ++ r :: v) post + y * ex f c (u ++ s :: v) post
 | [], u, v => by simp only [ex]; grind
 | a :: post, u, v => by
  have e := ex_lin1 c h post u (v ++ [a])
  have e1 := h u (v ++ post)
  simp only [ex, List.append_assoc, List.cons_append] at e e1 ⊢
  rw [e, e1]; grind
theorem ex_lin2 {f : List Vc -> Rat} {x y : Rat} {r s : Vc} (c : Nat) (h : ∀ u v, f (u ++ lin x y r s :: v) = x * f (u ++ r :: v) + y * f (u ++ s :: v)) :
  ∀ (a b pre : List Vc), ex f c pre (a ++ lin x y r s :: b) = x * ex f c pre (a ++ r :: b) + y * ex f c pre (a ++ s :: b)
 | [], b, pre => by
  have e := ex_lin1 c h b pre []
  simp only [List.nil_append, ex] at e ⊢
  rw [e]; simp only [lin]; grind
 | k :: a, b, pre => by
  have e := ex_lin2 c h a b (pre ++ [k])
  have e1 := h (pre ++ a) b
  simp only [List.cons_append, ex, List.append_assoc] at e e1 ⊢
  rw [e, e1]; grind
theorem De_lin (x y : Rat) (r s : Vc) : ∀ (cs : List Nat) (a b : List Vc), De cs (a ++ lin x y r s :: b) = x * De cs (a ++ r :: b) + y * De cs (a ++ s :: b) := by
 intro z0
 induction z0 with
 | nil =>
  intro a b
  cases a <;> simp [De] <;> grind
 | cons c cs ih =>
  intro a b
  simp only [De]
  exact ex_lin2 c (ih) a b []
theorem ex_eq1 {f : List Vc -> Rat} {r : Vc} (c : Nat) (h : ∀ u v, f (u ++ r :: r :: v) = 0) : ∀ (post u v : List Vc), ex f c (u ++ r :: r :: v) post = 0 := by
 intro z0
 induction z0 with
 | nil =>
  intro u v
  exact rfl
 | cons a post ih =>
  intro u v
  have e := ih u (v ++ [a])
  have e1 := h u (v ++ post)
  simp only [ex, List.append_assoc, List.cons_append] at e e1 ⊢
  rw [e, e1]; grind
theorem ex_eq2 {f : List Vc -> Rat} {r : Vc} (c : Nat) (h : ∀ u v, f (u ++ r :: r :: v) = 0) : ∀ (a b pre : List Vc), ex f c pre (a ++ r :: r :: b) = 0 := by
 intro z0
 induction z0 with
 | nil =>
  intro b pre
  have e := ex_eq1 c h b pre []
  simp only [List.nil_append, ex, List.append_assoc, List.cons_append] at e ⊢
  rw [e]; grind
 | cons k a ih =>
  intro b pre
  have e := ih b (pre ++ [k])
  have e1 := h (pre ++ a) b
  simp only [List.cons_append, ex, List.append_assoc] at e e1 ⊢
  rw [e, e1]; grind
theorem De_adj (r : Vc) : ∀ (cs : List Nat) (a b : List Vc), De cs (a ++ r :: r :: b) = 0 := by
 intro z0
 induction z0 with
 | nil =>
  intro a b
  cases a <;> simp [De]
 | cons c cs ih =>
  intro a b
  simp only [De]
  exact ex_eq2 c (ih) a b []
theorem De_swap (cs : List Nat) (a b : List Vc) (r s : Vc) : De cs (a ++ r :: s :: b) = - De cs (a ++ s :: r :: b) := by
 have h := De_adj (lin 1 1 r s) cs a b
 rw [De_lin 1 1 r s cs a (lin 1 1 r s :: b)] at h
 have h1 := De_lin 1 1 r s cs (a ++ [r]) b
 have h2 := De_lin 1 1 r s cs (a ++ [s]) b
 simp only [List.append_assoc, List.cons_append, List.nil_append] at h1 h2
 rw [h1, h2, De_adj r, De_adj s] at h
 grind
def PM (x y : Rat) : Prop := x = y \/ x = -y
theorem PM.refl (x : Rat) : PM x x := .inl rfl
theorem PM.symm {x y : Rat} (h : PM x y) : PM y x := by rcases h with h | h <;> subst h <;> first | exact .inl rfl | exact .inr (by grind)
theorem PM.trans {x y z : Rat} (h : PM x y) (k : PM y z) : PM x z := by
 rcases h with h | h <;> rcases k with k | k <;> subst h <;> subst k <;> first | exact .inl (by grind) | exact .inr (by grind)
theorem PM.mul {x y u v : Rat} (h : PM x y) (k : PM u v) : PM (x * u) (y * v) := by
 rcases h with h | h <;> rcases k with k | k <;> subst h <;> subst k <;> first | exact .inl (by grind) | exact .inr (by grind)
theorem PM.neg {x y : Rat} (h : PM x y) : PM (-x) y := by rcases h with h | h <;> subst h <;> first | exact .inr rfl | exact .inl (by grind)
theorem De_move (cs : List Nat) (r : Vc) : ∀ (v a b : List Vc), PM (De cs (a ++ r :: (v ++ b))) (De cs (a ++ v ++ r :: b)) := by
 intro z0
 induction z0 with
 | nil =>
  intro a b
  simp only [List.nil_append, List.append_nil]; exact .refl _
 | cons k v ih =>
  intro a b
  have h := ih (a ++ [k]) b
  simp only [List.append_assoc, List.cons_append, List.nil_append] at h ⊢
  rw [De_swap]
  exact h.neg
theorem De_twice (cs : List Nat) (r : Vc) (a v b : List Vc) : De cs (a ++ r :: (v ++ r :: b)) = 0 := by
 have h := De_move cs r v a (r :: b)
 have e := De_adj r cs (a ++ v) b
 rw [e] at h
 rcases h with h | h <;> rw [h]
 grind
theorem De_blocks (cs : List Nat) : ∀ (u v a : List Vc), PM (De cs (a ++ (u ++ v))) (De cs (a ++ (v ++ u))) := by
 intro z0
 induction z0 with
 | nil =>
  intro v a
  simp only [List.nil_append, List.append_nil]; exact .refl _
 | cons r u ih =>
  intro v a
  have h := ih v (a ++ [r])
  have k := De_move cs r v a u
  simp only [List.append_assoc, List.cons_append, List.nil_append] at h k ⊢
  exact h.trans k
def Nul (cs : List Nat) (a b : List Vc) (z : Vc) : Prop := De cs (a ++ z :: b) = 0
theorem Nul.lin {cs : List Nat} {a b : List Vc} {r s : Vc} (x y : Rat) (h : Nul cs a b r) (k : Nul cs a b s) : Nul cs a b (lin x y r s) := by
 unfold Nul at *; rw [De_lin, h, k]; grind
theorem Nul.mem {cs : List Nat} {a b : List Vc} {r : Vc} (h : r ∈ b) : Nul cs a b r := by
 obtain ⟨v, w, rfl⟩ := List.append_of_mem h
 exact De_twice cs r a v w
theorem Nul.zero {cs : List Nat} {a b : List Vc} : Nul cs a b (fun _ => 0) := by
 have h := De_lin 0 0 (fun _ => 0) (fun _ => 0) cs a b
 have e : My.lin 0 0 (fun _ => 0) (fun _ => 0) = (fun _ => (0 : Rat)) := by funext i; simp only [My.lin]; grind
 rw [e] at h
 unfold Nul; rw [h]; grind
theorem Nul.row {cs : List Nat} {a b : List Vc} {r z : Vc} (x : Rat) (h : Nul cs a b z) : De cs (a ++ My.lin x 1 r z :: b) = x * De cs (a ++ r :: b) := by
 rw [De_lin, h]; grind
theorem ex_zero {f : List Vc -> Rat} {c : Nat} : ∀ (post pre : List Vc), (∀ r ∈ post, r c = 0) -> ex f c pre post = 0 := by
 intro z0
 induction z0 with
 | nil =>
  intro _ _
  exact rfl
 | cons r post ih =>
  intro pre h
  rw [ex, h r (List.mem_cons_self), ih _ fun s hs => h s (List.mem_cons_of_mem _ hs)]; grind
theorem De_first {c : Nat} {cs : List Nat} {r : Vc} {rows : List Vc} (h : ∀ s ∈ rows, s c = 0) : De (c :: cs) (r :: rows) = r c * De cs rows := by
 simp only [De, ex, List.nil_append]
 rw [ex_zero rows _ h]; grind
theorem De_one (c : Nat) (r : Vc) : De [c] [r] = r c := by
 simp only [De, ex, List.nil_append]; grind
theorem ex_int {f : List Vc -> Rat} {c : Nat} (M B : Nat) {n : Nat} (hf : ∀ l : List Vc, l.length = n -> (∀ r ∈ l, ∀ t, ∃ z : Int, z.natAbs <= M /\ r t = (z : Rat)) -> ∃ z : Int, z.natAbs <= B /\ f l = (z : Rat)) :
  ∀ (post pre : List Vc), pre.length + post.length = n + 1 -> (∀ r ∈ pre ++ post, ∀ t, ∃ z : Int, z.natAbs <= M /\ r t = (z : Rat)) -> ∃ z : Int, z.natAbs <= post.length * (M * B) /\ ex f c pre post = (z : Rat)
 | [], _, _, _ => ⟨0, by simp, by simp only [ex]; rfl⟩
 | r :: post, pre, hl, h => by
  simp only [List.length_cons] at hl
  obtain ⟨z1, b1, e1⟩ := h r (by simp) c
  obtain ⟨z2, b2, e2⟩ := hf (pre ++ post) (by simp; lia) fun s hs t => h s (by simp at hs ⊢; rcases hs with hs | hs <;> simp [hs]) t
  obtain ⟨z3, b3, e3⟩ := ex_int M B hf post (pre ++ [r]) (by simp; lia) fun s hs t => h s (by simpa using hs) t
  refine ⟨z1 * z2 - z3, ?_, ?_⟩
  ·have m : (z1 * z2).natAbs <= M * B := by rw [Int.natAbs_mul]; exact Nat.mul_le_mul b1 b2
   have : (z1 * z2 - z3).natAbs <= (z1 * z2).natAbs + z3.natAbs := by omega
   rw [List.length_cons, Nat.add_mul, Nat.one_mul]; omega
  ·rw [ex, e1, e2, e3, Rat.intCast_sub, Rat.intCast_mul]
theorem De_int (M : Nat) : ∀ (cs : List Nat) (rows : List Vc), rows.length = cs.length -> (∀ r ∈ rows, ∀ t, ∃ z : Int, z.natAbs <= M /\ r t = (z : Rat)) -> ∃ z : Int, z.natAbs <= (cs.length * M) ^ cs.length /\ De cs rows = (z : Rat)
 | [], [], _, _ => ⟨1, by simp, by simp only [De]; rfl⟩
 | [], _ :: _, h, _ => by simp at h
 | c :: cs, rows, hl, h => by
  have hB : ∀ l : List Vc, l.length = cs.length -> (∀ r ∈ l, ∀ t, ∃ z : Int, z.natAbs <= M /\ r t = (z : Rat)) -> ∃ z : Int, z.natAbs <= ((cs.length + 1) * M) ^ cs.length /\ De cs l = (z : Rat) := fun l hll hh => by
   obtain ⟨z, b, e⟩ := De_int M cs l hll hh
   exact ⟨z, Nat.le_trans b (Nat.pow_le_pow_left (Nat.mul_le_mul_right _ (by lia)) _), e⟩
  simp only [List.length_cons] at hl
  obtain ⟨z, b, e⟩ := ex_int (c := c) M _ hB rows [] (by simpa using hl) (by simpa using h)
  refine ⟨z, ?_, by simp only [De]; exact e⟩
  rw [hl, <- Nat.mul_assoc] at b
  rw [List.length_cons, Nat.pow_succ, Nat.mul_comm]
  exact b
def sh (i : Nat) (p : Poly) : Vc := fun t => if i <= t then co p (t - i) else 0
def blk (p : Poly) : Nat -> List Vc
 | 0 => []
 | k + 1 => sh k p :: blk p k
def cc (j t : Nat) : Nat -> List Nat
 | 0 => []
 | 1 => [t]
 | k + 2 => (j + k + 1) :: cc j t (k + 1)
theorem blk_len (p : Poly) : ∀ k, (blk p k).length = k := by
 intro z0
 induction z0 with
 | zero =>
  exact rfl
 | succ k ih =>
  simp [blk, ih]
theorem cc_len (j t : Nat) : ∀ k, (cc j t k).length = k
 | 0 => rfl
 | 1 => rfl
 | k + 2 => by simp [cc, cc_len j t (k + 1)]
theorem blk_mem {p : Poly} : ∀ {k i : Nat}, i < k -> sh i p ∈ blk p k
 | 0, i, h => absurd h (by lia)
 | k + 1, i, h => by
  simp only [blk]
  rcases Nat.lt_or_ge i k with h1 | h1
  ·exact List.mem_cons_of_mem _ (blk_mem h1)
  ·have : i = k := by lia
   rw [this]; exact List.mem_cons_self
theorem mem_blk {p : Poly} : ∀ {k : Nat} {r : Vc}, r ∈ blk p k -> ∃ i, i < k /\ r = sh i p
 | 0, r, h => by simp [blk] at h
 | k + 1, r, h => by
  simp only [blk, List.mem_cons] at h
  rcases h with h | h
  ·exact ⟨k, by lia, h⟩
  ·obtain ⟨i, h1, h2⟩ := mem_blk h
   exact ⟨i, by lia, h2⟩
def Sub (k l j t : Nat) (p q : Poly) : Rat := De (cc j t (k + l)) (blk p k ++ blk q l)
theorem nul_mul (cs : List Nat) (pre b : List Vc) (Q q : Poly) (k l : Nat) (hb : ∀ i, i < l -> sh i q ∈ b) : ∀ n, k + n <= l -> Nul cs pre b (fun t => if k <= t then -pm Q q n (t - k) else 0) := by
 intro z0
 induction z0 with
 | zero =>
  intro _
  have e : (fun t => if k <= t then -pm Q q 0 (t - k) else 0) = (fun _ : Nat => (0 : Rat)) := by
   funext t; simp only [pm]; split <;> grind
  rw [e]; exact Nul.zero
 | succ n ih =>
  intro h
  have z := (ih (by lia)).lin 1 (-co Q n) (Nul.mem (hb (k + n) (by lia)))
  have e : lin 1 (-co Q n) (fun t => if k <= t then -pm Q q n (t - k) else 0) (sh (k + n) q) = (fun t => if k <= t then -pm Q q (n + 1) (t - k) else 0) := by
   funext t
   simp only [lin, sh, pm]
   by_cases h1 : k <= t
   ·rw [if_pos h1, if_pos h1]
    by_cases h2 : k + n <= t
    ·rw [if_pos h2, if_pos (by lia : n <= t - k), show t - (k + n) = t - k - n by lia]; grind
    ·rw [if_neg h2, if_neg (by lia : ¬ n <= t - k)]; grind
   ·rw [if_neg h1, if_neg h1, if_neg (by lia : ¬ k + n <= t)]; grind
  rw [e] at z; exact z
theorem rest_rows (cs : List Nat) {p q Q R : Poly} {L : Rat} {n : Nat} (hR : ∀ t, co R t = L * co p t - pm Q q n t) :
  ∀ (k l : Nat) (pre : List Vc), k + n <= l + 1 -> L ^ k * De cs (pre ++ (blk p k ++ blk q l)) = De cs (pre ++ (blk R k ++ blk q l))
 | 0, l, pre, _ => by simp [blk, Rat.pow_zero]
 | k + 1, l, pre, h => by
  have z := nul_mul cs pre (blk p k ++ blk q l) Q q k l (fun i hi => List.mem_append_right _ (blk_mem hi)) n (by lia)
  have e : lin L 1 (sh k p) (fun t => if k <= t then -pm Q q n (t - k) else 0) = sh k R := by
   funext t
   simp only [lin, sh]
   by_cases h1 : k <= t
   ·rw [if_pos h1, if_pos h1, if_pos h1, hR]; grind
   ·rw [if_neg h1, if_neg h1, if_neg h1]; grind
  have w := z.row (r := sh k p) L
  rw [e] at w
  have ih := rest_rows cs hR k l (pre ++ [sh k R]) (by lia)
  simp only [List.append_assoc, List.cons_append, List.nil_append, blk] at ih w ⊢
  rw [<- ih, w, Rat.pow_succ]; grind
theorem scale_rows (cs : List Nat) {R S : Poly} {c : Rat} (hR : ∀ t, co R t = c * co S t) : ∀ (k : Nat) (pre post : List Vc), De cs (pre ++ (blk R k ++ post)) = c ^ k * De cs (pre ++ (blk S k ++ post))
 | 0, pre, post => by simp [blk, Rat.pow_zero]
 | k + 1, pre, post => by
  have e : sh k R = lin c 0 (sh k S) (sh k S) := by
   funext t
   simp only [lin, sh]
   split
   ·rw [hR]; grind
   ·grind
  have ih := scale_rows cs hR k (pre ++ [sh k S]) post
  simp only [List.append_assoc, List.cons_append, List.nil_append, blk] at ih ⊢
  rw [e, De_lin, Rat.pow_succ]
  have ih2 := scale_rows cs hR k (pre ++ [sh k S]) post
  simp only [List.append_assoc, List.cons_append, List.nil_append] at ih2
  rw [ih2]; grind
theorem cc_succ (j t : Nat) {k : Nat} (h : 1 <= k) : cc j t (k + 1) = (j + k) :: cc j t k := by
 obtain ⟨m, rfl⟩ : ∃ m, k = m + 1 := ⟨k - 1, by lia⟩
 rfl
theorem sh_hi {p : Poly} {i t : Nat} (h : p.length <= t - i) : sh i p t = 0 := by
 unfold sh; split
 ·exact co_of_ge h
 ·rfl
theorem peel {q R : Poly} {k l j t : Nat} (hk : 1 <= k + l) (hq : q.length = j + k + 1) (hR : k = 0 \/ R.length <= j + l + 1) :
  De (cc j t (k + (l + 1))) (blk q (l + 1) ++ blk R k) = lead q * De (cc j t (k + l)) (blk q l ++ blk R k) := by
 rw [show k + (l + 1) = (k + l) + 1 by lia, cc_succ j t hk]
 simp only [blk, List.cons_append]
 rw [De_first]
 ·have e : sh l q (j + (k + l)) = lead q := by
   unfold sh; rw [if_pos (by lia), lead_co, hq]; congr 1; lia
  rw [e]
 ·intro s hs
  simp only [List.mem_append] at hs
  rcases hs with hs | hs
  ·obtain ⟨i, h1, rfl⟩ := mem_blk hs
   exact sh_hi (by lia)
  ·obtain ⟨i, h1, rfl⟩ := mem_blk hs
   exact sh_hi (by lia)
theorem peels {q R : Poly} {k l j t : Nat} (hk : 1 <= k + l) (hq : q.length = j + k + 1) (hR : k = 0 \/ R.length <= j + l + 1) : ∀ d, De (cc j t (k + (l + d))) (blk q (l + d) ++ blk R k) = lead q ^ d * De (cc j t (k + l)) (blk q l ++ blk R k) := by
 intro z0
 induction z0 with
 | zero =>
  simp only [Nat.add_zero, Rat.pow_zero, Rat.one_mul]
 | succ d ih =>
  have h := peel (q := q) (R := R) (k := k) (l := l + d) (j := j) (t := t) (by lia) hq (by lia)
  rw [show l + (d + 1) = l + d + 1 by lia, h, ih, Rat.pow_succ]; grind
theorem Sub.step {p q Q R : Poly} {L c : Rat} {n k l l' j t : Nat} (hk : 1 <= k) (hR : ∀ t, c * co R t = L * co p t - pm Q q n t) (hn : k + n <= l + 1) (hq : q.length = j + k + 1) (hl : l' <= l) (hr : R.length <= j + l' + 1) :
  PM (L ^ k * Sub k l j t p q) (c ^ k * (lead q ^ (l - l') * Sub l' k j t q R)) := by
 unfold Sub
 have e1 := rest_rows (cc j t (k + l)) (p := p) (q := q) (Q := Q) (R := R.map fun a => c * a) (L := L) (n := n) (fun t => by rw [co_map]; exact hR t) k l [] hn
 simp only [List.nil_append] at e1
 rw [e1]
 have e2 := scale_rows (cc j t (k + l)) (R := R.map fun a => c * a) (S := R) (c := c) (fun t => co_map c R t) k [] (blk q l)
 simp only [List.nil_append] at e2
 rw [e2]
 have e3 := De_blocks (cc j t (k + l)) (blk R k) (blk q l) []
 simp only [List.nil_append] at e3
 have e4 := peels (q := q) (R := R) (k := k) (l := l') (j := j) (t := t) (by lia) hq (.inr hr) (l - l')
 rw [show l' + (l - l') = l by lia] at e4
 rw [e4] at e3
 rw [show l' + k = k + l' by lia]
 exact PM.mul (.refl _) e3
theorem Sub.rest {p q Q R : Poly} {L c : Rat} {n l j t : Nat} (hR : ∀ t, c * co R t = L * co p t - pm Q q n t) (hn : n <= l) (hq : q.length = j + 1 + 1) (hr : R.length <= j + 1) :
  PM (L * Sub 1 l j t p q) (c * (lead q ^ l * co R t)) := by
 have h := Sub.step (t := t) (k := 1) (l := l) (l' := 0) (Nat.le_refl 1) hR (by lia) hq (by lia) (by omega)
 have e : Sub 0 1 j t q R = co R t := by
  unfold Sub
  simp only [blk, cc, List.nil_append]
  rw [De_one]; unfold sh; simp
 rw [e, Rat.pow_one, Rat.pow_one, Nat.sub_zero] at h
 exact h
theorem Sub.own {p q : Poly} {d j t : Nat} (hq : q.length = j + 1) : Sub 0 (d + 1) j t p q = lead q ^ d * co q t := by
 have h := peels (q := q) (R := []) (k := 0) (l := 1) (j := j) (t := t) (by lia) (by omega) (.inl rfl) d
 unfold Sub
 rw [show d + 1 = 1 + d by lia]
 simp only [blk, List.append_nil, List.nil_append] at h ⊢
 rw [h]
 simp only [cc, Nat.zero_add]
 rw [De_one]; unfold sh; simp
def Whb (p : Poly) (M : Nat) : Prop := ∀ i, ∃ z : Int, z.natAbs <= M /\ co p i = (z : Rat)
theorem Sub.int {p q : Poly} {M : Nat} (hp : Whb p M) (hq : Whb q M) (k l j t : Nat) : ∃ z : Int, z.natAbs <= ((k + l) * M) ^ (k + l) /\ Sub k l j t p q = (z : Rat) := by
 have h := De_int M (cc j t (k + l)) (blk p k ++ blk q l) (by simp [blk_len, cc_len]) (fun r hr s => by
  simp only [List.mem_append] at hr
  rcases hr with hr | hr
  ·obtain ⟨i, _, rfl⟩ := mem_blk hr
   unfold sh; split
   ·exact hp _
   ·exact ⟨0, by simp, rfl⟩
  ·obtain ⟨i, _, rfl⟩ := mem_blk hr
   unfold sh; split
   ·exact hq _
   ·exact ⟨0, by simp, rfl⟩)
 rw [cc_len] at h
 exact h
theorem size_pm (x : Rat) : PM (size x) x := by
 unfold size; split
 ·exact .inr rfl
 ·exact .inl rfl
theorem size_pos {x : Rat} (h : x ≠ 0) : 0 < size x := by unfold size; split <;> grind
theorem PM.pow {x y : Rat} (h : PM x y) : ∀ n : Nat, PM (x ^ n) (y ^ n)
 | 0 => by rw [Rat.pow_zero, Rat.pow_zero]; exact .refl _
 | n + 1 => by rw [Rat.pow_succ, Rat.pow_succ]; exact (h.pow n).mul h
theorem PM.cancel {c x y : Rat} (hc : c ≠ 0) (h : PM (c * x) (c * y)) : PM x y := by
 rcases h with h | h
 ·left; grind
 ·right; grind
theorem PM.pos {x y : Rat} (h : PM x y) (hx : 0 < x) : x = size y := by
 unfold size
 rcases h with h | h <;> split <;> grind
theorem rpow_ne {x : Rat} (h : x ≠ 0) : ∀ n : Nat, x ^ n ≠ 0 := by
 intro z0
 induction z0 with
 | zero =>
  rw [Rat.pow_zero]; decide
 | succ n ih =>
  rw [Rat.pow_succ]; have := ih; grind
theorem rpow_pos {x : Rat} (h : 0 < x) : ∀ n : Nat, 0 < x ^ n := by
 intro z0
 induction z0 with
 | zero =>
  rw [Rat.pow_zero]; decide
 | succ n ih =>
  rw [Rat.pow_succ]; exact Rat.mul_pos (ih) h
theorem rpow_add (x : Rat) (m : Nat) : ∀ n, x ^ (m + n) = x ^ m * x ^ n := by
 intro z0
 induction z0 with
 | zero =>
  rw [Nat.add_zero, Rat.pow_zero]; grind
 | succ n ih =>
  rw [<- Nat.add_assoc, Rat.pow_succ, Rat.pow_succ, ih]; grind
theorem rpow_mul (x : Rat) (m : Nat) : ∀ n, x ^ (m * n) = (x ^ m) ^ n := by
 intro z0
 induction z0 with
 | zero =>
  rw [Nat.mul_zero, Rat.pow_zero, Rat.pow_zero]
 | succ n ih =>
  rw [Nat.mul_succ, rpow_add, ih, Rat.pow_succ]
theorem mul_rpow (x y : Rat) : ∀ n : Nat, (x * y) ^ n = x ^ n * y ^ n := by
 intro z0
 induction z0 with
 | zero =>
  simp only [Rat.pow_zero]; grind
 | succ n ih =>
  rw [Rat.pow_succ, Rat.pow_succ, Rat.pow_succ, ih]; grind
theorem divMod_co {p q : Poly} (hp : Nm p) (hq : Nm q) (hq0 : q ≠ []) (t : Nat) : co (divMod p q).2 t = co p t - pm (divMod p q).1 q (divMod p q).1.length t := by
 have e : p = add (mul (divMod p q).1 q) (divMod p q).2 := ext_at hp (nm_add _ _) fun x => by rw [at_divMod p q x, at_add, at_mul]
 have h : co p t = co (mul (divMod p q).1 q) t + co (divMod p q).2 t := by
  rw [<- co_add, <- e]
 rw [co_mul] at h; grind
theorem pm_map (c : Rat) (p q : Poly) (t : Nat) : ∀ n, pm (p.map fun a => c * a) q n t = c * pm p q n t := by
 intro z0
 induction z0 with
 | zero =>
  simp only [pm]; grind
 | succ n ih =>
  simp only [pm]; rw [ih, co_map]; split <;> grind
theorem divMod_len {p q : Poly} (hp : Nm p) (hq : Nm q) (hq0 : q ≠ []) : (divMod p q).1.length = p.length + 1 - q.length := by
 rw [divMod_eq hp hq hq0]; exact dv_len q _ p
def nxt (A B : Poly) (g h : Rat) : Poly := scale (-(size (lead B) ^ (A.length + 1 - B.length) / (g * h ^ (A.length - B.length)))) (divMod A B).2
structure Inv (P Q A B : Poly) (g h : Rat) : Prop where
 nA : Nm A
 nB : Nm B
 B0 : B ≠ []
 le : B.length <= A.length
 leQ : B.length <= Q.length
 leP : A.length <= P.length
 g0 : 0 < g
 h0 : 0 < h
 key : ∀ j t, j + 1 <= B.length -> PM (g ^ (B.length - 1 - j) * (h ^ (A.length - 1 - j - 1) * Sub (Q.length - 1 - j) (P.length - 1 - j) j t P Q)) (Sub (B.length - 1 - j) (A.length - 1 - j) j t A B)
theorem Inv.start {P Q : Poly} (hP : Nm P) (hQ : Nm Q) (hQ0 : Q ≠ []) (h : Q.length <= P.length) : Inv P Q P Q 1 1 :=
 ⟨hP, hQ, hQ0, h, Nat.le_refl _, Nat.le_refl _, by decide, by decide, fun j t _ => by
  have e : ∀ n : Nat, (1 : Rat) ^ n = 1 := fun n => by induction n with
   | zero => rw [Rat.pow_zero]
   | succ n ih => rw [Rat.pow_succ, ih]; grind
  rw [e, e]; left; grind⟩
section
variable {P Q A B : Poly} {g h : Rat}
theorem Inv.lead_ne (I : Inv P Q A B g h) : lead B ≠ 0 := My.lead_ne I.nB I.B0
theorem Inv.gp (I : Inv P Q A B g h) : 0 < size (lead B) := size_pos I.lead_ne
theorem Inv.nxt_co (I : Inv P Q A B g h) (t : Nat) : -(g * h ^ (A.length - B.length)) * co (nxt A B g h) t = size (lead B) ^ (A.length + 1 - B.length) * co A t - pm ((divMod A B).1.map fun a => size (lead B) ^ (A.length + 1 - B.length) * a) B (A.length + 1 - B.length) t := by
 have e := divMod_co I.nA I.nB I.B0 t
 rw [divMod_len I.nA I.nB I.B0] at e
 rw [pm_map, nxt, co_scale, e]
 have b0 : g * h ^ (A.length - B.length) ≠ 0 := by have := rpow_pos I.h0 (A.length - B.length); have := I.g0; have := Rat.mul_pos I.g0 (rpow_pos I.h0 (A.length - B.length)); grind
 generalize g * h ^ (A.length - B.length) = b at b0
 grind
theorem nxt_nm : Nm (nxt A B g h) := nm_scale _ _
theorem Inv.nxt_len (I : Inv P Q A B g h) : (nxt A B g h).length < B.length := by
 have h1 := rest_len I.nA I.nB I.B0
 have b0 : 0 < size (lead B) ^ (A.length + 1 - B.length) / (g * h ^ (A.length - B.length)) := by
  rw [Rat.div_def]; exact Rat.mul_pos (rpow_pos I.gp _) (Rat.inv_pos.mpr (Rat.mul_pos I.g0 (rpow_pos I.h0 _)))
 unfold nxt
 rw [scale_len (by grind) (nm_rest I.nA I.nB I.B0)]
 exact h1
theorem Inv.b0 (I : Inv P Q A B g h) (n : Nat) : g * h ^ n ≠ 0 := by have := Rat.mul_pos I.g0 (rpow_pos I.h0 n); grind
theorem Inv.rest (I : Inv P Q A B g h) (h2 : 2 <= B.length) (t : Nat) : PM (Sub (Q.length - (B.length - 1)) (P.length - (B.length - 1)) (B.length - 2) t P Q) (co (nxt A B g h) t) := by
 have h1 := I.key (B.length - 2) t (by lia)
 rw [show B.length - 1 - (B.length - 2) = 1 by lia, show A.length - 1 - (B.length - 2) - 1 = A.length - B.length by have := I.le; lia, show A.length - 1 - (B.length - 2) = A.length + 1 - B.length by have := I.le; lia,
  show Q.length - 1 - (B.length - 2) = Q.length - (B.length - 1) by lia, show P.length - 1 - (B.length - 2) = P.length - (B.length - 1) by lia, Rat.pow_one] at h1
 have s := Sub.rest (t := t) (j := B.length - 2) (l := A.length + 1 - B.length) (fun t => I.nxt_co t) (Nat.le_refl _) (by lia) (by have := I.nxt_len; lia)
 have z1 : PM (size (lead B) ^ (A.length + 1 - B.length) * (g * (h ^ (A.length - B.length) * Sub (Q.length - (B.length - 1)) (P.length - (B.length - 1)) (B.length - 2) t P Q))) (size (lead B) ^ (A.length + 1 - B.length) * ((g * h ^ (A.length - B.length)) * co (nxt A B g h) t)) := by
  refine ((PM.refl _).mul h1).trans (s.trans ?_)
  have z2 : PM (lead B ^ (A.length + 1 - B.length)) (size (lead B) ^ (A.length + 1 - B.length)) := ((size_pm _).pow _).symm
  have z3 : PM (-(g * h ^ (A.length - B.length)) * (lead B ^ (A.length + 1 - B.length) * co (nxt A B g h) t)) (-(g * h ^ (A.length - B.length)) * (size (lead B) ^ (A.length + 1 - B.length) * co (nxt A B g h) t)) := (PM.refl _).mul (z2.mul (.refl _))
  refine z3.trans (.inr ?_)
  grind
 have z4 := PM.cancel (rpow_ne (by have := I.gp; grind) _) z1
 refine PM.cancel (I.b0 (A.length - B.length)) ?_
 rw [<- Rat.mul_assoc] at z4
 exact z4
theorem Inv.height (I : Inv P Q A B g h) (hd : B.length < A.length) {h' : Rat} (e : h' * h ^ (A.length - B.length - 1) = size (lead B) ^ (A.length - B.length)) :
  PM (Sub (Q.length - B.length) (P.length - B.length) (B.length - 1) (B.length - 1) P Q) h' := by
 have hb : 1 <= B.length := by have := I.B0; cases hB : B with | nil => exact absurd hB this | cons => simp
 have h1 := I.key (B.length - 1) (B.length - 1) (by lia)
 rw [show B.length - 1 - (B.length - 1) = 0 by lia, show A.length - 1 - (B.length - 1) - 1 = A.length - B.length - 1 by lia, show A.length - 1 - (B.length - 1) = (A.length - B.length - 1) + 1 by lia,
  show Q.length - 1 - (B.length - 1) = Q.length - B.length by lia, show P.length - 1 - (B.length - 1) = P.length - B.length by lia, Rat.pow_zero, Rat.one_mul, Sub.own (by lia), <- lead_co, <- Rat.pow_succ, show A.length - B.length - 1 + 1 = A.length - B.length by lia] at h1
 refine PM.cancel (rpow_ne (by have := I.h0; grind) (A.length - B.length - 1)) (h1.trans ?_)
 rw [show h ^ (A.length - B.length - 1) * h' = size (lead B) ^ (A.length - B.length) by rw [<- e]; grind]
 exact ((size_pm _).pow _).symm
theorem Inv.next (I : Inv P Q A B g h) {h' : Rat} (h'0 : 0 < h') (e : h' * h ^ (A.length - B.length) = size (lead B) ^ (A.length - B.length) * h) (hR : nxt A B g h ≠ []) : Inv P Q B (nxt A B g h) (size (lead B)) h' := by
 have hr := I.nxt_len
 refine ⟨I.nB, nxt_nm, hR, by lia, by have := I.leQ; lia, by have := I.leP; have := I.le; lia, I.gp, h'0, fun j t hj => ?_⟩
 have h1 := I.key j t (by lia)
 obtain ⟨k, hk⟩ : ∃ k, B.length = j + k + 2 := ⟨B.length - (j + 2), by lia⟩
 obtain ⟨d, hd⟩ : ∃ d, A.length = B.length + d := ⟨A.length - B.length, by have := I.le; lia⟩
 obtain ⟨r, hr'⟩ : ∃ r, (nxt A B g h).length = j + r + 1 := ⟨(nxt A B g h).length - (j + 1), by lia⟩
 have s := Sub.step (t := t) (j := j) (k := k + 1) (l := k + 1 + d) (l' := r) (by lia) (fun t => I.nxt_co t) (by lia) (by omega) (by lia) (by lia)
 rw [show A.length - B.length = d by lia] at s e
 rw [show B.length - 1 - j = k + 1 by lia, show A.length - 1 - j - 1 = d + k by lia, show A.length - 1 - j = k + 1 + d by lia] at h1
 rw [show (nxt A B g h).length - 1 - j = r by lia, show B.length - 1 - j - 1 = k by lia, show B.length - 1 - j = k + 1 by lia]
 rw [show A.length + 1 - B.length = d + 1 by lia] at s
 obtain ⟨u, hu⟩ : ∃ u, k + 1 + d - r = u := ⟨_, rfl⟩
 rw [hu] at s
 have hur : u + r = k + 1 + d := by lia
 generalize hS : Sub (Q.length - 1 - j) (P.length - 1 - j) j t P Q = S at h1 ⊢
 generalize hT : Sub r (k + 1) j t B (nxt A B g h) = T at s ⊢
 generalize hU : Sub (k + 1) (k + 1 + d) j t A B = U at s h1
 have gp := I.gp
 have zz : PM (lead B ^ u) (size (lead B) ^ u) := ((size_pm _).pow _).symm
 generalize size (lead B) = w at *
 have g0 := I.g0
 have h0 := I.h0
 have c0 : g ^ (k + 1) * (h ^ (d * (k + 1)) * w ^ u) ≠ 0 := by
  have a1 := rpow_pos g0 (k + 1); have a2 := rpow_pos h0 (d * (k + 1)); have a3 := rpow_pos gp u
  have := Rat.mul_pos a1 (Rat.mul_pos a2 a3); grind
 refine PM.cancel c0 ?_
 have x1 : (w ^ (d + 1)) ^ (k + 1) * (g ^ (k + 1) * h ^ (d + k)) = g ^ (k + 1) * (h ^ (d * (k + 1)) * w ^ u) * (w ^ r * h' ^ k) := by
  have y1 : h' ^ k * (h ^ d) ^ k = (w ^ d) ^ k * h ^ k := by rw [<- mul_rpow, <- mul_rpow, e]
  have y2 : h ^ (d * (k + 1)) = (h ^ d) ^ k * h ^ d := by rw [rpow_mul, Rat.pow_succ]
  have y3 : w ^ u * w ^ r = w ^ (k + 1) * w ^ d := by rw [<- rpow_add, <- rpow_add, hur]
  have y4 : (w ^ (d + 1)) ^ (k + 1) = (w ^ d) ^ k * w ^ d * w ^ (k + 1) := by rw [Rat.pow_succ w d, mul_rpow, Rat.pow_succ (w ^ d) k]
  have y5 : h ^ (d + k) = h ^ d * h ^ k := rpow_add h d k
  rw [y2, y4, y5]
  have : g ^ (k + 1) * ((h ^ d) ^ k * h ^ d * w ^ u) * (w ^ r * h' ^ k) = g ^ (k + 1) * (h ^ d * ((w ^ u * w ^ r) * (h' ^ k * (h ^ d) ^ k))) := by grind
  rw [this, y1, y3]; grind
 have x2 : PM ((w ^ (d + 1)) ^ (k + 1) * (g ^ (k + 1) * (h ^ (d + k) * S))) ((-(g * h ^ d)) ^ (k + 1) * (w ^ u * T)) :=
  ((PM.refl _).mul h1).trans (s.trans ((PM.refl _).mul (zz.mul (.refl _))))
 have x3 : PM ((-(g * h ^ d)) ^ (k + 1)) (g ^ (k + 1) * h ^ (d * (k + 1))) := by
  have a : PM (-(g * h ^ d)) (g * h ^ d) := .inr rfl
  have b := a.pow (k + 1)
  rw [mul_rpow, <- rpow_mul] at b
  exact b
 have x4 := x2.trans (x3.mul (.refl (w ^ u * T)))
 have l1 : (w ^ (d + 1)) ^ (k + 1) * (g ^ (k + 1) * (h ^ (d + k) * S)) = g ^ (k + 1) * (h ^ (d * (k + 1)) * w ^ u) * (w ^ r * (h' ^ k * S)) := by
  have : (w ^ (d + 1)) ^ (k + 1) * (g ^ (k + 1) * (h ^ (d + k) * S)) = ((w ^ (d + 1)) ^ (k + 1) * (g ^ (k + 1) * h ^ (d + k))) * S := by grind
  rw [this, x1]; grind
 have l2 : g ^ (k + 1) * h ^ (d * (k + 1)) * (w ^ u * T) = g ^ (k + 1) * (h ^ (d * (k + 1)) * w ^ u) * T := by grind
 rw [l1, l2] at x4
 exact x4
end
def ci (l : List Int) (i : Nat) : Int := l.getD i 0
def ip (l : List Int) : Poly := l.map fun z => ((z : Int) : Rat)
theorem ip_len (l : List Int) : (ip l).length = l.length := by unfold ip; rw [List.length_map]
theorem ip_nil (l : List Int) : ip l = [] ↔ l = [] := by unfold ip; exact List.map_eq_nil_iff
theorem co_ip (l : List Int) (i : Nat) : co (ip l) i = ((ci l i : Int) : Rat) := by
 unfold co ci ip
 rw [List.getD_eq_getElem?_getD, List.getD_eq_getElem?_getD, List.getElem?_map]
 cases l[i]? <;> rfl
theorem ci_lt {l : List Int} {i : Nat} (h : i < l.length) : l[i]? = some (ci l i) := by
 unfold ci
 rw [List.getD_eq_getElem?_getD, List.getElem?_eq_getElem h]; rfl
theorem ci_of_get {l : List Int} {i : Nat} {c : Int} (h : l[i]? = some c) : ci l i = c := by
 unfold ci; rw [List.getD_eq_getElem?_getD, h]; rfl
theorem ci_of_ge {l : List Int} {i : Nat} (h : l.length <= i) : ci l i = 0 := by
 unfold ci; rw [List.getD_eq_getElem?_getD, List.getElem?_eq_none_iff.mpr h]; rfl
theorem cast_inj {a b : Int} (h : ((a : Int) : Rat) = ((b : Int) : Rat)) : a = b := Rat.intCast_inj.mp h
theorem ip_inj {a b : List Int} (h : ip a = ip b) : a = b := by
 have hl : a.length = b.length := by have := congrArg List.length h; rwa [ip_len, ip_len] at this
 apply List.ext_getElem?
 intro i
 by_cases hi : i < a.length
 ·rw [ci_lt hi, ci_lt (by lia)]
  have := congrArg (fun p => co p i) h
  simp only [co_ip] at this
  rw [cast_inj this]
 ·rw [List.getElem?_eq_none_iff.mpr (by lia), List.getElem?_eq_none_iff.mpr (by lia)]
def NmI (l : List Int) : Prop := l.getLast? ≠ some 0
theorem nm_ip {l : List Int} : Nm (ip l) ↔ NmI l := by
 unfold Nm NmI ip
 rw [List.getLast?_map]
 cases h : l.getLast? with
 | none => simp
 | some a =>
  simp only [Option.map_some, ne_eq, Option.some.injEq]
  constructor
  ·intro q e; exact q (by rw [e]; rfl)
  ·intro q e; exact q (cast_inj (by rw [e]; rfl))
def trimI (l : List Int) : List Int := (l.reverse.dropWhile fun c => c == 0).reverse
theorem ip_trim (l : List Int) : ip (trimI l) = norm (ip l) := by
 unfold ip trimI norm
 rw [<- List.map_reverse, List.dropWhile_map, List.map_reverse]
 congr 2
 congr 1
 funext c
 show (c == 0) = (((c : Int) : Rat) == 0)
 by_cases h : c = 0
 ·subst h; rfl
 ·have h2 : ((c : Int) : Rat) ≠ 0 := fun e => h (cast_inj (by rw [e]; rfl))
  rw [beq_eq_false_iff_ne.mpr h, beq_eq_false_iff_ne.mpr h2]
def leI (l : List Int) : Int := l.getLastD 0
theorem lead_ip (l : List Int) : lead (ip l) = ((leI l : Int) : Rat) := by
 unfold lead leI ip
 rw [List.getLastD_eq_getLast?, List.getLastD_eq_getLast?, List.getLast?_map]
 cases l.getLast? <;> rfl
theorem leI_ci (l : List Int) : leI l = ci l (l.length - 1) := by
 apply cast_inj
 rw [<- lead_ip, lead_co, co_ip, ip_len]
theorem leI_ne {l : List Int} (h : NmI l) (h0 : l ≠ []) : leI l ≠ 0 := fun e => lead_ne (nm_ip.mpr h) (fun q => h0 ((ip_nil l).mp q)) (by rw [lead_ip, e]; rfl)
theorem size_int (z : Int) : size ((z : Int) : Rat) = (((z.natAbs : Nat) : Int) : Rat) := by
 unfold size
 by_cases h : z < 0
 ·rw [if_pos (by exact_mod_cast Rat.intCast_lt_intCast.mpr h), <- Rat.intCast_neg]
  congr 1; lia
 ·rw [if_neg (fun q => h (Rat.intCast_lt_intCast.mp (by exact_mod_cast q)))]
  congr 1; lia
def fcI (q : List Int) (s : Nat) (r : List Int) : Int := if leI q < 0 then -ci r (s + q.length - 1) else ci r (s + q.length - 1)
def sst (q : List Int) (s : Nat) (r : List Int) : List Int := r.mapIdx fun j c => ((leI q).natAbs : Int) * c - (if s <= j /\ j < s + q.length then fcI q s r * ci q (j - s) else 0)
def sv (q : List Int) : Nat -> List Int -> List Int
 | 0, r => r
 | n + 1, r => sv q n (sst q n r)
def srI (p q : List Int) : List Int := trimI (sv q (p.length + 1 - q.length) p)
theorem sst_len (q : List Int) (s : Nat) (r : List Int) : (sst q s r).length = r.length := by unfold sst; rw [List.length_mapIdx]
theorem ci_mapIdx {f : Nat -> Int -> Int} {l : List Int} {j : Nat} (h : j < l.length) : ci (l.mapIdx f) j = f j (ci l j) := by
 refine ci_of_get ?_
 rw [List.getElem?_mapIdx, ci_lt h]; rfl
theorem abs_fac {q : List Int} (hq : leI q ≠ 0) (x : Int) : (((if leI q < 0 then -x else x : Int)) : Rat) = (((leI q).natAbs : Int) : Rat) * (((x : Int) : Rat) / ((leI q : Int) : Rat)) := by
 have h0 : ((leI q : Int) : Rat) ≠ 0 := fun e => hq (cast_inj (by rw [e]; rfl))
 split
 ·rename_i h
  rw [show (((leI q).natAbs : Nat) : Int) = -leI q by lia, Rat.intCast_neg, Rat.intCast_neg]
  grind
 ·rename_i h
  rw [show (((leI q).natAbs : Nat) : Int) = leI q by lia]
  grind
theorem ip_sst {q : List Int} {s : Nat} {r : List Int} (hq : NmI q) (hq0 : q ≠ []) (hn : s + q.length <= r.length) : ip (sst q s r) = (dvStep (ip q) s (dvF (ip q) s (ip r)) (ip r)).map fun a => (((leI q).natAbs : Int) : Rat) * a := by
 have h0 := leI_ne hq hq0
 apply List.ext_getElem?
 intro j
 by_cases hj : j < r.length
 ·have e1 : (ip (sst q s r))[j]? = some (co (ip (sst q s r)) j) := co_lt (by rw [ip_len, sst_len]; exact hj)
  have e2 : (dvStep (ip q) s (dvF (ip q) s (ip r)) (ip r))[j]? = some (co (dvStep (ip q) s (dvF (ip q) s (ip r)) (ip r)) j) := co_lt (by rw [dvStep_len, ip_len]; exact hj)
  rw [e1, List.getElem?_map, e2, co_ip, co_dvStep (by rw [ip_len, ip_len]; exact hn)]
  show some _ = some _
  congr 1
  unfold sst
  rw [ci_mapIdx hj, Rat.intCast_sub, Rat.intCast_mul, co_ip, co_ip]
  unfold dvF
  rw [co_ip, lead_ip, ip_len]
  by_cases hs : s <= j
  ·rw [if_pos hs]
   by_cases hk : j < s + q.length
   ·rw [if_pos ⟨hs, hk⟩, Rat.intCast_mul]
    unfold fcI
    rw [abs_fac h0]; grind
   ·rw [if_neg (by lia), ci_of_ge (l := q) (by lia)]; grind
  ·rw [if_neg hs, if_neg (by lia)]; grind
 ·rw [List.getElem?_eq_none_iff.mpr (by rw [ip_len, sst_len]; lia), List.getElem?_eq_none_iff.mpr (by rw [List.length_map, dvStep_len, ip_len]; lia)]
theorem dvStep_map (c : Rat) (q : Poly) (n : Nat) (r : Poly) : dvStep q n (dvF q n (r.map fun a => c * a)) (r.map fun a => c * a) = (dvStep q n (dvF q n r) r).map fun a => c * a := by
 apply List.ext_getElem?
 intro j
 unfold dvStep
 rw [List.getElem?_mapIdx, List.getElem?_map, List.getElem?_map, List.getElem?_mapIdx]
 cases r[j]? with
 | none => rfl
 | some a =>
  show some _ = some _
  congr 1
  unfold dvF
  rw [co_map]
  split <;> grind
theorem dv_map (c : Rat) (q : Poly) : ∀ (n : Nat) (r : Poly), (dv q n (r.map fun a => c * a)).2 = (dv q n r).2.map fun a => c * a := by
 intro z0
 induction z0 with
 | zero =>
  intro r
  exact rfl
 | succ n ih =>
  intro r
  show (dv q n (dvStep q n (dvF q n (r.map fun a => c * a)) (r.map fun a => c * a))).2 = _
  rw [dvStep_map, ih]; rfl
theorem ip_sv {q : List Int} (hq : NmI q) (hq0 : q ≠ []) : ∀ (n : Nat) {r : List Int}, (n ≠ 0 -> n + q.length <= r.length + 1) -> ip (sv q n r) = (dv (ip q) n (ip r)).2.map fun a => (((leI q).natAbs : Int) : Rat) ^ n * a
 | 0, r, _ => by
  show ip r = (ip r).map _
  rw [Rat.pow_zero]
  conv => lhs; rw [<- List.map_id (ip r)]
  refine List.map_congr_left fun a _ => ?_
  show a = 1 * a
  grind
 | n + 1, r, h => by
  have h := h (by lia)
  show ip (sv q n (sst q n r)) = ((dv (ip q) n (dvStep (ip q) n (dvF (ip q) n (ip r)) (ip r))).2).map _
  rw [ip_sv hq hq0 n (r := sst q n r) (fun _ => by rw [sst_len]; lia), ip_sst hq hq0 (by lia), dv_map, List.map_map]
  refine List.map_congr_left fun a _ => ?_
  show _ * (_ * a) = _
  rw [Rat.pow_succ]; grind
theorem norm_map {c : Rat} (hc : c ≠ 0) (p : Poly) : norm (p.map fun a => c * a) = scale c (norm p) := by
 refine ext_nm (nm_norm _) (nm_scale _ _) fun i => ?_
 rw [co_norm, co_map, co_scale, co_norm]
theorem ip_sr {p q : List Int} (hp : NmI p) (hq : NmI q) (hq0 : q ≠ []) : ip (srI p q) = scale (size (lead (ip q)) ^ (p.length + 1 - q.length)) (divMod (ip p) (ip q)).2 := by
 have hq0' : ip q ≠ [] := fun e => hq0 ((ip_nil q).mp e)
 unfold srI
 rw [ip_trim, ip_sv hq hq0 _ (by lia), divMod_eq (nm_ip.mpr hp) (nm_ip.mpr hq) hq0', lead_ip, size_int]
 unfold shifts
 rw [ip_len, ip_len]
 refine norm_map (rpow_ne (fun e => leI_ne hq hq0 ?_) _) _
 have : (((leI q).natAbs : Nat) : Int) = 0 := cast_inj (by rw [e]; rfl)
 lia
def nxI (l r : List Int) (g h : Int) : List Int := (srI l r).map fun a => -(a.fdiv (g * h ^ (l.length - r.length)))
def hgI (l r : List Int) (h : Int) : Int := if 0 < l.length - r.length then (((leI r).natAbs : Int) ^ (l.length - r.length)).fdiv (h ^ (l.length - r.length - 1)) else h
def chF : Nat -> List Int -> List Int -> Int -> Int -> List (List Int)
 | 0, l, _, _, _ => [l]
 | f + 1, l, r, g, h => if r = [] then [l] else l :: chF f r (nxI l r g h) ((leI r).natAbs : Int) (hgI l r h)
def chI (p q : List Int) : List (List Int) := chF (q.length + 1) p q 1 1
theorem cast_pow (z : Int) : ∀ n : Nat, ((z ^ n : Int) : Rat) = (z : Rat) ^ n := by
 intro z0
 induction z0 with
 | zero =>
  rw [Int.pow_zero, Rat.pow_zero]; rfl
 | succ n ih =>
  rw [Int.pow_succ, Rat.pow_succ, Rat.intCast_mul, ih]
def bdI (l : List Int) (M : Nat) : Prop := ∀ c ∈ l, c.natAbs <= M
theorem bdI_ci {l : List Int} {M : Nat} (h : bdI l M) (i : Nat) : (ci l i).natAbs <= M := by
 by_cases hi : i < l.length
 ·exact h _ (List.mem_of_getElem? (ci_lt hi))
 ·rw [ci_of_ge (by lia)]; simp
theorem bdI_of {l : List Int} {M : Nat} (h : ∀ i, (ci l i).natAbs <= M) : bdI l M := fun c hc => by
 obtain ⟨i, hi⟩ := List.getElem?_of_mem hc
 have := h i
 rwa [ci_of_get hi] at this
theorem bdI_wh {l : List Int} {M : Nat} (h : bdI l M) : Whb (ip l) M := fun i => ⟨ci l i, bdI_ci h i, co_ip l i⟩
def chB (P Q : List Int) (M : Nat) : Nat := ((P.length + Q.length) * M) ^ (P.length + Q.length)
structure IvI (P Q : List Int) (M : Nat) (l r : List Int) (g h : Int) : Prop where
 inv : Inv (ip P) (ip Q) (ip l) (ip r) ((g : Int) : Rat) ((h : Int) : Rat)
 bP : bdI P M
 bQ : bdI Q M
 M1 : 1 <= M
 bl : bdI l (chB P Q M)
 br : bdI r (chB P Q M)
 bg : g.natAbs <= chB P Q M
 bh : h.natAbs <= chB P Q M
section
variable {P Q l r : List Int} {M : Nat} {g h : Int}
theorem pow_mono2 {a b m n : Nat} (ha : 1 <= b) (h1 : a <= b) (h2 : m <= n) : a ^ m <= b ^ n :=
 Nat.le_trans (Nat.pow_le_pow_left h1 m) (Nat.pow_le_pow_right ha h2)
theorem chB_ge {P Q : List Int} {M : Nat} (hM : 1 <= M) (hP : 0 < P.length) : M <= chB P Q M := by
 unfold chB
 have h1 : M <= (P.length + Q.length) * M := Nat.le_mul_of_pos_left _ (by lia)
 exact Nat.le_trans h1 (Nat.le_self_pow (by lia) _)
theorem chB_pow {P Q : List Int} {M k : Nat} (hM : 1 <= M) (hk : k <= P.length + Q.length) (hP : 0 < P.length) : (k * M) ^ k <= chB P Q M := by
 unfold chB
 exact pow_mono2 (Nat.le_trans hM (Nat.le_mul_of_pos_left _ (by lia))) (Nat.mul_le_mul_right _ hk) hk
theorem IvI.r0 (I : IvI P Q M l r g h) : r ≠ [] := fun e => I.inv.B0 ((ip_nil r).mpr e)
theorem IvI.nl (I : IvI P Q M l r g h) : NmI l := nm_ip.mp I.inv.nA
theorem IvI.nr (I : IvI P Q M l r g h) : NmI r := nm_ip.mp I.inv.nB
theorem IvI.le (I : IvI P Q M l r g h) : r.length <= l.length := by have := I.inv.le; rwa [ip_len, ip_len] at this
theorem IvI.leP (I : IvI P Q M l r g h) : l.length <= P.length := by have := I.inv.leP; rwa [ip_len, ip_len] at this
theorem IvI.g0 (I : IvI P Q M l r g h) : 0 < g := Rat.intCast_lt_intCast.mp (by exact_mod_cast I.inv.g0)
theorem IvI.h0 (I : IvI P Q M l r g h) : 0 < h := Rat.intCast_lt_intCast.mp (by exact_mod_cast I.inv.h0)
theorem IvI.pP (I : IvI P Q M l r g h) : 0 < P.length := by
 have := I.leP; have := I.le; have := List.length_pos_iff.mpr I.r0; lia
theorem IvI.goes (I : IvI P Q M l r g h) (t : Nat) : ∃ z : Int, z.natAbs <= chB P Q M /\ ci (srI l r) t = (g * h ^ (l.length - r.length)) * z /\ co (nxt (ip l) (ip r) g h) t = ((-z : Int) : Rat) := by
 have hb : ((g * h ^ (l.length - r.length) : Int) : Rat) ≠ 0 := by
  rw [Rat.intCast_mul, cast_pow]; exact I.inv.b0 _
 have e0 : co (nxt (ip l) (ip r) g h) t = -(((ci (srI l r) t : Int) : Rat) / ((g * h ^ (l.length - r.length) : Int) : Rat)) := by
  unfold nxt
  rw [co_scale, <- co_ip, ip_sr I.nl I.nr I.r0, co_scale, ip_len, ip_len, Rat.intCast_mul, cast_pow]
  grind
 by_cases h2 : 2 <= r.length
 ·have s := I.inv.rest (by rw [ip_len]; exact h2) t
  obtain ⟨z, hz, ez⟩ := Sub.int (bdI_wh I.bP) (bdI_wh I.bQ) ((ip Q).length - ((ip r).length - 1)) ((ip P).length - ((ip r).length - 1)) ((ip r).length - 2) t
  rw [ez] at s
  have hz' : z.natAbs <= chB P Q M := Nat.le_trans hz (chB_pow I.M1 (by rw [ip_len, ip_len, ip_len]; omega) I.pP)
  have key : ∃ y : Int, y.natAbs = z.natAbs /\ co (nxt (ip l) (ip r) g h) t = ((-y : Int) : Rat) := by
   rcases s with s | s
   ·exact ⟨-z, by omega, by rw [<- s]; congr 1; lia⟩
   ·refine ⟨z, rfl, ?_⟩
    rw [Rat.intCast_neg, s]; grind
  obtain ⟨y, hy, ey⟩ := key
  refine ⟨y, by lia, ?_, ey⟩
  rw [e0] at ey
  apply cast_inj
  rw [Rat.intCast_mul]
  rw [Rat.intCast_neg] at ey
  grind
 ·have e1 : (divMod (ip l) (ip r)).2 = [] := by
   have := rest_len I.inv.nA I.inv.nB I.inv.B0
   rw [ip_len] at this
   exact List.length_eq_zero_iff.mp (by lia)
  have e2 : ci (srI l r) t = 0 := by
   apply cast_inj
   rw [<- co_ip, ip_sr I.nl I.nr I.r0, e1, co_scale, co_nil]; grind
  refine ⟨0, by simp, by rw [e2]; simp, ?_⟩
  rw [e0, e2]; grind
theorem IvI.beta (I : IvI P Q M l r g h) : 0 < g * h ^ (l.length - r.length) := Int.mul_pos I.g0 (Int.pow_pos I.h0)
theorem IvI.ci_nx (I : IvI P Q M l r g h) (t : Nat) : ∃ z : Int, z.natAbs <= chB P Q M /\ ci (nxI l r g h) t = -z /\ co (nxt (ip l) (ip r) g h) t = ((-z : Int) : Rat) := by
 obtain ⟨z, hz, e1, e2⟩ := I.goes t
 refine ⟨z, hz, ?_, e2⟩
 have hb := I.beta
 have e : ci (nxI l r g h) t = -((ci (srI l r) t).fdiv (g * h ^ (l.length - r.length))) := by
  unfold nxI
  by_cases ht : t < (srI l r).length
  ·refine ci_of_get ?_
   rw [List.getElem?_map, ci_lt ht]; rfl
  ·rw [ci_of_ge (by rw [List.length_map]; lia), ci_of_ge (l := srI l r) (by lia)]; simp
 rw [e, e1, Int.mul_fdiv_cancel_left _ (by lia)]
theorem IvI.ip_nx (I : IvI P Q M l r g h) : ip (nxI l r g h) = nxt (ip l) (ip r) g h := by
 have e : ∀ t, co (ip (nxI l r g h)) t = co (nxt (ip l) (ip r) g h) t := fun t => by
  obtain ⟨z, _, e1, e2⟩ := I.ci_nx t
  rw [co_ip, e1, e2]
 have hl : (ip (nxI l r g h)).length = (nxt (ip l) (ip r) g h).length := by
  have s1 : (ip (srI l r)).length = (divMod (ip l) (ip r)).2.length := by
   rw [ip_sr I.nl I.nr I.r0]
   exact scale_len (rpow_ne (by have := I.inv.gp; grind) _) (nm_rest I.inv.nA I.inv.nB I.inv.B0)
  have s2 : (nxt (ip l) (ip r) g h).length = (divMod (ip l) (ip r)).2.length := by
   unfold nxt
   refine scale_len ?_ (nm_rest I.inv.nA I.inv.nB I.inv.B0)
   have b0 : 0 < size (lead (ip r)) ^ ((ip l).length + 1 - (ip r).length) / ((g : Int) * ((h : Int) : Rat) ^ ((ip l).length - (ip r).length) : Rat) := by
    rw [Rat.div_def]; exact Rat.mul_pos (rpow_pos I.inv.gp _) (Rat.inv_pos.mpr (Rat.mul_pos I.inv.g0 (rpow_pos I.inv.h0 _)))
   grind
  rw [s2, <- s1, ip_len, ip_len]
  unfold nxI
  rw [List.length_map]
 apply List.ext_getElem?
 intro i
 by_cases hi : i < (ip (nxI l r g h)).length
 ·rw [co_lt hi, co_lt (by lia), e i]
 ·rw [List.getElem?_eq_none_iff.mpr (by lia), List.getElem?_eq_none_iff.mpr (by lia)]
theorem IvI.b_nx (I : IvI P Q M l r g h) : bdI (nxI l r g h) (chB P Q M) := bdI_of fun t => by
 obtain ⟨z, hz, e1, _⟩ := I.ci_nx t
 rw [e1]; omega
theorem IvI.nx_len (I : IvI P Q M l r g h) : (nxI l r g h).length < r.length := by
 have := I.inv.nxt_len
 rwa [<- I.ip_nx, ip_len, ip_len] at this
theorem IvI.hg (I : IvI P Q M l r g h) : 0 < hgI l r h /\ (hgI l r h).natAbs <= chB P Q M /\ hgI l r h * h ^ (l.length - r.length) = ((leI r).natAbs : Int) ^ (l.length - r.length) * h := by
 have h0 := I.h0
 have hl : (0 : Int) < ((leI r).natAbs : Int) := by have := leI_ne I.nr I.r0; lia
 unfold hgI
 by_cases hd : 0 < l.length - r.length
 ·rw [if_pos hd]
  have hp : ((h ^ (l.length - r.length - 1) : Int) : Rat) ≠ 0 := by rw [cast_pow]; exact rpow_ne (by have := I.inv.h0; grind) _
  have hpos : (0 : Int) < h ^ (l.length - r.length - 1) := Int.pow_pos h0
  obtain ⟨d, hd'⟩ : ∃ d, l.length - r.length = d + 1 := ⟨l.length - r.length - 1, by omega⟩
  have s := I.inv.height (by rw [ip_len, ip_len]; omega) (h' := (((leI r).natAbs : Int) : Rat) ^ (l.length - r.length) / ((h : Int) : Rat) ^ (l.length - r.length - 1)) (by
   rw [ip_len, ip_len, lead_ip, size_int]
   rw [cast_pow] at hp
   grind)
  obtain ⟨z, hz, ez⟩ := Sub.int (bdI_wh I.bP) (bdI_wh I.bQ) ((ip Q).length - (ip r).length) ((ip P).length - (ip r).length) ((ip r).length - 1) ((ip r).length - 1)
  rw [ez] at s
  have hz' : z.natAbs <= chB P Q M := Nat.le_trans hz (chB_pow I.M1 (by rw [ip_len, ip_len, ip_len]; omega) I.pP)
  have hx : (0 : Rat) < (((leI r).natAbs : Int) : Rat) ^ (l.length - r.length) / ((h : Int) : Rat) ^ (l.length - r.length - 1) := by
   rw [Rat.div_def]
   exact Rat.mul_pos (rpow_pos (by exact_mod_cast Rat.intCast_lt_intCast.mpr hl) _) (Rat.inv_pos.mpr (rpow_pos I.inv.h0 _))
  have hs := s.symm.pos hx
  rw [size_int] at hs
  have e : ((leI r).natAbs : Int) ^ (l.length - r.length) = h ^ (l.length - r.length - 1) * ((z.natAbs : Nat) : Int) := by
   apply cast_inj
   rw [Rat.intCast_mul, cast_pow, cast_pow, <- hs]
   rw [cast_pow] at hp
   grind
  have ef : (((leI r).natAbs : Int) ^ (l.length - r.length)).fdiv (h ^ (l.length - r.length - 1)) = ((z.natAbs : Nat) : Int) := by
   rw [e, Int.mul_fdiv_cancel_left _ (by lia)]
  rw [ef]
  have hz0 : (0 : Int) < ((z.natAbs : Nat) : Int) := by
   have : (0 : Int) < ((leI r).natAbs : Int) ^ (l.length - r.length) := Int.pow_pos hl
   rw [e] at this
   rcases Int.lt_trichotomy 0 ((z.natAbs : Nat) : Int) with q | q | q
   ·exact q
   ·rw [<- q] at this; simp at this
   ·lia
  refine ⟨hz0, by lia, ?_⟩
  rw [hd'] at e ⊢
  rw [e, show d + 1 - 1 = d by lia, Int.pow_succ]
  rw [Int.mul_comm (h ^ d) ((z.natAbs : Nat) : Int), Int.mul_assoc]
 ·rw [if_neg hd]
  have hd0 : l.length - r.length = 0 := by lia
  rw [hd0]
  refine ⟨h0, I.bh, by rw [Int.pow_zero, Int.pow_zero]; lia⟩
theorem IvI.next (I : IvI P Q M l r g h) (hn : nxI l r g h ≠ []) : IvI P Q M r (nxI l r g h) ((leI r).natAbs : Int) (hgI l r h) := by
 obtain ⟨h1, h2, h3⟩ := I.hg
 refine ⟨?_, I.bP, I.bQ, I.M1, I.br, I.b_nx, ?_, h2⟩
 ·have e := I.inv.next (h' := ((hgI l r h : Int) : Rat)) (by exact_mod_cast Rat.intCast_lt_intCast.mpr h1) (by
   rw [ip_len, ip_len, lead_ip, size_int]
   rw [<- cast_pow, <- Rat.intCast_mul, h3, Rat.intCast_mul, cast_pow]) (by rw [<- I.ip_nx]; exact fun q => hn ((ip_nil _).mp q))
  rw [lead_ip, size_int, <- I.ip_nx] at e
  exact e
 ·have := bdI_ci I.br (r.length - 1)
  rw [<- leI_ci] at this
  lia
end
theorem IvI.start {P Q : List Int} {M : Nat} (hP : NmI P) (hQ : NmI Q) (hQ0 : Q ≠ []) (h : Q.length <= P.length) (bP : bdI P M) (bQ : bdI Q M) (M1 : 1 <= M) : IvI P Q M P Q 1 1 := by
 have pP : 0 < P.length := by have := List.length_pos_iff.mpr hQ0; lia
 have c := chB_ge (Q := Q) M1 pP
 exact ⟨Inv.start (nm_ip.mpr hP) (nm_ip.mpr hQ) (fun e => hQ0 ((ip_nil Q).mp e)) (by rw [ip_len, ip_len]; exact h), bP, bQ, M1, fun a ha => Nat.le_trans (bP a ha) c, fun a ha => Nat.le_trans (bQ a ha) c, by show (1 : Int).natAbs <= _; simp; lia, by show (1 : Int).natAbs <= _; simp; lia⟩
def gcI (l : List Int) : Nat := l.foldl (fun d a => Nat.gcd d a.natAbs) 0
theorem gcI_snoc (l : List Int) (c : Int) : gcI (l ++ [c]) = Nat.gcd (gcI l) c.natAbs := by unfold gcI; rw [List.foldl_append]; rfl
theorem snocI {Pp : List Int -> Prop} (h0 : Pp []) (hs : ∀ p c, Pp p -> Pp (p ++ [c])) : ∀ p, Pp p := by
 intro p
 generalize hn : p.length = n
 induction n generalizing p with
 | zero => rw [List.length_eq_zero_iff.mp hn]; exact h0
 | succ n ih =>
  have hne : p ≠ [] := fun e => by rw [e] at hn; simp at hn
  rw [<- List.dropLast_concat_getLast hne]
  exact hs _ _ (ih _ (by rw [List.length_dropLast]; lia))
theorem gcI_dvd : ∀ (l : List Int), ∀ c ∈ l, gcI l ∣ c.natAbs := by
 refine snocI (by simp) fun p c ih x hx => ?_
 rw [gcI_snoc]
 rw [List.mem_append] at hx
 rcases hx with hx | hx
 ·exact Nat.dvd_trans (Nat.gcd_dvd_left _ _) (ih x hx)
 ·rw [List.mem_singleton] at hx; subst hx; exact Nat.gcd_dvd_right _ _
theorem dvd_gcI {d : Nat} : ∀ (l : List Int), (∀ c ∈ l, d ∣ c.natAbs) -> d ∣ gcI l := by
 refine snocI (fun _ => Nat.dvd_zero d) fun p c ih h => ?_
 rw [gcI_snoc]
 exact Nat.dvd_gcd (ih fun x hx => h x (by simp [hx])) (h c (by simp))
structure PrI (l : List Int) : Prop where
 nm : NmI l
 ne : l ≠ []
 gc : gcI l = 1
 pos : 0 < leI l
theorem cTop_ip (l : List Int) : cTop (ip l) = gcI l := by
 unfold cTop gcI ip; rw [List.foldl_map]; rfl
theorem cBot_ip (l : List Int) : cBot (ip l) = 1 := by
 have := cBot_dvd_of (D := 1) (ip l) fun c hc => by
  unfold ip at hc
  obtain ⟨z, _, rfl⟩ := List.mem_map.mp hc
  exact Nat.dvd_refl 1
 exact Nat.dvd_one.mp this
def sgI (l : List Int) : Int := if leI l < 0 then -(gcI l : Int) else (gcI l : Int)
def primI (l : List Int) : List Int := l.map fun a => a.fdiv (sgI l)
theorem leI_lead_num (l : List Int) : (lead (ip l)).num = leI l := by rw [lead_ip]; rfl
theorem gcI_pos {l : List Int} (h : NmI l) (h0 : l ≠ []) : 0 < gcI l := by
 rw [<- cTop_ip]; exact cTop_pos (nm_ip.mpr h) (fun e => h0 ((ip_nil l).mp e))
theorem ct_ip {l : List Int} (h : NmI l) (h0 : l ≠ []) : ct (ip l) = ((sgI l : Int) : Rat) := by
 have hl := leI_ne h h0
 have e : cNum (ip l) = sgI l := by
  unfold cNum sgI
  rw [leI_lead_num, cTop_ip]
  by_cases hlt : leI l < 0
  ·rw [if_neg (by lia), if_pos hlt]
  ·rw [if_pos (by lia), if_neg hlt]
 apply Rat.ext
 ·rw [ct_num, e]; rfl
 ·rw [ct_den, cBot_ip]; rfl
theorem sg_ne {l : List Int} (h : NmI l) (h0 : l ≠ []) : sgI l ≠ 0 := by
 have := gcI_pos h h0; unfold sgI; split <;> lia
theorem sg_dvd {l : List Int} {c : Int} (hc : c ∈ l) : sgI l ∣ c := by
 have := gcI_dvd l c hc
 unfold sgI
 split
 ·exact Int.neg_dvd.mpr (Int.ofNat_dvd_left.mpr this)
 ·exact Int.ofNat_dvd_left.mpr this
theorem cast_fdiv {a d : Int} (hd : d ≠ 0) (h : d ∣ a) : ((a.fdiv d : Int) : Rat) = ((a : Int) : Rat) / ((d : Int) : Rat) := by
 obtain ⟨k, rfl⟩ := h
 rw [Int.mul_fdiv_cancel_left _ hd, Rat.intCast_mul]
 have : ((d : Int) : Rat) ≠ 0 := fun e => hd (cast_inj (by rw [e]; rfl))
 grind
theorem ip_prim {l : List Int} (h : NmI l) (h0 : l ≠ []) : ip (primI l) = part (ip l) := by
 rw [part_eq (nm_ip.mpr h) (fun e => h0 ((ip_nil l).mp e)), ct_ip h h0]
 unfold primI ip
 rw [List.map_map, List.map_map]
 refine List.map_congr_left fun a ha => ?_
 exact cast_fdiv (sg_ne h h0) (sg_dvd ha)
def wp (p : Poly) : List Int := (part p).map fun c => c.num
theorem ip_wp {p : Poly} (hp : Nm p) (h0 : p ≠ []) : ip (wp p) = part p := by
 unfold wp ip
 rw [List.map_map]
 conv => rhs; rw [<- List.map_id (part p)]
 refine List.map_congr_left fun c hc => ?_
 have hd := whole_den (part_whole hp h0) hc
 show ((c.num : Int) : Rat) = c
 exact Rat.ext rfl hd.symm
theorem part_ne {p : Poly} (hp : Nm p) (h0 : p ≠ []) : part p ≠ [] := fun e => by
 have := part_len hp h0
 rw [e] at this
 exact h0 (List.length_eq_zero_iff.mp this.symm)
theorem pri_wp {p : Poly} (hp : Nm p) (h0 : p ≠ []) : PrI (wp p) := by
 have e := ip_wp hp h0
 have hn : NmI (wp p) := nm_ip.mp (by rw [e]; exact nm_part)
 have hne : wp p ≠ [] := fun q => part_ne hp h0 (by rw [<- e, q]; rfl)
 have c1 := ct_part hp h0
 rw [<- e, ct_ip hn hne] at c1
 have c2 : sgI (wp p) = 1 := cast_inj (by rw [c1]; rfl)
 have hl : 0 < leI (wp p) := by
  have := part_lead_pos hp h0
  rw [<- e, lead_ip] at this
  exact Rat.intCast_lt_intCast.mp (by exact_mod_cast this)
 refine ⟨hn, hne, ?_, hl⟩
 unfold sgI at c2
 rw [if_neg (by lia)] at c2
 lia
theorem pri_ip {l : List Int} (h : NmI l) (h0 : l ≠ []) : PrI (primI l) := by
 have hp := nm_ip.mpr h
 have hp0 : ip l ≠ [] := fun e => h0 ((ip_nil l).mp e)
 have e : primI l = wp (ip l) := ip_inj (by rw [ip_prim h h0, ip_wp hp hp0])
 rw [e]; exact pri_wp hp hp0
theorem PrI.part {l : List Int} (h : PrI l) : part (ip l) = ip l := by
 have e : primI l = l := by
  unfold primI sgI
  rw [if_neg (by have := h.pos; lia), h.gc]
  conv => rhs; rw [<- List.map_id l]
  refine List.map_congr_left fun a _ => ?_
  show a.fdiv 1 = a
  exact Int.fdiv_one a
 rw [<- ip_prim h.nm h.ne, e]
theorem PrI.unique {a b : List Int} (ha : PrI a) (hb : PrI b) {c : Rat} (h : ∀ i, co (ip a) i = c * co (ip b) i) : a = b := by
 have hc : c ≠ 0 := fun e => by
  have := h (a.length - 1)
  rw [e, co_ip, <- leI_ci] at this
  have h2 : leI a = 0 := cast_inj (by rw [this]; grind)
  have := ha.pos; lia
 have hd : ((c.den : Int) : Rat) ≠ 0 := by have := c.den_nz; intro e; have : (c.den : Int) = 0 := cast_inj (by rw [e]; rfl); lia
 have hnum : ((c.num : Int) : Rat) = c * ((c.den : Int) : Rat) := (rat_eq c).symm
 have key : ∀ i, (c.den : Int) * ci a i = c.num * ci b i := fun i => by
  apply cast_inj
  have := h i
  rw [co_ip, co_ip] at this
  rw [Rat.intCast_mul, Rat.intCast_mul, this, hnum]; grind
 have hden : c.den = 1 := by
  have : c.den ∣ gcI b := dvd_gcI b fun x hx => by
   obtain ⟨i, hi⟩ := List.getElem?_of_mem hx
   have k := key i
   rw [ci_of_get hi] at k
   have : c.den ∣ (c.num * x).natAbs := by rw [<- k, Int.natAbs_mul]; exact Nat.dvd_mul_right _ _
   rw [Int.natAbs_mul] at this
   exact Nat.Coprime.dvd_of_dvd_mul_left c.reduced.symm this
  rw [hb.gc] at this
  exact Nat.dvd_one.mp this
 rw [hden] at key
 have hnum1 : c.num.natAbs = 1 := by
  have : c.num.natAbs ∣ gcI a := dvd_gcI a fun x hx => by
   obtain ⟨i, hi⟩ := List.getElem?_of_mem hx
   have k := key i
   rw [ci_of_get hi] at k
   rw [show x = c.num * ci b i by lia, Int.natAbs_mul]
   exact Nat.dvd_mul_right _ _
  rw [ha.gc] at this
  exact Nat.dvd_one.mp this
 have hll : a.length = b.length := by
  have e : ip a = scale c (ip b) := ext_nm (nm_ip.mpr ha.nm) (nm_scale _ _) fun i => by rw [h, co_scale]
  have := congrArg List.length e
  rwa [scale_len hc (nm_ip.mpr hb.nm), ip_len, ip_len] at this
 have hpos : c.num = 1 := by
  have k := key (a.length - 1)
  rw [<- leI_ci, hll, <- leI_ci] at k
  have h1 := ha.pos
  have h2 := hb.pos
  have h3 : c.num = 1 \/ c.num = -1 := by lia
  rcases h3 with h3 | h3
  ·exact h3
  ·rw [h3] at k; lia
 apply List.ext_getElem?
 intro i
 by_cases hi : i < a.length
 ·rw [ci_lt hi, ci_lt (by lia)]
  have k := key i
  rw [hpos] at k
  congr 1; lia
 ·rw [List.getElem?_eq_none_iff.mpr (by lia), List.getElem?_eq_none_iff.mpr (by lia)]
theorem part_sc {p : Poly} (hp : Nm p) (h0 : p ≠ []) {c : Rat} (hc : c ≠ 0) : part (scale c p) = part p := by
 have hn := nm_scale c p
 have hn0 : scale c p ≠ [] := fun e => h0 ((scale_nil_iff hc hp).mp e)
 obtain ⟨c1, h1, e1⟩ := part_scale hp h0
 obtain ⟨c2, h2, e2⟩ := part_scale hn hn0
 have := PrI.unique (pri_wp hn hn0) (pri_wp hp h0) (c := c2 * c / c1) fun i => by
  rw [ip_wp hn hn0, ip_wp hp h0, e2, e1, co_scale, co_scale, co_scale]
  grind
 rw [<- ip_wp hn hn0, this, ip_wp hp h0]
theorem part_monic {p : Poly} (hp : Nm p) (h0 : p ≠ []) : part (monic p) = part p := by
 rw [monic_of h0]; exact part_sc hp h0 (inv_ne (lead_ne hp h0))
theorem least_dvd : ∀ (n d : Nat), d <= n -> 1 < d -> ∃ l, 1 < l /\ l ∣ d /\ ∀ m, m ∣ l -> m = 1 \/ m = l := by
 intro n
 induction n with
 | zero => intro d h1 h2; lia
 | succ n ih =>
  intro d h1 h2
  by_cases h : ∃ m, m ∣ d /\ m ≠ 1 /\ m ≠ d
  ·obtain ⟨m, hm, m1, m2⟩ := h
   have hle := Nat.le_of_dvd (by lia) hm
   have hm0 : m ≠ 0 := fun e => by rw [e] at hm; have := Nat.eq_zero_of_zero_dvd hm; lia
   obtain ⟨l, l1, l2, l3⟩ := ih m (by lia) (by lia)
   exact ⟨l, l1, Nat.dvd_trans l2 hm, l3⟩
  ·refine ⟨d, h2, Nat.dvd_refl d, fun m hm => ?_⟩
   rcases Nat.decEq m 1 with q | q
   ·rcases Nat.decEq m d with q2 | q2
    ·exact absurd ⟨m, hm, q, q2⟩ h
    ·exact .inr q2
   ·exact .inl q
theorem prime_dvd {l : Nat} (h : ∀ m, m ∣ l -> m = 1 \/ m = l) {x y : Nat} (hd : l ∣ x * y) : l ∣ x \/ l ∣ y := by
 rcases h (Nat.gcd l x) (Nat.gcd_dvd_left _ _) with e | e
 ·exact .inr (Nat.Coprime.dvd_of_dvd_mul_left (show Nat.Coprime l x from e) hd)
 ·left; rw [<- e]; exact Nat.gcd_dvd_right _ _
def pmI (p q : List Int) : Nat -> Nat -> Int
 | 0, _ => 0
 | n + 1, j => pmI p q n j + if n <= j then ci p n * ci q (j - n) else 0
theorem pm_ip (p q : List Int) (j : Nat) : ∀ n, pm (ip p) (ip q) n j = ((pmI p q n j : Int) : Rat) := by
 intro z0
 induction z0 with
 | zero =>
  exact rfl
 | succ n ih =>
  simp only [pm, pmI]
  rw [ih, Rat.intCast_add, co_ip, co_ip]
  congr 1
  split
  ·rw [Rat.intCast_mul]
  ·rfl
theorem first_not {l : Nat} {p : List Int} (hl : 1 < l) (h : gcI p = 1) : ∃ i, ¬ l ∣ (ci p i).natAbs /\ ∀ k, k < i -> l ∣ (ci p k).natAbs := by
 have hex : ∃ i, ¬ l ∣ (ci p i).natAbs := by
  false_or_by_contra
  rename_i hc
  have : l ∣ gcI p := dvd_gcI p fun x hx => by
   obtain ⟨i, hi⟩ := List.getElem?_of_mem hx
   false_or_by_contra
   rename_i h2
   exact hc ⟨i, by rw [ci_of_get hi]; exact h2⟩
  rw [h] at this
  have := Nat.dvd_one.mp this; lia
 obtain ⟨i, hi⟩ := hex
 induction i using Nat.strongRecOn with
 | _ i ih =>
  by_cases hk : ∃ k, k < i /\ ¬ l ∣ (ci p k).natAbs
  ·obtain ⟨k, h1, h2⟩ := hk
   exact ih k h1 h2
  ·exact ⟨i, hi, fun k hki => by
    false_or_by_contra
    rename_i h2
    exact hk ⟨k, hki, h2⟩⟩
theorem pmI_mod {l : Nat} {p q : List Int} {i j : Nat} (hp : ∀ k, k < i -> l ∣ (ci p k).natAbs) (hq : ∀ k, k < j -> l ∣ (ci q k).natAbs) : ∀ n, (n <= i -> (l : Int) ∣ pmI p q n (i + j)) /\ (i < n -> (l : Int) ∣ pmI p q n (i + j) - ci p i * ci q j) := by
 intro z0
 induction z0 with
 | zero =>
  exact ⟨fun _ => by simp [pmI], fun h => absurd h (by lia)⟩
 | succ n ih =>
  obtain ⟨h1, h2⟩ := ih
  simp only [pmI]
  refine ⟨fun h => ?_, fun h => ?_⟩
  ·refine Int.dvd_add (h1 (by lia)) ?_
   rw [if_pos (by lia)]
   exact Int.dvd_mul_of_dvd_left (Int.ofNat_dvd_left.mpr (hp n (by lia)))
  ·by_cases e : n = i
   ·subst e
    rw [if_pos (by lia), show n + j - n = j by lia]
    have := h1 (Nat.le_refl _)
    rw [Int.add_sub_cancel]; exact this
   ·have := h2 (by lia)
    rw [show pmI p q n (i + j) + (if n <= i + j then ci p n * ci q (i + j - n) else 0) - ci p i * ci q j = (pmI p q n (i + j) - ci p i * ci q j) + (if n <= i + j then ci p n * ci q (i + j - n) else 0) by lia]
    refine Int.dvd_add this ?_
    split
    ·exact Int.dvd_mul_of_dvd_right (Int.ofNat_dvd_left.mpr (hq _ (by lia)))
    ·exact Int.dvd_zero _
theorem gauss {d : Nat} {u q : List Int} (hu : gcI u = 1) (hq : gcI q = 1) (h : ∀ j, (d : Int) ∣ pmI u q u.length j) (hd : d ≠ 0) : d = 1 := by
 false_or_by_contra
 rename_i h1
 obtain ⟨l, l1, l2, l3⟩ := least_dvd d d (Nat.le_refl _) (by lia)
 obtain ⟨i, hi, hi'⟩ := first_not l1 hu
 obtain ⟨j, hj, hj'⟩ := first_not l1 hq
 have hil : i < u.length := by
  false_or_by_contra
  rename_i hh
  exact hi (by rw [ci_of_ge (by lia)]; simp)
 have k := (pmI_mod hi' hj' u.length).2 hil
 have k2 : (l : Int) ∣ pmI u q u.length (i + j) := Int.dvd_trans (Int.natCast_dvd_natCast.mpr l2) (h (i + j))
 have k3 : (l : Int) ∣ ci u i * ci q j := by
  have := Int.dvd_sub k2 k
  rwa [show pmI u q u.length (i + j) - (pmI u q u.length (i + j) - ci u i * ci q j) = ci u i * ci q j by lia] at this
 have k4 : l ∣ (ci u i).natAbs * (ci q j).natAbs := by rw [<- Int.natAbs_mul]; exact Int.ofNat_dvd_left.mp k3
 rcases prime_dvd l3 k4 with z | z
 ·exact hi z
 ·exact hj z
theorem whole_quot {p q : List Int} (hp : NmI p) (hq : PrI q) (h : Dv (ip q) (ip p)) : ∃ a : List Int, NmI a /\ ip a = (divMod (ip p) (ip q)).1 /\ ip p = mul (ip a) (ip q) := by
 have hqn := nm_ip.mpr hq.nm
 have hq0 : ip q ≠ [] := fun e => hq.ne ((ip_nil q).mp e)
 obtain ⟨hr, he⟩ := div_exact (nm_ip.mpr hp) hqn hq0 h
 have hAn : Nm (divMod (ip p) (ip q)).1 := by rw [divMod_eq (nm_ip.mpr hp) hqn hq0]; exact nm_quot (nm_ip.mpr hp) hqn hq0
 have e0 : ip p = mul (divMod (ip p) (ip q)).1 (ip q) := ext_at (nm_ip.mpr hp) (nm_mul _ _) fun x => by rw [at_mul]; exact he x
 generalize (divMod (ip p) (ip q)).1 = A at hAn e0
 suffices h : ∃ a : List Int, ip a = A by
  obtain ⟨a, e⟩ := h
  exact ⟨a, nm_ip.mp (by rw [e]; exact hAn), e, by rw [e]; exact e0⟩
 by_cases hA0 : A = []
 ·exact ⟨[], by rw [hA0]; rfl⟩
 have hu := pri_wp hAn hA0
 have eu := ip_wp hAn hA0
 have ep := part_eq hAn hA0
 have hct := ct_ne hAn hA0
 have coA : ∀ i, co A i = ct A * co (ip (wp A)) i := fun i => by
  rw [eu, ep]
  by_cases hi : i < A.length
  ·rw [co_of_get (p := A.map fun c => c / ct A) (c := co A i / ct A) (by rw [List.getElem?_map, co_lt hi]; rfl)]
   grind
  ·rw [co_of_ge (by lia), co_of_ge (p := A.map fun c => c / ct A) (by rw [List.length_map]; lia)]; grind
 have hwl : (wp A).length = A.length := by rw [<- ip_len, eu, ep, List.length_map]
 have pmA : ∀ n j, pm A (ip q) n j = ct A * pm (ip (wp A)) (ip q) n j := fun n j => by
  induction n with
  | zero => simp only [pm]; grind
  | succ n ih => simp only [pm]; rw [ih, coA n]; split <;> grind
 have hnum : (((ct A).num : Int) : Rat) = ct A * (((ct A).den : Int) : Rat) := (rat_eq (ct A)).symm
 have hd1 : (ct A).den = 1 := by
  refine gauss hu.gc hq.gc (fun j => ?_) (ct A).den_nz
  have e1 : co (ip p) j = ct A * pm (ip (wp A)) (ip q) (wp A).length j := by
   rw [hwl, <- pmA, <- co_mul, <- e0]
  rw [co_ip, pm_ip] at e1
  have e2 : ((ct A).den : Int) * ci p j = (ct A).num * pmI (wp A) q (wp A).length j := by
   apply cast_inj
   rw [Rat.intCast_mul, Rat.intCast_mul, e1, hnum]; grind
  have e3 : ((ct A).den : Int) ∣ (ct A).num * pmI (wp A) q (wp A).length j := ⟨_, e2.symm⟩
  have e4 : (ct A).den ∣ (ct A).num.natAbs * (pmI (wp A) q (wp A).length j).natAbs := by rw [<- Int.natAbs_mul]; exact Int.ofNat_dvd_left.mp e3
  exact Int.ofNat_dvd_left.mpr (Nat.Coprime.dvd_of_dvd_mul_left (ct A).reduced.symm e4)
 refine ⟨(wp A).map fun z => (ct A).num * z, ?_⟩
 apply List.ext_getElem?
 intro i
 by_cases hi : i < A.length
 ·rw [co_lt hi, coA]
  have : (ip ((wp A).map fun z => (ct A).num * z))[i]? = some (co (ip ((wp A).map fun z => (ct A).num * z)) i) := co_lt (by rw [ip_len, List.length_map]; lia)
  rw [this, co_ip, co_ip]
  congr 1
  rw [ci_of_get (l := (wp A).map fun z => (ct A).num * z) (c := (ct A).num * ci (wp A) i) (by rw [List.getElem?_map, ci_lt (by lia)]; rfl), Rat.intCast_mul, hnum, hd1]
  show _ * ((1 : Int) : Rat) * _ = _
  have : ((1 : Int) : Rat) = 1 := rfl
  rw [this]; grind
 ·rw [List.getElem?_eq_none_iff.mpr (by rw [ip_len, List.length_map]; lia), List.getElem?_eq_none_iff.mpr (by lia)]
def vaI (p : List Int) (x : Int) : Int := p.foldr (fun c v => c + x * v) 0
theorem vaI_cons (c : Int) (p : List Int) (x : Int) : vaI (c :: p) x = c + x * vaI p x := rfl
theorem at_ip (p : List Int) (x : Int) : at_ (ip p) ((x : Int) : Rat) = ((vaI p x : Int) : Rat) := by
 induction p with
 | nil => rfl
 | cons c p ih =>
  show at_ (((c : Int) : Rat) :: ip p) _ = _
  rw [at_cons, ih, vaI_cons, Rat.intCast_add, Rat.intCast_mul]
def qx (x : Int) : List Int -> List Int
 | [] => []
 | a :: r => vaI (a :: r) x :: qx x r
theorem qx_len (x : Int) : ∀ p, (qx x p).length = p.length := by
 intro z0
 induction z0 with
 | nil =>
  exact rfl
 | cons a r ih =>
  simp [qx, ih]
theorem qx_val (x y : Int) : ∀ p, y * vaI p y - x * vaI p x = (y - x) * vaI (qx x p) y := by
 intro z0
 induction z0 with
 | nil =>
  simp [vaI, qx]
 | cons a r ih =>
  have ih := ih
  simp only [qx, vaI_cons]
  have e : (y - x) * (a + x * vaI r x + y * vaI (qx x r) y) = (y - x) * (a + x * vaI r x) + y * ((y - x) * vaI (qx x r) y) := by grind
  rw [e, <- ih]; grind
theorem qx_co (x : Int) : ∀ (p : List Int) (i : Nat), ci p i = ci (qx x p) i - x * ci (qx x p) (i + 1)
 | [], i => by simp [ci, qx]
 | a :: r, 0 => by
  simp only [ci, qx, List.getD_cons_zero, List.getD_cons_succ]
  cases r with
  | nil => simp [vaI, qx]
  | cons b s => simp only [qx, List.getD_cons_zero, vaI_cons]; lia
 | a :: r, i + 1 => by
  have := qx_co x r i
  simp only [ci, qx, List.getD_cons_succ] at this ⊢
  exact this
theorem newton (K : Nat) : ∀ (p : List Int) (xs : List Int) (V : Nat), xs.length = p.length -> xs.Nodup -> (∀ x ∈ xs, x.natAbs <= K /\ (vaI p x).natAbs <= V) -> ∀ i, (ci p i).natAbs <= V * (2 * K + 3) ^ (p.length - 1)
 | [], _, V, _, _, _, i => by simp [ci]
 | c :: p, [], V, h, _, _, i => by simp at h
 | c :: p, x0 :: xs, V, h, hn, hv, i => by
  have hl : xs.length = p.length := by simpa using h
  have hn' := List.nodup_cons.mp hn
  obtain ⟨hk0, hv0⟩ := hv x0 (by simp)
  have ih := newton K (qx x0 p) xs (2 * V) (by rw [qx_len]; exact hl) hn'.2 (fun x hx => by
   obtain ⟨hk, hvx⟩ := hv x (by simp [hx])
   refine ⟨hk, ?_⟩
   have e := qx_val x0 x p
   have hne : x - x0 ≠ 0 := fun q => hn'.1 (by rw [show x0 = x by lia]; exact hx)
   rw [vaI_cons] at hvx hv0
   have e2 : (x - x0) * vaI (qx x0 p) x = (c + x * vaI p x) - (c + x0 * vaI p x0) := by rw [<- e]; lia
   have e3 : ((x - x0) * vaI (qx x0 p) x).natAbs <= 2 * V := by rw [e2]; exact nab_sub hvx hv0 (by rw [Nat.two_mul]; exact Nat.le_refl _)
   rw [Int.natAbs_mul] at e3
   have : 1 <= (x - x0).natAbs := by lia
   have := Nat.le_mul_of_pos_left (vaI (qx x0 p) x).natAbs (show 0 < (x - x0).natAbs by lia)
   lia)
  rw [qx_len] at ih
  simp only [List.length_cons, Nat.add_sub_cancel]
  cases p with
  | nil =>
   have : (ci [c] i).natAbs <= V := by
    cases i with
    | zero => simp only [vaI, List.foldr] at hv0; simp only [ci, List.getD_cons_zero]; simpa using hv0
    | succ i => simp [ci]
   simpa using this
  | cons b s =>
   simp only [List.length_cons, Nat.add_sub_cancel] at ih
   have X : ∀ j, (ci (qx x0 (b :: s)) j).natAbs <= 2 * (V * (2 * K + 3) ^ s.length) := fun j => by
    have := ih j
    rwa [Nat.mul_assoc] at this
   have hX0 : V <= V * (2 * K + 3) ^ s.length := Nat.le_mul_of_pos_right _ (Nat.pow_pos (by lia))
   have hS : V * (2 * K + 3) ^ (List.length (b :: s)) = (V * (2 * K + 3) ^ s.length) * (2 * K + 3) := by
    rw [List.length_cons, Nat.pow_succ, <- Nat.mul_assoc]
   rw [hS]
   generalize V * (2 * K + 3) ^ s.length = Y at X hX0
   have kx : ∀ j, (x0 * ci (qx x0 (b :: s)) j).natAbs <= K * (2 * Y) := fun j => by
    rw [Int.natAbs_mul]; exact Nat.mul_le_mul hk0 (X j)
   have e4 : Y * (2 * K + 3) = K * (2 * Y) + 3 * Y := by rw [Nat.mul_add, Nat.mul_comm Y (2 * K), Nat.mul_comm 2 K, Nat.mul_assoc, Nat.mul_comm Y 3]
   rw [e4]
   cases i with
   | zero =>
    have e5 : ci (c :: b :: s) 0 = vaI (c :: b :: s) x0 - x0 * ci (qx x0 (b :: s)) 0 := by
     simp only [ci, List.getD_cons_zero, qx, vaI_cons]; lia
    rw [e5]
    exact nab_sub (Nat.le_trans hv0 hX0) (kx 0) (by lia)
   | succ i =>
    have e5 : ci (c :: b :: s) (i + 1) = ci (b :: s) i := by simp [ci]
    rw [e5, qx_co x0 (b :: s) i]
    exact nab_sub (X i) (kx (i + 1)) (by lia)
theorem vaI_le {p : List Int} {M K : Nat} {x : Int} (hp : bdI p M) (hx : x.natAbs <= K) : (vaI p x).natAbs <= M * (K + 1) ^ p.length := by
 induction p with
 | nil => simp [vaI]
 | cons c p ih =>
  have ih := ih fun a ha => hp a (List.mem_cons_of_mem _ ha)
  have hc := hp c (by simp)
  rw [vaI_cons, List.length_cons, Nat.pow_succ]
  have h1 : (x * vaI p x).natAbs <= K * (M * (K + 1) ^ p.length) := by rw [Int.natAbs_mul]; exact Nat.mul_le_mul hx ih
  have h2 : M <= M * (K + 1) ^ p.length := Nat.le_mul_of_pos_right _ (Nat.pow_pos (by lia))
  rw [<- Nat.mul_assoc, Nat.mul_add, Nat.mul_one]
  generalize M * (K + 1) ^ p.length = Y at *
  rw [Nat.mul_comm Y K]
  exact nab_add (Nat.le_trans hc h2) h1 (by lia)
theorem nodup_range_int : ∀ n : Nat, ((List.range n).map fun k => ((k : Nat) : Int)).Nodup := fun n => by
 unfold List.Nodup
 rw [List.pairwise_map]
 have := List.nodup_range (n := n)
 unfold List.Nodup at this
 exact this.imp fun h e => h (by lia)
theorem non_roots {p : List Int} {n : Nat} (hp : NmI p) (hl : p.length = n + 1) : ∃ xs : List Int, xs.Nodup /\ n + 1 <= xs.length /\ ∀ x ∈ xs, x.natAbs <= 2 * n /\ vaI p x ≠ 0 := by
 have hp0 : p ≠ [] := fun e => by rw [e] at hl; simp at hl
 have nd := nodup_range_int (2 * n + 1)
 generalize hL : ((List.range (2 * n + 1)).map fun k => ((k : Nat) : Int)) = L at nd
 have hLl : L.length = 2 * n + 1 := by rw [<- hL]; simp
 have hLb : ∀ x ∈ L, x.natAbs <= 2 * n := fun x hx => by
  rw [<- hL] at hx
  obtain ⟨k, hk, rfl⟩ := List.mem_map.mp hx
  have := List.mem_range.mp hk
  lia
 refine ⟨L.filter fun x => vaI p x != 0, nd.sublist List.filter_sublist, ?_, fun x hx => ?_⟩
 ·have hs : (L.filter fun x => vaI p x == 0).length <= n := by
   false_or_by_contra
   rename_i hc
   have nd2 : (L.filter fun x => vaI p x == 0).Nodup := nd.sublist List.filter_sublist
   have := newton (2 * n) p ((L.filter fun x => vaI p x == 0).take (n + 1)) 0 (by rw [List.length_take, hl]; lia) (nd2.sublist (List.take_sublist _ _)) (fun x hx => by
    have hx := List.mem_of_mem_take hx
    obtain ⟨h1, h2⟩ := List.mem_filter.mp hx
    refine ⟨hLb x h1, ?_⟩
    rw [beq_iff_eq] at h2
    rw [h2]; simp) n
   have h2 := leI_ne hp hp0
   rw [leI_ci, hl] at h2
   simp at this
   exact h2 this
  have hsum : (L.filter fun x => vaI p x == 0).length + (L.filter fun x => vaI p x != 0).length = L.length := by
   clear hs nd hLl hLb hL
   induction L with
   | nil => rfl
   | cons a L ih =>
    by_cases h : vaI p a = 0
    ·rw [List.filter_cons_of_pos (by simpa using h), List.filter_cons_of_neg (by simp [h]), List.length_cons, List.length_cons]; lia
    ·rw [List.filter_cons_of_neg (by simpa using h), List.filter_cons_of_pos (by simpa using h), List.length_cons, List.length_cons]; lia
  lia
 ·obtain ⟨h1, h2⟩ := List.mem_filter.mp hx
  exact ⟨hLb x h1, by simpa using h2⟩
def dB (n : Nat) : Nat := (2 * n + 1) ^ (n + 1) * (4 * n + 3) ^ n
theorem div_bd {p f a : List Int} {n M : Nat} (hp : NmI p) (hf : NmI f) (ha : NmI a) (hl : p.length = n + 1) (hb : bdI p M) (h : ip p = mul (ip f) (ip a)) : bdI f (M * dB n) := by
 obtain ⟨xs, nd, hx, hv⟩ := non_roots hp hl
 have hp0 : ip p ≠ [] := fun e => by have := (ip_nil p).mp e; rw [this] at hl; simp at hl
 have hf0 : ip f ≠ [] := fun e => hp0 (by rw [h, e]; rfl)
 have ha0 : ip a ≠ [] := fun e => hp0 (by
  rw [h, e]
  refine ext_nm (nm_mul _ _) nm_nil fun j => ?_
  rw [co_mul, co_nil]
  generalize (ip f).length = m
  induction m with
  | zero => rfl
  | succ m ih => simp only [pm]; rw [ih, co_nil]; split <;> grind)
 have hfl : f.length <= n + 1 := by
  have e := mul_length (nm_ip.mpr hf) (nm_ip.mpr ha) hf0 ha0
  rw [<- h, ip_len, ip_len, ip_len] at e
  have : 0 < a.length := by have := List.length_pos_iff.mpr ha0; rwa [ip_len] at this
  lia
 have hfl1 : 0 < f.length := by have := List.length_pos_iff.mpr hf0; rwa [ip_len] at this
 have k := newton (2 * n) f (xs.take f.length) (M * (2 * n + 1) ^ (n + 1)) (by rw [List.length_take]; lia) (nd.sublist (List.take_sublist _ _)) (fun x hx' => by
  obtain ⟨h1, h2⟩ := hv x (List.mem_of_mem_take hx')
  refine ⟨h1, ?_⟩
  have e := at_ip p x
  rw [h, at_mul, at_ip, at_ip, <- Rat.intCast_mul] at e
  have e := cast_inj e
  have b := vaI_le hb h1
  rw [hl, <- e, Int.natAbs_mul] at b
  have : vaI a x ≠ 0 := fun q => h2 (by rw [<- e, q]; simp)
  have := Nat.le_mul_of_pos_right (vaI f x).natAbs (show 0 < (vaI a x).natAbs by lia)
  lia)
 refine bdI_of fun i => Nat.le_trans (k i) ?_
 unfold dB
 rw [Nat.mul_assoc]
 refine Nat.mul_le_mul_left _ (Nat.mul_le_mul_left _ ?_)
 rw [show 2 * (2 * n) + 3 = 4 * n + 3 by lia]
 exact Nat.pow_le_pow_right (by lia) (by lia)
def efI (q : List Int) (s : Nat) (r : List Int) : Int := (ci r (s + q.length - 1)).fdiv (leI q)
def est (q : List Int) (s : Nat) (r : List Int) : List Int := r.mapIdx fun j c => if s <= j /\ j < s + q.length then c - efI q s r * ci q (j - s) else c
def eqv (q : List Int) : Nat -> List Int -> List Int
 | 0, _ => []
 | n + 1, r => eqv q n (est q n r) ++ [efI q n r]
def exq (p q : List Int) : List Int := eqv q (p.length + 1 - q.length) p
theorem est_len (q : List Int) (s : Nat) (r : List Int) : (est q s r).length = r.length := by unfold est; rw [List.length_mapIdx]
theorem fdiv_cast {x d : Int} (hd : d ≠ 0) {z : Int} (h : ((x : Int) : Rat) / ((d : Int) : Rat) = ((z : Int) : Rat)) : x.fdiv d = z := by
 have hd' : ((d : Int) : Rat) ≠ 0 := fun e => hd (cast_inj (by rw [e]; rfl))
 have : x = d * z := by
  apply cast_inj
  rw [Rat.intCast_mul]; grind
 rw [this, Int.mul_fdiv_cancel_left _ hd]
theorem ip_est {q r : List Int} {s : Nat} (h : ((efI q s r : Int) : Rat) = dvF (ip q) s (ip r)) : ip (est q s r) = dvStep (ip q) s (dvF (ip q) s (ip r)) (ip r) := by
 apply List.ext_getElem?
 intro j
 unfold ip est dvStep
 rw [List.getElem?_map, List.getElem?_mapIdx, List.getElem?_mapIdx, List.getElem?_map, List.length_map]
 cases r[j]? with
 | none => rfl
 | some c =>
  show some _ = some _
  congr 1
  show ((ite _ _ _ : Int) : Rat) = _
  split
  ·rw [Rat.intCast_sub, Rat.intCast_mul, h]
   congr 2
   exact (co_ip q (j - s)).symm
  ·rfl
theorem ip_eqv {q : List Int} (hq : leI q ≠ 0) : ∀ (n : Nat) (r : List Int), (∀ c ∈ (dv (ip q) n (ip r)).1, ∃ z : Int, c = ((z : Int) : Rat)) -> ip (eqv q n r) = (dv (ip q) n (ip r)).1 := by
 intro z0
 induction z0 with
 | zero =>
  intro r _
  exact rfl
 | succ n ih =>
  intro r h
  have hd : (dv (ip q) (n + 1) (ip r)).1 = (dv (ip q) n (dvStep (ip q) n (dvF (ip q) n (ip r)) (ip r))).1 ++ [dvF (ip q) n (ip r)] := rfl
  rw [hd] at h ⊢
  obtain ⟨z, hz⟩ := h (dvF (ip q) n (ip r)) (by simp)
  have e : ((efI q n r : Int) : Rat) = dvF (ip q) n (ip r) := by
   rw [hz]
   congr 1
   unfold efI
   refine fdiv_cast hq ?_
   rw [<- hz]
   unfold dvF
   rw [co_ip, lead_ip, ip_len]
  have ih := ih (est q n r) (fun c hc => h c (by rw [ip_est e] at hc; simp [hc]))
  show ip (eqv q n (est q n r) ++ [efI q n r]) = _
  have : ip (eqv q n (est q n r) ++ [efI q n r]) = ip (eqv q n (est q n r)) ++ [((efI q n r : Int) : Rat)] := by unfold ip; rw [List.map_append]; rfl
  rw [this, ih, ip_est e, e]
theorem exq_is {p q a : List Int} (hp : NmI p) (hq : NmI q) (hq0 : q ≠ []) (e : ip a = (divMod (ip p) (ip q)).1) : exq p q = a := by
 have hq0' : ip q ≠ [] := fun e => hq0 ((ip_nil q).mp e)
 rw [divMod_eq (nm_ip.mpr hp) (nm_ip.mpr hq) hq0'] at e
 have e : ip a = (dv (ip q) (shifts (ip p) (ip q)) (ip p)).1 := e
 unfold shifts at e
 rw [ip_len, ip_len] at e
 apply ip_inj
 unfold exq
 rw [ip_eqv (leI_ne hq hq0) _ _ (fun c hc => by
  rw [<- e] at hc
  unfold ip at hc
  obtain ⟨z, _, rfl⟩ := List.mem_map.mp hc
  exact ⟨z, rfl⟩), e]
def laI (L : List (List Int)) : List Int := L.getLastD []
theorem chF_ne : ∀ f l r g h, chF f l r g h ≠ []
 | 0, _, _, _, _ => by simp [chF]
 | f + 1, _, _, _, _ => by unfold chF; split <;> simp
theorem la_cons {a : List Int} {L : List (List Int)} (h : L ≠ []) : laI (a :: L) = laI L := by
 unfold laI
 rw [List.getLastD_eq_getLast?, List.getLastD_eq_getLast?, List.getLast?_cons]
 cases hL : L.getLast? with
 | none => exact absurd (List.getLast?_eq_none_iff.mp hL) h
 | some x => rfl
theorem nxt_scale {A B : Poly} {P Q : Poly} {g h : Rat} (I : Inv P Q A B g h) : ∃ c : Rat, c < 0 /\ nxt A B g h = scale c (divMod A B).2 := by
 refine ⟨_, ?_, rfl⟩
 have b0 : 0 < size (lead B) ^ (A.length + 1 - B.length) / (g * h ^ (A.length - B.length)) := by
  rw [Rat.div_def]; exact Rat.mul_pos (rpow_pos I.gp _) (Rat.inv_pos.mpr (Rat.mul_pos I.g0 (rpow_pos I.h0 _)))
 grind
theorem chF_last : ∀ (f : Nat) {P Q l r : List Int} {M : Nat} {g h : Int}, r.length <= f -> NmI l -> l ≠ [] -> (r = [] \/ IvI P Q M l r g h) ->
  NmI (laI (chF f l r g h)) /\ laI (chF f l r g h) ≠ [] /\ monic (ip (laI (chF f l r g h))) = gcdOf2 (ip l) (ip r)
 | 0, P, Q, l, r, M, g, h, hf, hl, hl0, hr => by
  have e : r = [] := List.length_eq_zero_iff.mp (by lia)
  subst e
  exact ⟨hl, hl0, rfl⟩
 | f + 1, P, Q, l, r, M, g, h, hf, hl, hl0, hr => by
  by_cases h0 : r = []
  ·subst h0
   have e : chF (f + 1) l [] g h = [l] := by unfold chF; rw [if_pos rfl]
   rw [e]
   exact ⟨hl, hl0, rfl⟩
  ·have I := hr.resolve_left h0
   have e : chF (f + 1) l r g h = l :: chF f r (nxI l r g h) ((leI r).natAbs : Int) (hgI l r h) := by
    conv => lhs; unfold chF
    rw [if_neg h0]
   rw [e, la_cons (chF_ne _ _ _ _ _)]
   have hn := I.nx_len
   have k := chF_last f (P := P) (Q := Q) (M := M) (l := r) (r := nxI l r g h) (g := ((leI r).natAbs : Int)) (h := hgI l r h) (by lia) I.nr h0 (by
    by_cases z : nxI l r g h = []
    ·exact .inl z
    ·exact .inr (I.next z))
   refine ⟨k.1, k.2.1, ?_⟩
   rw [k.2.2, I.ip_nx]
   obtain ⟨c, hc, ec⟩ := nxt_scale I.inv
   rw [ec]
   exact gcdOf2_step I.inv.nA I.inv.nB I.inv.B0 (by grind)
theorem chF_members : ∀ (f : Nat) {P Q l r : List Int} {M : Nat} {g h : Int}, r.length <= f -> NmI l -> l ≠ [] -> bdI l (chB P Q M) -> (r = [] \/ IvI P Q M l r g h) -> ∀ p ∈ chF f l r g h, NmI p /\ p ≠ [] /\ bdI p (chB P Q M) /\ p.length <= max l.length r.length
 | 0, P, Q, l, r, M, g, h, hf, hl, hl0, hb, hr => fun p hp => by
  simp only [chF, List.mem_singleton] at hp
  subst hp
  exact ⟨hl, hl0, hb, Nat.le_max_left _ _⟩
 | f + 1, P, Q, l, r, M, g, h, hf, hl, hl0, hb, hr => fun p hp => by
  by_cases h0 : r = []
  ·unfold chF at hp
   rw [if_pos h0, List.mem_singleton] at hp
   subst hp
   exact ⟨hl, hl0, hb, Nat.le_max_left _ _⟩
  ·have I := hr.resolve_left h0
   have e : chF (f + 1) l r g h = l :: chF f r (nxI l r g h) ((leI r).natAbs : Int) (hgI l r h) := by
    conv => lhs; unfold chF
    rw [if_neg h0]
   rw [e] at hp
   rcases List.mem_cons.mp hp with hp | hp
   ·subst hp
    exact ⟨hl, hl0, hb, Nat.le_max_left _ _⟩
   ·have hn := I.nx_len
    have k := chF_members f (P := P) (Q := Q) (M := M) (l := r) (r := nxI l r g h) (g := ((leI r).natAbs : Int)) (h := hgI l r h) (by lia) I.nr h0 I.br (by
     by_cases z : nxI l r g h = []
     ·exact .inl z
     ·exact .inr (I.next z)) p hp
    exact ⟨k.1, k.2.1, k.2.2.1, by have := k.2.2.2; lia⟩
theorem chF_row : ∀ (f : Nat) {P Q l r : List Int} {M : Nat} {g h : Int}, r.length <= f -> (r = [] \/ IvI P Q M l r g h) -> Bz (ip l) (ip r) ->
  ∃ t, (chF f l r g h).map ip = ip l :: t /\ Row (ip l) t /\ (r = [] -> t = []) /\ (r ≠ [] -> ∃ t', t = ip r :: t')
 | 0, P, Q, l, r, M, g, h, hf, hr, hb => by
  have e : r = [] := List.length_eq_zero_iff.mp (by lia)
  subst e
  refine ⟨[], rfl, .last ?_, fun _ => rfl, fun h => absurd rfl h⟩
  obtain ⟨u, v, h⟩ := hb
  exact ⟨u, fun x => by have := h x; rw [show ip [] = ([] : Poly) from rfl, at_nil] at this; grind⟩
 | f + 1, P, Q, l, r, M, g, h, hf, hr, hb => by
  by_cases h0 : r = []
  ·subst h0
   have e : chF (f + 1) l [] g h = [l] := by unfold chF; rw [if_pos rfl]
   rw [e]
   refine ⟨[], rfl, .last ?_, fun _ => rfl, fun h => absurd rfl h⟩
   obtain ⟨u, v, h⟩ := hb
   exact ⟨u, fun x => by have := h x; rw [show ip [] = ([] : Poly) from rfl, at_nil] at this; grind⟩
  ·have I := hr.resolve_left h0
   have e : chF (f + 1) l r g h = l :: chF f r (nxI l r g h) ((leI r).natAbs : Int) (hgI l r h) := by
    conv => lhs; unfold chF
    rw [if_neg h0]
   obtain ⟨c, hc, ec⟩ := nxt_scale I.inv
   have hrow : ∀ x, at_ (ip l) x = at_ (divMod (ip l) (ip r)).1 x * at_ (ip r) x - (1 / (-c)) * at_ (ip (nxI l r g h)) x := fun x => by
    rw [I.ip_nx, ec, at_scale]
    have := at_divMod (ip l) (ip r) x
    have hc' : -c ≠ 0 := by grind
    grind
   have hk : 0 < 1 / (-c) := by rw [Rat.div_def, Rat.one_mul]; exact Rat.inv_pos.mpr (by grind)
   have hbz : Bz (ip r) (ip (nxI l r g h)) := by
    have hs := hb.step (r := scale (1 / (-c)) (ip (nxI l r g h))) (divMod (ip l) (ip r)).1 (fun x => by rw [at_scale]; exact hrow x)
    exact bz_scale (c := 1) (d := -c) (by decide) (by grind) (fun x => by grind) (fun x => by
     rw [at_scale]
     have hc' : -c ≠ 0 := by grind
     grind) hs
   have hn := I.nx_len
   obtain ⟨t, h1, h2, h3, h4⟩ := chF_row f (P := P) (Q := Q) (M := M) (l := r) (r := nxI l r g h) (g := ((leI r).natAbs : Int)) (h := hgI l r h) (by lia) (by
    by_cases z : nxI l r g h = []
    ·exact .inl z
    ·exact .inr (I.next z)) hbz
   refine ⟨ip r :: t, by rw [e, List.map_cons, h1], .step hb ?_ h2, fun h => absurd h h0, fun _ => ⟨t, rfl⟩⟩
   by_cases hr0 : nxI l r g h = []
   ·rw [h3 hr0]; exact .nil
   ·obtain ⟨t', rfl⟩ := h4 hr0
    exact .cons (divMod (ip l) (ip r)).1 (1 / (-c)) hk hrow
def deI (p : List Int) : List Int := (p.mapIdx fun k a => (k : Int) * a).drop 1
theorem ip_de {p : List Int} (hp : NmI p) : ip (deI p) = slope (ip p) := by
 rw [slope_map (nm_ip.mpr hp)]
 unfold deI ip
 rw [List.map_drop]
 congr 1
 apply List.ext_getElem?
 intro i
 rw [List.getElem?_map, List.getElem?_mapIdx, List.getElem?_mapIdx, List.getElem?_map]
 cases p[i]? with
 | none => rfl
 | some c => show some _ = some _; congr 1; exact Rat.intCast_mul _ _
theorem de_nm {p : List Int} (hp : NmI p) : NmI (deI p) := nm_ip.mp (by rw [ip_de hp]; exact nm_slope' _)
theorem de_len (p : List Int) : (deI p).length = p.length - 1 := by unfold deI; rw [List.length_drop, List.length_mapIdx]
theorem de_bd {p : List Int} {M : Nat} (h : bdI p M) : bdI (deI p) (p.length * M) := fun c hc => by
 obtain ⟨i, hi⟩ := List.getElem?_of_mem (List.mem_of_mem_drop hc)
 rw [List.getElem?_mapIdx] at hi
 cases hp : p[i]? with
 | none => rw [hp] at hi; simp at hi
 | some a =>
  rw [hp] at hi
  have hi : some ((i : Int) * a) = some c := hi
  cases hi
  have hil : i < p.length := (List.getElem?_eq_some_iff.mp hp).1
  rw [Int.natAbs_mul]
  exact Nat.mul_le_mul (by lia) (h a (List.mem_of_getElem? hp))
def wgI (p q : List Int) : List Int := primI (laI (chI p q))
theorem chI_last {p q : List Int} (hp : NmI p) (hp0 : p ≠ []) (hq : NmI q) (hl : q.length <= p.length) : NmI (laI (chI p q)) /\ laI (chI p q) ≠ [] /\ monic (ip (laI (chI p q))) = gcd (ip p) (ip q) := by
 rw [gcd_eq (nm_ip.mpr hp) (nm_ip.mpr hq)]
 obtain ⟨M, M1, bP, bQ⟩ : ∃ M, 1 <= M /\ bdI p M /\ bdI q M := by
  have bex : ∀ l : List Int, ∃ M, bdI l M := fun l => by
   induction l with
   | nil => exact ⟨0, by simp [bdI]⟩
   | cons a l ih =>
    obtain ⟨M, h⟩ := ih
    refine ⟨max a.natAbs M, fun c hc => ?_⟩
    rcases List.mem_cons.mp hc with e | e
    ·subst e; exact Nat.le_max_left _ _
    ·exact Nat.le_trans (h c e) (Nat.le_max_right _ _)
  obtain ⟨a, ha⟩ := bex p
  obtain ⟨b, hb⟩ := bex q
  exact ⟨a + b + 1, by lia, fun c hc => by have := ha c hc; lia, fun c hc => by have := hb c hc; lia⟩
 unfold chI
 refine chF_last (P := p) (Q := q) (M := M) _ (by lia) hp hp0 ?_
 by_cases h0 : q = []
 ·exact .inl h0
 ·exact .inr (.start hp hq h0 hl bP bQ M1)
theorem ip_wg {p q : List Int} (hp : NmI p) (hp0 : p ≠ []) (hq : NmI q) (hl : q.length <= p.length) : PrI (wgI p q) /\ ip (wgI p q) = part (gcd (ip p) (ip q)) := by
 obtain ⟨h1, h2, h3⟩ := chI_last hp hp0 hq hl
 refine ⟨pri_ip h1 h2, ?_⟩
 unfold wgI
 rw [ip_prim h1 h2, <- h3, part_monic (nm_ip.mpr h1) (fun e => h2 ((ip_nil _).mp e))]
def sfI (p : List Int) : List Int := exq (primI p) (wgI (primI p) (deI (primI p)))
theorem dv_scale {g p : Poly} {c d : Rat} (hc : c ≠ 0) (h : Dv g p) : Dv (scale c g) (scale d p) := by
 obtain ⟨a, e⟩ := h
 exact ⟨scale (d / c) a, fun x => by rw [at_scale, at_scale, at_scale, e x]; grind⟩
theorem gcd_scale {p q : Poly} (hp : Nm p) (hq : Nm q) {c d : Rat} (hc : c ≠ 0) (hd : d ≠ 0) : gcd (scale c p) (scale d q) = gcd p q := by
 unfold gcd
 rw [scale_len hc hp, scale_len hd hq]
 exact gcdFrom_scale _ p q c d hp hq hc hd
theorem slope_scale {p : Poly} (c : Rat) (hp : Nm p) : slope (scale c p) = scale c (slope p) :=
 ext_at (nm_slope' _) (nm_scale _ _) fun x => by
  rw [at_scale]
  exact der_scale c p x
structure SfI (p s g : List Int) : Prop where
 prs : PrI s
 prg : PrI g
 sf : ip s = squareFree (ip p)
 mul : ip (primI p) = mul (ip s) (ip g)
theorem sfI_is {p : List Int} (hp : NmI p) (hp0 : p ≠ []) : SfI p (sfI p) (wgI (primI p) (deI (primI p))) := by
 have hb := pri_ip hp hp0
 have eb := ip_prim hp hp0
 have hpn := nm_ip.mpr hp
 have hp0' : ip p ≠ [] := fun e => hp0 ((ip_nil p).mp e)
 obtain ⟨hg, eg⟩ := ip_wg hb.nm hb.ne (de_nm hb.nm) (by rw [de_len]; lia)
 rw [ip_de hb.nm] at eg
 unfold sfI
 generalize wgI (primI p) (deI (primI p)) = g at hg eg
 obtain ⟨c, hc, ec⟩ := part_scale hpn hp0'
 have e1 : gcd (ip (primI p)) (slope (ip (primI p))) = gcd (ip p) (slope (ip p)) := by
  rw [eb, ec, slope_scale c hpn, gcd_scale hpn (nm_slope' _) hc hc]
 rw [e1] at eg
 have hgn : Nm (gcd (ip p) (slope (ip p))) := nm_gcd hpn (nm_slope' _)
 have hg0 : gcd (ip p) (slope (ip p)) ≠ [] := gcd_ne hpn (nm_slope' _) hp0'
 obtain ⟨d, hd, ed⟩ := part_scale hgn hg0
 have hdv : Dv (ip g) (ip (primI p)) := by
  rw [eg, ed, eb, ec]
  exact dv_scale hd (gcd_dv' hpn (nm_slope' _)).1
 obtain ⟨a, ha, ea, em⟩ := whole_quot hb.nm hg hdv
 have ex := exq_is hb.nm hg.nm hg.ne ea
 rw [ex]
 have hlead : leI (primI p) = leI a * leI g := by
  apply cast_inj
  rw [<- lead_ip, em, Rat.intCast_mul, <- lead_ip, <- lead_ip]
  have ha0 : ip a ≠ [] := fun e => by
   have : ip (primI p) = [] := by rw [em, e]; rfl
   exact hb.ne ((ip_nil _).mp this)
  have hg0' : ip g ≠ [] := fun e => hg.ne ((ip_nil _).mp e)
  have hl := mul_length (nm_ip.mpr ha) (nm_ip.mpr hg.nm) ha0 hg0'
  rw [lead_co (mul (ip a) (ip g)), co_mul, show (mul (ip a) (ip g)).length - 1 = (ip a).length + (ip g).length - 2 by lia]
  exact pm_last ha0 hg0'
 have hpa : PrI a := by
  have ha0 : a ≠ [] := fun e => by
   have : ip (primI p) = [] := by rw [em, e]; rfl
   exact hb.ne ((ip_nil _).mp this)
  refine ⟨ha, ha0, ?_, ?_⟩
  ·have : gcI a ∣ gcI (primI p) := dvd_gcI _ fun x hx => by
    obtain ⟨i, hi⟩ := List.getElem?_of_mem hx
    have e2 := co_ip (primI p) i
    rw [em, co_mul, pm_ip, ci_of_get hi] at e2
    have e2 := cast_inj e2
    rw [<- e2]
    generalize (ip a).length = m
    refine Int.ofNat_dvd_left.mp ?_
    induction m with
    | zero => simp [pmI]
    | succ m ih =>
     simp only [pmI]
     refine Int.dvd_add ih ?_
     split
     ·refine Int.dvd_mul_of_dvd_left ?_
      by_cases hm : m < a.length
      ·exact Int.ofNat_dvd_left.mpr (gcI_dvd a _ (List.mem_of_getElem? (ci_lt hm)))
      ·rw [ci_of_ge (by lia)]; exact Int.dvd_zero _
     ·exact Int.dvd_zero _
   rw [hb.gc] at this
   exact Nat.dvd_one.mp this
  ·have h1 := hb.pos
   have h2 := hg.pos
   rw [hlead] at h1
   false_or_by_contra
   rename_i hc
   have : leI a * leI g <= 0 := Int.mul_nonpos_of_nonpos_of_nonneg (by lia) (by lia)
   lia
 refine ⟨hpa, hg, ?_, em⟩
 unfold squareFree
 have hsqn : Nm (sq (ip p)) := nm_sq hpn hp0'
 have hsq0 := sq_ne hpn hp0'
 have := PrI.unique hpa (pri_wp hsqn hsq0) (c := c / d * ct (sq (ip p))) fun i => by
  have e3 : ip a = scale (c / d) (sq (ip p)) := ext_at (nm_ip.mpr ha) (nm_scale _ _) fun x => by
   refine at_cancel (h := gcd (ip p) (slope (ip p))) (ne_at hgn hg0) (a := ip a) (b := scale (c / d) (sq (ip p))) (fun y => ?_) x
   have f1 : at_ (ip (primI p)) y = at_ (ip a) y * at_ (ip g) y := by rw [em, at_mul]
   rw [eb, ec, eg, ed, at_scale, at_scale, sq_at hpn hp0' y] at f1
   rw [at_scale]
   grind
  rw [e3, co_scale, ip_wp hsqn hsq0, part_eq hsqn hsq0]
  have hct := ct_ne hsqn hsq0
  by_cases hi : i < (sq (ip p)).length
  ·rw [co_of_get (p := (sq (ip p)).map fun c => c / ct (sq (ip p))) (c := co (sq (ip p)) i / ct (sq (ip p))) (by rw [List.getElem?_map, co_lt hi]; rfl)]
   grind
  ·rw [co_of_ge (by lia), co_of_ge (p := (sq (ip p)).map fun c => c / ct (sq (ip p))) (by rw [List.length_map]; lia)]; grind
 rw [this, ip_wp hsqn hsq0]
 rfl
theorem sq_scale {p : Poly} (hp : Nm p) (h0 : p ≠ []) {c : Rat} (hc : c ≠ 0) : sq (scale c p) = scale c (sq p) := by
 have hn := nm_scale c p
 have hn0 : scale c p ≠ [] := fun e => h0 ((scale_nil_iff hc hp).mp e)
 have eg : gcd (scale c p) (slope (scale c p)) = gcd p (slope p) := by
  rw [slope_scale c hp, gcd_scale hp (nm_slope' _) hc hc]
 have hgn := nm_gcd hp (nm_slope' p)
 have hg0 := gcd_ne hp (nm_slope' p) h0
 refine ext_at (nm_sq hn hn0) (nm_scale _ _) fun x => ?_
 refine at_cancel (h := gcd p (slope p)) (ne_at hgn hg0) (a := sq (scale c p)) (b := scale c (sq p)) (fun y => ?_) x
 have e1 := sq_at hn hn0 y
 have e2 := sq_at hp h0 y
 rw [eg, at_scale] at e1
 rw [at_scale]; grind
theorem squareFree_scale {p : Poly} (hp : Nm p) (h0 : p ≠ []) {c : Rat} (hc : c ≠ 0) : squareFree (scale c p) = squareFree p := by
 rw [squareFree_eq, squareFree_eq, sq_scale hp h0 hc, part_sc (nm_sq hp h0) (sq_ne hp h0) hc]
theorem squareFree_part {p : Poly} (hp : Nm p) (h0 : p ≠ []) : squareFree (part p) = squareFree p := by
 obtain ⟨c, hc, e⟩ := part_scale hp h0
 rw [e, squareFree_scale hp h0 hc]
theorem sf_wp {p : Poly} (hp : Nm p) (h0 : p ≠ []) : ip (sfI (wp p)) = squareFree p := by
 rw [(sfI_is (pri_wp hp h0).nm (pri_wp hp h0).ne).sf, ip_wp hp h0, squareFree_part hp h0]
theorem wp_len {p : Poly} (hp : Nm p) (h0 : p ≠ []) : (wp p).length = p.length := by rw [<- ip_len, ip_wp hp h0, part_len hp h0]
def btI (l : List Int) (s : Nat) : Prop := ∀ c ∈ l, c.natAbs < 2 ^ s
theorem btI_bd {l : List Int} {s : Nat} (h : btI l s) : bdI l (2 ^ s - 1) := fun c hc => by have := h c hc; lia
theorem btI_of {l : List Int} {s M : Nat} (h : bdI l M) (hM : M < 2 ^ s) : btI l s := fun c hc => by have := h c hc; lia
theorem btI.mono {l : List Int} {s t : Nat} (h : btI l s) (hs : s <= t) : btI l t := fun c hc => Nat.lt_of_lt_of_le (h c hc) (Nat.pow_le_pow_right (by decide) hs)
theorem btI.ci {l : List Int} {s : Nat} (h : btI l s) (i : Nat) : (ci l i).natAbs < 2 ^ s := by
 have := bdI_ci (btI_bd h) i
 have : 0 < 2 ^ s := Nat.pow_pos (by decide)
 lia
theorem btI_wp {p : Poly} {a d : Nat} (hp : Nm p) (h0 : p ≠ []) (h : IF p a d) : btI (wp p) a := fun c hc => by
 have k := h.part hp h0
 unfold wp at hc
 obtain ⟨x, hx, rfl⟩ := List.mem_map.mp hc
 obtain ⟨i, hi⟩ := List.getElem?_of_mem hx
 obtain ⟨D, D1, D2, D3⟩ := k
 have hD : D = 1 := by lia
 subst hD
 obtain ⟨z, z1, z2⟩ := D3 i
 rw [co_of_get hi] at z2
 have : x = ((z : Int) : Rat) := by
  have e1 : ((1 : Nat) : Rat) = 1 := rfl
  rw [e1] at z2; grind
 rw [this]; exact z1
theorem chB_bits {p q : List Int} {s e : Nat} (he : p.length + q.length <= 2 ^ e) : chB p q (2 ^ s) <= 2 ^ ((e + s) * (p.length + q.length)) := by
 unfold chB
 have h1 : (p.length + q.length) * 2 ^ s <= 2 ^ (e + s) := by rw [Nat.pow_add]; exact Nat.mul_le_mul_right _ he
 calc _ <= (2 ^ (e + s)) ^ (p.length + q.length) := Nat.pow_le_pow_left h1 _
  _ = _ := (Nat.pow_mul ..).symm
theorem prim_bd {p : List Int} {M : Nat} (hp : NmI p) (hp0 : p ≠ []) (h : bdI p M) : bdI (primI p) M := fun c hc => by
 unfold primI at hc
 obtain ⟨a, ha, rfl⟩ := List.mem_map.mp hc
 have h1 := h a ha
 obtain ⟨k, rfl⟩ := sg_dvd ha
 rw [Int.mul_fdiv_cancel_left _ (sg_ne hp hp0)]
 rw [Int.natAbs_mul] at h1
 have : 0 < (sgI p).natAbs := by have := sg_ne hp hp0; lia
 exact Nat.le_trans (Nat.le_mul_of_pos_left _ this) h1
theorem prim_len (p : List Int) : (primI p).length = p.length := by unfold primI; rw [List.length_map]
theorem dB_16 : ∀ n, n <= 16 -> dB n < 2 ^ 200 := by decide +kernel
theorem sfI_bits {p : List Int} {s : Nat} (hp : NmI p) (hp0 : p ≠ []) (hl : p.length <= 17) (h : btI p s) : btI (sfI p) (s + 200) /\ btI (wgI (primI p) (deI (primI p))) (s + 200) := by
 have k := sfI_is hp hp0
 have hb := prim_bd hp hp0 (btI_bd h)
 have hl1 : (primI p).length = (p.length - 1) + 1 := by rw [prim_len]; have := List.length_pos_iff.mpr hp0; lia
 have hd := dB_16 (p.length - 1) (by lia)
 have h2 : 0 < 2 ^ s := Nat.pow_pos (by decide)
 have hm : (2 ^ s - 1) * dB (p.length - 1) < 2 ^ (s + 200) := by
  rw [Nat.pow_add]
  calc _ <= 2 ^ s * dB (p.length - 1) := Nat.mul_le_mul_right _ (by lia)
   _ < 2 ^ s * 2 ^ 200 := Nat.mul_lt_mul_of_pos_left hd h2
 have hpr := (pri_ip hp hp0).nm
 refine ⟨btI_of (div_bd hpr k.prs.nm k.prg.nm hl1 hb k.mul) hm, btI_of (div_bd hpr k.prg.nm k.prs.nm hl1 hb ?_) hm⟩
 rw [k.mul]
 exact ext_at (nm_mul _ _) (nm_mul _ _) fun x => by rw [at_mul, at_mul]; grind
theorem bdI_ex (l : List Int) : ∃ M, bdI l M := by
 induction l with
 | nil => exact ⟨0, by simp [bdI]⟩
 | cons a l ih =>
  obtain ⟨M, h⟩ := ih
  refine ⟨max a.natAbs M, fun c hc => ?_⟩
  rcases List.mem_cons.mp hc with e | e
  ·subst e; exact Nat.le_max_left _ _
  ·exact Nat.le_trans (h c e) (Nat.le_max_right _ _)
theorem chI_member {p q c : List Int} (hp : NmI p) (hp0 : p ≠ []) (hq : NmI q) (hl : q.length <= p.length) (hc : c ∈ chI p q) : NmI c /\ c ≠ [] /\ c.length <= p.length := by
 obtain ⟨a, ha⟩ := bdI_ex p
 obtain ⟨b, hb⟩ := bdI_ex q
 have bP : bdI p (a + b + 1) := fun c hc => by have := ha c hc; lia
 have bQ : bdI q (a + b + 1) := fun c hc => by have := hb c hc; lia
 have k := chF_members (P := p) (Q := q) (M := a + b + 1) (q.length + 1) (l := p) (r := q) (g := 1) (h := 1) (by lia) hp hp0 (fun c hc => Nat.le_trans (bP c hc) (chB_ge (by lia) (List.length_pos_iff.mpr hp0))) (by
  by_cases h0 : q = []
  ·exact .inl h0
  ·exact .inr (.start hp hq h0 hl bP bQ (by lia))) c hc
 exact ⟨k.1, k.2.1, by have := k.2.2.2; lia⟩
theorem sqf_len {p : Poly} (hp : Nm p) (h0 : p ≠ []) : (squareFree p).length <= p.length := by
 have k := sfI_is (pri_wp hp h0).nm (pri_wp hp h0).ne
 have l := mul_length (nm_ip.mpr k.prs.nm) (nm_ip.mpr k.prg.nm) (fun q => k.prs.ne ((ip_nil _).mp q)) (fun q => k.prg.ne ((ip_nil _).mp q))
 rw [<- k.mul, ip_len, ip_len, ip_len, prim_len, wp_len hp h0] at l
 have := List.length_pos_iff.mpr k.prg.ne
 rw [<- sf_wp hp h0, ip_len]
 lia
theorem monic_monic {p : Poly} (hp : Nm p) (h0 : p ≠ []) : monic (monic p) = monic p := by
 conv => lhs; rw [monic_of h0]
 exact monic_scale (inv_ne (lead_ne hp h0)) hp
theorem monic_part_gcd {p q : Poly} (hp : Nm p) (hq : Nm q) (h0 : p ≠ []) : monic (part (gcd p q)) = gcd p q := by
 have hn := nm_gcd hp hq
 have hn0 := gcd_ne hp hq h0
 obtain ⟨c, hc, e⟩ := part_scale hn hn0
 rw [e, monic_scale hc hn]
 unfold gcd
 generalize hX : gcdFrom (p.length + q.length + 2) p q = X
 have hXn : Nm X := by rw [<- hX]; exact nm_gcdFrom _ _ _ hp hq
 have hX0 : X ≠ [] := fun e2 => hn0 (by unfold gcd; rw [hX, e2]; rfl)
 exact monic_monic hXn hX0
theorem ne_of_len {p : Poly} (h : 1 <= p.length) : p ≠ [] := fun e => by rw [e] at h; simp at h
def si (x : Int) : Int := if x = 0 then 0 else if 0 < x then 1 else -1
def sr (x : Rat) : Int := if x = 0 then 0 else if 0 < x then 1 else -1
theorem sr_int (z : Int) : sr ((z : Int) : Rat) = si z := by
 unfold sr si
 by_cases h : z = 0
 ·rw [if_pos (by rw [h]; rfl), if_pos h]
 ·rw [if_neg (fun e => h (cast_inj (by rw [e]; rfl))), if_neg h]
  by_cases h2 : 0 < z
  ·rw [if_pos (by exact_mod_cast Rat.intCast_lt_intCast.mpr h2), if_pos h2]
  ·rw [if_neg (fun e => h2 (Rat.intCast_lt_intCast.mp (by exact_mod_cast e))), if_neg h2]
theorem sr_mul {c : Rat} (hc : 0 < c) (x : Rat) : sr (c * x) = sr x := by
  unfold sr
  by_cases h : x = 0
  · rw [if_pos (by rw [h]; grind), if_pos h]
  · rw [if_neg (fun e => h (by rcases Rat.mul_eq_zero.mp e with z | z
                               · grind
                               · exact z)), if_neg h]
    by_cases h2 : 0 < x
    · rw [if_pos (Rat.mul_pos hc h2), if_pos h2]
    · rw [if_neg (fun e => h2 (by
        rcases rat_tri 0 x with z | z | z
        · exact z
        · exact absurd z.symm h
        · have := pos_mul_neg hc z
          grind)), if_neg h2]
def seen (l : List Int) : List Int := l.filter fun s => s != 0
def cgI : List Int -> Nat
 | a :: b :: r => (if a ≠ b then 1 else 0) + cgI (b :: r)
 | _ => 0
def chS (l : List Int) : Nat := cgI (seen l)
theorem sr_ne {x : Rat} (h : x ≠ 0) : sr x = 1 /\ 0 < x \/ sr x = -1 /\ x < 0 := by
 unfold sr
 rw [if_neg h]
 by_cases h2 : 0 < x
 ·left; rw [if_pos h2]; exact ⟨rfl, h2⟩
 ·right; rw [if_neg h2]; exact ⟨rfl, by grind⟩
theorem cgI_sr : ∀ l : List Rat, (∀ x ∈ l, x ≠ 0) -> cgI (l.map sr) = changes l
 | [], _ => rfl
 | [_], _ => rfl
 | a :: b :: r, h => by
  have ih := cgI_sr (b :: r) fun x hx => h x (List.mem_cons_of_mem _ hx)
  have ha := sr_ne (h a (by simp))
  have hb := sr_ne (h b (by simp))
  simp only [List.map_cons] at ih ⊢
  unfold cgI changes
  rw [ih]
  congr 1
  rcases ha with ⟨e1, h1⟩ | ⟨e1, h1⟩ <;> rcases hb with ⟨e2, h2⟩ | ⟨e2, h2⟩ <;> rw [e1, e2]
  ·rw [if_neg (by simp), if_neg (by have := Rat.mul_pos h1 h2; grind)]
  ·rw [if_pos (by decide), if_pos (pos_mul_neg h1 h2)]
  ·rw [if_pos (by decide), if_pos (by have := pos_mul_neg h2 h1; grind)]
  ·rw [if_neg (by simp), if_neg (by have := neg_mul_neg' h1 h2; grind)]
theorem seen_sr (l : List Rat) : seen (l.map sr) = (l.filter fun v => v != 0).map sr := by
 unfold seen
 rw [List.filter_map]
 congr 1
 apply List.filter_congr
 intro x _
 show (sr x != 0) = (x != 0)
 by_cases h : x = 0
 ·subst h; rfl
 ·rcases sr_ne h with ⟨e, _⟩ | ⟨e, _⟩
  ·rw [e]; simp [h]
  ·rw [e]; simp [h]
theorem chS_sr (l : List Rat) : chS (l.map sr) = ch l := by
 unfold chS
 rw [seen_sr, cgI_sr _ (fun x hx => by simpa using (List.mem_filter.mp hx).2)]
 rfl
theorem chS_at (L : List (List Int)) (x : Rat) : chS (L.map fun p => sr (at_ (ip p) x)) = changesAt (L.map ip) x := by
 have : (L.map fun p => sr (at_ (ip p) x)) = (L.map fun p => at_ (ip p) x).map sr := by rw [List.map_map]; rfl
 rw [this, chS_sr, changesAt_eq, List.map_map]
 rfl
def fbI (p : List Int) : Int := if p.length % 2 = 1 then si (leI p) else -si (leI p)
def farC (L : List (List Int)) : Nat := chS (L.map fbI)
def stC (p : List Int) : List (List Int) := chI p (deI p)
theorem stC_sturm {p : List Int} (hp : NmI p) (hp0 : p ≠ []) (hs : SF (ip p)) : Sturm (ip p) ((stC p).map ip) := by
 obtain ⟨a, ha⟩ := bdI_ex p
 obtain ⟨b, hb⟩ := bdI_ex (deI p)
 have bP : bdI p (a + b + 1) := fun c hc => by have := ha c hc; lia
 have bQ : bdI (deI p) (a + b + 1) := fun c hc => by have := hb c hc; lia
 have hl : (deI p).length <= p.length := by rw [de_len]; lia
 obtain ⟨t, h1, h2, h3, h4⟩ := chF_row (P := p) (Q := deI p) (M := a + b + 1) ((deI p).length + 1) (l := p) (r := deI p) (g := 1) (h := 1) (by lia) (by
  by_cases h0 : deI p = []
  ·exact .inl h0
  ·exact .inr (.start hp (de_nm hp) h0 hl bP bQ (by lia))) (by rw [ip_de hp]; exact hs.2.2)
 have h1 : (stC p).map ip = ip p :: t := h1
 rw [h1]
 by_cases hd : deI p = []
 ·have ht := h3 hd
  subst ht
  exact ⟨.inr ⟨rfl, h2⟩⟩
 ·obtain ⟨t', rfl⟩ := h4 hd
  exact ⟨.inl ⟨ip (deI p), t', 1, rfl, by decide, fun x => by rw [ip_de hp]; show _ = 1 * at_ (slope (ip p)) x; grind, h2⟩⟩
def chO (p : Poly) : List (List Int) := stC (sfI (wp p))
def hvI (t b : Int) : List Int -> Int
 | [] => 0
 | c :: s => hvI t b s * t + c * b ^ s.length
theorem hvI_at (t b : Int) (hb : b ≠ 0) : ∀ p : List Int, ((hvI t b p : Int) : Rat) * ((b : Int) : Rat) = at_ (ip p) (((t : Int) : Rat) / ((b : Int) : Rat)) * ((b : Int) : Rat) ^ p.length := by
 intro z0
 induction z0 with
 | nil =>
  simp only [hvI]; show ((0 : Int) : Rat) * _ = at_ [] _ * _; rw [at_nil]; have : ((0 : Int) : Rat) = 0 := rfl; rw [this]; grind
 | cons c s ih =>
  have ih := ih
  have h0 : ((b : Int) : Rat) ≠ 0 := fun e => hb (cast_inj (by rw [e]; rfl))
  show ((hvI t b s * t + c * b ^ s.length : Int) : Rat) * _ = at_ (((c : Int) : Rat) :: ip s) _ * _
  rw [at_cons, Rat.intCast_add, Rat.intCast_mul, Rat.intCast_mul, cast_pow, List.length_cons, Rat.pow_succ]
  generalize ((b : Int) : Rat) ^ s.length = B at *
  have : (((hvI t b s : Int) : Rat) * ((t : Int) : Rat) + ((c : Int) : Rat) * B) * ((b : Int) : Rat) = (((hvI t b s : Int) : Rat) * ((b : Int) : Rat)) * ((t : Int) : Rat) + ((c : Int) : Rat) * B * ((b : Int) : Rat) := by grind
  rw [this, ih]; grind
theorem hvI_sign {t b : Int} (hb : 0 < b) (p : List Int) : si (hvI t b p) = sr (at_ (ip p) (((t : Int) : Rat) / ((b : Int) : Rat))) := by
 have hb' : (0 : Rat) < ((b : Int) : Rat) := by exact_mod_cast Rat.intCast_lt_intCast.mpr hb
 have e := hvI_at t b (by lia) p
 rw [<- sr_int, <- sr_mul hb', Rat.mul_comm, e, Rat.mul_comm, sr_mul (rpow_pos hb' _)]
theorem hvI_bits {t b : Int} {m s : Nat} (ht : t.natAbs < 2 ^ m) (hb : b.natAbs < 2 ^ m) : ∀ {p : List Int}, btI p s -> (hvI t b p).natAbs < 2 ^ (s + (m + 1) * p.length)
 | [], _ => by simp only [hvI, Int.natAbs_zero]; exact Nat.pow_pos (by decide)
 | c :: p, h => by
  have ih := hvI_bits ht hb (p := p) fun x hx => h x (List.mem_cons_of_mem _ hx)
  have hc := h c (by simp)
  have hm : 0 < 2 ^ m := Nat.pow_pos (by decide)
  simp only [hvI, List.length_cons]
  have e1 : (hvI t b p * t).natAbs <= 2 ^ (s + (m + 1) * p.length) * 2 ^ m := by
   rw [Int.natAbs_mul]; exact Nat.mul_le_mul (by lia) (by lia)
  have e2 : (c * b ^ p.length).natAbs < 2 ^ (s + (m + 1) * p.length) * 2 ^ m := by
   rw [Int.natAbs_mul, Int.natAbs_pow]
   have q1 : b.natAbs ^ p.length <= 2 ^ (m * p.length) := by
    calc _ <= (2 ^ m) ^ p.length := Nat.pow_le_pow_left (by lia) _
     _ = _ := (Nat.pow_mul ..).symm
   have q2 : c.natAbs * b.natAbs ^ p.length < 2 ^ s * 2 ^ (m * p.length) := by
    have hpp : 0 < 2 ^ (m * p.length) := Nat.pow_pos (by decide)
    calc _ <= c.natAbs * 2 ^ (m * p.length) := Nat.mul_le_mul_left _ q1
     _ < _ := Nat.mul_lt_mul_of_pos_right hc hpp
   refine Nat.lt_of_lt_of_le q2 ?_
   rw [<- Nat.pow_add, <- Nat.pow_add]
   refine Nat.pow_le_pow_right (by decide) ?_
   have : (m + 1) * p.length = m * p.length + p.length := Nat.succ_mul _ _
   lia
  have e3 : 2 ^ (s + (m + 1) * (p.length + 1)) = 2 * (2 ^ (s + (m + 1) * p.length) * 2 ^ m) := by
   rw [Nat.mul_succ, <- Nat.add_assoc, Nat.pow_add, Nat.pow_succ, <- Nat.mul_assoc, Nat.mul_comm 2]
  rw [e3]
  generalize 2 ^ (s + (m + 1) * p.length) * 2 ^ m = Y at *
  omega
theorem dv_cop {F R g s : Poly} (e : ∀ x, at_ R x = at_ g x * at_ s x) (hF : Dv F R) (hb : Bz F s) : Dv F g := by
 obtain ⟨a, ha⟩ := hF
 obtain ⟨u, v, h⟩ := hb
 refine ⟨add (mul g u) (mul v a), fun x => ?_⟩
 rw [at_add, at_mul, at_mul]
 have h1 := h x
 have h2 := ha x
 rw [e x] at h2
 have : at_ g x = at_ g x * (at_ u x * at_ F x + at_ v x * at_ s x) := by rw [h1]; grind
 grind
theorem bz_mul {f F s : Poly} (h1 : Bz f s) (h2 : Bz F s) : Bz (mul f F) s := by
 obtain ⟨u, v, e⟩ := h1
 obtain ⟨u', v', e'⟩ := h2
 refine ⟨mul u u', add (add (mul (mul u v') f) (mul (mul v u') F)) (mul (mul v v') s), fun x => ?_⟩
 simp only [at_add, at_mul]
 have a := e x
 have b := e' x
 have : (at_ u x * at_ f x + at_ v x * at_ s x) * (at_ u' x * at_ F x + at_ v' x * at_ s x) = 1 := by rw [a, b]; grind
 grind
theorem bz_pw {f s : Poly} (h : Bz f s) : ∀ k, Bz (pw f k) s := by
 intro z0
 induction z0 with
 | zero =>
  exact ⟨[1], [], fun x => by rw [pw, at_cons, at_nil]; grind⟩
 | succ k ih =>
  exact bz_mul h (ih)
theorem dv_trans {a b c : Poly} (h1 : Dv a b) (h2 : Dv b c) : Dv a c := by
 obtain ⟨x, e1⟩ := h1
 obtain ⟨y, e2⟩ := h2
 exact ⟨mul y x, fun t => by rw [at_mul, e2, e1]; grind⟩
theorem dvd_len {a b : Poly} (ha : Nm a) (hb : Nm b) (hb0 : b ≠ []) (h : Dv a b) : a ≠ [] /\ a.length <= b.length := by
 obtain ⟨c, e⟩ := h
 have ha0 : a ≠ [] := fun z => by
  obtain ⟨x, hx⟩ := ne_at hb hb0
  exact hx (by rw [e x, z, at_nil]; grind)
 have eb : b = mul (norm c) a := ext_at hb (nm_mul _ _) fun x => by rw [at_mul, at_norm, e]
 have hc0 : norm c ≠ [] := fun z => hb0 (by rw [eb, z]; rfl)
 have := mul_length (nm_norm c) ha hc0 ha0
 rw [<- eb] at this
 have := List.length_pos_iff.mpr hc0
 exact ⟨ha0, by lia⟩
theorem rad {R f : Poly} (hR : Nm R) (hR0 : R ≠ []) (hf : Nm f) (hs : Bz f (slope f)) (hd : Dv f R) (hb : Bz f (sq R)) : f.length < 2 := by
 false_or_by_contra
 rename_i hc
 have h2 : 2 <= f.length := by lia
 have hf0 : f ≠ [] := ne_of_len (by lia)
 have e0 := sq_at hR hR0
 have H : ∀ k : Nat, ∃ G : Poly, ∀ x, at_ R x = at_ (pw f k) x * at_ G x := by
  intro k
  induction k with
  | zero => exact ⟨R, fun x => by rw [pw, at_cons, at_nil]; grind⟩
  | succ k ih =>
   cases k with
   | zero =>
    obtain ⟨a, ha⟩ := hd
    exact ⟨a, fun x => by rw [pw, pw, at_mul, at_cons, at_nil, ha x]; grind⟩
   | succ k =>
    obtain ⟨G, hG⟩ := ih
    have hg : Dv (pw f (k + 1)) (gcd R (slope R)) := dv_cop (R := R) (s := sq R) (fun x => by rw [e0 x]; grind) ⟨G, fun x => by rw [hG x]; grind⟩ (bz_pw hb _)
    obtain ⟨W, hW⟩ := dv_trans hg (gcd_dv' hR (nm_slope' R)).2.1
    have dR : ∀ x, der R x = der (pw f (k + 1)) x * at_ G x + at_ (pw f (k + 1)) x * der G x := fun x => by
     rw [<- der_mul]; exact der_ext (fun y => by rw [at_mul, hG]) x
    have hpk : ∃ x, at_ (pw f (k + 1)) x ≠ 0 := ne_at (nm_pw f _) (pw_len hf h2 _).1
    have hk0 : ((k + 1 : Nat) : Rat) ≠ 0 := by
     intro z
     have : (((k + 1 : Nat) : Int) : Rat) = ((0 : Int) : Rat) := z
     have := cast_inj this
     lia
    have key : ∀ x, at_ (scale ((k + 1 : Nat) : Rat) (mul (slope f) G)) x = at_ (mul f (sub W (slope G))) x := by
     refine at_cancel hpk fun x => ?_
     rw [at_scale, at_mul, at_mul, at_sub]
     have f1 := hW x
     have f2 := dR x
     have f3 := der_pw f x (k + 1)
     have f4 : der R x = at_ W x * at_ (pw f (k + 1)) x := f1
     have f5 : at_ (slope f) x = der f x := rfl
     have f6 : at_ (slope G) x = der G x := rfl
     rw [f5, f6]
     rw [f4] at f2
     generalize at_ (pw f (k + 1)) x = P at *
     generalize der (pw f (k + 1)) x = dP at *
     have : at_ f x * (at_ W x * P) = at_ f x * (dP * at_ G x + P * der G x) := by rw [f2]
     grind
    obtain ⟨u, v, huv⟩ := hs
    refine ⟨add (mul u G) (scale (1 / ((k + 1 : Nat) : Rat)) (mul v (sub W (slope G)))), fun x => ?_⟩
    have g1 := key x
    rw [at_scale, at_mul, at_mul] at g1
    rw [pw, at_mul, at_add, at_mul, at_scale, at_mul, hG x]
    have g2 := huv x
    have g3 : at_ G x = at_ f x * (at_ u x * at_ G x + 1 / ((k + 1 : Nat) : Rat) * (at_ v x * at_ (sub W (slope G)) x)) := by
     have a1 : at_ G x = (at_ u x * at_ f x + at_ v x * at_ (slope f) x) * at_ G x := by rw [g2]; grind
     have a2 : at_ (slope f) x * at_ G x = 1 / ((k + 1 : Nat) : Rat) * (at_ f x * at_ (sub W (slope G)) x) := by
      rw [<- g1]
      generalize ((k + 1 : Nat) : Rat) = kk at *
      grind
     have a3 : (at_ u x * at_ f x + at_ v x * at_ (slope f) x) * at_ G x = at_ u x * at_ f x * at_ G x + at_ v x * (at_ (slope f) x * at_ G x) := by grind
     rw [a3, a2] at a1
     rw [a1]
     generalize 1 / ((k + 1 : Nat) : Rat) = kk at *
     grind
    generalize at_ (pw f (k + 1)) x = P at *
    have g4 : P * at_ G x = P * (at_ f x * (at_ u x * at_ G x + 1 / ((k + 1 : Nat) : Rat) * (at_ v x * at_ (sub W (slope G)) x))) := by rw [<- g3]
    rw [g4]
    generalize 1 / ((k + 1 : Nat) : Rat) = kk at *
    grind
 obtain ⟨G, hG⟩ := H R.length
 obtain ⟨p1, p2⟩ := pw_len hf h2 R.length
 have := dvd_len (nm_pw f R.length) hR hR0 ⟨G, fun x => by rw [hG x]; grind⟩
 lia
theorem sf_dvd {R f : Poly} (hR : Nm R) (hR0 : R ≠ []) (hf : SF f) (hd : Dv f R) : Dv f (sq R) := by
 obtain ⟨hfn, hf0, hs⟩ := hf
 have hsn := nm_sq hR hR0
 have hgn := nm_gcd hfn hsn
 have hg0 := gcd_ne hfn hsn hf0
 obtain ⟨⟨a, ha⟩, hg2, α, β, hab⟩ := gcd_dv' hfn hsn
 generalize gcd f (sq R) = g at *
 have hane : norm a ≠ [] := fun z => by
  obtain ⟨x, hx⟩ := ne_at hfn hf0
  exact hx (by rw [ha x, <- at_norm a, z, at_nil]; grind)
 obtain ⟨u, v, huv⟩ := hs
 have df : ∀ x, der f x = der (norm a) x * at_ g x + at_ (norm a) x * der g x := fun x => by
  rw [<- der_mul]; exact der_ext (fun y => by rw [at_mul, at_norm, ha]) x
 have huv' : ∀ x, at_ u x * at_ f x + at_ v x * der f x = 1 := huv
 have hs1 : Bz (norm a) (slope (norm a)) := ⟨add (mul u g) (mul v (slope g)), mul v g, fun x => by
  rw [at_add, at_mul, at_mul, at_mul]
  show (at_ u x * at_ g x + at_ v x * der g x) * at_ (norm a) x + at_ v x * at_ g x * der (norm a) x = 1
  have h1 := huv' x
  rw [df x, ha x, <- at_norm a] at h1
  grind⟩
 have hb1 : Bz (norm a) (sq R) := by
  refine ⟨add (add (mul u g) (mul v (slope g))) (mul (mul v (slope (norm a))) (mul α g)), mul (mul v (slope (norm a))) β, fun x => ?_⟩
  simp only [at_add, at_mul]
  show (at_ u x * at_ g x + at_ v x * der g x + at_ v x * der (norm a) x * (at_ α x * at_ g x)) * at_ (norm a) x + at_ v x * der (norm a) x * at_ β x * at_ (sq R) x = 1
  have h1 := huv' x
  have h2 := hab x
  rw [df x, ha x, <- at_norm a] at h1
  rw [ha x, <- at_norm a] at h2
  grind
 have hl := rad hR hR0 (nm_norm a) hs1 (dv_trans ⟨g, fun x => by rw [ha x, at_norm]; grind⟩ hd) hb1
 have l1 := List.length_pos_iff.mpr hane
 obtain ⟨c, hc⟩ : ∃ c, norm a = [c] := by
  match hq : norm a, hl, l1 with
  | [c], _, _ => exact ⟨c, rfl⟩
  | [], _, l1 => simp at l1
  | _ :: _ :: _, hl, _ => simp at hl; lia
 obtain ⟨w, hw⟩ := hg2
 have hc0 : c ≠ 0 := fun z => by
  have := nm_norm a
  rw [hc, z] at this
  exact this rfl
 refine ⟨scale (1 / c) w, fun x => ?_⟩
 have : at_ a x = c := by rw [<- at_norm, hc, at_cons, at_nil]; grind
 rw [at_scale, ha x, this, hw x]
 grind
theorem dv_both {a b : Poly} (ha : Nm a) (hb : Nm b) (hb0 : b ≠ []) (h1 : Dv a b) (h2 : Dv b a) : ∃ c : Rat, c ≠ 0 /\ a = scale c b := by
 obtain ⟨ha0, hl1⟩ := dvd_len ha hb hb0 h1
 obtain ⟨_, hl2⟩ := dvd_len hb ha ha0 h2
 obtain ⟨w, hw⟩ := h2
 have ea : a = mul (norm w) b := ext_at ha (nm_mul _ _) fun x => by rw [at_mul, at_norm, hw]
 have hw0 : norm w ≠ [] := fun z => ha0 (by rw [ea, z]; rfl)
 have hl := mul_length (nm_norm w) hb hw0 hb0
 rw [<- ea] at hl
 obtain ⟨c, hc⟩ : ∃ c, norm w = [c] := by
  have h1 : (norm w).length = 1 := by lia
  match hq : norm w, h1 with
  | [c], _ => exact ⟨c, rfl⟩
  | [], h1 => simp at h1
  | _ :: _ :: _, h1 => simp at h1
 refine ⟨c, fun z => ?_, ext_at ha (nm_scale _ _) fun x => ?_⟩
 ·have := nm_norm w
  rw [hc, z] at this
  exact this rfl
 ·rw [at_scale, hw x, <- at_norm w, hc, at_cons, at_nil]; grind
theorem sf_div {f g : Poly} (hf : SF f) (hg : Nm g) (h : Dv g f) : SF g := by
 obtain ⟨hfn, hf0, u, v, huv⟩ := hf
 have hg0 := (dvd_len hg hfn hf0 h).1
 obtain ⟨a, ha⟩ := h
 refine ⟨hg, hg0, add (mul u a) (mul v (slope a)), mul v a, fun x => ?_⟩
 have df : ∀ x, der f x = der a x * at_ g x + at_ a x * der g x := fun x => by
  rw [<- der_mul]; exact der_ext (fun y => by rw [at_mul, ha]) x
 have h1 : at_ u x * at_ f x + at_ v x * der f x = 1 := huv x
 rw [df x, ha x] at h1
 simp only [at_add, at_mul]
 show (at_ u x * at_ a x + at_ v x * der a x) * at_ g x + at_ v x * at_ a x * der g x = 1
 grind
theorem sq_part {p : Poly} (hp : Nm p) (h0 : p ≠ []) : ∃ c : Rat, c ≠ 0 /\ squareFree p = scale c (sq p) := by
 obtain ⟨c, hc, e⟩ := part_scale (nm_sq hp h0) (sq_ne hp h0)
 exact ⟨c, hc, by rw [squareFree_eq, e]⟩
theorem PrI.ip0 {p : List Int} (h : PrI p) : ip p ≠ [] := fun e => h.ne ((ip_nil p).mp e)
theorem PrI.ipn {p : List Int} (h : PrI p) : Nm (ip p) := nm_ip.mpr h.nm
section
variable {rest often : List Int}
end
theorem pri_one {p : List Int} (h : PrI p) (hl : p.length = 1) : p = [1] := by
 match p, hl with
 | [c], _ =>
  have h1 := h.gc
  have h2 := h.pos
  have h1 : Nat.gcd 0 c.natAbs = 1 := h1
  rw [Nat.gcd_zero_left] at h1
  have h2 : 0 < c := h2
  congr 1
  lia
def fsg (x : Rat) (n : Nat) (le : Rat) : Int := if x < 0 /\ n % 2 = 0 then -sr le else sr le
theorem sr_neg (x : Rat) : sr (-x) = -sr x := by
 unfold sr
 by_cases h : x = 0
 ·subst h; rfl
 ·rw [if_neg (by grind), if_neg h]
  by_cases h2 : 0 < x
  ·rw [if_neg (by grind), if_pos h2]
  ·rw [if_pos (by grind), if_neg h2]; rfl
theorem sr_same {x y : Rat} (h : 0 < x * y) : sr x = sr y := by
 obtain ⟨hx, hy⟩ := ne_of_mul_pos h
 rcases sr_ne hx with ⟨e1, a⟩ | ⟨e1, a⟩ <;> rcases sr_ne hy with ⟨e2, b⟩ | ⟨e2, b⟩ <;> rw [e1, e2]
 ·exfalso; have := pos_mul_neg a b; grind
 ·exfalso; have := pos_mul_neg b a; grind
theorem sr_mulneg {c : Rat} (hc : c < 0) (x : Rat) : sr (c * x) = -sr x := by
 have := sr_mul (c := -c) (by grind) x
 have e : c * x = -(-c * x) := by grind
 rw [e, sr_neg, this]
theorem far_sign {L M x : Rat} (hL : 0 < L) (hM : 0 <= M) (hx : M + 1 <= ab x) : ∀ (p : Poly), p ≠ [] -> (∀ c ∈ p, ab c <= M * L) -> L <= ab (lead p) -> sr (at_ p x) = fsg x p.length (lead p)
 | [], h, _, _ => absurd rfl h
 | [c], _, _, hl => by
  rw [at_cons, at_nil]
  have e : lead [c] = c := rfl
  rw [e, show c + x * 0 = c by grind]
  unfold fsg
  rw [if_neg (by simp)]
 | c :: d :: r, _, hc, hl => by
  have e : lead (c :: d :: r) = lead (d :: r) := by unfold lead; simp [List.getLastD]
  rw [e] at hl ⊢
  have hc' : ∀ z ∈ d :: r, ab z <= M * L := fun z hz => hc z (List.mem_cons_of_mem _ hz)
  have ih := far_sign hL hM hx (d :: r) (by simp) hc' hl
  have one : 0 < (c + x * at_ (d :: r) x) * (x * at_ (d :: r) x) := by
   have hf := horner_far hL hM hx (d :: r) (by simp) hc' hl
   have h1 := hc c (by simp)
   have h2 := mul_le_mul_nn (a := M + 1) (b := ab x) (c := L) (d := ab (at_ (d :: r) x)) (by grind) (ab_nonneg _) hx hf
   rw [<- ab_mul] at h2
   generalize x * at_ (d :: r) x = w at *
   have h3 := (ab_le (x := c) (B := M * L)).mp h1
   unfold ab at h2
   split at h2
   ·exact neg_mul_neg' (by grind) (by grind)
   ·exact Rat.mul_pos (by grind) (by grind)
  rw [at_cons, sr_same one]
  have hx0 : x ≠ 0 := fun z => by
   rw [z] at hx
   have : ab 0 = 0 := by decide
   grind
  rcases rat_tri x 0 with z | z | z
  ·rw [sr_mulneg z, ih]
   unfold fsg
   by_cases hp : (d :: r).length % 2 = 0
   ·rw [if_pos ⟨z, hp⟩, if_neg (fun q => by have := q.2; simp only [List.length_cons] at this hp; lia)]; lia
   ·rw [if_neg (fun q => hp q.2), if_pos ⟨z, by simp only [List.length_cons] at hp ⊢; lia⟩]
  ·exact absurd z hx0
  ·rw [sr_mul z, ih]
   unfold fsg
   rw [if_neg (fun q => by have := q.1; grind), if_neg (fun q => by have := q.1; grind)]
theorem far_bound {p : Poly} (hp : Nm p) (hne : p ≠ []) {x : Rat} (hx : two (boundOf p) <= ab x) : sr (at_ p x) = fsg x p.length (lead p) := by
 have hl := lead_ne hp hne
 have hL : 0 < ab (lead p) := by unfold ab; split <;> grind
 have hb := bound_ge p
 exact far_sign hL (nat_nonneg _) (by grind) p hne (fun c hc => mxc_le hp hne hc) (Rat.le_refl)
def faI (p : List Int) : Int := si (leI p)
def farA (L : List (List Int)) : Nat := chS (L.map faI)
theorem fsg_low {p : List Int} {x : Rat} (hx : x < 0) : fsg x (ip p).length (lead (ip p)) = fbI p := by
 unfold fsg fbI
 rw [ip_len, lead_ip, sr_int]
 by_cases h : p.length % 2 = 1
 ·rw [if_neg (fun q => by lia), if_pos h]
 ·rw [if_pos ⟨hx, by lia⟩, if_neg h]
theorem fsg_high {p : List Int} {x : Rat} (hx : 0 < x) : fsg x (ip p).length (lead (ip p)) = faI p := by
 unfold fsg faI
 rw [lead_ip, sr_int, if_neg (fun q => by have := q.1; grind)]
theorem far_all : ∀ (L : List (List Int)), (∀ p ∈ L, NmI p /\ p ≠ []) -> ∃ X : Rat, 0 < X /\ ∀ p ∈ L, two (boundOf (ip p)) <= X := by
 intro z0
 induction z0 with
 | nil =>
  intro _
  exact ⟨1, by decide, by simp⟩
 | cons p L ih =>
  intro h
  obtain ⟨X, h0, h1⟩ := ih fun q hq => h q (List.mem_cons_of_mem _ hq)
  have h2 := two_pos (boundOf (ip p))
  refine ⟨X + two (boundOf (ip p)), by grind, fun q hq => ?_⟩
  rcases List.mem_cons.mp hq with e | e
  ·subst e; grind
  ·have := h1 q e; grind
theorem far_changes {L : List (List Int)} (h : ∀ p ∈ L, NmI p /\ p ≠ []) : ∃ X : Rat, 0 < X /\ (∀ x, x <= -X -> changesAt (L.map ip) x = farC L) /\ ∀ x, X <= x -> changesAt (L.map ip) x = farA L := by
 obtain ⟨X, h0, h1⟩ := far_all L h
 refine ⟨X, h0, fun x hx => ?_, fun x hx => ?_⟩
 ·rw [<- chS_at]
  unfold farC
  congr 1
  refine List.map_congr_left fun p hp => ?_
  have hn := h p hp
  have hb := h1 p hp
  rw [far_bound (nm_ip.mpr hn.1) (fun e => hn.2 ((ip_nil p).mp e)) (by unfold ab; split <;> grind), fsg_low (by grind)]
 ·rw [<- chS_at]
  unfold farA
  congr 1
  refine List.map_congr_left fun p hp => ?_
  have hn := h p hp
  have hb := h1 p hp
  rw [far_bound (nm_ip.mpr hn.1) (fun e => hn.2 ((ip_nil p).mp e)) (by unfold ab; split <;> grind), fsg_high (by grind)]
structure Chn (p : List Int) (L : List (List Int)) : Prop where
 pr : PrI p
 sf : SF (ip p)
 st : Sturm (ip p) (L.map ip)
 mem : ∀ q ∈ L, NmI q /\ q ≠ []
 hd : ∃ t, L = p :: t
def up (L : List (List Int)) (x : Rat) : Int := ((farC L : Nat) : Int) - ((changesAt (L.map ip) x : Nat) : Int)
section
variable {p : List Int} {L : List (List Int)}
theorem Chn.diff (h : Chn p L) {x y : Rat} (hxy : x <= y) : up L y - up L x = ((between (L.map ip) x y : Nat) : Int) := by
 have := h.st.mono hxy
 unfold up between
 lia
theorem Chn.mono (h : Chn p L) {x y : Rat} (hxy : x <= y) : up L x <= up L y := by
 have := h.diff hxy; lia
structure Bd (p : Poly) (B : Rat) : Prop where
 pos : 0 < B
 same : ∀ x y, B <= ab x -> B <= ab y -> 0 < x * y -> 0 < at_ p x * at_ p y
theorem Bd.ne {p : Poly} {B : Rat} (h : Bd p B) {x : Rat} (hx : B <= ab x) : at_ p x ≠ 0 := by
 have h0 := h.pos
 have k := h.same x x hx hx (by
  rcases rat_tri x 0 with z | z | z
  ·exact neg_mul_neg' z z
  ·subst z
   have : ab 0 = 0 := by decide
   grind
  ·exact Rat.mul_pos z z)
 exact (ne_of_mul_pos k).1
theorem Bd.none {p : Poly} {l : List Poly} {B : Rat} (h : Sturm p l) (hb : Bd p B) {a b : Rat} (hab : a <= b) (ho : B <= a \/ b <= -B) : between l a b = 0 := by
 have h0 := hb.pos
 refine h.none hab fun x y hx hxy hy => hb.same x y ?_ ?_ ?_
 ·unfold ab; rcases ho with ho | ho <;> split <;> grind
 ·unfold ab; rcases ho with ho | ho <;> split <;> grind
 ·rcases ho with ho | ho
  ·exact Rat.mul_pos (by grind) (by grind)
  ·exact neg_mul_neg' (by grind) (by grind)
theorem bd_two {p : Poly} (hp : Nm p) (hne : p ≠ []) : Bd p (two (boundOf p)) := ⟨two_pos _, fun x y hx hy hxy => beyond hp hne hx hy hxy⟩
theorem Chn.low (h : Chn p L) {B : Rat} (hb : Bd (ip p) B) {x : Rat} (hx : x <= -B) : up L x = 0 := by
 obtain ⟨X, h0, h1, _⟩ := far_changes h.mem
 have hm : ∃ y, y <= x /\ y <= -X := by
  rcases rat_lt_or_ge x (-X) with z | z
  ·exact ⟨x, Rat.le_refl, Rat.le_of_lt z⟩
  ·exact ⟨-X, z, Rat.le_refl⟩
 obtain ⟨y, y1, y2⟩ := hm
 have e := h.diff y1
 rw [Bd.none h.st hb y1 (.inr hx)] at e
 have : up L y = 0 := by unfold up; rw [h1 y y2]; lia
 lia
def all (L : List (List Int)) : Int := ((farC L : Nat) : Int) - ((farA L : Nat) : Int)
theorem Chn.high (h : Chn p L) {B : Rat} (hb : Bd (ip p) B) {x : Rat} (hx : B <= x) : up L x = all L := by
 obtain ⟨X, h0, _, h1⟩ := far_changes h.mem
 have hm : ∃ y, x <= y /\ X <= y := by
  rcases rat_lt_or_ge x X with z | z
  ·exact ⟨X, Rat.le_of_lt z, Rat.le_refl⟩
  ·exact ⟨x, Rat.le_refl, z⟩
 obtain ⟨y, y1, y2⟩ := hm
 have e := h.diff y1
 rw [Bd.none h.st hb y1 (.inl hx)] at e
 have : up L y = all L := by unfold up all; rw [h1 y y2]
 lia
theorem Chn.le_all (h : Chn p L) (x : Rat) : up L x <= all L := by
 have hb := bd_two h.pr.ipn h.pr.ip0
 rcases rat_lt_or_ge x (two (boundOf (ip p))) with z | z
 ·have := h.mono (Rat.le_of_lt z)
  rw [h.high hb Rat.le_refl] at this
  exact this
 ·rw [h.high hb z]; exact Int.le_refl _
def bel (p : List Int) (L : List (List Int)) (x : Rat) : Int := up L x - ((zr (ip p) x : Nat) : Int)
theorem Chn.bel_lt (h : Chn p L) {x y : Rat} (hxy : x < y) : up L x <= bel p L y := by
 have e := h.diff (Rat.le_of_lt hxy)
 have := zr_le h.st hxy
 unfold bel
 lia
theorem Chn.bel_mono (h : Chn p L) {x y : Rat} (hxy : x <= y) : bel p L x <= bel p L y := by
 rcases rat_tri x y with z | z | z
 ·have := h.bel_lt z
  unfold bel at this ⊢
  lia
 ·rw [z]; exact Int.le_refl _
 ·grind
theorem Chn.up_le_bel (h : Chn p L) (x : Rat) : bel p L x <= up L x := by unfold bel; lia
end
theorem chn_stC {p : List Int} (hp : PrI p) (hs : SF (ip p)) : Chn p (stC p) := by
 refine ⟨hp, hs, stC_sturm hp.nm hp.ne hs, fun q hq => ?_, ?_⟩
 ·have := chI_member hp.nm hp.ne (de_nm hp.nm) (by rw [de_len]; lia) hq
  exact ⟨this.1, this.2.1⟩
 ·unfold stC chI chF
  split
  ·exact ⟨_, rfl⟩
  ·exact ⟨_, rfl⟩
structure Nb (p : List Int) (L : List (List Int)) (k : Nat) : Prop where
 ch : Chn p L
 lt : (k : Int) < all L
def rf (f s : Int) : Rat := ((f : Int) : Rat) / ((s : Int) : Rat)
structure Fl (p : List Int) (L : List (List Int)) (k : Nat) (s f : Int) : Prop where
 ge : bel p L (rf f s) <= k
 lt : (k : Int) < bel p L (rf (f + 1) s)
theorem ic_pos {s : Int} (h : 0 < s) : (0 : Rat) < ((s : Int) : Rat) := by exact_mod_cast Rat.intCast_lt_intCast.mpr h
theorem div_le_div {a b s : Rat} (hs : 0 < s) (h : a <= b) : a / s <= b / s := by
 rw [Rat.div_def, Rat.div_def]
 exact Rat.mul_le_mul_of_nonneg_right h (Rat.le_of_lt (Rat.inv_pos.mpr hs))
theorem rf_lt {s f g : Int} (hs : 0 < s) (h : f < g) : rf f s < rf g s := by
 unfold rf
 rw [Rat.div_def, Rat.div_def]
 exact Rat.mul_lt_mul_of_pos_right (Rat.intCast_lt_intCast.mpr h) (Rat.inv_pos.mpr (ic_pos hs))
theorem rf_mul {s f : Int} (hs : 0 < s) : rf f s * ((s : Int) : Rat) = ((f : Int) : Rat) := by
 have := ic_pos hs
 unfold rf
 exact Rat.div_mul_cancel (by grind)
section
variable {p : List Int} {L : List (List Int)} {k : Nat}
structure IsRt (p : List Int) (L : List (List Int)) (k : Nat) (x : Rat) : Prop where
 zero : at_ (ip p) x = 0
 up : My.up L x = k + 1
theorem IsRt.bel {x : Rat} (h : IsRt p L k x) : My.bel p L x = k := by
 unfold My.bel zr
 rw [if_pos h.zero, h.up]; lia
theorem two_ic (n : Nat) : two n = (((2 ^ n : Int) : Int) : Rat) := by
 rw [two_eq_pow]
 have : ((2 ^ n : Nat) : Int) = (2 : Int) ^ n := by rw [Int.natCast_pow]; rfl
 rw [<- this]; rfl
theorem pow2_pos (n : Nat) : (0 : Int) < 2 ^ n := Int.pow_pos (by decide)
theorem rf_two (f : Int) (n : Nat) : rf f (2 ^ n) = ((f : Int) : Rat) / two n := by unfold rf; rw [two_ic]
def wit (p : List Int) (L : List (List Int)) (a b : Rat) : Int := up L b - bel p L a
theorem Chn.wit_eq (h : Chn p L) {a b : Rat} (hab : a <= b) : wit p L a b = ((between (L.map ip) a b + zr (ip p) a : Nat) : Int) := by
 have := h.diff hab
 unfold wit bel
 lia
theorem Nb.x0 (h : Nb p L k) : up L (-two (boundOf (ip p))) = 0 := h.ch.low (bd_two h.ch.pr.ipn h.ch.pr.ip0) Rat.le_refl
theorem Nb.betw (h : Nb p L k) {x : Rat} (hx : -two (boundOf (ip p)) <= x) : ((between (L.map ip) (-two (boundOf (ip p))) x : Nat) : Int) = up L x := by
 have := h.ch.diff hx
 have := h.x0
 lia
theorem Fl.in_bound (h : Nb p L k) {n : Nat} {f : Int} (hf : Fl p L k (2 ^ n) f) : -two (boundOf (ip p)) <= rf f (2 ^ n) /\ rf (f + 1) (2 ^ n) <= two (boundOf (ip p)) := by
 have hb := bd_two h.ch.pr.ipn h.ch.pr.ip0
 obtain ⟨K, hK⟩ : ∃ K : Int, two (boundOf (ip p)) * two n = ((K : Int) : Rat) := ⟨2 ^ (boundOf (ip p)) * 2 ^ n, by rw [two_ic, two_ic, Rat.intCast_mul]⟩
 have h2 := two_pos n
 have m1 := rf_mul (s := 2 ^ n) (f := f) (pow2_pos n)
 have m2 := rf_mul (s := 2 ^ n) (f := f + 1) (pow2_pos n)
 rw [<- two_ic] at m1 m2
 constructor
 ·rcases rat_lt_or_ge (rf f (2 ^ n)) (-two (boundOf (ip p))) with z | z
  ·exfalso
   have z1 := Rat.mul_lt_mul_of_pos_right z h2
   rw [m1, show -two (boundOf (ip p)) * two n = -(two (boundOf (ip p)) * two n) by grind, hK, <- Rat.intCast_neg] at z1
   have z2 := Rat.intCast_lt_intCast.mp z1
   have z3 : rf (f + 1) (2 ^ n) <= -two (boundOf (ip p)) := by
    refine le_of_mul_two n ?_
    rw [m2, show -two (boundOf (ip p)) * two n = -(two (boundOf (ip p)) * two n) by grind, hK, <- Rat.intCast_neg]
    exact Rat.intCast_le_intCast.mpr (by lia)
   have := hf.lt
   have e := h.ch.low hb z3
   unfold bel at this
   lia
  ·exact z
 ·rcases rat_lt_or_ge (two (boundOf (ip p))) (rf (f + 1) (2 ^ n)) with z | z
  ·exfalso
   have z1 := Rat.mul_lt_mul_of_pos_right z h2
   rw [m2, hK] at z1
   have z2 := Rat.intCast_lt_intCast.mp z1
   have z3 : two (boundOf (ip p)) <= rf f (2 ^ n) := by
    refine le_of_mul_two n ?_
    rw [m1, hK]
    exact Rat.intCast_le_intCast.mpr (by lia)
   have e := h.ch.high hb z3
   have hz : zr (ip p) (rf f (2 ^ n)) = 0 := by
    unfold zr
    rw [if_neg (hb.ne (by have := hb.pos; unfold ab; split <;> grind))]
   have := hf.ge
   have := h.lt
   unfold bel at *
   lia
  ·exact z
theorem Nb.deg (h : Nb p L k) : 2 <= p.length := by
 false_or_by_contra
 rename_i hc
 have hl : p.length = 1 := by have := List.length_pos_iff.mpr h.ch.pr.ne; lia
 have e := pri_one h.ch.pr hl
 have c1 : ∀ x, at_ (ip p) x = 1 := fun x => by
  rw [e]
  show at_ [((1 : Int) : Rat)] x = 1
  rw [at_cons, at_nil]
  have : ((1 : Int) : Rat) = 1 := rfl
  rw [this]; grind
 have hb : Bd (ip p) 1 := ⟨by decide, fun x y _ _ _ => by rw [c1, c1]; grind⟩
 have a1 := h.ch.low hb (x := -1) (Rat.le_refl)
 have a2 := h.ch.high hb (x := 1) (Rat.le_refl)
 have a3 := h.ch.diff (x := -1) (y := 1) (by decide)
 rw [h.ch.st.none (by decide) (fun x y _ _ _ => by rw [c1, c1]; grind)] at a3
 have := h.lt
 lia
theorem Nb.pr (h : Nb p L k) : Pr (ip p) (p.length - 1) :=
 ⟨h.ch.sf, by rw [ip_len]; have := h.deg; lia, by have := h.deg; lia, h.ch.pr.part⟩
theorem Fl.apart (h : Nb p L k) {n : Nat} {f : Int} (hf : Fl p L k (2 ^ n) f) (hn : sep (ip p) <= n) : wit p L (rf f (2 ^ n)) (rf (f + 1) (2 ^ n)) <= 1 := by
 obtain ⟨b1, b2⟩ := hf.in_bound h
 have hlt := rf_lt (s := 2 ^ n) (f := f) (g := f + 1) (pow2_pos n) (by lia)
 have k := h.pr.apart h.ch.st b1 hlt b2 (by
  rw [rf_two, rf_two, Rat.intCast_add]
  have h1 := two_mono hn
  have h2 := two_pos n
  have e : (((f : Int) : Rat) + ((1 : Int) : Rat)) / two n - ((f : Int) : Rat) / two n = 1 / two n := by
   have : ((1 : Int) : Rat) = 1 := rfl
   rw [this]; grind
  rw [e]
  have h3 : 1 / two n * two (sep (ip p)) <= 1 / two n * two n := Rat.mul_le_mul_of_nonneg_left h1 (by rw [Rat.div_def, Rat.one_mul]; exact Rat.le_of_lt (Rat.inv_pos.mpr h2))
  have h4 : 1 / two n * two n = 1 := Rat.div_mul_cancel (by grind)
  rw [h4] at h3
  exact h3)
 rw [h.ch.wit_eq (Rat.le_of_lt hlt)]
 unfold zr
 lia
end
theorem dcell_same {p : Poly} {l l' : List Poly} (h : Sturm p l) (h' : Sturm p l') {x0 : Rat} {i : Nat} {D : Cell} (hD : DCell p l x0 i D) : DCell p l' x0 i D := by
 have sm : ∀ {a b : Rat}, a <= b -> between l a b = between l' a b := fun hab => h.same h' (c := 1) (by decide) (fun x => by grind) hab
 rcases hD with ⟨a, b, c, d, e⟩ | ⟨a, b, c, d, e, f, g, n, k, k1, k2, k3⟩
 ·exact .inl ⟨a, b, c, d, by rw [<- sm (Rat.le_of_lt d)]; exact e⟩
 ·refine .inr ⟨a, b, c, d, by rw [<- sm b]; exact e, by rw [<- sm (by grind)]; exact f, g, n, k, k1, k2, fun n' hn' k' h1 h2 => ?_⟩
  have hle : ((k' : Int) : Rat) / two n' <= (((k' : Int) : Rat) + 1) / two n' := div_le_div (two_pos n') (by grind)
  rw [<- sm hle]
  exact k3 n' hn' k' h1 h2
theorem cauchy {p : List Int} (hp : PrI p) {m : Int} (hm : ∀ c ∈ p, (c.natAbs : Int) <= m) : Bd (ip p) (((2 + m.fdiv (leI p) : Int) : Int) : Rat) := by
  have hl := hp.pos
  have hl' := ic_pos hl
  have hm0 : 0 <= m := by
    have := hm (leI p) (by
      have h1 := List.length_pos_iff.mpr hp.ne
      rw [leI_ci]
      exact List.mem_of_getElem? (ci_lt (by lia)))
    lia
  have hq : 0 <= m.fdiv (leI p) := by rw [Int.fdiv_eq_ediv_of_nonneg _ (by lia)]; exact Int.ediv_nonneg hm0 (by lia)
  have hM0 : (0 : Rat) <= rf m (leI p) := by
    unfold rf
    rw [Rat.div_def]
    exact Rat.mul_nonneg (by exact_mod_cast Rat.intCast_le_intCast.mpr hm0) (Rat.le_of_lt (Rat.inv_pos.mpr hl'))
  have hMl : rf m (leI p) * ((leI p : Int) : Rat) = ((m : Int) : Rat) := rf_mul hl
  have hB : rf m (leI p) + 1 <= (((2 + m.fdiv (leI p) : Int) : Int) : Rat) := by
    have h1 : m < (m.fdiv (leI p) + 1) * leI p := by
      rw [Int.fdiv_eq_ediv_of_nonneg _ (by lia)]
      exact Int.lt_ediv_add_one_mul_self m hl
    have h2 : rf m (leI p) < ((m.fdiv (leI p) + 1 : Int) : Rat) := by
      have := Rat.intCast_lt_intCast.mpr h1
      rw [Rat.intCast_mul, <- hMl] at this
      rcases rat_lt_or_ge (rf m (leI p)) ((m.fdiv (leI p) + 1 : Int) : Rat) with z | z
      · exact z
      · have := Rat.mul_le_mul_of_nonneg_right z (Rat.le_of_lt hl')
        grind
    rw [Rat.intCast_add] at h2 ⊢
    have e1 : ((1 : Int) : Rat) = 1 := rfl
    have e2 : ((2 : Int) : Rat) = 2 := rfl
    rw [e1] at h2
    rw [e2]
    grind
  have hleadp : ab (lead (ip p)) = ((leI p : Int) : Rat) := by rw [lead_ip]; unfold ab; rw [if_neg (by grind)]
  refine ⟨by have : (1 : Rat) <= rf m (leI p) + 1 := by grind
             grind, fun x y hx hy hxy => ?_⟩
  refine far_same (L := ((leI p : Int) : Rat)) (M := rf m (leI p)) hl' hM0 (by grind) (by grind) hxy (ip p) hp.ip0 (fun c hc => ?_) (by rw [hleadp]; exact Rat.le_refl)
  unfold ip at hc
  obtain ⟨z, hz, rfl⟩ := List.mem_map.mp hc
  rw [hMl]
  have := hm z hz
  refine ab_le.mpr ⟨?_, ?_⟩
  · rw [<- Rat.intCast_neg]; exact Rat.intCast_le_intCast.mpr (by lia)
  · exact Rat.intCast_le_intCast.mpr (by lia)
theorem sf_gcd {p : Poly} (h : SF p) : gcd p (slope p) = [1] := by
 obtain ⟨hp, h0, u, v, huv⟩ := h
 have hn := nm_gcd hp (nm_slope' p)
 obtain ⟨⟨a, ha⟩, ⟨b, hb⟩, _⟩ := gcd_dv' hp (nm_slope' p)
 have hl := dvd_len hn (b := [1]) (by unfold Nm; decide) (by simp) ⟨add (mul u a) (mul v b), fun x => by
  have e : at_ [1] x = 1 := by rw [at_cons, at_nil]; grind
  rw [e, at_add, at_mul, at_mul, <- huv x, ha x, hb x]; grind⟩
 obtain ⟨c, hc⟩ : ∃ c, gcd p (slope p) = [c] := by
  have h1 := List.length_pos_iff.mpr hl.1
  match hq : gcd p (slope p), h1, hl.2 with
  | [c], _, _ => exact ⟨c, rfl⟩
  | [], h1, _ => simp at h1
  | _ :: _ :: _, _, h2 => simp at h2
 have hm : monic (gcd p (slope p)) = gcd p (slope p) := by
  have k := monic_part_gcd hp (nm_slope' p) h0
  conv => lhs; rw [<- k]
  rw [monic_monic nm_part (part_ne hn hl.1), k]
 rw [hc] at hm ⊢
 have hc0 : c ≠ 0 := fun z => by rw [hc, z] at hn; exact hn rfl
 rw [monic_eq (by unfold Nm; simpa using hc0) (by simp)] at hm
 have hm : [c / c] = [c] := hm
 injection hm with hm
 have : c / c = 1 := by grind
 rw [<- hm, this]
theorem sf_idem {p : Poly} (hp : Nm p) (h0 : p ≠ []) : squareFree (squareFree p) = squareFree p := by
 have hs := sf_squareFree hp h0
 have hg := sf_gcd hs
 have e : sq (squareFree p) = squareFree p := by
  refine ext_at (nm_sq hs.1 hs.2.1) hs.1 fun x => ?_
  have := sq_at hs.1 hs.2.1 x
  rw [hg] at this
  have e1 : at_ [1] x = 1 := by rw [at_cons, at_nil]; grind
  rw [e1] at this
  grind
 rw [squareFree_eq (squareFree p), e, squareFree_eq p, part_part (nm_sq hp h0) (sq_ne hp h0)]
structure Spc (q : Poly) (p : List Int) (L : List (List Int)) : Prop where
 ch : Chn p L
 sf : ip p = squareFree q
theorem spc_chO {q : Poly} (hq : Nm q) (h0 : q ≠ []) (hc : Chn (sfI (wp q)) (chO q)) : Spc q (sfI (wp q)) (chO q) := ⟨hc, sf_wp hq h0⟩
section
variable {q : Poly} {p : List Int} {L : List (List Int)}
theorem Spc.cells_at (h : Spc q p L) (hq : Nm q) (h0 : q ≠ []) (i : Nat) : (((i : Int) < all L) -> ∃ D, (WrAlgn.cells (squareFree q))[i]? = some D /\ DCell (ip p) (L.map ip) (-two (boundOf (ip p))) i D) /\ (¬ ((i : Int) < all L) -> (WrAlgn.cells (squareFree q))[i]? = none) := by
 rw [cells_eq, sf_idem hq h0, <- h.sf, ip_len]
 by_cases h1 : p.length <= 1
 ·rw [if_pos h1]
  refine ⟨fun hi => ?_, fun _ => rfl⟩
  have N : Nb p L i := ⟨h.ch, hi⟩
  have := N.deg
  lia
 ·rw [if_neg h1]
  have hP : Pr (ip p) (p.length - 1) := ⟨h.ch.sf, by rw [ip_len]; lia, by lia, h.ch.pr.part⟩
  obtain ⟨c1, c2⟩ := hP.cells
  have h2 := two_pos (boundOf (ip p))
  have hl : ((cellsOf (ip p)).length : Int) = all L := by
   rw [c1, <- h.ch.st.same (sturm_is h.ch.sf) (c := 1) (by decide) (fun x => by grind) (by grind)]
   have e1 := h.ch.diff (x := -two (boundOf (ip p))) (y := two (boundOf (ip p))) (by grind)
   have hb := bd_two h.ch.pr.ipn h.ch.pr.ip0
   rw [h.ch.low hb Rat.le_refl, h.ch.high hb Rat.le_refl] at e1
   lia
  refine ⟨fun hi => ?_, fun hi => List.getElem?_eq_none_iff.mpr (by lia)⟩
  have hi' : i < (cellsOf (ip p)).length := by lia
  refine ⟨_, List.getElem?_eq_getElem hi', ?_⟩
  exact dcell_same (sturm_is h.ch.sf) h.ch.st (c2 i _ (List.getElem?_eq_getElem hi'))
def Iso (p : List Int) (L : List (List Int)) (k : Nat) (c : Cell) : Prop :=
 (c.1 = c.2 /\ IsRt p L k c.1) \/ (c.1 < c.2 /\ at_ (ip p) c.1 ≠ 0 /\ at_ (ip p) c.2 ≠ 0 /\ up L c.1 = k /\ up L c.2 = k + 1)
theorem iso_of (h : Nb p L k) {D : Cell} (hD : DCell (ip p) (L.map ip) (-two (boundOf (ip p))) k D) : Iso p L k D := by
 rcases hD with ⟨a, b, c, d, e⟩ | ⟨a, b, c, d, e, f, _⟩
 ·refine .inl ⟨a, b, ?_⟩
  have := h.betw (Rat.le_of_lt d)
  lia
 ·refine .inr ⟨a, c, d, ?_, ?_⟩
  ·have := h.betw b; lia
  ·have := h.betw (x := D.2) (by grind); lia
theorem Iso.halve (h : Nb p L k) {c : Cell} (hc : Iso p L k c) : Iso p L k (halve (ip p) (sturm (ip p)) c) /\ ((halve (ip p) (sturm (ip p)) c).1 = (halve (ip p) (sturm (ip p)) c).2 \/ (halve (ip p) (sturm (ip p)) c).2 - (halve (ip p) (sturm (ip p)) c).1 = (c.2 - c.1) / 2) /\ c.1 <= (halve (ip p) (sturm (ip p)) c).1 /\ (halve (ip p) (sturm (ip p)) c).2 <= c.2 := by
 unfold WrAlgn.halve
 by_cases e : c.1 = c.2
 ·rw [if_pos e]
  exact ⟨hc, .inl e, Rat.le_refl, Rat.le_refl⟩
 rw [if_neg e]
 rcases hc with ⟨e', _⟩ | ⟨h1, h2, h3, h4, h5⟩
 ·exact absurd e' e
 have m1 : c.1 < (c.1 + c.2) / 2 := by grind
 have m2 : (c.1 + c.2) / 2 < c.2 := by grind
 have w1 : (c.1 + c.2) / 2 - c.1 = (c.2 - c.1) / 2 := by grind
 have w2 : c.2 - (c.1 + c.2) / 2 = (c.2 - c.1) / 2 := by grind
 simp only
 generalize (c.1 + c.2) / 2 = m at *
 have d1 := h.ch.diff (Rat.le_of_lt m1)
 have d2 := h.ch.diff (Rat.le_of_lt m2)
 have z2 := zr_le h.ch.st m1
 by_cases hm : at_ (ip p) m = 0
 ·rw [if_pos hm]
  have : zr (ip p) m = 1 := by unfold zr; rw [if_pos hm]
  refine ⟨.inl ⟨rfl, hm, by show up L m = k + 1; lia⟩, .inl rfl, Rat.le_of_lt m1, Rat.le_of_lt m2⟩
 ·rw [if_neg hm, <- h.ch.st.same (sturm_is h.ch.sf) (c := 1) (by decide) (fun x => by grind) (Rat.le_of_lt m1)]
  by_cases hb : between (L.map ip) c.1 m = 1
  ·rw [if_pos hb]
   exact ⟨.inr ⟨m1, h2, hm, h4, by show up L m = k + 1; lia⟩, .inr w1, Rat.le_refl, Rat.le_of_lt m2⟩
  ·rw [if_neg hb]
   exact ⟨.inr ⟨m2, hm, h3, by show up L m = k; lia, h5⟩, .inr w2, Rat.le_of_lt m1, Rat.le_refl⟩
theorem Spc.near (h : Spc q p L) (hq : Nm q) (h0 : q ≠ []) (i : Nat) : (((i : Int) < all L) -> ∃ D, (⟨q, i⟩ : Num).near = some ⟨ip p, sturm (ip p), D⟩ /\ DCell (ip p) (L.map ip) (-two (boundOf (ip p))) i D) /\ (¬ ((i : Int) < all L) -> (⟨q, i⟩ : Num).near = none) := by
 obtain ⟨c1, c2⟩ := h.cells_at hq h0 i
 unfold Num.near
 rw [if_neg h0]
 refine ⟨fun hi => ?_, fun hi => ?_⟩
 ·obtain ⟨D, d1, d2⟩ := c1 hi
  refine ⟨D, ?_, d2⟩
  show ((WrAlgn.cells (squareFree q))[i]?).map _ = _
  rw [d1, h.sf]; rfl
 ·show ((WrAlgn.cells (squareFree q))[i]?).map _ = _
  rw [c2 hi]; rfl
theorem dcell_width {x0 : Rat} {i : Nat} {D : Cell} {pp : Poly} {l : List Poly} (h : DCell pp l x0 i D) : D.1 < D.2 -> (D.2 - D.1) * two 0 <= 1 := by
 intro hlt
 rcases h with ⟨e, _⟩ | ⟨_, _, _, _, _, _, _, n, k, k1, k2, _⟩
 ·grind
 ·rw [two_zero]
  have h1 := two_mono (Nat.zero_le n)
  rw [two_zero] at h1
  have h2 : (D.2 - D.1) * two n = 1 := by grind
  have h3 : (D.2 - D.1) * 1 <= (D.2 - D.1) * two n := Rat.mul_le_mul_of_nonneg_left h1 (by grind)
  grind
end
section
variable {p : List Int} {L : List (List Int)} {k : Nat}
theorem Iso.bel1 (h : Nb p L k) {c : Cell} (hc : Iso p L k c) : bel p L c.1 = k := by
 rcases hc with ⟨_, r⟩ | ⟨_, z1, _, u1, _⟩
 ·exact r.bel
 ·unfold bel zr
  rw [if_neg z1]; lia
end
section
variable {p : List Int} {L : List (List Int)} {k : Nat}
theorem dcell_bound (h : Nb p L k) {D : Cell} (hD : DCell (ip p) (L.map ip) (-two (boundOf (ip p))) k D) : -two (boundOf (ip p) + 1) <= D.1 /\ D.2 <= two (boundOf (ip p) + 1) := by
 have hi := iso_of h hD
 have hw := dcell_width hD
 have hb := bd_two h.ch.pr.ipn h.ch.pr.ip0
 have t := two_pos (boundOf (ip p))
 have t1 : (1 : Rat) <= two (boundOf (ip p)) := by
  have := two_mono (Nat.zero_le (boundOf (ip p)))
  rw [two_zero] at this
  exact this
 have hx0 : -two (boundOf (ip p)) <= D.1 := by
  rcases hD with ⟨_, _, _, d, _⟩ | ⟨_, b, _⟩
  ·exact Rat.le_of_lt d
  ·exact b
 have hlt : D.1 < two (boundOf (ip p)) := by
  rcases rat_lt_or_ge D.1 (two (boundOf (ip p))) with z | z
  ·exact z
  ·have a := h.ch.high hb z
   have b := hi.bel1 h
   have hz : zr (ip p) D.1 = 0 := by
    unfold zr
    rw [if_neg (hb.ne (by unfold ab; split <;> grind))]
   have := h.lt
   unfold bel at b
   lia
 rw [two_succ]
 refine ⟨by grind, ?_⟩
 rcases hi with ⟨e, _⟩ | ⟨e, _⟩
 ·grind
 ·have := hw e
  rw [two_zero] at this
  grind
end
section
variable {p : List Int} {L : List (List Int)} {k : Nat}
end
section
variable {p : List Int} {L : List (List Int)} {k : Nat}
theorem Iso.up2 (h : Nb p L k) {c : Cell} (hc : Iso p L k c) : up L c.2 = k + 1 := by
 rcases hc with ⟨e, r⟩ | ⟨_, _, _, _, u2⟩
 ·rw [<- e]; exact r.up
 ·exact u2
theorem Iso.le {c : Cell} (hc : Iso p L k c) : c.1 <= c.2 := by
 rcases hc with ⟨e, _⟩ | ⟨e, _⟩ <;> grind
end
section
variable {p : List Int} {L : List (List Int)} {k : Nat}
end
theorem count_mul {p h w : Poly} {l l' l'' : List Poly} (hp : Sturm p l) (hh : Sturm h l') (hw : Sturm w l'') {c : Rat} (hc : c ≠ 0) (e : ∀ x, at_ w x = c * (at_ p x * at_ h x)) (hb : Bz p h) {a b : Rat} (hab : a <= b) : between l'' a b = between l a b + between l' a b := by
  rcases rat_tri a b with hlt | heq | hgt
  case inr.inl => subst heq; unfold between; lia
  case inr.inr => grind
  obtain ⟨B, hB, b1, b2⟩ := bound2 a b
  have key : ∀ a b, -B <= a -> a < b -> b <= B -> between l'' a b = between l a b + between l' a b := by
    obtain ⟨e1, c1, e10, c10, hf1⟩ := hb.far hB
    have hcc : 0 < c * c := by
      rcases rat_tri c 0 with z | z | z
      · exact neg_mul_neg' z z
      · exact absurd z hc
      · exact Rat.mul_pos z z
    have n : Near2 B fun a b => between l'' a b = between l a b + between l' a b := by
      refine ((hp.near hB).and ((hh.near hB).and ((hw.near hB).and ((near_small hB p c10).and (near_small hB h e10))))).mono fun a b h1 h2 h3 hs => ?_
      obtain ⟨k1, k2, k3, s1, s2⟩ := hs
      have aa : ab a <= B := ab_le.mpr ⟨h1, by grind⟩
      have bb : ab b <= B := ab_le.mpr ⟨by grind, h3⟩
      have hcross : cross w a b = cross p a b + cross h a b := by
        have ea := e a
        have eb := e b
        have eab : at_ w a * at_ w b = (c * c) * ((at_ p a * at_ p b) * (at_ h a * at_ h b)) := by rw [ea, eb]; grind
        have wz : at_ w a = 0 ↔ at_ p a = 0 \/ at_ h a = 0 := by
          rw [ea]
          constructor
          · intro z
            rcases Rat.mul_eq_zero.mp z with y | y
            · exact absurd y hc
            · exact Rat.mul_eq_zero.mp y
          · intro z
            rcases z with z | z <;> rw [z] <;> grind
        by_cases hP : at_ p a * at_ p b <= 0
        · -- p is small there, so h isn't
          obtain ⟨q1, q2⟩ := s1 hP
          have hH : 0 < at_ h a * at_ h b := by
            rcases rat_lt_or_ge 0 (at_ h a * at_ h b) with z | z
            · exact z
            · have := hf1 a aa (s2 z).1
              grind
          have hha := (ne_of_mul_pos hH).1
          have c2 : cross h a b = 0 := by unfold cross; rw [if_neg (fun q => by have := q.2; grind)]
          have hww : at_ w a * at_ w b <= 0 := by
            rw [eab]
            have t1 : (at_ p a * at_ p b) * (at_ h a * at_ h b) <= 0 * (at_ h a * at_ h b) := Rat.mul_le_mul_of_nonneg_right hP (Rat.le_of_lt hH)
            have t2 := Rat.mul_le_mul_of_nonneg_left t1 (Rat.le_of_lt hcc)
            grind
          rw [c2, Nat.add_zero]
          unfold cross
          by_cases hpa : at_ p a = 0
          · rw [if_neg (fun q => q.1 (wz.mpr (.inl hpa))), if_neg (fun q => q.1 hpa)]
          · rw [if_pos ⟨fun q => by rcases wz.mp q with y | y
                                    · exact hpa y
                                    · exact hha y, hww⟩, if_pos ⟨hpa, hP⟩]
        · have hPp : 0 < at_ p a * at_ p b := by grind
          have hpa := (ne_of_mul_pos hPp).1
          have c1' : cross p a b = 0 := by unfold cross; rw [if_neg (fun q => hP q.2)]
          rw [c1', Nat.zero_add]
          have hiff : at_ w a * at_ w b <= 0 ↔ at_ h a * at_ h b <= 0 := by
            rw [eab]
            have hpos := Rat.mul_pos hcc hPp
            have e5 : (c * c) * ((at_ p a * at_ p b) * (at_ h a * at_ h b)) = ((c * c) * (at_ p a * at_ p b)) * (at_ h a * at_ h b) := by grind
            rw [e5]
            constructor
            · intro z
              rcases rat_lt_or_ge 0 (at_ h a * at_ h b) with y | y
              · have := Rat.mul_pos hpos y; grind
              · exact y
            · intro z
              have := Rat.mul_le_mul_of_nonneg_left z (Rat.le_of_lt hpos)
              grind
          unfold cross
          by_cases y : at_ h a ≠ 0 /\ at_ h a * at_ h b <= 0
          · rw [if_pos y, if_pos ⟨fun q => by rcases wz.mp q with t | t
                                              · exact hpa t
                                              · exact y.1 t, hiff.mpr y.2⟩]
          · rw [if_neg y, if_neg (fun q => y ⟨fun t => q.1 (wz.mpr (.inr t)), hiff.mp q.2⟩)]
      unfold between
      lia
    exact n.all fun a b c _ h1 h2 _ f g => by
      have s1 := hp.add (Rat.le_of_lt h1) (Rat.le_of_lt h2)
      have s2 := hh.add (Rat.le_of_lt h1) (Rat.le_of_lt h2)
      have s3 := hw.add (Rat.le_of_lt h1) (Rat.le_of_lt h2)
      lia
  exact key a b b1 hlt b2
theorem zr_mul {p h w : Poly} {c : Rat} (hc : c ≠ 0) (e : ∀ x, at_ w x = c * (at_ p x * at_ h x)) (hb : Bz p h) (x : Rat) : zr w x = zr p x + zr h x := by
 obtain ⟨u, v, huv⟩ := hb
 have h1 := huv x
 unfold zr
 by_cases hp : at_ p x = 0
 ·by_cases hh : at_ h x = 0
  ·exfalso; rw [hp, hh] at h1; grind
  ·rw [if_pos hp, if_neg hh, if_pos (by rw [e, hp]; grind)]
 ·by_cases hh : at_ h x = 0
  ·rw [if_neg hp, if_pos hh, if_pos (by rw [e, hh]; grind)]
  ·rw [if_neg hp, if_neg hh, if_neg (fun q => by
    rw [e] at q
    rcases Rat.mul_eq_zero.mp q with y | y
    ·exact hc y
    ·rcases Rat.mul_eq_zero.mp y with y | y
     ·exact hp y
     ·exact hh y)]
theorem bz_sf_mul {a b : Poly} (h : SF (mul a b)) : Bz a b := by
 obtain ⟨_, _, u, v, huv⟩ := h
 refine ⟨add (mul u b) (mul v (slope b)), mul v (slope a), fun x => ?_⟩
 have h1 : at_ u x * at_ (mul a b) x + at_ v x * der (mul a b) x = 1 := huv x
 rw [der_mul, at_mul] at h1
 simp only [at_add, at_mul]
 show (at_ u x * at_ b x + at_ v x * der b x) * at_ a x + at_ v x * der a x * at_ b x = 1
 grind
theorem bz_add {a b c : Poly} (h : Bz a b) (e : ∀ x, ∃ y, at_ c x = at_ b x + y * at_ a x) (m : Poly) (hm : ∀ x, at_ c x = at_ b x + at_ m x * at_ a x) : Bz a c := by
 obtain ⟨u, v, huv⟩ := h
 refine ⟨sub u (mul v m), v, fun x => ?_⟩
 rw [at_sub, at_mul, hm x]
 have := huv x
 grind
theorem sf_mul {a b : Poly} (ha : SF a) (hb : SF b) (h : Bz a b) : SF (mul a b) := by
 have hn := nm_mul a b
 have h0 := mul_ne ha.1 hb.1 ha.2.1 hb.2.1
 have e : ∀ x, at_ (slope (mul a b)) x = at_ (slope a) x * at_ b x + at_ a x * at_ (slope b) x := fun x => der_mul a b x
 refine ⟨hn, h0, ?_⟩
 have h1 : Bz a (slope (mul a b)) := by
  have k : Bz (mul (slope a) b) a := bz_mul ha.2.2.symm h.symm
  exact bz_add k.symm (fun x => ⟨at_ (slope b) x, by rw [e, at_mul]; grind⟩) (slope b) fun x => by rw [e, at_mul]; grind
 have h2 : Bz b (slope (mul a b)) := by
  have k : Bz (mul a (slope b)) b := bz_mul h hb.2.2.symm
  exact bz_add k.symm (fun x => ⟨at_ (slope a) x, by rw [e, at_mul]; grind⟩) (slope a) fun x => by rw [e, at_mul]; grind
 exact bz_mul h1 h2
theorem bz_one {a b : Poly} (ha : Nm a) (ha0 : a ≠ []) (hb : Nm b) (h : ∀ d, Nm d -> Dv d a -> Dv d b -> Dv d [1]) : Bz a b := by
 obtain ⟨g1, g2, u, v, huv⟩ := gcd_dv' ha hb
 have hn := nm_gcd ha hb
 have hl := dvd_len hn (b := [1]) (by unfold Nm; decide) (by simp) (h _ hn g1 g2)
 obtain ⟨c, hc⟩ : ∃ c, gcd a b = [c] := by
  have h1 := List.length_pos_iff.mpr hl.1
  match hq : gcd a b, h1, hl.2 with
  | [c], _, _ => exact ⟨c, rfl⟩
  | [], h1, _ => simp at h1
  | _ :: _ :: _, _, h2 => simp at h2
 rw [hc] at huv hn
 refine bz_const (c := c) (fun e => hn (by rw [e]; rfl)) ⟨u, v, fun x => ?_⟩
 have := huv x
 rw [at_cons, at_nil] at this
 grind
theorem dv_one {d a b : Poly} (h : Bz a b) (h1 : Dv d a) (h2 : Dv d b) : Dv d [1] := by
 obtain ⟨u, v, huv⟩ := h
 obtain ⟨x1, e1⟩ := h1
 obtain ⟨x2, e2⟩ := h2
 refine ⟨add (mul u x1) (mul v x2), fun x => ?_⟩
 have e : at_ [1] x = 1 := by rw [at_cons, at_nil]; grind
 rw [e, <- huv x, e1 x, e2 x]
 simp only [at_add, at_mul]
 grind
theorem bz_dv {a b c : Poly} (h : Bz a b) (hd : Dv c b) : Bz a c := by
 obtain ⟨u, v, huv⟩ := h
 obtain ⟨x1, e1⟩ := hd
 refine ⟨u, mul v x1, fun x => ?_⟩
 rw [at_mul]
 have := huv x
 rw [e1 x] at this
 grind
theorem sf_split {V W : Poly} (hV : SF V) (hW : Nm W) : ∃ v d : Poly, Nm v /\ v ≠ [] /\ (∀ x, at_ V x = at_ v x * at_ d x) /\ Dv d W /\ Bz v W /\ SF v := by
 obtain ⟨hVn, hV0, u, v, huv⟩ := hV
 obtain ⟨⟨a, ha⟩, hg2, α, β, hab⟩ := gcd_dv' hVn hW
 generalize gcd V W = g at *
 have hane : norm a ≠ [] := fun z => by
  obtain ⟨x, hx⟩ := ne_at hVn hV0
  exact hx (by rw [ha x, <- at_norm a, z, at_nil]; grind)
 have hVa : ∀ x, at_ V x = at_ (norm a) x * at_ g x := fun x => by rw [ha x, at_norm]
 have df : ∀ x, der V x = der (norm a) x * at_ g x + at_ (norm a) x * der g x := fun x => by
  rw [<- der_mul]; exact der_ext (fun y => by rw [at_mul, hVa]) x
 refine ⟨norm a, g, nm_norm a, hane, hVa, hg2, ?_, sf_div ⟨hVn, hV0, u, v, huv⟩ (nm_norm a) ⟨g, fun x => by rw [hVa x]; grind⟩⟩
 refine ⟨add (add (mul u g) (mul v (slope g))) (mul (mul v (slope (norm a))) (mul α g)), mul (mul v (slope (norm a))) β, fun x => ?_⟩
 simp only [at_add, at_mul]
 show (at_ u x * at_ g x + at_ v x * der g x + at_ v x * der (norm a) x * (at_ α x * at_ g x)) * at_ (norm a) x + at_ v x * der (norm a) x * at_ β x * at_ W x = 1
 have h1 : at_ u x * at_ V x + at_ v x * der V x = 1 := huv x
 have h2 := hab x
 rw [df x, hVa x] at h1
 rw [hVa x] at h2
 grind
structure Jn (p q g t w : Poly) : Prop where
 st : SF t
 sg : SF g
 sw : SF w
 bpt : Bz p t
 bgt : Bz g t
 s : ∃ c : Rat, c ≠ 0 /\ ∀ x, at_ (squareFree q) x = c * (at_ g x * at_ t x)
 w : ∃ c : Rat, c ≠ 0 /\ ∀ x, at_ w x = c * (at_ p x * at_ t x)
 dg : Dv g p
theorem jn {p q : Poly} (hp : SF p) (hq : Nm q) (hq0 : q ≠ []) : ∃ t, Jn p q (gcd p (squareFree q)) t (squareFree (mul q p)) := by
 have hs := sf_squareFree hq hq0
 have hgn := nm_gcd hp.1 hs.1
 have hg0 := gcd_ne hp.1 hs.1 hp.2.1
 obtain ⟨g1, ⟨t0, ht0⟩, gu, gv, hguv⟩ := gcd_dv' hp.1 hs.1
 have hsg : SF (gcd p (squareFree q)) := sf_div hp hgn g1
 generalize hG : gcd p (squareFree q) = g at *
 have hst : ∀ x, at_ (squareFree q) x = at_ (norm t0) x * at_ g x := fun x => by rw [ht0 x, at_norm]
 have htn := nm_norm t0
 have hdt : Dv (norm t0) (squareFree q) := ⟨g, fun x => by rw [hst x]; grind⟩
 have hsft : SF (norm t0) := sf_div hs htn hdt
 generalize norm t0 = t at *
 have es : squareFree q = mul g t := ext_at hs.1 (nm_mul _ _) fun x => by rw [at_mul, hst x]; grind
 have hbgt : Bz g t := bz_sf_mul (by rw [<- es]; exact hs)
 have hbpt : Bz p t := bz_one hp.1 hp.2.1 htn fun d hdn hd1 hd2 => by
  refine dv_one hbgt ?_ hd2
  obtain ⟨x1, e1⟩ := hd1
  obtain ⟨x2, e2⟩ := dv_trans hd2 hdt
  exact ⟨add (mul gu x1) (mul gv x2), fun x => by rw [hguv x, e1 x, e2 x]; simp only [at_add, at_mul]; grind⟩
 have hW0 := sf_mul hp hsft hbpt
 have hqp := mul_ne hq hp.1 hq0 hp.2.1
 have hqpn := nm_mul q p
 obtain ⟨c1, hc1, e1⟩ := sq_part hq hq0
 have hdsq : Dv (squareFree q) q := ⟨scale (1 / c1) (gcd q (slope q)), fun x => by rw [e1, at_scale, at_scale, sq_at hq hq0 x]; grind⟩
 have hW0d : Dv (mul p t) (mul q p) := by
  obtain ⟨y, ey⟩ := dv_trans hdt hdsq
  exact ⟨y, fun x => by rw [at_mul, at_mul, ey x]; grind⟩
 have k1 := sf_dvd hqpn hqp hW0 hW0d
 obtain ⟨c2, hc2, e2⟩ := sq_part hqpn hqp
 have hsV := sf_sq hqpn hqp
 have k2 : Dv (sq (mul q p)) (mul p t) := by
  obtain ⟨v, d, hvn, hv0, hvd, hdW, hbv, hsv⟩ := sf_split hsV hW0.1
  have hvV : Dv v (sq (mul q p)) := ⟨d, fun x => by rw [hvd x]; grind⟩
  have hVq : Dv (sq (mul q p)) (mul q p) := ⟨gcd (mul q p) (slope (mul q p)), fun x => by rw [sq_at hqpn hqp x]; grind⟩
  have hbvp : Bz v p := bz_dv hbv ⟨t, fun x => by rw [at_mul]; grind⟩
  have hbvt : Bz v t := bz_dv hbv ⟨p, fun x => by rw [at_mul]⟩
  have hvq : Dv v q := dv_cop (R := mul q p) (s := p) (fun x => by rw [at_mul]) (dv_trans hvV hVq) hbvp
  have hvs : Dv v (squareFree q) := by
   obtain ⟨y, ey⟩ := sf_dvd hq hq0 hsv hvq
   exact ⟨scale c1 y, fun x => by rw [e1, at_scale, at_scale, ey x]; grind⟩
  have hvg : Dv v g := dv_cop (R := squareFree q) (s := t) (fun x => by rw [hst x]; grind) hvs hbvt
  have hv1 : Dv v [1] := dv_one hbvp ⟨[1], fun x => by rw [at_cons, at_nil]; grind⟩ (dv_trans hvg g1)
  obtain ⟨y, ey⟩ := hv1
  obtain ⟨z, ez⟩ := hdW
  refine ⟨mul z y, fun x => ?_⟩
  rw [at_mul z y, ez x, hvd x]
  have e3 := ey x
  have e4 : at_ [1] x = 1 := by rw [at_cons, at_nil]; grind
  rw [e4] at e3
  have : at_ z x * at_ y x * (at_ v x * at_ d x) = at_ z x * at_ d x * (at_ y x * at_ v x) := by grind
  rw [this, <- e3]; grind
 obtain ⟨c3, hc3, e3⟩ := dv_both hsV.1 hW0.1 hW0.2.1 k2 k1
 refine ⟨t, hsft, hsg, sf_squareFree hqpn hqp, hbpt, hbgt, ⟨1, by decide, fun x => by rw [hst x]; grind⟩, ⟨c2 * c3, fun z => by
  rcases Rat.mul_eq_zero.mp z with y | y
  ·exact hc2 y
  ·exact hc3 y, fun x => by rw [e2, e3, at_scale, at_scale, at_mul]; grind⟩, g1⟩
def cw (f : Poly) (a b : Rat) : Nat := between (sturm f) a b + zr f a
theorem cw_sub {f : Poly} (h : SF f) {a b a' b' : Rat} (h1 : a' <= a) (h2 : a <= b) (h3 : b <= b') : cw f a b <= cw f a' b' := by
 have S := sturm_is h
 have e1 := S.add h1 h2
 have e2 := S.add (show a' <= b by grind) h3
 unfold cw
 rcases rat_tri a' a with z | z | z
 ·have := zr_le S z; lia
 ·subst z; lia
 ·grind
theorem cw_mul {p h w : Poly} (hp : SF p) (hh : SF h) (hw : SF w) {c : Rat} (hc : c ≠ 0) (e : ∀ x, at_ w x = c * (at_ p x * at_ h x)) (hb : Bz p h) {a b : Rat} (hab : a <= b) : cw w a b = cw p a b + cw h a b := by
 unfold cw
 rw [count_mul (sturm_is hp) (sturm_is hh) (sturm_is hw) hc e hb hab, zr_mul hc e hb]
 lia
theorem cw_split {f d : Poly} (hf : SF f) (hd : SF d) (h : Dv d f) : ∃ e : Poly, SF e /\ ∀ a b, a <= b -> cw f a b = cw d a b + cw e a b := by
 obtain ⟨e, he⟩ := h
 have e1 : ∀ x, at_ f x = at_ d x * at_ (norm e) x := fun x => by rw [he x, at_norm]; grind
 have hs : SF (norm e) := sf_div hf (nm_norm e) ⟨d, fun x => e1 x⟩
 have ef : f = mul d (norm e) := ext_at hf.1 (nm_mul _ _) fun x => by rw [at_mul, e1 x]
 refine ⟨norm e, hs, fun a b hab => cw_mul hd hs hf (c := 1) (by decide) (fun x => by rw [e1 x]; grind) (bz_sf_mul (by rw [<- ef]; exact hf)) hab⟩
theorem cw_dv {f d : Poly} (hf : SF f) (hd : SF d) (h : Dv d f) {a b : Rat} (hab : a <= b) : cw d a b <= cw f a b := by
 obtain ⟨e, _, he⟩ := cw_split hf hd h
 have := he a b hab
 lia
theorem cw_within {f : Poly} {c : Cell} (h : c.1 <= c.2) : within f (sturm f) c = cw f c.1 c.2 := by
 unfold within cw zr
 rcases rat_tri c.1 c.2 with z | z | z
 ·rw [if_pos z]
 ·rw [if_neg (by grind), <- z]
  have : between (sturm f) c.1 c.1 = 0 := by unfold between; lia
  rw [this]
 ·grind
theorem cw_wit {p : List Int} {L : List (List Int)} (h : Chn p L) {a b : Rat} (hab : a <= b) : wit p L a b = ((cw (ip p) a b : Nat) : Int) := by
 rw [h.wit_eq hab, h.st.same (sturm_is h.sf) (c := 1) (by decide) (fun x => by grind) hab]
 rfl
theorem cw_const {f : Poly} (h : SF f) (hl : f.length <= 1) {a b : Rat} (hab : a <= b) : cw f a b = 0 := by
 obtain ⟨c, hc⟩ : ∃ c, f = [c] := by
  match f, h.2.1, hl with
  | [c], _, _ => exact ⟨c, rfl⟩
  | _ :: _ :: _, _, hl => simp at hl
 have hc0 : c ≠ 0 := fun z => by
  have := h.1
  rw [hc, z] at this
  exact this rfl
 have e : ∀ x, at_ f x = c := fun x => by rw [hc, at_cons, at_nil]; grind
 have hp : 0 < c * c := by
  rcases rat_tri c 0 with z | z | z
  ·exact neg_mul_neg' z z
  ·exact absurd z hc0
  ·exact Rat.mul_pos z z
 unfold cw zr
 rw [(sturm_is h).none hab (fun x y _ _ _ => by rw [e, e]; exact hp), e, if_neg hc0]
theorem cw_ne {f : Poly} (h : SF f) {a b x : Rat} (hz : cw f a b = 0) (hx : a <= x) (hy : x <= b) : at_ f x ≠ 0 := fun e => by
 have := cw_sub h hx (Rat.le_refl) hy
 rw [hz] at this
 unfold cw zr at this
 rw [if_pos e] at this
 lia
theorem cw_pos {f : Poly} (h : SF f) {a b x y : Rat} (hz : cw f a b = 0) (hx : a <= x) (hxy : x <= y) (hy : y <= b) : 0 < at_ f x * at_ f y := by
 refine ((sturm_is h).parity hxy (cw_ne h hz hx (by grind)) (cw_ne h hz (by grind) hy)).mp ?_
 have := cw_sub h hx hxy hy
 rw [hz] at this
 unfold cw at this
 lia
theorem cw_one {f : Poly} (h : SF f) {a b : Rat} (hab : a <= b) (h1 : cw f a b = 1) : at_ f a * at_ f b <= 0 := by
 by_cases ha : at_ f a = 0
 ·rw [ha]; grind
 by_cases hb : at_ f b = 0
 ·rw [hb]; grind
 rcases rat_lt_or_ge 0 (at_ f a * at_ f b) with z | z
 ·exfalso
  have := ((sturm_is h).parity hab ha hb).mpr z
  unfold cw zr at h1
  rw [if_neg ha] at h1
  lia
 ·exact z
theorem dv_sf {q : Poly} (hq : Nm q) (hq0 : q ≠ []) : Dv (squareFree q) q := by
 obtain ⟨c1, hc1, e1⟩ := sq_part hq hq0
 exact ⟨scale (1 / c1) (gcd q (slope q)), fun x => by rw [e1, at_scale, at_scale, sq_at hq hq0 x]; grind⟩
theorem dv_to_sf {q f : Poly} (hq : Nm q) (hq0 : q ≠ []) (hf : SF f) (h : Dv f q) : Dv f (squareFree q) := by
 obtain ⟨c1, hc1, e1⟩ := sq_part hq hq0
 obtain ⟨y, ey⟩ := sf_dvd hq hq0 hf h
 exact ⟨scale c1 y, fun x => by rw [e1, at_scale, at_scale, ey x]; grind⟩
theorem dv_gcd {a b d : Poly} (ha : Nm a) (hb : Nm b) (h1 : Dv d a) (h2 : Dv d b) : Dv d (gcd a b) := by
 obtain ⟨_, _, u, v, huv⟩ := gcd_dv' ha hb
 obtain ⟨x1, e1⟩ := h1
 obtain ⟨x2, e2⟩ := h2
 exact ⟨add (mul u x1) (mul v x2), fun x => by rw [huv x, e1 x, e2 x]; simp only [at_add, at_mul]; grind⟩
theorem one_sign {a b : Rat} (hab : a <= b) : ∀ (n : Nat) (q : Poly), q.length <= n -> Nm q -> q ≠ [] -> cw (squareFree q) a b = 0 -> ∀ x y, a <= x -> x <= y -> y <= b -> 0 < at_ q x * at_ q y := by
 intro n
 induction n with
 | zero => intro q hl _ h0; exact absurd (List.length_eq_zero_iff.mp (by lia)) h0
 | succ n ih =>
  intro q hl hq hq0 hz x y hx hxy hy
  have hs := sf_squareFree hq hq0
  have s1 := cw_pos hs hz hx hxy hy
  obtain ⟨c, hc, ec⟩ := sq_part hq hq0
  have hr0 := gcd_ne hq (show Nm (slope q) from nm_norm _) hq0
  have hrn := nm_gcd hq (show Nm (slope q) from nm_norm _)
  have key : 0 < at_ (gcd q (slope q)) x * at_ (gcd q (slope q)) y := by
   by_cases h1 : q.length <= 1
   ·-- a number
    have hl1 := dvd_len hrn hq hq0 (gcd_dv' hq (show Nm (slope q) from nm_norm _)).1
    obtain ⟨d, hd⟩ : ∃ d, gcd q (slope q) = [d] := by
     have h2 := List.length_pos_iff.mpr hr0
     match gcd q (slope q), h2, hl1.2 with
     | [d], _, _ => exact ⟨d, rfl⟩
     | _ :: _ :: _, _, h3 => simp at h3; lia
    rw [hd] at hrn ⊢
    have hd0 : d ≠ 0 := fun z => hrn (by rw [z]; rfl)
    rw [at_cons, at_nil, at_cons, at_nil, show d + x * 0 = d by grind, show d + y * 0 = d by grind]
    rcases rat_tri d 0 with z | z | z
    ·exact neg_mul_neg' z z
    ·exact absurd z hd0
    ·exact Rat.mul_pos z z
   ·have hsl : (slope q).length = q.length - 1 := slope_length hq
    have hs0 : slope q ≠ [] := fun e => by rw [e] at hsl; simp at hsl; lia
    have hl2 := dvd_len hrn (show Nm (slope q) from nm_norm _) hs0 (gcd_dv' hq (show Nm (slope q) from nm_norm _)).2.1
    refine ih _ (by lia) hrn hr0 ?_ x y hx hxy hy
    have hd := dv_to_sf hq hq0 (sf_squareFree hrn hr0) (dv_trans (dv_sf hrn hr0) (gcd_dv' hq (show Nm (slope q) from nm_norm _)).1)
    have := cw_dv hs (sf_squareFree hrn hr0) hd hab
    lia
  rw [ec, at_scale, at_scale] at s1
  rw [sq_at hq hq0 x, sq_at hq hq0 y]
  have hcc : 0 < c * c := by
   rcases rat_tri c 0 with z | z | z
   ·exact neg_mul_neg' z z
   ·exact absurd z hc
   ·exact Rat.mul_pos z z
  have s2 : 0 < at_ (sq q) x * at_ (sq q) y := by
   have e : c * at_ (sq q) x * (c * at_ (sq q) y) = (c * c) * (at_ (sq q) x * at_ (sq q) y) := by grind
   rw [e] at s1
   rcases mul_pos_cases s1 with z | z
   ·exact z.2
   ·grind
  have := Rat.mul_pos s2 key
  grind
structure Hol (p : List Int) (L : List (List Int)) (k : Nat) (a b : Rat) : Prop where
 le : a <= b
 lo : bel p L a <= k
 hi : (k : Int) < up L b
section
variable {p : List Int} {L : List (List Int)} {k : Nat}
theorem Hol.cw (h : Nb p L k) {a b : Rat} (hd : Hol p L k a b) : 1 <= My.cw (ip p) a b := by
 have := cw_wit h.ch hd.le
 have h1 := hd.lo
 have h2 := hd.hi
 unfold wit at this
 lia
theorem Hol.cross (h : Nb p L k) {a b a' b' : Rat} (hd : Hol p L k a b) (hd' : Hol p L k a' b') : a <= b' := by
 rcases rat_lt_or_ge b' a with z | z
 ·have := h.ch.bel_lt z
  have h1 := hd.lo
  have h2 := hd'.hi
  lia
 ·exact z
theorem Hol.meet (h : Nb p L k) {a b a' b' : Rat} (hd : Hol p L k a b) (hd' : Hol p L k a' b') : ∃ x y, Hol p L k x y /\ a <= x /\ a' <= x /\ y <= b /\ y <= b' := by
 have c1 := hd.cross h hd'
 have c2 := hd'.cross h hd
 have hx : ∃ x, (x = a \/ x = a') /\ a <= x /\ a' <= x := by
  rcases rat_lt_or_ge a a' with z | z
  ·exact ⟨a', .inr rfl, Rat.le_of_lt z, Rat.le_refl⟩
  ·exact ⟨a, .inl rfl, Rat.le_refl, z⟩
 have hy : ∃ y, (y = b \/ y = b') /\ y <= b /\ y <= b' := by
  rcases rat_lt_or_ge b b' with z | z
  ·exact ⟨b, .inl rfl, Rat.le_refl, Rat.le_of_lt z⟩
  ·exact ⟨b', .inr rfl, z, Rat.le_refl⟩
 obtain ⟨x, ex, x1, x2⟩ := hx
 obtain ⟨y, ey, y1, y2⟩ := hy
 have l1 := hd.le
 have l2 := hd'.le
 refine ⟨x, y, ⟨?_, ?_, ?_⟩, x1, x2, y1, y2⟩
 ·rcases ex with rfl | rfl <;> rcases ey with rfl | rfl <;> assumption
 ·rcases ex with rfl | rfl
  ·exact hd.lo
  ·exact hd'.lo
 ·rcases ey with rfl | rfl
  ·exact hd.hi
  ·exact hd'.hi
theorem Iso.hd (h : Nb p L k) {c : Cell} (hc : Iso p L k c) : Hol p L k c.1 c.2 :=
 ⟨hc.le, by rw [hc.bel1 h]; exact Int.le_refl _, by rw [hc.up2 h]; lia⟩
theorem Iso.cw (h : Nb p L k) {c : Cell} (hc : Iso p L k c) : My.cw (ip p) c.1 c.2 = 1 := by
 have := cw_wit h.ch hc.le
 unfold wit at this
 rw [hc.bel1 h, hc.up2 h] at this
 lia
theorem lone_same (h : Nb p L k) {f : Poly} (hf : SF f) (hd : Dv f (ip p)) {a b a' b' : Rat} (h1 : Hol p L k a b) (h2 : Hol p L k a' b') (hl : My.cw (ip p) a b <= 1) (hc : 1 <= My.cw f a b) : 1 <= My.cw f a' b' := by
 obtain ⟨e, he, hs⟩ := cw_split h.ch.sf hf hd
 obtain ⟨x, y, hxy, x1, x2, y1, y2⟩ := h1.meet h h2
 have k1 := hs a b h1.le
 have k2 := hs x y hxy.le
 have k3 := hxy.cw h
 have k4 := cw_sub he x1 hxy.le y1
 have k5 := cw_sub hf x2 hxy.le y2
 lia
end
theorem small_at {f : Poly} (h : SF f) {a b B : Rat} (hB : 0 <= B) (ha : -B <= a) (hab : a <= b) (hb : b <= B) (h1 : 1 <= cw f a b) : ab (at_ f a) <= (b - a) * db f B := by
 rcases rat_lt_or_ge ((b - a) * db f B) (ab (at_ f a)) with z | z
 ·exfalso
  have inB : ∀ x, a <= x -> x <= b -> ab x <= B := fun x h1 h2 => ab_le.mpr ⟨by grind, by grind⟩
  have big : ∀ x, a <= x -> x <= b -> ab (at_ f a) - (b - a) * db f B <= ab (at_ f x) := fun x hx hx' => by
   have hl := lip hB (inB x hx hx') (inB a Rat.le_refl hab) f
   have h4 : ab (a - x) <= b - a := by unfold ab; split <;> grind
   have h5 : ab (a - x) * db f B <= (b - a) * db f B := Rat.mul_le_mul_of_nonneg_right h4 (db_nonneg hB f)
   have h6 := ab_add (at_ f a - at_ f x) (at_ f x)
   have e : at_ f a - at_ f x + at_ f x = at_ f a := by grind
   rw [e] at h6
   grind
  have h0 := (sturm_is h).none hab fun x y hx hxy hy => off_same (by grind) big hx hxy hy
  have h2 : at_ f a ≠ 0 := fun e => by
   rw [e] at z
   have e0 : ab 0 = 0 := by decide
   have := db_nonneg hB f
   have := Rat.mul_nonneg (show 0 <= b - a by grind) this
   grind
  unfold cw zr at h1
  rw [h0, if_neg h2] at h1
  lia
 ·exact z
def b2X (D H : Nat) : Nat := (2 * (D * H) + 1) ^ (D - 1)
def b2K (D H B : Nat) : Nat := b2X D H * D * (H * ((D + 1) * (D + 1))) * B ^ (D + 1)
theorem b2_term {X D H B n m k : Nat} (hB : 1 <= B) (hm : m <= D) (hn : n + 1 <= D + 1) (e : m + (n + 1) = D + 1) (hk : k = X * D * (H * ((D + 1) * (D + 1))) * B ^ (D + 1)) : X * m * B ^ m * (H * ((n + 1) * (n + 1)) * B ^ (n + 1)) <= k := by
 have e1 : X * m * B ^ m * (H * ((n + 1) * (n + 1)) * B ^ (n + 1)) = X * m * (H * ((n + 1) * (n + 1))) * B ^ (D + 1) := by
  rw [<- e, Nat.pow_add B m (n + 1), Nat.mul_assoc (X * m), Nat.mul_left_comm (B ^ m), Nat.mul_assoc (X * m)]
 rw [e1, hk]
 exact Nat.mul_le_mul_right _ (Nat.mul_le_mul (Nat.mul_le_mul_left _ hm) (Nat.mul_le_mul_left _ (Nat.mul_le_mul hn hn)))
theorem apart2 {p t : Poly} {H n m : Nat} (hp : SF p) (ht : SF t) (hb : Bz p t) (hwp : Wh p H) (hwt : Wh t H) (hn : p.length = n + 1) (hm : t.length = m + 1) (hn1 : 1 <= n) {a b : Rat} {B : Nat} (hB : 1 <= B) (ha : -(B : Rat) <= a) (hab : a <= b) (hbB : b <= (B : Rat))
  (hd : (b - a) * ((4 * b2K (n + m) H B : Nat) : Rat) <= 1) (h1 : 1 <= cw p a b) : cw t a b = 0 := by
 false_or_by_contra
 rename_i h2
 obtain ⟨u, v, N, hN, hval, hu, hv, ul, vl⟩ := small_bz2 hp.1 hp.2.1 hb hwp hwt hn hm hn1
 have hB1 : (1 : Rat) <= (B : Rat) := Rat.natCast_le_natCast.mpr hB
 have hB0 : (0 : Rat) <= (B : Rat) := by grind
 have hX0 : (0 : Rat) <= ((b2X (n + m) H : Nat) : Rat) := nat_nonneg _
 have hwab : ∀ {f : Poly}, Wh f H -> ∀ i, ab (co f i) <= ((H : Nat) : Rat) := fun {f} hf i => by
  rw [hf.whole i]; exact ab_int (hf.le i)
 have inB : ab a <= (B : Rat) := ab_le.mpr ⟨ha, by grind⟩
 have vu := Rat.le_trans (at_le hB0 inB u) (vb_le hX0 hB1 u m hu ul)
 have vv := Rat.le_trans (at_le hB0 inB v) (vb_le hX0 hB1 v n hv vl)
 have dp := db_le (nat_nonneg H) hB1 p (n + 1) (hwab hwp) (by lia)
 have dt := db_le (nat_nonneg H) hB1 t (m + 1) (hwab hwt) (by lia)
 have sp := small_at hp hB0 ha hab hbB h1
 have st := small_at ht hB0 ha hab hbB (by lia)
 have hw0 : 0 <= b - a := by grind
 have c1' : ((b2X (n + m) H : Nat) : Rat) * (m : Rat) * (B : Rat) ^ m = ((b2X (n + m) H * m * B ^ m : Nat) : Rat) := by rw [Rat.natCast_mul, Rat.natCast_mul, Rat.natCast_pow]
 have c2' : ((b2X (n + m) H : Nat) : Rat) * (n : Rat) * (B : Rat) ^ n = ((b2X (n + m) H * n * B ^ n : Nat) : Rat) := by rw [Rat.natCast_mul, Rat.natCast_mul, Rat.natCast_pow]
 have c3 : ∀ n : Nat, ((H : Nat) : Rat) * (((n + 1 : Nat) : Rat) * ((n + 1 : Nat) : Rat)) * (B : Rat) ^ (n + 1) = ((H * ((n + 1) * (n + 1)) * B ^ (n + 1) : Nat) : Rat) := fun n => by rw [Rat.natCast_mul, Rat.natCast_mul, Rat.natCast_mul, Rat.natCast_pow]
 rw [c1'] at vu
 rw [c2'] at vv
 rw [c3] at dp dt
 have k1 := b2_term (X := b2X (n + m) H) (D := n + m) (H := H) (B := B) (n := n) (m := m) hB (by lia) (by lia) (by lia) rfl
 have k2 := b2_term (X := b2X (n + m) H) (D := n + m) (H := H) (B := B) (n := m) (m := n) hB (by lia) (by lia) (by lia) rfl
 have k1 := Rat.natCast_le_natCast.mpr k1
 have k2 := Rat.natCast_le_natCast.mpr k2
 rw [Rat.natCast_mul] at k1 k2
 rw [Rat.natCast_mul] at hd
 have e4 : ((4 : Nat) : Rat) = 4 := rfl
 rw [e4] at hd
 change _ <= ((b2K (n + m) H B : Nat) : Rat) at k1 k2
 generalize ((b2K (n + m) H B : Nat) : Rat) = KK at *
 generalize ((b2X (n + m) H * m * B ^ m : Nat) : Rat) = U at *
 generalize ((b2X (n + m) H * n * B ^ n : Nat) : Rat) = V at *
 generalize ((H * ((n + 1) * (n + 1)) * B ^ (n + 1) : Nat) : Rat) = P at *
 generalize ((H * ((m + 1) * (m + 1)) * B ^ (m + 1) : Nat) : Rat) = T at *
 have sp' : ab (at_ p a) <= (b - a) * P := Rat.le_trans sp (Rat.mul_le_mul_of_nonneg_left dp hw0)
 have st' : ab (at_ t a) <= (b - a) * T := Rat.le_trans st (Rat.mul_le_mul_of_nonneg_left dt hw0)
 have h3 := ab_add (at_ u a * at_ p a) (at_ v a * at_ t a)
 rw [hval a, ab_mul, ab_mul] at h3
 have hN1 : 1 <= ab ((N : Int) : Rat) := by
  unfold ab
  rcases (show N < 0 \/ 0 < N from by lia) with z | z
  ·have z1 : ((N : Int) : Rat) <= -1 := Rat.intCast_le_intCast.mpr (show N <= -1 by lia)
   rw [if_pos (by grind)]; grind
  ·have z1 : 1 <= ((N : Int) : Rat) := Rat.intCast_le_intCast.mpr (show 1 <= N by lia)
   rw [if_neg (by grind)]; exact z1
 have h4 := mul_le_mul_nn (ab_nonneg (at_ u a)) (Rat.le_trans (ab_nonneg (at_ p a)) sp') vu sp'
 have h5 := mul_le_mul_nn (ab_nonneg (at_ v a)) (Rat.le_trans (ab_nonneg (at_ t a)) st') vv st'
 have h6 : (b - a) * (U * P) <= (b - a) * KK := Rat.mul_le_mul_of_nonneg_left k1 hw0
 have h7 : (b - a) * (V * T) <= (b - a) * KK := Rat.mul_le_mul_of_nonneg_left k2 hw0
 have e1 : U * ((b - a) * P) = (b - a) * (U * P) := by grind
 have e2 : V * ((b - a) * T) = (b - a) * (V * T) := by grind
 have e3 : (b - a) * (4 * KK) = 4 * ((b - a) * KK) := by grind
 rw [e3] at hd
 rw [e1] at h4
 rw [e2] at h5
 generalize (b - a) * KK = Y at *
 grind
theorem b2_bits {D c β : Nat} (hD : 1 <= D) (h16 : D <= 16) : 4 * b2K D (2 ^ c) (2 ^ β) <= 2 ^ (c * D + 6 * D + 9 + β * (D + 1)) := by
 have h1 : b2X D (2 ^ c) <= 2 ^ ((c + 6) * (D - 1)) := by
  unfold b2X
  rw [Nat.pow_mul]
  refine Nat.pow_le_pow_left ?_ _
  have e : 2 ^ (c + 6) = 64 * 2 ^ c := by rw [Nat.pow_add, Nat.mul_comm]
  have h := Nat.mul_le_mul_right (2 ^ c) h16
  have := pow_pos c
  lia
 have h2 : D <= 2 ^ 4 := h16
 have h3 : (D + 1) * (D + 1) <= 2 ^ 9 := Nat.le_trans (Nat.mul_le_mul (show D + 1 <= 17 by lia) (show D + 1 <= 17 by lia)) (by decide)
 have h4 : b2X D (2 ^ c) * D * (2 ^ c * ((D + 1) * (D + 1))) <= 2 ^ ((c + 6) * (D - 1)) * 2 ^ 4 * (2 ^ c * 2 ^ 9) := Nat.mul_le_mul (Nat.mul_le_mul h1 h2) (Nat.mul_le_mul_left _ h3)
 unfold b2K
 rw [<- Nat.pow_mul 2 β (D + 1)]
 have h5 := Nat.mul_le_mul_left 4 (Nat.mul_le_mul_right (2 ^ (β * (D + 1))) h4)
 refine Nat.le_trans h5 ?_
 have e4 : (4 : Nat) = 2 ^ 2 := rfl
 rw [e4, <- Nat.pow_add, <- Nat.pow_add, <- Nat.pow_add, <- Nat.pow_add, <- Nat.pow_add]
 refine pow_le ?_
 have e5 : (c + 6) * D = (c + 6) * (D - 1) + (c + 6) := by
  rw [<- Nat.mul_succ]; congr 1; lia
 have e6 : (c + 6) * D = c * D + 6 * D := Nat.add_mul _ _ _
 lia
theorem weight_mem2 : ∀ p : Poly, ∀ c ∈ p, Nat.log2 (c.num.natAbs + 1) + 2 * p.length <= weight p := by
 have hl : ∀ p : Poly, 2 * p.length <= weight p := by
  intro p
  refine snoc_ind (P := fun p => 2 * p.length <= weight p) (Nat.zero_le _) (fun p c ih => ?_) p
  rw [weight_snoc, List.length_append]
  simp only [List.length_cons, List.length_nil]
  lia
 intro p
 refine snoc_ind (P := fun p => ∀ c ∈ p, Nat.log2 (c.num.natAbs + 1) + 2 * p.length <= weight p) (fun c h => by simp at h) (fun p c ih x hx => ?_) p
 rw [weight_snoc, List.length_append]
 simp only [List.length_cons, List.length_nil]
 rcases List.mem_append.mp hx with h | h
 ·have := ih x h; lia
 ·rw [List.mem_singleton.mp h]
  have := hl p
  lia
theorem mxc_lt {p : Poly} (hw : ∀ c ∈ p, c.den = 1) (hl : 1 <= lead p) {b : Nat} (hb : ∀ c ∈ p, c.num.natAbs <= b) : mxc p <= b := by
 refine foldl_max_le _ 0 (Nat.zero_le _) fun x hx => ?_
 obtain ⟨c, hc, rfl⟩ := List.mem_map.mp hx
 have h1 := hb c hc
 have hcn := rat_eq c
 rw [hw c hc] at hcn
 have e1' : ((1 : Nat) : Rat) = 1 := rfl
 rw [e1', Rat.mul_one] at hcn
 have h2 : size (c / lead p) <= (((b : Nat) : Int) : Rat) := by
  rw [size_ab]
  have h7 := Rat.div_mul_cancel (a := c) (b := lead p) (by grind)
  have h8 : ab c = ab (c / lead p) * ab (lead p) := by rw [<- ab_mul, h7]
  have h9 : ab (lead p) = lead p := by unfold ab; rw [if_neg (by grind)]
  have h10 : ab c <= ((b : Nat) : Rat) := by rw [hcn]; exact ab_int h1
  have h11 : ab (c / lead p) * 1 <= ab (c / lead p) * ab (lead p) := Rat.mul_le_mul_of_nonneg_left (by rw [h9]; exact hl) (ab_nonneg _)
  have e : (((b : Nat) : Int) : Rat) = ((b : Nat) : Rat) := rfl
  rw [e]
  grind
 have h3 : (size (c / lead p)).ceil <= ((b : Nat) : Int) := by
  have h4 : ((size (c / lead p)).ceil : Rat) < size (c / lead p) + 1 := Rat.ceil_lt
  have h5 : ((size (c / lead p)).ceil : Rat) < ((((b : Nat) : Int) + 1 : Int) : Rat) := by
   rw [Rat.intCast_add]
   have e : ((1 : Int) : Rat) = 1 := rfl
   rw [e]; grind
  have := Rat.intCast_lt_intCast.mp h5
  lia
 lia
theorem bound_bits {p : List Int} {n c : Nat} (hp : Pr (ip p) n) (hb : btI p c) : boundOf (ip p) <= c + 2 := by
 have hm : mxc (ip p) <= 2 ^ c - 1 := mxc_lt (fun x hx => by
  unfold ip at hx
  obtain ⟨z, _, rfl⟩ := List.mem_map.mp hx
  rfl) hp.lead1 fun x hx => by
  unfold ip at hx
  obtain ⟨z, hz, rfl⟩ := List.mem_map.mp hx
  have := hb z hz
  show z.natAbs <= _
  lia
 have := pow_pos c
 rw [boundOf_eq]
 have h2 := log2_mono (a := mxc (ip p) + 1) (b := 2 ^ c) (by lia) (by lia)
 rw [Nat.log2_two_pow] at h2
 lia
theorem dB_16' : ∀ n, n <= 16 -> dB n <= 2 ^ (11 * n + 8) := by decide +kernel
theorem wh_bt {p : List Int} {c : Nat} (h : btI p c) : Wh (ip p) (2 ^ c) := by
 have e : ∀ i, cz (ip p) i = ci p i := fun i => by unfold cz; rw [co_ip]; rfl
 exact ⟨fun i => by rw [e]; exact co_ip p i, fun i => by rw [e]; exact Nat.le_of_lt (h.ci i)⟩
theorem dvd_bits {P f : List Int} {n M : Nat} (hP : PrI P) (hf : PrI f) (hd : Dv (ip f) (ip P)) (hl : P.length = n + 1) (hb : bdI P M) : bdI f (M * dB n) := by
 obtain ⟨a, ha, _, e⟩ := whole_quot hP.nm hf hd
 exact div_bd hP.nm hf.nm ha hl hb (by rw [e]; exact ext_at (nm_mul _ _) (nm_mul _ _) fun x => by rw [at_mul, at_mul]; grind)
def cB (w N : Nat) : Nat := w - 2 * N + 1 + (11 * (N - 1) + 8) + 1
theorem wp_bits {P : List Int} (hP : PrI P) : bdI P (2 ^ (weight (ip P) - 2 * P.length + 1)) /\ 2 * P.length <= weight (ip P) := by
 have key : ∀ c ∈ P, Nat.log2 (c.natAbs + 1) + 2 * P.length <= weight (ip P) := fun c hc => by
  have := weight_mem2 (ip P) ((c : Int) : Rat) (by unfold ip; exact List.mem_map.mpr ⟨c, hc, rfl⟩)
  rw [ip_len] at this
  exact this
 refine ⟨fun c hc => ?_, ?_⟩
 ·have h1 := key c hc
  have h2 : c.natAbs + 1 < 2 ^ (Nat.log2 (c.natAbs + 1) + 1) := Nat.lt_log2_self
  have h3 : 2 ^ (Nat.log2 (c.natAbs + 1) + 1) <= 2 ^ (weight (ip P) - 2 * P.length + 1) := pow_le (by lia)
  lia
 ·obtain ⟨c, hc⟩ := List.exists_mem_of_ne_nil P hP.ne
  have := key c hc
  lia
theorem cB_bits {P f : List Int} (hP : PrI P) (hf : PrI f) (hd : Dv (ip f) (ip P)) (h17 : P.length <= 17) : btI f (cB (weight (ip P)) P.length) := by
 obtain ⟨h1, h2⟩ := wp_bits hP
 have hl := List.length_pos_iff.mpr hP.ne
 have h3 := dvd_bits hP hf hd (n := P.length - 1) (by lia) h1
 have h4 := dB_16' (P.length - 1) (by lia)
 refine btI_of h3 ?_
 refine Nat.lt_of_le_of_lt (Nat.mul_le_mul_left _ h4) ?_
 rw [<- Nat.pow_add]
 exact Nat.pow_lt_pow_right (by decide) (by unfold cB; lia)
def sE (w N : Nat) : Nat := cB w N * (N - 1) + 6 * (N - 1) + 9 + (cB w N + 3) * N
theorem sE_fuel {w N : Nat} (hN : 1 <= N) (hw : 2 * N <= w) : sE w N + 2 <= 8 * (N + 2) * (w + N + 8) := by
 obtain ⟨d, rfl⟩ : ∃ d, N = d + 1 := ⟨N - 1, by lia⟩
 obtain ⟨h, rfl⟩ : ∃ h, w = h + 2 * (d + 1) := ⟨w - 2 * (d + 1), by lia⟩
 have e1 : cB (h + 2 * (d + 1)) (d + 1) = h + 11 * d + 10 := by unfold cB; lia
 unfold sE
 rw [e1, show d + 1 - 1 = d by lia]
 have e2 : (h + 11 * d + 10) * d = h * d + 11 * (d * d) + 10 * d := by rw [Nat.add_mul, Nat.add_mul, Nat.mul_assoc]
 have e3 : (h + 11 * d + 10 + 3) * (d + 1) = h * d + 11 * (d * d) + 13 * d + (h + 11 * d + 13) := by
  rw [Nat.mul_succ, show h + 11 * d + 10 + 3 = h + 11 * d + 13 by lia, Nat.add_mul, Nat.add_mul, Nat.mul_assoc]
 have e4 : 8 * (d + 1 + 2) * (h + 2 * (d + 1) + (d + 1) + 8) = 8 * (h * d + 3 * (d * d) + 11 * d + (3 * h + 9 * d + 33)) := by
  rw [Nat.mul_assoc, show d + 1 + 2 = d + 3 by lia, show h + 2 * (d + 1) + (d + 1) + 8 = h + 3 * d + 11 by lia]
  congr 1
  have a1 : (d + 3) * (h + 3 * d + 11) = d * (h + 3 * d + 11) + 3 * (h + 3 * d + 11) := Nat.add_mul _ _ _
  have a2 : d * (h + 3 * d + 11) = h * d + 3 * (d * d) + 11 * d := by rw [Nat.mul_add, Nat.mul_add, Nat.mul_comm d h, Nat.mul_left_comm, Nat.mul_comm d 11]
  rw [a1, a2]; lia
 rw [e2, e3, e4]
 generalize h * d = x
 generalize d * d = y
 lia
section
variable {p : List Int} {L : List (List Int)} {k : Nat}
theorem near_apart (h : Nb p L k) {P T : List Int} (hP : PrI P) (hT : PrI T) (h17 : P.length <= 17) (hpP : Dv (ip p) (ip P)) (hTP : Dv (ip T) (ip P)) (hsT : SF (ip T)) (hb : Bz (ip p) (ip T)) (hlen : p.length + T.length <= P.length + 1)
  {a b : Rat} (ha : -two (boundOf (ip p) + 1) <= a) (hab : a <= b) (hbB : b <= two (boundOf (ip p) + 1)) {w : Nat} (hw : (b - a) * two w <= 1) (hE : sE (weight (ip P)) P.length <= w) (h1 : 1 <= cw (ip p) a b) : cw (ip T) a b = 0 := by
 have hdeg := h.deg
 have hTl := List.length_pos_iff.mpr hT.ne
 have bp := cB_bits hP h.ch.pr hpP h17
 have bT := cB_bits hP hT hTP h17
 have hbd := bound_bits h.pr bp
 have e2 : ∀ n : Nat, ((2 ^ n : Nat) : Rat) = two n := fun n => rfl
 have hm := two_mono (show boundOf (ip p) + 1 <= cB (weight (ip P)) P.length + 3 by lia)
 refine apart2 (n := p.length - 1) (m := T.length - 1) (B := 2 ^ (cB (weight (ip P)) P.length + 3)) h.ch.sf hsT hb (wh_bt bp) (wh_bt bT) (by rw [ip_len]; lia) (by rw [ip_len]; lia) (by lia) (pow_pos _) ?_ hab ?_ ?_ h1
 ·rw [e2]; grind
 ·rw [e2]; grind
 ·refine Rat.le_trans (Rat.mul_le_mul_of_nonneg_left ?_ (by grind)) hw
  rw [two_eq_pow]
  refine Rat.natCast_le_natCast.mpr (Nat.le_trans (b2_bits (by lia) (by lia)) (pow_le (Nat.le_trans ?_ hE)))
  unfold sE
  generalize cB (weight (ip P)) P.length = c
  have k1 : c * (p.length - 1 + (T.length - 1)) <= c * (P.length - 1) := Nat.mul_le_mul_left _ (by lia)
  have k2 : (c + 3) * (p.length - 1 + (T.length - 1) + 1) <= (c + 3) * P.length := Nat.mul_le_mul_left _ (by lia)
  generalize c * (p.length - 1 + (T.length - 1)) = x1 at *
  generalize c * (P.length - 1) = x2 at *
  generalize (c + 3) * (p.length - 1 + (T.length - 1) + 1) = y1 at *
  generalize (c + 3) * P.length = y2 at *
  lia
theorem sign_go' (h : Nb p L k) {q : Poly} (hq : Nm q) (hq0 : q ≠ []) {a b : Rat} (hd : Hol p L k a b) (h0 : cw (squareFree q) a b = 0) {w0 : Nat}
  (near : ∀ c : Cell, Iso p L k c -> -two (boundOf (ip p) + 1) <= c.1 -> c.2 <= two (boundOf (ip p) + 1) -> (c.1 < c.2 -> (c.2 - c.1) * two w0 <= 1) -> cw (squareFree q) c.1 c.2 = 0) :
  ∀ (n : Nat) (z : Near) (w : Nat), z.p = ip p -> z.l = sturm (ip p) -> Iso p L k z.c -> (z.c.1 < z.c.2 -> (z.c.2 - z.c.1) * two w <= 1) -> -two (boundOf (ip p) + 1) <= z.c.1 -> z.c.2 <= two (boundOf (ip p) + 1) -> w0 <= w + n ->
  WrAlgn.signAt.go q (squareFree q) (sturm (squareFree q)) (n + 1) z = if at_ q a < 0 then 0 else 2 := by
 have hs := sf_squareFree hq hq0
 intro n
 have eqn : ∀ m z, WrAlgn.signAt.go q (squareFree q) (sturm (squareFree q)) (m + 1) z = if (squareFree q).length <= 1 \/ within (squareFree q) (sturm (squareFree q)) z.c = 0 then (if at_ q z.c.2 < 0 then 0 else 2) else WrAlgn.signAt.go q (squareFree q) (sturm (squareFree q)) m z.half := fun m z => rfl
 have out : ∀ m (z : Near), Iso p L k z.c -> cw (squareFree q) z.c.1 z.c.2 = 0 -> WrAlgn.signAt.go q (squareFree q) (sturm (squareFree q)) (m + 1) z = if at_ q a < 0 then 0 else 2 := fun m z hz hn => by
  rw [eqn, if_pos (.inr (by rw [cw_within hz.le, hn]))]
  obtain ⟨x, y, hxy, x1, x2, y1, y2⟩ := hd.meet h (hz.hd h)
  have l := hxy.le
  have s1 := one_sign hd.le _ q (Nat.le_refl _) hq hq0 h0 a x Rat.le_refl x1 (Rat.le_trans l y1)
  have s2 := one_sign hz.le _ q (Nat.le_refl _) hq hq0 hn x z.c.2 x2 (Rat.le_trans l y2) Rat.le_refl
  have s3 := pos_trans s1 s2
  by_cases hneg : at_ q a < 0
  ·rw [if_pos hneg, if_pos]
   rcases mul_pos_cases s3 with t | t
   ·grind
   ·exact t.2
  ·rw [if_neg hneg, if_neg]
   rcases mul_pos_cases s3 with t | t
   ·grind
   ·grind
 induction n with
 | zero =>
  intro z w hp hl hi hw hB1 hB2 hE
  refine out 0 z hi (near z.c hi hB1 hB2 fun hlt => Rat.le_trans (Rat.mul_le_mul_of_nonneg_left (two_mono hE) (by grind)) (hw hlt))
 | succ n ih =>
  intro z w hp hl hi hw hB1 hB2 hE
  by_cases hin : cw (squareFree q) z.c.1 z.c.2 = 0
  ·exact out (n + 1) z hi hin
  ·rw [eqn, if_neg (fun hor => by
    rcases hor with hor | hor
    ·exact hin (cw_const hs hor hi.le)
    ·rw [cw_within hi.le] at hor; exact hin hor)]
   obtain ⟨k1, k2, k3, k4⟩ := hi.halve h
   have ez : z.half.c = halve (ip p) (sturm (ip p)) z.c := by
    show halve z.p z.l z.c = _
    rw [hp, hl]
   refine ih z.half (w + 1) hp hl (by rw [ez]; exact k1) (fun hlt2 => ?_) (by rw [ez]; exact Rat.le_trans hB1 k3) (by rw [ez]; exact Rat.le_trans k4 hB2) (by lia)
   rw [ez] at hlt2 ⊢
   rcases k2 with k2 | k2
   ·grind
   ·rw [k2, two_succ]
    have := hw (by grind)
    grind
theorem part_bz {p t : Poly} (ht : SF t) (hb : Bz p t) : SF (part t) /\ Bz p (part t) /\ Dv t (part t) /\ Dv (part t) t := by
 obtain ⟨c, hc, e⟩ := part_at ht.1 ht.2.1
 refine ⟨sf_scale hc nm_part e ht, bz_scale (c := 1) (d := c) (by decide) hc (fun x => by grind) e hb, ⟨[c], fun x => by rw [e, at_cons, at_nil]; grind⟩, ⟨[1 / c], fun x => by rw [e, at_cons, at_nil]; grind⟩⟩
theorem signAt_is (h : Nb p L k) {D : Cell} (hD : DCell (ip p) (L.map ip) (-two (boundOf (ip p))) k D) {q : Poly} (hq : Nm q) (hq0 : q ≠ []) (h17 : (mul (ip p) q).length <= 17) {a b : Rat} (hd : Hol p L k a b) (hone : cw (squareFree (mul q (ip p))) a b <= 1) :
  signAt q ⟨ip p, sturm (ip p), D⟩ = if at_ (squareFree q) a * at_ (squareFree q) b <= 0 then 1 else if at_ q a < 0 then 0 else 2 := by
 have hs := sf_squareFree hq hq0
 have hp := h.ch.sf
 have hI := iso_of h hD
 obtain ⟨t, J⟩ := jn hp hq hq0
 obtain ⟨cs, hcs, es⟩ := J.s
 obtain ⟨cv, hcv, ev⟩ := J.w
 have cS : ∀ a b, a <= b -> cw (squareFree q) a b = cw (gcd (ip p) (squareFree q)) a b + cw t a b := fun a b hab => cw_mul J.sg J.st hs hcs es J.bgt hab
 have cW : ∀ a b, a <= b -> cw (squareFree (mul q (ip p))) a b = cw (ip p) a b + cw t a b := fun a b hab => cw_mul hp J.st J.sw hcv ev J.bpt hab
 have u1 := cW a b hd.le
 have u2 := hd.cw h
 have u3 := cS a b hd.le
 have p1 : cw (ip p) a b <= 1 := by lia
 have t0 : cw t a b = 0 := by lia
 have hg1 : cw (gcd (ip p) (squareFree q)) a b <= 1 := Nat.le_trans (cw_dv hp J.sg J.dg hd.le) p1
 have hgn := nm_gcd hp.1 hq
 have hg0 := gcd_ne hp.1 hq hp.2.1
 have hsg := sf_squareFree hgn hg0
 obtain ⟨d1, d2, _⟩ := gcd_dv' hp.1 hq
 obtain ⟨d3, d4, _⟩ := gcd_dv' hp.1 hs.1
 have k1 : Dv (squareFree (gcd (ip p) q)) (gcd (ip p) (squareFree q)) := dv_gcd hp.1 hs.1 (dv_trans (dv_sf hgn hg0) d1) (dv_to_sf hq hq0 hsg (dv_trans (dv_sf hgn hg0) d2))
 have k2 : Dv (gcd (ip p) (squareFree q)) (squareFree (gcd (ip p) q)) := dv_to_sf hgn hg0 J.sg (dv_gcd hp.1 hq d3 (dv_trans d4 (dv_sf hq hq0)))
 have cG : ∀ a b, a <= b -> cw (squareFree (gcd (ip p) q)) a b = cw (gcd (ip p) (squareFree q)) a b := fun a b hab => Nat.le_antisymm (cw_dv J.sg hsg k1 hab) (cw_dv hsg J.sg k2 hab)
 have hereD : (if (gcd (ip p) q).length <= 1 then false else within (squareFree (gcd (ip p) q)) (sturm (squareFree (gcd (ip p) q))) D != 0) = true ↔ 1 <= cw (gcd (ip p) (squareFree q)) D.1 D.2 := by
  rw [cw_within hI.le, <- cG _ _ hI.le]
  by_cases hl : (gcd (ip p) q).length <= 1
  ·rw [if_pos hl]
   have := cw_const hsg (Nat.le_trans (sqf_len hgn hg0) hl) hI.le
   simp [this]
  ·rw [if_neg hl]
   simp only [bne_iff_ne, ne_eq]
   lia
 have here : (if (gcd (ip p) q).length <= 1 then false else within (squareFree (gcd (ip p) q)) (sturm (squareFree (gcd (ip p) q))) D != 0) = true ↔ at_ (squareFree q) a * at_ (squareFree q) b <= 0 := by
  rw [hereD]
  constructor
  ·intro hc
   have := lone_same h J.sg J.dg (hI.hd h) hd (by rw [hI.cw h]; exact Nat.le_refl _) hc
   exact cw_one hs hd.le (by lia)
  ·intro hle
   rcases Nat.eq_zero_or_pos (cw (gcd (ip p) (squareFree q)) a b) with z | z
   ·have := cw_pos hs (a := a) (b := b) (by lia) Rat.le_refl hd.le Rat.le_refl
    grind
   ·exact lone_same h J.sg J.dg hd (hI.hd h) p1 z
 unfold signAt
 simp only
 by_cases hx : at_ (squareFree q) a * at_ (squareFree q) b <= 0
 ·rw [if_pos hx, if_pos (.inl (here.mpr hx))]
 ·rw [if_neg hx, if_neg (fun hor => by
   rcases hor with hor | hor
   ·exact hx (here.mp hor)
   ·exact hq0 hor)]
  have hgD : cw (gcd (ip p) (squareFree q)) D.1 D.2 = 0 := by
   rcases Nat.eq_zero_or_pos (cw (gcd (ip p) (squareFree q)) D.1 D.2) with z | z
   ·exact z
   ·exact absurd (here.mp (hereD.mpr z)) hx
  have hsab : cw (squareFree q) a b = 0 := by
   rcases Nat.eq_zero_or_pos (cw (squareFree q) a b) with z | z
   ·exact z
   ·exact absurd (cw_one hs hd.le (by lia)) hx
  have hmn := nm_mul (ip p) q
  have hm0 := mul_ne hp.1 hq hp.2.1 hq0
  have hP := pri_wp hmn hm0
  have eP := ip_wp hmn hm0
  have lP := wp_len hmn hm0
  obtain ⟨cm, hcm, em⟩ := part_at hmn hm0
  have dM : Dv (mul (ip p) q) (ip (wp (mul (ip p) q))) := ⟨[cm], fun x => by rw [eP, em, at_cons, at_nil]; grind⟩
  obtain ⟨T1, T2, T3, T4⟩ := part_bz J.st J.bpt
  have eT := ip_wp J.st.1 J.st.2.1
  rw [<- eT] at T1 T2 T3 T4
  have dpM : Dv (ip p) (mul (ip p) q) := ⟨q, fun x => by rw [at_mul]; grind⟩
  have dtq : Dv t (squareFree q) := ⟨scale cs (gcd (ip p) (squareFree q)), fun x => by rw [es, at_scale]; grind⟩
  have dtM : Dv t (mul (ip p) q) := dv_trans (dv_trans dtq (dv_sf hq hq0)) ⟨ip p, fun x => by rw [at_mul]⟩
  have ltq : t.length <= q.length := (dvd_len J.st.1 hq hq0 (dv_trans dtq (dv_sf hq hq0))).2
  have lm := mul_length hp.1 hq hp.2.1 hq0
  rw [ip_len] at lm
  obtain ⟨b1, b2⟩ := dcell_bound h hD
  have fuel : halvings (mul (ip p) q) = 8 * ((wp (mul (ip p) q)).length + 2) * (weight (ip (wp (mul (ip p) q))) + (wp (mul (ip p) q)).length + 8) := by
   unfold halvings; rw [eP, lP]
  have hf := sE_fuel (w := weight (ip (wp (mul (ip p) q)))) (N := (wp (mul (ip p) q)).length) (List.length_pos_iff.mpr hP.ne) (wp_bits hP).2
  rw [<- fuel] at hf
  obtain ⟨n, hn⟩ : ∃ n, halvings (mul (ip p) q) = n + 1 := ⟨halvings (mul (ip p) q) - 1, by lia⟩
  rw [hn]
  refine sign_go' h hq hq0 hd hsab (w0 := sE (weight (ip (wp (mul (ip p) q)))) (wp (mul (ip p) q)).length) (fun c hc c1 c2 hw => ?_) n _ 0 rfl rfl hI (dcell_width hD) b1 b2 (by lia)
  rw [cS _ _ hc.le]
  have g0 : cw (gcd (ip p) (squareFree q)) c.1 c.2 = 0 := by
   rcases Nat.eq_zero_or_pos (cw (gcd (ip p) (squareFree q)) c.1 c.2) with z | z
   ·exact z
   ·have := lone_same h J.sg J.dg (hc.hd h) (hI.hd h) (by rw [hc.cw h]; exact Nat.le_refl _) z
    lia
  have hle := hc.le
  have hw' : (c.2 - c.1) * two (sE (weight (ip (wp (mul (ip p) q)))) (wp (mul (ip p) q)).length) <= 1 := by
   rcases rat_tri c.1 c.2 with z | z | z
   ·exact hw z
   ·rw [z]; grind
   ·grind
  have q0 := near_apart h (P := wp (mul (ip p) q)) (T := wp t) hP (pri_wp J.st.1 J.st.2.1) (by rw [lP]; exact h17) (dv_trans dpM dM) (dv_trans T4 (dv_trans dtM dM)) T1 T2 (by rw [wp_len J.st.1 J.st.2.1, lP]; lia) c1 hc.le c2 hw' (Nat.le_refl _) (by rw [hc.cw h]; exact Nat.le_refl _)
  have q1 := cw_dv T1 J.st T3 hc.le
  lia
end
theorem IF.mul' {p q : Poly} {a d m e : Nat} (hp : IF p a d) (hq : IF q m e) (hl : p.length <= 31) : IF (mul p q) (a + m + 5) (d + e) := by
 obtain ⟨D, D0, Dd, hD⟩ := hp.ex
 obtain ⟨E, E0, Ee, hE⟩ := hq.ex
 have hpm : ∀ (n j : Nat), ∃ z : Int, z.natAbs <= n * (2 ^ a * 2 ^ m) /\ pm p q n j * ((D * E : Nat) : Rat) = (z : Rat) := by
  intro n j
  induction n with
  | zero => exact ⟨0, by simp, by show (0 : Rat) * _ = ((0 : Int) : Rat); rw [Rat.zero_mul]; rfl⟩
  | succ n ih =>
   obtain ⟨z, z1, z2⟩ := ih
   have hs : ∃ y : Int, y.natAbs <= 2 ^ a * 2 ^ m /\ (if n <= j then co p n * co q (j - n) else 0) * ((D * E : Nat) : Rat) = (y : Rat) := by
    by_cases h : n <= j
    ·obtain ⟨x, x1, x2⟩ := hD n
     obtain ⟨y, y1, y2⟩ := hE (j - n)
     refine ⟨x * y, ?_, ?_⟩
     ·rw [Int.natAbs_mul]; exact Nat.mul_le_mul (Nat.le_of_lt x1) (Nat.le_of_lt y1)
     ·rw [if_pos h, Rat.natCast_mul, Rat.intCast_mul, <- x2, <- y2]; grind
    ·exact ⟨0, by simp, by rw [if_neg h, Rat.zero_mul]; rfl⟩
   obtain ⟨y, y1, y2⟩ := hs
   refine ⟨z + y, nab_add z1 y1 (by rw [Nat.succ_mul]; exact Nat.le_refl _), ?_⟩
   rw [pm, Rat.add_mul, z2, y2, Rat.intCast_add]
 refine ⟨D * E, Nat.mul_pos D0 E0, by rw [Nat.pow_add]; exact Nat.mul_lt_mul'' Dd Ee, fun i => ?_⟩
 obtain ⟨z, z1, z2⟩ := hpm p.length i
 refine ⟨z, ?_, by rw [co_mul]; exact z2⟩
 have h1 : p.length * (2 ^ a * 2 ^ m) <= 31 * (2 ^ a * 2 ^ m) := Nat.mul_le_mul_right _ hl
 have h2 : 2 ^ (a + m + 5) = 32 * (2 ^ a * 2 ^ m) := by rw [Nat.pow_add, Nat.pow_add, Nat.mul_comm]
 have := Nat.mul_pos (pow_pos a) (pow_pos m)
 lia
section
variable {p : List Int} {L : List (List Int)} {k : Nat} {W : List Int} {M : List (List Int)}
theorem bel_cw (h : Chn p L) {a b : Rat} (hab : a <= b) : bel p L b - bel p L a = ((cw (ip p) a b : Nat) : Int) - ((zr (ip p) b : Nat) : Int) := by
 have := cw_wit h hab
 unfold wit at this
 unfold bel at this ⊢
 lia
theorem zr_cw {f : Poly} (h : SF f) {a b : Rat} (hab : a <= b) : zr f b <= cw f a b := by
 rcases rat_tri a b with z | z | z
 ·have := zr_le (sturm_is h) z; unfold cw; lia
 ·subst z; unfold cw; lia
 ·grind
theorem dv_zr {f d e : Poly} (hf : SF f) (hd : SF d) (he : SF e) (h : ∀ a b, a <= b -> cw f a b = cw d a b + cw e a b) (x : Rat) : zr f x = zr d x + zr e x := by
 have := h x x Rat.le_refl
 unfold cw between at this
 lia
theorem fl_up (h : Nb p L k) (hW : Chn W M) (hd : Dv (ip p) (ip W)) {S f : Int} (hS : 0 < S) (hf : Fl p L k S f) : ∃ j, Nb W M j /\ Fl W M j S f := by
 have hlt := rf_lt (s := S) (f := f) (g := f + 1) hS (by lia)
 obtain ⟨e, he, hs⟩ := cw_split hW.sf h.ch.sf hd
 have e1 := bel_cw h.ch (Rat.le_of_lt hlt)
 have e2 := bel_cw hW (Rat.le_of_lt hlt)
 have e3 := hs _ _ (Rat.le_of_lt hlt)
 have e4 := dv_zr hW.sf h.ch.sf he hs (rf (f + 1) S)
 have e5 := zr_cw he (Rat.le_of_lt hlt)
 have h1 := hf.ge
 have h2 := hf.lt
 have h0 : 0 <= bel W M (rf f S) := by
  have hb := bd_two hW.pr.ipn hW.pr.ip0
  rcases rat_lt_or_ge (rf f S) (-two (boundOf (ip W))) with z | z
  ·have := hW.low hb (Rat.le_of_lt z)
   have hz : zr (ip W) (rf f S) = 0 := by
    unfold zr
    rw [if_neg (hb.ne (by have := hb.pos; unfold ab; split <;> grind))]
   unfold bel; lia
  ·have := hW.bel_mono z
   have hz : bel W M (-two (boundOf (ip W))) = 0 := by
    unfold bel zr
    rw [hW.low hb Rat.le_refl, if_neg (hb.ne (by have := hb.pos; unfold ab; split <;> grind))]; rfl
   lia
 obtain ⟨j, hj⟩ := Int.eq_ofNat_of_zero_le h0
 have hl : (j : Int) < bel W M (rf (f + 1) S) := by lia
 refine ⟨j, ⟨hW, ?_⟩, ⟨by lia, hl⟩⟩
 have := hW.le_all (rf (f + 1) S)
 have := hW.up_le_bel (rf (f + 1) S)
 lia
theorem Fl.hol (h : Nb p L k) {S f : Int} (hS : 0 < S) (hf : Fl p L k S f) : Hol p L k (rf f S) (rf (f + 1) S) :=
 ⟨Rat.le_of_lt (rf_lt hS (by lia)), hf.ge, by
  have := h.ch.up_le_bel (rf (f + 1) S)
  have := hf.lt
  lia⟩
theorem lone_fl (h : Nb p L k) (hW : Chn W M) (hd : Dv (ip p) (ip W)) {n : Nat} {f : Int} (hf : Fl p L k (2 ^ n) f) (hn : sep (ip W) <= n) : wit W M (rf f (2 ^ n)) (rf (f + 1) (2 ^ n)) <= 1 := by
 obtain ⟨j, hj, hfj⟩ := fl_up h hW hd (pow2_pos n) hf
 exact hfj.apart hj hn
theorem sr_le {x y : Rat} : sr x * sr y <= 0 ↔ x * y <= 0 := by
 by_cases hx : x = 0
 ·subst hx
  have : sr 0 = 0 := by decide
  rw [this]; constructor <;> intro <;> grind
 by_cases hy : y = 0
 ·subst hy
  have : sr 0 = 0 := by decide
  rw [this]; constructor <;> intro <;> grind
 rcases sr_ne hx with ⟨e1, a⟩ | ⟨e1, a⟩ <;> rcases sr_ne hy with ⟨e2, b⟩ | ⟨e2, b⟩ <;> rw [e1, e2]
 ·have := Rat.mul_pos a b
  constructor
  ·intro z; exact absurd z (by decide)
  ·intro z; grind
 ·have := pos_mul_neg a b
  exact ⟨fun _ => Rat.le_of_lt this, fun _ => by decide⟩
 ·have := pos_mul_neg b a
  exact ⟨fun _ => by grind, fun _ => by decide⟩
 ·have := neg_mul_neg' a b
  constructor
  ·intro z; exact absurd z (by decide)
  ·intro z; grind
theorem sign_told (h : Nb p L k) {D : Cell} (hD : DCell (ip p) (L.map ip) (-two (boundOf (ip p))) k D) {q : Poly} (hq : Nm q) (hq0 : q ≠ []) (h17 : (mul (ip p) q).length <= 17) {a b : Rat} (hd : Hol p L k a b) (hone : cw (squareFree (mul q (ip p))) a b <= 1) :
  ((signAt q ⟨ip p, sturm (ip p), D⟩ : Nat) : Int) = 1 + (if at_ (squareFree q) a * at_ (squareFree q) b <= 0 then 0 else sr (at_ q a)) := by
 rw [signAt_is h hD hq hq0 h17 hd hone]
 by_cases hx : at_ (squareFree q) a * at_ (squareFree q) b <= 0
 ·rw [if_pos hx, if_pos hx]; rfl
 ·rw [if_neg hx, if_neg hx]
  have hne : at_ q a ≠ 0 := fun e => by
   have h0 : at_ (squareFree q) a = 0 := by
    false_or_by_contra
    rename_i hc
    have hz : cw (squareFree q) a a = 0 := by unfold cw zr between; rw [if_neg hc]; lia
    have := one_sign (Rat.le_refl (a := a)) _ q (Nat.le_refl _) hq hq0 hz a a Rat.le_refl Rat.le_refl Rat.le_refl
    rw [e] at this
    grind
   rw [h0] at hx
   exact hx (by grind)
  rcases sr_ne hne with ⟨e1, z⟩ | ⟨e1, z⟩
  ·rw [e1, if_neg (by grind)]; rfl
  ·rw [e1, if_pos z]; rfl
theorem signAt_nil (x : Near) : signAt [] x = 1 := by
 unfold signAt
 exact if_pos (.inr rfl)
end
end My
set_option Elab.async false
set_option linter.all false
set_option maxRecDepth 100000
set_option maxHeartbeats 2000000
namespace My
open PySem PySem.Spec PyProof.Rows L2
open PySem.W (Codec)
open WrAlgn (Frac fracOk polyOk ofFrac ofPoly)
section
variable {X : Cx}
theorem bits_le {i : Int} {m : Nat} (h : i.natAbs < 2 ^ m) : Builtin.Int.intBits i <= m := by
 unfold Builtin.Int.intBits
 by_cases h0 : (i == 0) = true
 ·rw [if_pos h0]; exact Nat.zero_le _
 ·rw [if_neg h0]
  have hp : i.natAbs ≠ 0 := fun e => h0 (by rw [Int.natAbs_eq_zero.mp e]; rfl)
  have := (Nat.log2_lt hp).mpr h
  lia
def CMulB (i j : Int) : Prop := ∃ m n : Nat, i.natAbs < 2 ^ m /\ j.natAbs < 2 ^ n /\ m + n <= 134217728
theorem op_mulB : OpR X (binaryOp .Mult) (rI CMulB fun i j => .int (i * j)) :=
 opI fun _ _ _ _ _ _ _ hc q => mul_int q (let ⟨_, _, h1, h2, h3⟩ := hc; IntMulOk.of_le (bits_le h1) (bits_le h2) h3)
structure Plain (X : Cx) : Prop where
 tree : X.prog.given.tree = none
 st : ∃ env l, X.stack = env :: l /\ env.scope.isGenerator = false /\ env.scope.isCoroutine = false /\ env.builtins = builtinsNs /\ env.globals = mainGlobals
theorem op_fdivB {k : Nat} (hp : Plain X) (hr : Room k X.A) (hk : 40 <= k := by decide) : OpR X (binaryOp .FloorDiv) (rI (fun _ j => j ≠ 0) fun i j => .int (i.fdiv j)) := by
 intro pins s σ H x y v u Q I rx ry h
 obtain ⟨i, j, rfl, rfl, hc, q⟩ := h
 obtain ⟨t, rfl⟩ := rx
 obtain ⟨t', rfl⟩ := ry
 obtain ⟨env, l, e, g1, g2, g3, g4⟩ := hp.st
 have hd : X.A.depth + Builtin.pylongFrames < recursionLimit := by
  have h1 := hr.dp
  have h2 : Builtin.pylongFrames = 100 := rfl
  lia
 exact floordiv_int hc ⟨.int _, H, I.tok _, ⟨_, rfl⟩, q⟩ (.inr (PylongRoom.of I.nolimit hd (SeerAt.of (I.ok.mod.seer.keeps I.bk) hp.tree (by rw [I.ok.frames, e]) g1 g2 g3 g4)))
end
structure Cal (P : Program) (w : World) (K : PySem.W.Frag) (mg : Str -> Option Value) (base : Heap) (x : Str) (k : Nat) (ps : List Str) (sp : Sp) : Prop where
 ex : ∃ (f : Addr) (fd : FuncData), FnOk P w K mg base CX0 k f fd ps sp /\ mg x = some (.ref f) /\ PySem.W.keepIn K (.ref f) = true /\ Binds K fd ps []
theorem pe_cal {X : Cx} {x : Str} {k kc : Nat} {ps : List Str} {sp : Sp} {e : Expr} {es : List Expr} {t : TA} {p pos : Pos} (C : Cal X.prog X.w X.K X.mg X.base x kc ps sp) (hr : Room k X.A) (hg : Gl X x) (ha : PA X (e :: es) t) (hk : kc <= k := by decide)
  (hdb : (x == ("__debug__" : Str)) = false := by decide) (he : starEach (e :: es) X.env = (false, eval e X.env) :: starEach es X.env := by rfl) (hpl : (backTo pos (starEach es X.env)).any (·.1) = false := by rfl) :
  PE X (.Call (.Name x p) (e :: es) [] pos) (tCall sp [] E0 t) := by
 obtain ⟨f, fd, F, hm, kp, hb⟩ := C.ex
 exact pe_call F (hr.mono hk) hg hm kp hb .nil pass0 ha hdb he hpl
structure Df (K : PySem.W.Frag) (mg : Str -> Option Value) (x : Str) (st : Stmt) : Prop where
 ex : ∃ (f : Addr) (fd : FuncData), Fun K x x st f fd /\ mg x = some (.ref f)
theorem Df.cal {P : Program} {w : World} {K : PySem.W.Frag} {mg : Str -> Option Value} {base : Heap} {x : Str} {st : Stmt} {k : Nat} {ps : List Str} {sp : Sp} (D : Df K mg x st)
  (ok : ∀ f fd, Fun K x x st f fd -> FnOk P w K mg base CX0 k f fd ps sp)
  (h : ∀ (kV doc pm : Value) (an : Option Addr) (cdv ct : Value) (us : List Value), us.length = ps.length -> bindArgs (PySem.W.fnOf x x (defArgs st) (defBody st) (defScope st) .none kV doc pm an cdv ct) ⟨us, []⟩ = pure (ps.zip us)) :
  Cal P w K mg base x k ps sp := by
 obtain ⟨f, fd, F, hm⟩ := D.ex
 exact ⟨f, fd, ok f fd F, hm, F.kp, F.binds h⟩
def DfH (K : PySem.W.Frag) (x : Str) (st : Stmt) : Prop := ∃ (f : Addr) (fd : FuncData), Fun K x x st f fd /\ PySem.W.nsIn K mainGlobals x = some (some (.ref f))
theorem DfH.of {K : PySem.W.Frag} {x : Str} {st : Stmt} {f : Addr} {oc kV dc pm cd ct : Value} {od an : Option Addr} {sl : Array (Option Value)} (a : PySem.W.nsIn K mainGlobals x = some (some (.ref f))) (l : K.lookup f = some ⟨oc, od, .func (PySem.W.fnOf x x (defArgs st) (defBody st) (defScope st) .none kV dc pm an cd ct), sl⟩) (c : PySem.W.codeIn K cd x = true) (k : PySem.W.keepIn K (.ref f) = true) : DfH K x st := ⟨_, _, fun_mk l c k, a⟩
theorem DfH.df {K : PySem.W.Frag} {x : Str} {st : Stmt} {h : Heap} {mg : Str -> Option Value} (q : DfH K x st) (X : K.In h) (G : h.Ns mainGlobals mg) : Df K mg x st :=
 let ⟨f, fd, F, a⟩ := q
 ⟨f, fd, F, PySem.W.mg_of X G a⟩
theorem usS {n : Nat} {P : List Value -> Prop} (h : ∀ a t, t.length = n -> P (a :: t)) : ∀ us : List Value, us.length = n + 1 -> P us := by
 intro us e
 cases us with
 | nil => cases e
 | cons a t => exact h a t (Nat.succ.inj e)
theorem us0 {P : List Value -> Prop} (h : P []) : ∀ us : List Value, us.length = 0 -> P us := fun us e => (List.length_eq_zero_iff.mp e) ▸ h
theorem us1 {P : List Value -> Prop} (h : ∀ a, P [a]) : ∀ us : List Value, us.length = 1 -> P us := usS fun a => us0 (P := fun t => P (a :: t)) (h a)
theorem us2 {P : List Value -> Prop} (h : ∀ a b, P [a, b]) : ∀ us : List Value, us.length = 2 -> P us := usS fun a => us1 (P := fun t => P (a :: t)) (h a)
theorem us3 {P : List Value -> Prop} (h : ∀ a b c, P [a, b, c]) : ∀ us : List Value, us.length = 3 -> P us := usS fun a => us2 (P := fun t => P (a :: t)) (h a)
theorem _root_.L2.Same.new {H : Hp} {p : Addr} {o : HO} (hp : H p = none) : Same H (upd H p o) := fun b u e => by
 rw [upd_ne (ne_of_none e hp)]; exact e
theorem _root_.L2.Same.tup {K : PySem.W.Frag} {H H' : Hp} {a : Addr} {xs : List V} (e : Same H H') (h : SqT K H a xs) : SqT K H' a xs := by
 rcases h with (h | ⟨o, h⟩) | h
 ·exact .inl (.inl (e _ _ h))
 ·exact .inl (.inr ⟨o, e _ _ h⟩)
 ·exact .inr h
theorem _root_.L2.Same.put {H H' : Hp} {l : Addr} {o : HO} (e : Same H H') (hl : H l = none) : Same H (upd H' l o) := fun b u q => by
 rw [upd_ne (ne_of_none q hl)]; exact e b u q
def PrV (K : PySem.W.Frag) (H : Hp) (v : V) (x : Frac) : Prop := ∃ t, v = .ref t /\ SqT K H t [.int x.1, .int x.2]
theorem PrV.same {K : PySem.W.Frag} {H H' : Hp} {v : V} {x : Frac} (h : PrV K H v x) (e : Same H H') : PrV K H' v x := by
 obtain ⟨t, rfl, q⟩ := h
 exact ⟨t, rfl, e.tup q⟩
def pr (c : Rat) : Frac := (c.num, (c.den : Int))
abbrev FrV (K : PySem.W.Frag) (H : Hp) (v : V) (x : Rat) : Prop := PrV K H v (pr x)
abbrev PrVs (K : PySem.W.Frag) (H : Hp) : List V -> List Frac -> Prop := Paired (PrV K H)
theorem pr_get {α β : Type} {R : α -> β -> Prop} {vs : List α} {fs : List β} (h : Paired R vs fs) : ∀ {i : Nat} {x : β}, fs[i]? = some x -> ∃ v, vs[i]? = some v /\ R v x := by
 induction h with
 | nil => intro i x e; simp at e
 | cons r t ih =>
  intro i x e
  cases i with
  | zero => simp at e; subst e; exact ⟨_, rfl, r⟩
  | succ i => exact ih (by simpa using e)
theorem pr_snoc {α β : Type} {R : α -> β -> Prop} {vs : List α} {fs : List β} {v : α} {x : β} (h : Paired R vs fs) (q : R v x) : Paired R (vs ++ [v]) (fs ++ [x]) := by
 induction h with
 | nil => exact .cons q .nil
 | cons r t ih => exact .cons r ih
theorem pr_set {α β : Type} {R : α -> β -> Prop} {vs : List α} {fs : List β} {v : α} {x : β} (h : Paired R vs fs) (q : R v x) : ∀ i : Nat, Paired R (vs.set i v) (fs.set i x) := by
 induction h with
 | nil => exact fun _ => .nil
 | cons r t ih => exact fun i => match i with | 0 => .cons q t | i + 1 => .cons r (ih i)
theorem PrVs.same {K : PySem.W.Frag} {H H' : Hp} (e : Same H H') {vs : List V} {fs : List Frac} (h : PrVs K H vs fs) : PrVs K H' vs fs := Paired.imp' (fun _ _ r => PrV.same r e) h
theorem PrVs.get {K : PySem.W.Frag} {H : Hp} {vs : List V} {fs : List Frac} {i : Nat} {x : Frac} (h : PrVs K H vs fs) (e : fs[i]? = some x) : ∃ v, vs[i]? = some v /\ PrV K H v x := pr_get h e
theorem PrVs.len {K : PySem.W.Frag} {H : Hp} {vs : List V} {fs : List Frac} (h : PrVs K H vs fs) : vs.length = fs.length := Paired.length h
theorem PrVs.get' {K : PySem.W.Frag} {H : Hp} {vs : List V} {fs : List Frac} {i : Nat} {v : V} (h : PrVs K H vs fs) (e : vs[i]? = some v) : ∃ x, fs[i]? = some x /\ PrV K H v x := by
 have hi : i < fs.length := by rw [<- h.len]; exact (List.getElem?_eq_some_iff.mp e).1
 obtain ⟨u, h1, h2⟩ := h.get (List.getElem?_eq_getElem hi)
 rw [e] at h1
 cases h1
 exact ⟨_, List.getElem?_eq_getElem hi, h2⟩
theorem PrVs.snoc {K : PySem.W.Frag} {H : Hp} {v : V} {x : Frac} (q : PrV K H v x) {vs : List V} {fs : List Frac} (h : PrVs K H vs fs) : PrVs K H (vs ++ [v]) (fs ++ [x]) := pr_snoc h q
theorem PrVs.set {K : PySem.W.Frag} {H : Hp} {v : V} {x : Frac} (q : PrV K H v x) {vs : List V} {fs : List Frac} (i : Nat) (h : PrVs K H vs fs) : PrVs K H (vs.set i v) (fs.set i x) := pr_set h q i
def LsV (K : PySem.W.Frag) (H : Hp) (v : V) (fs : List Frac) : Prop := ∃ l vs, v = .ref l /\ H l = some (.lst vs) /\ PrVs K H vs fs
theorem LsV.same {K : PySem.W.Frag} {H H' : Hp} {v : V} {fs : List Frac} (h : LsV K H v fs) (e : Same H H') : LsV K H' v fs := by
 obtain ⟨l, vs, rfl, q, r⟩ := h
 exact ⟨l, vs, rfl, e _ _ q, r.same e⟩
abbrev PoV (K : PySem.W.Frag) (H : Hp) (v : V) (p : List Rat) : Prop := LsV K H v (p.map pr)
theorem for_any {J : It} {n : Nat} {g : TG} {tb : TS} {D : Ends} {σ : L2.St} {H : Hp} (Pv : Nat -> L2.St -> Hp -> Prop) (h0 : Pv 0 σ H) (hgo : ∀ i σ H, i < n -> Pv i σ H -> J.go i H) (hst : ∀ σ H, Pv n σ H -> J.stop n H)
  (hs : ∀ i σ H x H', i < n -> Pv i σ H -> J.yld i H x H' -> g x σ H' fun σ2 H2 => tb { D with nx := Pv (i + 1), ct := Pv (i + 1), bk := D.nx } σ2 H2) (hd : ∀ σ H, Pv n σ H -> D.nx σ H) :
  ∃ W : Nat -> Nat -> L2.St -> Hp -> Prop, (∃ m, W 0 m σ H) /\ ∀ i m σ H, W i m σ H ->
   (J.stop i H /\ D.nx σ H) \/ (J.go i H /\ ∃ N : L2.St -> Hp -> Prop, (∀ σ' H', N σ' H' -> ∃ m', m' < m /\ W (i + 1) m' σ' H') /\ ∀ x H', J.yld i H x H' -> g x σ H' fun σ2 H2 => tb { D with nx := N, ct := N, bk := D.nx } σ2 H2) := by
 refine ⟨fun i m σ H => m = n - i /\ i <= n /\ Pv i σ H, ⟨n, by simp, Nat.zero_le _, h0⟩, ?_⟩
 rintro i m σ H ⟨rfl, hi, p⟩
 by_cases hlt : i < n
 ·exact .inr ⟨hgo i σ H hlt p, Pv (i + 1), fun σ' H' p' => ⟨n - (i + 1), by lia, rfl, hlt, p'⟩, fun x H' y => hs i σ H x H' hlt p y⟩
 ·have e : i = n := by lia
  subst e
  exact .inl ⟨hst σ H p, hd σ H p⟩
theorem lc_any {J : It} {n : Nat} {g : TG} {tt : TT} {te : TE} {vs : List Nat} {σ : L2.St} {H1 : Hp} {D : Addr} {Qd : Hp -> Prop} (Pv : Nat -> Hp -> Prop) (h0 : Pv 0 (upd H1 D (.lst []))) (hgo : ∀ i H, i < n -> Pv i H -> J.go i H) (hst : ∀ H, Pv n H -> J.stop n H)
  (hs : ∀ i H x H', i < n -> Pv i H -> J.yld i H x H' -> g x (wipe σ vs) H' fun σ2 H2 => wipe σ2 vs = wipe σ vs /\ tt σ2 H2 fun b H3 =>
   if b = true then te σ2 H3 fun y H4 => ∃ acc, H4 D = some (.lst acc) /\ acc.length < sizeLine /\ Pv (i + 1) (upd H4 D (.lst (acc ++ [y]))) else Pv (i + 1) H3) (hd : ∀ H, Pv n H -> Qd H) :
  ∃ W : Nat -> Nat -> Hp -> Prop, (∃ m, W 0 m (upd H1 D (.lst []))) /\ ∀ i m H, W i m H ->
   (J.stop i H /\ Qd H) \/ (J.go i H /\ ∃ Nx : Hp -> Prop, (∀ H', Nx H' -> ∃ m', m' < m /\ W (i + 1) m' H') /\ ∀ x H', J.yld i H x H' -> g x (wipe σ vs) H' fun σ2 H2 => wipe σ2 vs = wipe σ vs /\ tt σ2 H2 fun b H3 =>
    if b = true then te σ2 H3 fun y H4 => ∃ acc, H4 D = some (.lst acc) /\ acc.length < sizeLine /\ Nx (upd H4 D (.lst (acc ++ [y]))) else Nx H3) := by
 refine ⟨fun i m H => m = n - i /\ i <= n /\ Pv i H, ⟨n, by simp, Nat.zero_le _, h0⟩, ?_⟩
 rintro i m H ⟨rfl, hi, p⟩
 by_cases hlt : i < n
 ·exact .inr ⟨hgo i H hlt p, Pv (i + 1), fun H' p' => ⟨n - (i + 1), by lia, rfl, hlt, p'⟩, fun x H' y => hs i H x H' hlt p y⟩
 ·have e : i = n := by lia
  subst e
  exact .inl ⟨hst H p, hd H p⟩
structure Txt (P : Program) (mg : Str -> Option Value) : Prop where
 tree : P.given.tree = none
 abs : mg "abs" = none
 len : mg "len" = none
 max : mg "max" = none
 all : mg "all" = none
 list : mg "list" = none
 range : mg "range" = none
 enumerate : mg "enumerate" = none
 zip : mg "zip" = none
 reversed : mg "reversed" = none
structure Kc (mg : Str -> Option Value) (x : Str) (n : Int) : Prop where
 ex : ∃ t, mg x = some (.int n t)
structure Tc (K : PySem.W.Frag) (mg : Str -> Option Value) (x : Str) (z : Addr) (a b : Int) : Prop where
 glob : mg x = some (.ref z)
 val : ∃ (o : Obj) (its : Array Value) (n : Nat), K.lookup z = some o /\ o.cls = .type "tuple" /\ o.data = .seq its n /\ its.size <= sizeLine /\ Vals [.int a, .int b] its.toList
section
variable {X : Cx} {z : Addr}
theorem g_int {x : Str} {n : Int} {pos : Pos} (C : Kc X.mg x n) (hg : Gl X x := by rfl) (hd : (x == ("__debug__" : Str)) = false := by decide) : PE X (.Name x pos) (tC (.int n)) := by
 obtain ⟨t, h⟩ := C.ex
 exact pe_glob hg h ⟨t, rfl⟩ hd
theorem g_pair {x : Str} {a b : Int} {pos : Pos} (C : Tc X.K X.mg x z a b) (hg : Gl X x := by rfl) (hd : (x == ("__debug__" : Str)) = false := by decide) : PE X (.Name x pos) (tC (.ref z)) := pe_glob hg C.glob rfl hd
end
theorem Tc.pv {K : PySem.W.Frag} {mg : Str -> Option Value} {x : Str} {z : Addr} {a b : Int} (C : Tc K mg x z a b) (H : Hp) : PrV K H (.ref z) (a, b) := ⟨z, rfl, .inr C.val⟩
theorem itP {c A B : Prop} [Decidable c] (hc : c) (h : A) : if c then A else B := by rw [if_pos hc]; exact h
theorem itN {c A B : Prop} [Decidable c] (hc : ¬ c) (h : B) : if c then A else B := by rw [if_neg hc]; exact h
def D0 (Q : VK) : Ends := { nx := fun _ H' => Q .non H', rt := Q }
theorem fun_ok {P : Program} {w : World} {K : PySem.W.Frag} {mg : Str -> Option Value} {base : Heap} {x qual : Str} {st : Stmt} {f : Addr} {fd : FuncData} {N ps : List Str} {k : Nat} {sp : Sp} (F : Fun K x qual st f fd) (S : FnScope N ps (defScope st)) (len : ∀ vs H Q E, sp vs H Q E -> vs.length = ps.length)
  (hb : ∀ (cdv : Value) (A : Around) (outer : List Env) (s : Shared) (H : Hp) (vs : List V) (Q : VK) (E : XK), Room k (A.deeper (envOfC qual (defScope st) s.heap.objs.size f cdv)) -> sp vs H Q E ->
   ∃ t, PSs (cxOf CX0 P w K mg base N qual (defScope st) f cdv A outer s H E).nox (defBody st) t /\ t (D0 Q) (start N vs) H) : FnOk P w K mg base CX0 (k + 1) f fd ps sp := F.ok S len hb
theorem seq_hide {a b : TS} {D : Ends} {σ : L2.St} {H : Hp} (h : ∀ N : L2.St -> Hp -> Prop, (∀ σ' H', b D σ' H' -> N σ' H') -> a { D with nx := N } σ H) : tSeq a b D σ H := h (b D) fun _ _ x => x
inductive spWd (vs : List V) (H : Hp) (Q : VK) (E : XK) : Prop
 | mk (a b : Int) : vs = [.int a, .int b] -> Q (.int (Int.gcd a b : Int)) H -> spWd vs H Q E
inductive spLow (vs : List V) (H : Hp) (Q : VK) (E : XK) : Prop
 | mk (t b : Int) : vs = [.int t, .int b] -> b ≠ 0 -> (∀ p, H p = none -> Q (.ref p) (upd H p (.tup [.int (Rat.divInt t b).num, .int ((Rat.divInt t b).den : Int)]))) -> spLow vs H Q E
inductive spBin (K : PySem.W.Frag) (f : Rat -> Rat -> Rat) (C : Rat -> Prop) (vs : List V) (H : Hp) (Q : VK) (E : XK) : Prop
 | mk (u v : V) (x y : Rat) (m n : Nat) : vs = [u, v] -> FrV K H u x -> FrV K H v y -> Sz x m -> Sz y n -> m + n <= 134217728 -> C y -> (∀ (H' : Hp) (r : V), Same H H' -> FrV K H' r (f x y) -> Q r H') -> spBin K f C vs H Q E
inductive spIsF (vs : List V) (H : Hp) (Q : VK) (E : XK) : Prop
 | mk (t b : Int) : vs = [.int t, .int b] -> Q (.bl (fracOk (t, b))) H -> spIsF vs H Q E
inductive spCoef (K : PySem.W.Frag) (vs : List V) (H : Hp) (Q : VK) (E : XK) : Prop
 | mk (a : Addr) (fs : List Frac) : vs = [.ref a] -> SqL K H a ((flat fs).map V.int) -> fs.length <= 30 -> (∀ (H' : Hp) (r : V), Same H H' -> LsV K H' r fs -> Q r H') -> spCoef K vs H Q E
inductive spIsP (K : PySem.W.Frag) (vs : List V) (H : Hp) (Q : VK) (E : XK) : Prop
 | mk (a : Addr) (fs : List Frac) : vs = [.ref a] -> SqL K H a ((flat fs).map V.int) -> fs.length <= 30 -> (∀ H' : Hp, Same H H' -> Q (.bl (polyOk fs)) H') -> spIsP K vs H Q E
inductive spBinQ (K : PySem.W.Frag) (f : Rat -> Rat -> Rat) (C : Rat -> Prop) (vs : List V) (H : Hp) (Q : VK) (E : XK) : Prop
 | mk (u v : V) (x y : Frac) (m n : Nat) : vs = [u, v] -> PrV K H u x -> PrV K H v y -> 0 < x.2 -> 0 < y.2 -> x.1.natAbs < 2 ^ m -> x.2.natAbs < 2 ^ m -> y.1.natAbs < 2 ^ n -> y.2.natAbs < 2 ^ n -> m + n <= 134217728 -> C (ofFrac y) -> (∀ (H' : Hp) (r : V), Same H H' -> FrV K H' r (f (ofFrac x) (ofFrac y)) -> Q r H') -> spBinQ K f C vs H Q E
theorem ofFrac_pr (c : Rat) : ofFrac (pr c) = c := by
 unfold ofFrac pr
 rw [<- Rat.divInt_eq_div]
 exact Rat.num_divInt_den c
theorem spBin.q {K : PySem.W.Frag} {f : Rat -> Rat -> Rat} {C : Rat -> Prop} {vs : List V} {H : Hp} {Q : VK} {E : XK} (h : spBin K f C vs H Q E) : spBinQ K f C vs H Q E := by
 obtain ⟨u, v, x, y, m, n, e, h1, h2, h3, h4, h5, h6, k⟩ := h
 refine ⟨u, v, pr x, pr y, m, n, e, h1, h2, Int.natCast_pos.mpr x.den_pos, Int.natCast_pos.mpr y.den_pos, h3.num, h3.den, h4.num, h4.den, h5, by rw [ofFrac_pr]; exact h6, ?_⟩
 rw [ofFrac_pr, ofFrac_pr]
 exact k
theorem tim_q {K : PySem.W.Frag} {vs : List V} {H : Hp} {Q : VK} (h : spBin K (fun x y => x * y) (fun _ => True) vs H Q E0) : spBinQ K (fun x y => x * y) (fun _ => True) vs H Q E0 := h.q
theorem frac_mul {x y : Frac} : Rat.divInt (x.1 * y.1) (x.2 * y.2) = ofFrac x * ofFrac y := by
 unfold ofFrac
 rw [<- Rat.divInt_eq_div, <- Rat.divInt_eq_div, Rat.divInt_mul_divInt]
theorem sz_frac {x : Frac} {m : Nat} (h0 : 0 < x.2) (h1 : x.1.natAbs < 2 ^ m) (h2 : x.2.natAbs < 2 ^ m) : Sz (ofFrac x) m := by
 have e : ofFrac x = Rat.divInt x.1 x.2 := by unfold ofFrac; rw [Rat.divInt_eq_div]
 rw [e]
 obtain ⟨a, b⟩ := divInt_le (t := x.1) (b := x.2) (by lia)
 exact ⟨Nat.lt_of_le_of_lt a h1, Nat.lt_of_le_of_lt b h2⟩
inductive spVal (K : PySem.W.Frag) (vs : List V) (H : Hp) (Q : VK) (E : XK) : Prop
 | mk (u v : V) (p : List Rat) (x : Frac) (m : Nat) : vs = [u, v] -> PoV K H u p -> PrV K H v x -> 0 < x.2 -> polySz p 20 -> x.1.natAbs < 2 ^ m -> x.2.natAbs < 2 ^ m -> m <= 5000000 -> p.length <= 9 -> (∀ (H' : Hp) (r : V), Same H H' -> FrV K H' r (WrAlgn.at_ p (ofFrac x)) -> Q r H') -> spVal K vs H Q E
inductive spAns (vs : List V) (H : Hp) (Q : VK) (E : XK) : Prop
 | mk (a : Addr) (ns : List Int) : vs = [.ref a] -> H a = some (.lst (ns.map V.int)) -> ns.length <= 100000 -> (∀ (H' : Hp) (p : Addr), H' p = some (.lst ((0 :: ns).map V.int)) -> Q (.ref p) H') -> spAns vs H Q E
inductive spRef (vs : List V) (H : Hp) (Q : VK) (E : XK) : Prop
 | mk (n : Int) : vs = [.int n] -> (∀ (H' : Hp) (p : Addr), H' p = some (.lst ([9, n].map V.int)) -> Q (.ref p) H') -> spRef vs H Q E
theorem _root_.L2.SqT.put {K : PySem.W.Frag} {H : Hp} {D t : Addr} {xs ys zs : List V} (h : SqT K H t xs) (hD : H D = some (.lst ys)) : SqT K (upd H D (.lst zs)) t xs := by
 rcases h with (h | ⟨o, h⟩) | h
 ·exact .inl (.inl (by rw [upd_ne (ne_of h hD (by intro q; cases q))]; exact h))
 ·exact .inl (.inr ⟨o, by rw [upd_ne (ne_of h hD (by intro q; cases q))]; exact h⟩)
 ·exact .inr h
theorem PrV.put {K : PySem.W.Frag} {H : Hp} {D : Addr} {v : V} {x : Frac} {ys zs : List V} (h : PrV K H v x) (hD : H D = some (.lst ys)) : PrV K (upd H D (.lst zs)) v x := by
 obtain ⟨t, rfl, q⟩ := h
 exact ⟨t, rfl, SqT.put q hD⟩
theorem PrVs.put {K : PySem.W.Frag} {H : Hp} {D : Addr} {ys zs : List V} (hD : H D = some (.lst ys)) {vs : List V} {fs : List Frac} (h : PrVs K H vs fs) : PrVs K (upd H D (.lst zs)) vs fs := Paired.imp' (fun _ _ r => PrV.put r hD) h
def dInts (ns : List Int) : PyData := .list (ns.map PyData.int)
def dPair (x : Frac) : PyData := .tuple [.int x.1, .int x.2]
def dPairs (fs : List Frac) : PyData := .list (fs.map dPair)
theorem canAll_ints : ∀ ns : List Int, PyData.canLayAll0 (ns.map PyData.int) = true := by
 intro z0
 induction z0 with
 | nil =>
  exact rfl
 | cons n r ih =>
  show (PyData.canLay0 (.int n) && PyData.canLayAll0 (r.map PyData.int)) = true
  rw [ih]; rfl
theorem canAll_pairs : ∀ fs : List Frac, PyData.canLayAll0 (fs.map dPair) = true := by
 intro z0
 induction z0 with
 | nil =>
  exact rfl
 | cons x r ih =>
  show (PyData.canLay0 (dPair x) && PyData.canLayAll0 (r.map dPair)) = true
  rw [ih]; rfl
theorem depth_ints : ∀ ns : List Int, PyData.depthAll (ns.map PyData.int) <= 1 := by
 intro z0
 induction z0 with
 | nil =>
  decide
 | cons n r ih =>
  show max (PyData.depth (.int n)) (PyData.depthAll (r.map PyData.int)) <= 1
  have := ih
  have e : PyData.depth (.int n) <= 1 := by simp [PyData.depth]
  lia
theorem depth_pairs : ∀ fs : List Frac, PyData.depthAll (fs.map dPair) <= 2 := by
 intro z0
 induction z0 with
 | nil =>
  decide
 | cons x r ih =>
  show max (PyData.depth (dPair x)) (PyData.depthAll (r.map dPair)) <= 2
  have := ih
  have e : PyData.depth (dPair x) <= 2 := by simp [dPair, PyData.depth, PyData.depthAll]
  lia
theorem shaped_ints (ns : List Int) : SeqAt.shaped (dInts ns) = true := by
 unfold SeqAt.shaped
 rw [Bool.and_eq_true]
 refine ⟨canAll_ints ns, decide_eq_true ?_⟩
 have := depth_ints ns
 show PyData.depth (.list (ns.map PyData.int)) <= 64
 simp only [PyData.depth]
 lia
theorem shaped_pairs (fs : List Frac) : SeqAt.shaped (dPairs fs) = true := by
 unfold SeqAt.shaped
 rw [Bool.and_eq_true]
 refine ⟨canAll_pairs fs, decide_eq_true ?_⟩
 have := depth_pairs fs
 show PyData.depth (.list (fs.map dPair)) <= 64
 simp only [PyData.depth]
 lia
theorem shaped_nil : SeqAt.shaped (.list []) = true := by decide
theorem dp_intsAll {K : PySem.W.Frag} {H : Hp} : ∀ ns : List Int, DpAll K H (ns.map V.int) (ns.map PyData.int) := by
 intro z0
 induction z0 with
 | nil =>
  exact .nil
 | cons n r ih =>
  exact .cons (.int n) (ih)
theorem dp_ints {K : PySem.W.Frag} {H : Hp} {a : Addr} {ns : List Int} (h : SqL K H a (ns.map V.int)) : Dp K H (.ref a) (dInts ns) := .lst h (dp_intsAll ns)
theorem dp_pair {K : PySem.W.Frag} {H : Hp} {v : V} {x : Frac} (h : PrV K H v x) : Dp K H v (dPair x) := by
 obtain ⟨t, rfl, q⟩ := h
 exact .tup q (.cons (.int _) (.cons (.int _) .nil))
theorem dp_pairsAll {K : PySem.W.Frag} {H : Hp} : ∀ {vs : List V} {fs : List Frac}, PrVs K H vs fs -> DpAll K H vs (fs.map dPair)
 | _, _, .nil => .nil
 | _, _, .cons r t => .cons (dp_pair r) (dp_pairsAll t)
theorem dp_pairs {K : PySem.W.Frag} {H : Hp} {v : V} {fs : List Frac} (h : LsV K H v fs) : Dp K H v (dPairs fs) := by
 obtain ⟨l, vs, rfl, q, r⟩ := h
 exact .lst (SqL.of q) (dp_pairsAll r)
theorem dp_nil {K : PySem.W.Frag} {H : Hp} {p : Addr} (h : H p = some (.lst [])) : Dp K H (.ref p) (.list []) := .lst (SqL.of h) .nil
theorem eqv_nil_ints (ns : List Int) : PyData.eqv (dInts ns) (.list []) = decide (ns = []) := by
 cases ns <;> rfl
theorem eqv_nil_pairs (fs : List Frac) : PyData.eqv (dPairs fs) (.list []) = decide (fs = []) := by
 cases fs <;> rfl
theorem rg2 : ∀ n : Nat, n < 31 -> RgC 0 ((2 * n : Nat) : Int) 2 n := fun n hn =>
 have a : ∀ n : Nat, n < 31 -> Builtin.Range.small 0 ((2 * n : Nat) : Int) 2 = true := by decide +kernel
 have b : ∀ n : Nat, n < 31 -> Builtin.Range.rangeSize 0 ((2 * n : Nat) : Int) 2 = n := by decide +kernel
 ⟨by decide, by decide, a n hn, b n hn⟩
theorem at_m2 (fs : List Frac) (x : Frac) : atI ((flat (fs ++ [x])).map V.int) (-2) = some (V.int x.1) := by
 have hl : ((flat (fs ++ [x])).map V.int).length = 2 * fs.length + 2 := by rw [List.length_map, flat_len]; simp; lia
 have e : ixN ((flat (fs ++ [x])).map V.int).length (-2) = some (2 * fs.length) := by
  unfold ixN
  rw [hl, if_neg (by decide), if_pos (by lia)]
  congr 1
  lia
 unfold atI
 rw [e]
 show ((flat (fs ++ [x])).map V.int)[2 * fs.length]? = some (V.int x.1)
 rw [List.getElem?_map, (flat_at (fs := fs ++ [x]) (k := fs.length) (x := x) (by simp)).1]
 rfl
theorem take_snoc {α : Type} : ∀ {l : List α} {i : Nat} {x : α}, l[i]? = some x -> l.take (i + 1) = l.take i ++ [x]
 | [], i, x, h => by simp at h
 | a :: l, 0, x, h => by
  have e : a = x := by simpa using h
  subst e
  rfl
 | a :: l, i + 1, x, h => by
  have ih := take_snoc (l := l) (i := i) (x := x) (by simpa using h)
  show a :: l.take (i + 1) = a :: l.take i ++ [x]
  rw [ih]
  rfl
theorem pr_ofFrac {x : Frac} (h : fracOk x = true) : pr (ofFrac x) = x := by
 obtain ⟨h1, h2⟩ := ofFrac_eq h
 unfold pr
 rw [h1, h2]
theorem pr_ofPoly : ∀ {fs : List Frac}, fs.all fracOk = true -> (ofPoly fs).map pr = fs
 | [], _ => rfl
 | x :: r, h => by
  rw [List.all_cons, Bool.and_eq_true] at h
  show pr (ofFrac x) :: (ofPoly r).map pr = x :: r
  rw [pr_ofFrac h.1, pr_ofPoly h.2]
theorem polyOk_all {fs : List Frac} (h : polyOk fs = true) : fs.all fracOk = true := by
 unfold polyOk at h
 exact (Bool.and_eq_true_iff.mp h).1
theorem polyOk_len {fs : List Frac} (h : polyOk fs = true) : fs.length <= 9 := by
 unfold polyOk at h
 have := (Bool.and_eq_true_iff.mp (Bool.and_eq_true_iff.mp h).2).1
 exact of_decide_eq_true this
end My
set_option Elab.async false
set_option linter.all false
set_option maxRecDepth 100000
set_option maxHeartbeats 2000000
namespace My
open PySem PySem.Spec PyProof.Rows L2
open PySem.W (Codec)
open WrAlgn (Frac fracOk polyOk ofFrac ofPoly Poly)
inductive spTwo (K : PySem.W.Frag) (f : Poly -> Poly -> Poly) (C : Poly -> Poly -> Prop) (vs : List V) (H : Hp) (Q : VK) (E : XK) : Prop
 | mk (u v : V) (p q : Poly) : vs = [u, v] -> PoV K H u p -> PoV K H v q -> C p q -> (∀ (H' : Hp) (r : V), Same H H' -> PoV K H' r (f p q) -> Q r H') -> spTwo K f C vs H Q E
inductive spCt (K : PySem.W.Frag) (vs : List V) (H : Hp) (Q : VK) (E : XK) : Prop
 | mk (v : V) (p : Poly) (a d : Nat) : vs = [v] -> PoV K H v p -> Nm p -> p ≠ [] -> IF p a d -> 2 * (a + d) <= 134217728 -> (∀ (H' : Hp) (r : V), Same H H' -> FrV K H' r (ct p) -> Q r H') -> spCt K vs H Q E
inductive spDvb (K : PySem.W.Frag) (vs : List V) (H : Hp) (Q : VK) (E : XK) : Prop
 | mk (u v : V) (p : Poly) (x : Rat) (m n : Nat) : vs = [u, v] -> PoV K H u p -> FrV K H v x -> x ≠ 0 -> polySz p m -> Sz x n -> m + n <= 134217728 -> p.length <= 1000 -> (∀ (H' : Hp) (r : V), Same H H' -> PoV K H' r (p.map fun c => c / x) -> Q r H') -> spDvb K vs H Q E
def cMul (p q : Poly) : Prop := p.length <= 1000 /\ q.length <= 1000 /\ Nm p /\ Nm q /\ ∃ n, polySz p n /\ polySz q n /\ (p.length + 1) * (2 * n + 1) + 1 <= 134217728
theorem map_pr_nil (p : Poly) : decide (p.map pr = []) = decide (p = []) := by
 cases p <;> simp
theorem ix_nat {n j : Nat} (h : j < n) : ixN n (j : Int) = some j := by
 unfold ixN
 rw [if_pos (by lia), if_pos (by lia)]
 rfl
theorem at_m1 {xs : List V} {n : Nat} {v : V} (hl : xs.length = n + 1) (h : xs[n]? = some v) : atI xs (-1) = some v := by
 have e : ixN xs.length (-1) = some n := by
  unfold ixN
  rw [hl, if_neg (by decide), if_pos (by lia)]
  congr 1
  lia
 unfold atI
 rw [e]
 exact h
theorem rep_zero {K : PySem.W.Frag} {H : Hp} {z : Addr} (h : FrV K H (.ref z) 0) : ∀ n : Nat, PrVs K H (List.replicate n (V.ref z)) ((List.replicate n (0 : Rat)).map pr) := by
 intro z0
 induction z0 with
 | zero =>
  exact .nil
 | succ n ih =>
  exact .cons h (ih)
theorem flat_rep {α : Type} (x : α) : ∀ n : Nat, (List.replicate n [x]).flatten = List.replicate n x := by
 intro z0
 induction z0 with
 | zero =>
  exact rfl
 | succ n ih =>
  rw [List.replicate_succ, List.flatten_cons, ih]; rfl
theorem mul_nil (p : Poly) : WrAlgn.mul p [] = [] := by
 refine ext_nm (nm_mul p []) nm_nil fun j => ?_
 rw [co_mul, co_nil]
 generalize p.length = n
 induction n with
 | zero => rfl
 | succ n ih =>
  rw [pm, ih, co_nil]
  split <;> grind
def rowL (p q : Poly) (N i k : Nat) : Poly := (List.range N).map fun j => pm p q i j + if i <= j /\ j - i < k then co p i * co q (j - i) else 0
theorem rowL_len (p q : Poly) (N i k : Nat) : (rowL p q N i k).length = N := by unfold rowL; rw [List.length_map, List.length_range]
theorem rowL_get {p q : Poly} {N i k j : Nat} (h : j < N) : (rowL p q N i k)[j]? = some (pm p q i j + if i <= j /\ j - i < k then co p i * co q (j - i) else 0) := by
 unfold rowL; rw [List.getElem?_map, List.getElem?_range h]; rfl
theorem rowL_zero (p q : Poly) (N : Nat) : rowL p q N 0 0 = List.replicate N 0 := by
 apply List.ext_getElem?
 intro j
 by_cases h : j < N
 ·rw [rowL_get h, List.getElem?_replicate, if_pos h, if_neg (by lia)]; simp only [pm]; congr 1; grind
 ·rw [List.getElem?_eq_none_iff.mpr (by rw [rowL_len]; lia), List.getElem?_eq_none_iff.mpr (by rw [List.length_replicate]; lia)]
theorem rowL_next (p q : Poly) (N i : Nat) : rowL p q N i q.length = rowL p q N (i + 1) 0 := by
 unfold rowL
 refine List.map_congr_left fun j _ => ?_
 rw [pm, if_neg (show ¬ (i + 1 <= j /\ j - (i + 1) < 0) by lia)]
 by_cases h : i <= j
 ·by_cases h2 : j - i < q.length
  ·rw [if_pos ⟨h, h2⟩, if_pos h]; grind
  ·rw [if_neg (by lia), if_pos h, co_of_ge (p := q) (by lia)]; grind
 ·rw [if_neg (by lia), if_neg h]; grind
theorem rowL_set {p q : Poly} {N i k : Nat} (h : i + k < N) : (rowL p q N i k).set (i + k) (pm p q i (i + k) + co p i * co q k) = rowL p q N i (k + 1) := by
 apply List.ext_getElem?
 intro j
 by_cases hj : j < N
 ·rw [rowL_get hj, List.getElem?_set]
  by_cases e : i + k = j
  ·rw [if_pos e, if_pos (by rw [rowL_len]; lia), <- e, if_pos (by lia), show i + k - i = k by lia]
  ·rw [if_neg e, rowL_get hj]
   congr 2
   by_cases h2 : i <= j /\ j - i < k
   ·rw [if_pos h2, if_pos (by lia)]
   ·rw [if_neg h2, if_neg (by lia)]
 ·rw [List.getElem?_eq_none_iff.mpr (by rw [List.length_set, rowL_len]; lia), List.getElem?_eq_none_iff.mpr (by rw [rowL_len]; lia)]
theorem pm_sz {p q : Poly} {n : Nat} (hp : polySz p n) (hq : polySz q n) : ∀ i j, i <= p.length -> Sz (pm p q i j) (i * (2 * n + 1) + 1) := by
 intro z0
 induction z0 with
 | zero =>
  intro j _
  rw [pm]; exact zero_sz.mono (by lia)
 | succ i ih =>
  intro j hi
  have ih := ih j (by lia)
  rw [pm]
  have e : (i + 1) * (2 * n + 1) + 1 = (i * (2 * n + 1) + 1) + (n + n) + 1 := by rw [Nat.succ_mul]; lia
  rw [e]
  split
  ·by_cases h2 : j - i < q.length
   ·exact ih.add ((hp _ (List.mem_of_getElem? (co_lt (by lia)))).mul (hq _ (List.mem_of_getElem? (co_lt h2))))
   ·rw [co_of_ge (p := q) (by lia)]
    have : pm p q i j + co p i * 0 = pm p q i j := by grind
    rw [this]
    exact ih.mono (by lia)
  ·have : pm p q i j + 0 = pm p q i j := by grind
   rw [this]
   exact ih.mono (by lia)
theorem nm_ofPoly {fs : List Frac} (h : polyOk fs = true) : Nm (ofPoly fs) := by
 unfold Nm
 intro e
 unfold ofPoly at e
 rw [List.getLast?_map] at e
 obtain ⟨x, hx, e0⟩ := Option.map_eq_some_iff.mp e
 have hm : x ∈ fs := List.mem_of_getLast? hx
 have hf := List.all_eq_true.mp (polyOk_all h) x hm
 have h1 := (ofFrac_eq hf).1
 rw [e0] at h1
 unfold polyOk at h
 have h2 := (Bool.and_eq_true_iff.mp (Bool.and_eq_true_iff.mp h).2).2
 rw [hx] at h2
 have h3 : (x.1 != 0) = true := h2
 rw [<- h1] at h3
 exact absurd h3 (by decide)
theorem ofPoly_nil {fs : List Frac} : ofPoly fs = [] ↔ fs = [] := by
 unfold ofPoly; exact List.map_eq_nil_iff
theorem ofPoly_len (fs : List Frac) : (ofPoly fs).length = fs.length := by unfold ofPoly; rw [List.length_map]
structure Hd (p : Poly) : Prop where
 len : p.length <= 9
 nm : Nm p
 sz : polySz p 20
theorem hd_ofPoly {fs : List Frac} (h : polyOk fs = true) : Hd (ofPoly fs) :=
 ⟨by rw [ofPoly_len]; exact polyOk_len h, nm_ofPoly h, ofPoly_sz (polyOk_all h)⟩
theorem po_of {K : PySem.W.Frag} {H : Hp} {v : V} {fs : List Frac} (h : polyOk fs = true) (q : LsV K H v fs) : PoV K H v (ofPoly fs) := by
 show LsV K H v ((ofPoly fs).map pr)
 rw [pr_ofPoly (polyOk_all h)]
 exact q
theorem ans_no {c : WrAlgn.Call} (h : WrAlgn.asked c = false) : WrAlgnNeutral.told (WrAlgn.answer c) = [9, 1] := by
 unfold WrAlgn.answer
 rw [if_pos h]; rfl
theorem dec_int (i n : Int) : decide (V.int i = V.int n) = decide (i = n) := by simp
def IsV (H : Hp) (v : V) (ns : List Int) : Prop := ∃ l, v = .ref l /\ H l = some (.lst (ns.map V.int))
theorem IsV.same {H H' : Hp} {v : V} {ns : List Int} (h : IsV H v ns) (e : Same H H') : IsV H' v ns := by
 obtain ⟨l, rfl, q⟩ := h
 exact ⟨l, rfl, e _ _ q⟩
abbrev IsVs (H : Hp) : List V -> List (List Int) -> Prop := Paired (IsV H)
theorem IsVs.same {H H' : Hp} (e : Same H H') {vs : List V} {L : List (List Int)} (h : IsVs H vs L) : IsVs H' vs L := Paired.imp' (fun _ _ r => IsV.same r e) h
theorem IsVs.get {H : Hp} {vs : List V} {L : List (List Int)} {i : Nat} {x : List Int} (h : IsVs H vs L) (e : L[i]? = some x) : ∃ v, vs[i]? = some v /\ IsV H v x := pr_get h e
theorem IsVs.len {H : Hp} {vs : List V} {L : List (List Int)} (h : IsVs H vs L) : vs.length = L.length := Paired.length h
theorem IsVs.get' {H : Hp} {vs : List V} {L : List (List Int)} {i : Nat} {v : V} (h : IsVs H vs L) (e : vs[i]? = some v) : ∃ x, L[i]? = some x /\ IsV H v x := by
 have hi : i < L.length := by rw [<- h.len]; exact (List.getElem?_eq_some_iff.mp e).1
 obtain ⟨u, h1, h2⟩ := h.get (List.getElem?_eq_getElem hi)
 rw [e] at h1
 cases h1
 exact ⟨_, List.getElem?_eq_getElem hi, h2⟩
def ChV (H : Hp) (v : V) (L : List (List Int)) : Prop := ∃ l vs, v = .ref l /\ H l = some (.lst vs) /\ IsVs H vs L
theorem ChV.same {H H' : Hp} {v : V} {L : List (List Int)} (h : ChV H v L) (e : Same H H') : ChV H' v L := by
 obtain ⟨l, vs, rfl, q, r⟩ := h
 exact ⟨l, vs, rfl, e _ _ q, r.same e⟩
theorem IsV.put {H : Hp} {D : Addr} {v : V} {ns : List Int} {o : HO} (h : IsV H v ns) (hD : ∀ l, v = .ref l -> l ≠ D) : IsV (upd H D o) v ns := by
 obtain ⟨l, rfl, q⟩ := h
 exact ⟨l, rfl, by rw [upd_ne (hD l rfl)]; exact q⟩
theorem eqv_int (a b : Int) : PyData.eqv (.int a) (.int b) = decide (a = b) := by
 show (a == b) = _
 rw [Bool.eq_iff_iff]; simp
theorem shaped_int (a : Int) : SeqAt.shaped (.int a) = true := by
 unfold SeqAt.shaped
 rw [Bool.and_eq_true]
 exact ⟨rfl, decide_eq_true (by simp [PyData.depth])⟩
theorem at_last {ns : List Int} (h : ns ≠ []) : atI (ns.map V.int) (-1) = some (.int (leI ns)) := by
 have h1 := List.length_pos_iff.mpr h
 refine at_m1 (n := ns.length - 1) (by rw [List.length_map]; lia) ?_
 rw [List.getElem?_map, ci_lt (by lia), leI_ci]; rfl
theorem at_ci {ns : List Int} {i : Nat} (h : i < ns.length) : (ns.map V.int)[i]? = some (.int (ci ns i)) := by
 rw [List.getElem?_map, ci_lt h]; rfl
theorem take_trim {l : List Int} {s : Nat} (hs : s <= l.length) (hz : ∀ i, s <= i -> ci l i = 0) (hl : s = 0 \/ ci l (s - 1) ≠ 0) : l.take s = trimI l := by
 apply ip_inj
 rw [ip_trim, <- take_norm (p := ip l) (s := s) (by rw [ip_len]; exact hs) (fun i hi => by rw [co_ip, hz i hi]; rfl) (hl.imp id fun h e => h (cast_inj (by rw [<- co_ip, e]; rfl)))]
 unfold ip; rw [List.map_take]
inductive spPow (vs : List V) (H : Hp) (Q : VK) (E : XK) : Prop
 | mk (b : Int) (n m : Nat) : vs = [.int b, .int n] -> b.natAbs < 2 ^ m -> n <= 1000 -> m * (n + 1) + 1 <= 134217728 -> Q (.int (b ^ n)) H -> spPow vs H Q E
inductive spTrimI (K : PySem.W.Frag) (vs : List V) (H : Hp) (Q : VK) (E : XK) : Prop
 | inr : (∃ (v : V) (ns : List Int), vs = [v, .int 0] /\ IsV H v ns /\ ∀ (H' : Hp) (r : V), Same H H' -> IsV H' r (trimI ns) -> Q r H') -> spTrimI K vs H Q E
inductive spI1 (f : List Int -> List Int) (C : List Int -> Prop) (vs : List V) (H : Hp) (Q : VK) (E : XK) : Prop
 | mk (v : V) (p : List Int) : vs = [v] -> IsV H v p -> C p -> (∀ (H' : Hp) (r : V), Same H H' -> IsV H' r (f p) -> Q r H') -> spI1 f C vs H Q E
inductive spI2 (f : List Int -> List Int -> List Int) (C : List Int -> List Int -> Prop) (vs : List V) (H : Hp) (Q : VK) (E : XK) : Prop
 | mk (u v : V) (p q : List Int) : vs = [u, v] -> IsV H u p -> IsV H v q -> C p q -> (∀ (H' : Hp) (r : V), Same H H' -> IsV H' r (f p q) -> Q r H') -> spI2 f C vs H Q E
def spCh (f : List Int -> List Int -> List (List Int)) (C : List Int -> List Int -> Prop) : Sp := fun vs H Q _ => ∃ (u v : V) (p q : List Int), vs = [u, v] /\ IsV H u p /\ IsV H v q /\ C p q /\ ∀ (H' : Hp) (r : V), Same H H' -> ChV H' r (f p q) -> Q r H'
inductive spWp (K : PySem.W.Frag) (f : Poly -> List Int) (C : Poly -> Prop) (vs : List V) (H : Hp) (Q : VK) (E : XK) : Prop
 | mk (v : V) (p : Poly) : vs = [v] -> PoV K H v p -> C p -> (∀ (H' : Hp) (r : V), Same H H' -> IsV H' r (f p) -> Q r H') -> spWp K f C vs H Q E
inductive spOw (K : PySem.W.Frag) (vs : List V) (H : Hp) (Q : VK) (E : XK) : Prop
 | mk (v : V) (p : List Int) : vs = [v] -> IsV H v p -> p.length <= 1000 -> (∀ (H' : Hp) (r : V), Same H H' -> PoV K H' r (ip p) -> Q r H') -> spOw K vs H Q E
def cPrm (p : List Int) : Prop := NmI p /\ p ≠ [] /\ p.length <= 1000
def cDe (p : List Int) : Prop := p.length <= 1000 /\ ∃ s, btI p s /\ s + 20 <= 134217728
def cSr (p q : List Int) : Prop := p.length <= 1000 /\ q ≠ [] /\ q.length <= p.length /\ ∃ a b, btI p a /\ btI q b /\ a + (p.length + 2) * (b + 1) <= 134217728
def cCh (p q : List Int) : Prop := NmI p /\ p ≠ [] /\ NmI q /\ q.length <= p.length /\ p.length <= 17 /\ ∃ s, btI p s /\ btI q s /\ s <= 100000
def cExq (p q : List Int) : Prop := p.length <= 1000 /\ q ≠ [] /\ NmI q /\ q.length <= p.length /\ ∃ b c, btI q b /\ btI (exq p q) c /\ b + c <= 134217728
def cSfI (p : List Int) : Prop := NmI p /\ p ≠ [] /\ p.length <= 17 /\ ∃ s, btI p s /\ s <= 90000
def cWp (p : Poly) : Prop := p.length <= 1000 /\ Nm p /\ p ≠ [] /\ ∃ a d, IF p a d /\ 4 * (a + d) <= 134217728
def cWsf (p : Poly) : Prop := p.length <= 17 /\ Nm p /\ p ≠ [] /\ ∃ a d, IF p a d /\ a <= 90000 /\ 4 * (a + d) <= 134217728
theorem ch_bits {p q : List Int} {s : Nat} (hp : p.length <= 17) (hq : q.length <= p.length) (h1 : 0 < p.length) : chB p q (2 ^ s) < 2 ^ ((6 + s) * 34 + 1) := by
 have h := chB_bits (p := p) (q := q) (s := s) (e := 6) (Nat.le_trans (by lia : p.length + q.length <= 64) (by decide))
 refine Nat.lt_of_le_of_lt h (Nat.pow_lt_pow_right (by decide) ?_)
 have : (6 + s) * (p.length + q.length) <= (6 + s) * 34 := Nat.mul_le_mul_left _ (by lia)
 lia
def stI (q : List Int) (s : Nat) (f : Int) (r : List Int) (k : Nat) : List Int := r.mapIdx fun j c => if s <= j /\ j < s + k then c - f * ci q (j - s) else c
theorem stI_len (q : List Int) (s : Nat) (f : Int) (r : List Int) (k : Nat) : (stI q s f r k).length = r.length := by unfold stI; rw [List.length_mapIdx]
theorem stI_zero (q : List Int) (s : Nat) (f : Int) (r : List Int) : stI q s f r 0 = r := by
 apply List.ext_getElem?
 intro j
 unfold stI
 rw [List.getElem?_mapIdx]
 cases r[j]? with
 | none => rfl
 | some c => show some (if s <= j /\ j < s + 0 then c - f * ci q (j - s) else c) = some c; rw [if_neg (by lia)]
theorem stI_at {q r : List Int} {s k : Nat} {f : Int} (h : s + k < r.length) : (stI q s f r k)[s + k]? = some (ci r (s + k)) := by
 unfold stI
 rw [List.getElem?_mapIdx, ci_lt h]
 show some (if s <= s + k /\ s + k < s + k then _ else _) = _
 rw [if_neg (by lia)]
theorem stI_set {q r : List Int} {s k : Nat} {f : Int} (h : s + k < r.length) : (stI q s f r k).set (s + k) (ci r (s + k) - f * ci q k) = stI q s f r (k + 1) := by
 apply List.ext_getElem?
 intro j
 by_cases hj : j < r.length
 ·rw [List.getElem?_set]
  unfold stI
  rw [List.getElem?_mapIdx, List.getElem?_mapIdx, List.length_mapIdx, ci_lt hj]
  by_cases e : s + k = j
  ·rw [if_pos e, if_pos (by lia), <- e]
   show _ = some (if s <= s + k /\ s + k < s + (k + 1) then ci r (s + k) - f * ci q (s + k - s) else _)
   rw [if_pos (by lia), show s + k - s = k by lia]
  ·rw [if_neg e]
   show some (if s <= j /\ j < s + k then _ else _) = some (if s <= j /\ j < s + (k + 1) then _ else _)
   by_cases h2 : s <= j /\ j < s + k
   ·rw [if_pos h2, if_pos (by lia)]
   ·rw [if_neg h2, if_neg (by lia)]
 ·rw [List.getElem?_eq_none_iff.mpr (by rw [List.length_set, stI_len]; lia), List.getElem?_eq_none_iff.mpr (by rw [stI_len]; lia)]
theorem sst_st (q : List Int) (s : Nat) (r : List Int) : stI q s (fcI q s r) (r.map fun a => ((leI q).natAbs : Int) * a) q.length = sst q s r := by
 apply List.ext_getElem?
 intro j
 unfold stI sst
 rw [List.getElem?_mapIdx, List.getElem?_mapIdx, List.getElem?_map]
 cases r[j]? with
 | none => rfl
 | some c =>
  show some _ = some _
  congr 1
  show (if s <= j /\ j < s + q.length then ((leI q).natAbs : Int) * c - fcI q s r * ci q (j - s) else ((leI q).natAbs : Int) * c) = ((leI q).natAbs : Int) * c - (if s <= j /\ j < s + q.length then fcI q s r * ci q (j - s) else 0)
  split <;> lia
theorem pow_bits {b : Int} {m : Nat} (h : b.natAbs < 2 ^ m) (i : Nat) : (b ^ i).natAbs < 2 ^ (m * i + 1) := by
 rw [Int.natAbs_pow]
 calc b.natAbs ^ i <= (2 ^ m) ^ i := Nat.pow_le_pow_left (by lia) i
  _ = 2 ^ (m * i) := (Nat.pow_mul ..).symm
  _ < _ := Nat.pow_lt_pow_right (by decide) (by lia)
theorem sst_bits {q r : List Int} {s a b : Nat} (hq : btI q b) (hr : btI r a) : btI (sst q s r) (a + (b + 1)) := by
 have h2 : 0 < 2 ^ a := Nat.pow_pos (by decide)
 have h3 : 0 < 2 ^ b := Nat.pow_pos (by decide)
 refine btI_of (M := 2 ^ (a + (b + 1)) - 1) (bdI_of fun j => ?_) (by have : 0 < 2 ^ (a + (b + 1)) := Nat.pow_pos (by decide); lia)
 by_cases hj : j < r.length
 ·unfold sst
  rw [ci_mapIdx hj]
  have e1 : (((leI q).natAbs : Int) * ci r j).natAbs < 2 ^ b * 2 ^ a := by
   rw [Int.natAbs_mul]
   have := hq.ci (q.length - 1)
   rw [<- leI_ci] at this
   have hr1 := hr.ci j
   calc _ <= 2 ^ b * (ci r j).natAbs := Nat.mul_le_mul_right _ (by lia)
    _ < _ := Nat.mul_lt_mul_of_pos_left hr1 h3
  have e2 : (if s <= j /\ j < s + q.length then fcI q s r * ci q (j - s) else 0).natAbs < 2 ^ b * 2 ^ a := by
   split
   ·rw [Int.natAbs_mul]
    have hf : (fcI q s r).natAbs < 2 ^ a := by
     unfold fcI
     have := hr.ci (s + q.length - 1)
     split <;> lia
    have hq1 := hq.ci (j - s)
    rw [Nat.mul_comm]
    calc _ <= 2 ^ b * (fcI q s r).natAbs := Nat.mul_le_mul_right _ (by lia)
     _ < _ := Nat.mul_lt_mul_of_pos_left hf h3
   ·simp only [Int.natAbs_zero]; exact Nat.mul_pos h3 h2
  have e3 : 2 ^ (a + (b + 1)) = 2 * (2 ^ b * 2 ^ a) := by rw [Nat.pow_add, Nat.pow_succ, Nat.mul_comm (2 ^ a), Nat.mul_comm (2 ^ b) 2, Nat.mul_assoc]
  rw [e3]
  exact nab_sub (Nat.le_sub_one_of_lt e1) (Nat.le_of_lt e2) (by lia)
 ·rw [ci_of_ge (by rw [sst_len]; lia)]
  simp
def NcV (C : Addr) (H : Hp) (v : V) (ns : List Int) : Prop := IsV H v ns /\ v ≠ .ref C
theorem NcV.put {H : Hp} {C : Addr} {v : V} {ns : List Int} {o : HO} (h : NcV C H v ns) : NcV C (upd H C o) v ns :=
 ⟨h.1.put fun l e q => h.2 (by rw [e, q]), h.2⟩
theorem NcV.same {H H' : Hp} {C : Addr} {v : V} {ns : List Int} (h : NcV C H v ns) (e : Same H H') : NcV C H' v ns := ⟨h.1.same e, h.2⟩
abbrev NcVs (C : Addr) (H : Hp) : List V -> List (List Int) -> Prop := Paired (NcV C H)
theorem NcVs.put {H : Hp} {C : Addr} {o : HO} {vs : List V} {L : List (List Int)} (h : NcVs C H vs L) : NcVs C (upd H C o) vs L := Paired.imp' (fun _ _ r => NcV.put r) h
theorem NcVs.same {H H' : Hp} {C : Addr} (e : Same H H') {vs : List V} {L : List (List Int)} (h : NcVs C H vs L) : NcVs C H' vs L := Paired.imp' (fun _ _ r => NcV.same r e) h
theorem NcVs.snoc {H : Hp} {C : Addr} {v : V} {x : List Int} (q : NcV C H v x) {vs : List V} {L : List (List Int)} (h : NcVs C H vs L) : NcVs C H (vs ++ [v]) (L ++ [x]) := pr_snoc h q
theorem NcVs.out {H : Hp} {C : Addr} {vs : List V} {L : List (List Int)} (h : NcVs C H vs L) : IsVs H vs L := Paired.imp' (fun _ _ r => r.1) h
inductive WRc (u v : V) (C : Addr) (H : Hp) (p q : List Int) (s0 m : Nat) (σ : L2.St) (H' : Hp) : Prop
 | mk (x y : V) (l r : List Int) (g h : Int) (pre : List (List Int)) (vs : List V) (f : Nat) (v7 v8 v9 : Option V) : σ = [some u, some v, some (.ref C), some x, some y, some (.int g), some (.int h), v7, v8, v9, none] -> Same H H' -> H' C = some (.lst vs) -> NcVs C H' vs (pre ++ [l]) -> NcV C H' x l -> NcV C H' y r -> chI p q = pre ++ chF f l r g h -> pre.length + f <= 20 -> r.length <= f -> NmI l -> l ≠ [] -> l.length <= 17 -> (r = [] \/ IvI p q (2 ^ s0) l r g h) -> m = r.length -> WRc u v C H p q s0 m σ H'
inductive NRc (H : Hp) (u v : V) (C ly : Addr) (l r : List Int) (g h : Int) (pre : List (List Int)) (σ' : L2.St) (H2 : Hp) : Prop
 | mk (y2 : V) (vs2 : List V) (w7 w8 w9 : Option V) : σ' = [some u, some v, some (.ref C), some (.ref ly), some y2, some (.int ((leI r).natAbs : Int)), some (.int (hgI l r h)), w7, w8, w9, none] -> Same H H2 -> H2 C = some (.lst vs2) -> NcVs C H2 vs2 ((pre ++ [l]) ++ [r]) -> NcV C H2 (.ref ly) r -> NcV C H2 y2 (nxI l r g h) -> NRc H u v C ly l r g h pre σ' H2
inductive IvSr (H : Hp) (lp lq : Addr) (p q : List Int) (n a b : Nat) (i : Nat) (σ : L2.St) (H' : Hp) : Prop
 | mk : ∀ (R : Addr) (r : List Int) (v4 v5 v6 v7 : Option V), σ = [some (.ref lp), some (.ref lq), some (.ref R), some (.int ((leI q).natAbs : Int)), v4, v5, v6, v7, none] -> Same H H' -> H' R = some (.lst (r.map V.int)) -> r.length = p.length -> btI r (a + i * (b + 1)) -> sv q n p = sv q (n - i) r -> IvSr H lp lq p q n a b i σ H'
inductive IwSr (H : Hp) (lp lq D : Addr) (q r r2 : List Int) (s : Nat) (kk : Nat) (σ : L2.St) (H' : Hp) : Prop
 | mk : ∀ (v6 v7 : Option V), σ = [some (.ref lp), some (.ref lq), some (.ref D), some (.int ((leI q).natAbs : Int)), some (.int (s : Int)), some (.int (fcI q s r)), v6, v7, none] -> Same H H' -> H' D = some (.lst ((stI q s (fcI q s r) r2 kk).map V.int)) -> IwSr H lp lq D q r r2 s kk σ H'
inductive IvEq (H : Hp) (lp lq R D : Addr) (p q : List Int) (n : Nat) (i : Nat) (σ : L2.St) (H' : Hp) : Prop
 | mk : ∀ (v4 v5 v6 v7 : Option V), σ = [some (.ref lp), some (.ref lq), some (.ref R), some (.ref D), v4, v5, v6, v7] -> Same H H' -> ∀ (r fs : List Int), H' R = some (.lst (r.map V.int)) -> H' D = some (.lst ((List.replicate (n - i) 0 ++ fs).map V.int)) -> fs.length = i -> r.length = p.length -> exq p q = eqv q (n - i) r ++ fs -> IvEq H lp lq R D p q n i σ H'
inductive IwEq (H : Hp) (lp lq R D : Addr) (q r fs : List Int) (s : Nat) (kk : Nat) (σ : L2.St) (H' : Hp) : Prop
 | mk : ∀ (v6 v7 : Option V), σ = [some (.ref lp), some (.ref lq), some (.ref R), some (.ref D), some (.int (s : Int)), some (.int (efI q s r)), v6, v7] -> Same H H' -> H' D = some (.lst ((List.replicate s 0 ++ (efI q s r :: fs)).map V.int)) -> H' R = some (.lst ((stI q s (efI q s r) r kk).map V.int)) -> IwEq H lp lq R D q r fs s kk σ H'
inductive IvPp (K : PySem.W.Frag) (H3 : Hp) (lp lq D : Addr) (p q : Poly) (N : Nat) (i : Nat) (σ : L2.St) (H' : Hp) : Prop
 | mk : ∀ (v3 v4 v5 v6 : Option V), σ = [some (.ref lp), some (.ref lq), some (.ref D), v3, v4, v5, v6] -> Same H3 H' -> ∀ (vs : _), H' D = some (.lst vs) -> PrVs K H' vs ((rowL p q N i 0).map pr) -> IvPp K H3 lp lq D p q N i σ H'
inductive IwPp (K : PySem.W.Frag) (H3 : Hp) (lp lq D : Addr) (p q : Poly) (N i : Nat) (x1 : V) (kk : Nat) (σ : L2.St) (H' : Hp) : Prop
 | mk : ∀ (v5 v6 : Option V), σ = [some (.ref lp), some (.ref lq), some (.ref D), some (.int (i : Int)), some x1, v5, v6] -> Same H3 H' -> ∀ (vs : _), H' D = some (.lst vs) -> PrVs K H' vs ((rowL p q N i kk).map pr) -> IwPp K H3 lp lq D p q N i x1 kk σ H'
section
variable {p q A B : Poly} {f : Rat} {i : Nat}
end
inductive spSi (vs : List V) (H : Hp) (Q : VK) (E : XK) : Prop
 | mk (n : Int) : vs = [.int n] -> Q (.int (si n)) H -> spSi vs H Q E
inductive spVs (K : PySem.W.Frag) (vs : List V) (H : Hp) (Q : VK) (E : XK) : Prop
 | mk (u v : V) (p : List Int) (t b : Int) (s m : Nat) : vs = [u, v] -> IsV H u p -> PrV K H v (t, b) -> 0 < b -> btI p s -> t.natAbs < 2 ^ m -> b.natAbs < 2 ^ m -> p.length <= 1000 -> s + (m + 1) * (p.length + 2) <= 134217728 -> Q (.int (sr (WrAlgn.at_ (ip p) (((t : Int) : Rat) / ((b : Int) : Rat))))) H -> spVs K vs H Q E
inductive spFar (f : List Int -> Int) (vs : List V) (H : Hp) (Q : VK) (E : XK) : Prop
 | mk (v : V) (p : List Int) : vs = [v] -> IsV H v p -> p ≠ [] -> Q (.int (f p)) H -> spFar f vs H Q E
inductive spChg (vs : List V) (H : Hp) (Q : VK) (E : XK) : Prop
 | mk (v : V) (l : List Int) : vs = [v] -> IsV H v l -> l.length <= 1000 -> (∀ H' : Hp, Same H H' -> Q (.int ((chS l : Nat) : Int)) H') -> spChg vs H Q E
structure Cn (L : List (List Int)) (s : Nat) : Prop where
 len : L.length <= 20
 mem : ∀ p ∈ L, p ≠ [] /\ p.length <= 17 /\ btI p s
inductive spUp (K : PySem.W.Frag) (vs : List V) (H : Hp) (Q : VK) (E : XK) : Prop
 | mk (u v : V) (L : List (List Int)) (t b : Int) (s m : Nat) : vs = [u, v] -> ChV H u L -> PrV K H v (t, b) -> 0 < b -> Cn L s -> t.natAbs < 2 ^ m -> b.natAbs < 2 ^ m -> s + (m + 1) * 19 <= 134217728 -> (∀ H' : Hp, Same H H' -> Q (.int (((farC L : Nat) : Int) - ((WrAlgn.changesAt (L.map ip) (((t : Int) : Rat) / ((b : Int) : Rat)) : Nat) : Int))) H') -> spUp K vs H Q E
inductive spSc (vs : List V) (H : Hp) (Q : VK) (E : XK) : Prop
 | mk (v : V) (p : List Int) : vs = [v] -> IsV H v p -> NmI p -> p ≠ [] -> p.length <= 17 -> (∃ s, btI p s /\ s <= 90000) -> (∀ (H' : Hp) (r : V), Same H H' -> ChV H' r (stC p) -> Q r H') -> spSc vs H Q E
inductive spCof (K : PySem.W.Frag) (vs : List V) (H : Hp) (Q : VK) (E : XK) : Prop
 | mk (a : Addr) (fs : List Frac) : vs = [.ref a] -> SqL K H a ((flat fs).map V.int) -> polyOk fs = true -> fs ≠ [] -> (∀ (H' : Hp) (r : V), Same H H' -> ChV H' r (chO (ofPoly fs)) -> Q r H') -> spCof K vs H Q E
theorem chF_len : ∀ (f : Nat) (l r : List Int) (g h : Int), (chF f l r g h).length <= f + 1 := by
 intro z0
 induction z0 with
 | zero =>
  intro _ _ _ _
  simp [chF]
 | succ f ih =>
  intro l r g h
  unfold chF
  split
  ·simp
  ·rw [List.length_cons]; have := ih r (nxI l r g h) ((leI r).natAbs : Int) (hgI l r h); lia
theorem cn_stC {p : List Int} {s : Nat} (hp : NmI p) (hp0 : p ≠ []) (hl : p.length <= 17) (hs : btI p s) : Cn (stC p) ((11 + s) * 34 + 1) := by
 have hde : btI (deI p) (s + 5) := by
  have h5 : p.length <= 2 ^ 5 := Nat.le_trans (by lia : p.length <= 32) (by decide)
  refine btI_of (de_bd (btI_bd hs)) ?_
  have : 0 < 2 ^ s := Nat.pow_pos (by decide)
  rw [Nat.pow_add]
  calc p.length * (2 ^ s - 1) <= 2 ^ 5 * (2 ^ s - 1) := Nat.mul_le_mul_right _ h5
   _ < 2 ^ 5 * 2 ^ s := Nat.mul_lt_mul_of_pos_left (by lia) (by decide)
   _ = 2 ^ s * 2 ^ 5 := Nat.mul_comm _ _
 have hdl : (deI p).length <= p.length := by rw [de_len]; lia
 refine ⟨?_, fun q hq => ?_⟩
 ·have := chF_len ((deI p).length + 1) p (deI p) 1 1
  unfold stC chI
  lia
 ·have h2s : 1 <= 2 ^ (s + 5) := Nat.pow_pos (by decide)
  have bP : bdI p (2 ^ (s + 5)) := fun c hc => by have := (hs.mono (t := s + 5) (by lia)) c hc; lia
  have bQ : bdI (deI p) (2 ^ (s + 5)) := fun c hc => by have := hde c hc; lia
  have k := chF_members (P := p) (Q := deI p) (M := 2 ^ (s + 5)) ((deI p).length + 1) (l := p) (r := deI p) (g := 1) (h := 1) (by lia) hp hp0 (fun c hc => Nat.le_trans (bP c hc) (chB_ge h2s (List.length_pos_iff.mpr hp0))) (by
   by_cases h0 : deI p = []
   ·exact .inl h0
   ·exact .inr (.start hp (de_nm hp) h0 hdl bP bQ h2s)) q hq
  refine ⟨k.2.1, by have := k.2.2.2; lia, btI_of k.2.2.1 ?_⟩
  have := ch_bits (s := s + 5) hl hdl (List.length_pos_iff.mpr hp0)
  rw [show (6 + (s + 5)) = 11 + s by lia] at this
  exact this
theorem cn_chO {p : Poly} (h : Hd p) (h0 : p ≠ []) : Cn (chO p) 20000 := by
 have hw := pri_wp h.nm h0
 have hb := btI_wp h.nm h0 (IF.nine h.sz h.len (Nat.le_refl _))
 have hl := wp_len h.nm h0
 have k := sfI_is hw.nm hw.ne
 have hsl : (sfI (wp p)).length <= 9 := by
  rw [<- ip_len, sf_wp h.nm h0]
  have := sqf_len h.nm h0
  have := h.len
  lia
 have hsb := (sfI_bits hw.nm hw.ne (by have := h.len; lia) hb).1
 have c := cn_stC k.prs.nm k.prs.ne (by lia) hsb
 exact ⟨c.len, fun q hq => ⟨(c.mem q hq).1, (c.mem q hq).2.1, (c.mem q hq).2.2.mono (by lia)⟩⟩
def cgK (l : List Int) : Nat -> Nat
 | 0 => 0
 | n + 1 => cgK l n + if ci l n ≠ ci l (n + 1) then 1 else 0
theorem cgK_cons (a : Int) (l : List Int) : ∀ n, cgK (a :: l) (n + 1) = (if a ≠ ci l 0 then 1 else 0) + cgK l n := by
 intro z0
 induction z0 with
 | zero =>
  simp [cgK, ci]
 | succ n ih =>
  have := ih
  rw [cgK, this, cgK]
  have e1 : ci (a :: l) (n + 1) = ci l n := by simp [ci]
  have e2 : ci (a :: l) (n + 1 + 1) = ci l (n + 1) := by simp [ci]
  rw [e1, e2]; lia
theorem cgK_all : ∀ l : List Int, cgK l (l.length - 1) = cgI l
 | [] => rfl
 | [_] => rfl
 | a :: b :: r => by
  have ih := cgK_all (b :: r)
  have : (a :: b :: r).length - 1 = (b :: r).length - 1 + 1 := by simp
  rw [this, cgK_cons, ih]
  conv => rhs; unfold cgI
  rfl
def NumV (K : PySem.W.Frag) (H : Hp) (v : V) (L : List (List Int)) (k : Nat) : Prop := ∃ t c, v = .ref t /\ SqT K H t [c, .int (k : Int)] /\ ChV H c L
theorem NumV.same {K : PySem.W.Frag} {H H' : Hp} {v : V} {L : List (List Int)} {k : Nat} (h : NumV K H v L k) (e : Same H H') : NumV K H' v L k := by
 obtain ⟨t, c, rfl, a, b⟩ := h
 exact ⟨t, c, rfl, e.tup a, b.same e⟩
def EndV (K : PySem.W.Frag) (H : Hp) (v : V) (x y : Frac) : Prop := ∃ t a b, v = .ref t /\ SqT K H t [a, b] /\ PrV K H a x /\ PrV K H b y
theorem EndV.same {K : PySem.W.Frag} {H H' : Hp} {v : V} {x y : Frac} (h : EndV K H v x y) (e : Same H H') : EndV K H' v x y := by
 obtain ⟨t, a, b, rfl, h1, h2, h3⟩ := h
 exact ⟨t, a, b, rfl, e.tup h1, h2.same e, h3.same e⟩
inductive spHm (vs : List V) (H : Hp) (Q : VK) (E : XK) : Prop
 | mk (u : V) (L : List (List Int)) (s : Nat) : vs = [u] -> ChV H u L -> Cn L s -> (∀ H' : Hp, Same H H' -> Q (.int (all L)) H') -> spHm vs H Q E
inductive spRb (K : PySem.W.Frag) (vs : List V) (H : Hp) (Q : VK) (E : XK) : Prop
 | mk (u v : V) (p : List Int) (L : List (List Int)) (t b : Int) (s m : Nat) : vs = [u, v] -> ChV H u L -> PrV K H v (t, b) -> 0 < b -> Cn L s -> (∃ l, L = p :: l) -> t.natAbs < 2 ^ m -> b.natAbs < 2 ^ m -> s + (m + 1) * 19 <= 134217728 -> (∀ H' : Hp, Same H H' -> Q (.int (bel p L (rf t b))) H') -> spRb K vs H Q E
inductive spRw (K : PySem.W.Frag) (vs : List V) (H : Hp) (Q : VK) (E : XK) : Prop
 | mk (u v : V) (p : List Int) (L : List (List Int)) (x y : Frac) (s m : Nat) : vs = [u, v] -> ChV H u L -> EndV K H v x y -> 0 < x.2 -> 0 < y.2 -> Cn L s -> (∃ l, L = p :: l) -> x.1.natAbs < 2 ^ m -> x.2.natAbs < 2 ^ m -> y.1.natAbs < 2 ^ m -> y.2.natAbs < 2 ^ m -> s + (m + 1) * 19 <= 134217728 -> (∀ H' : Hp, Same H H' -> Q (.int (wit p L (rf x.1 x.2) (rf y.1 y.2))) H') -> spRw K vs H Q E
inductive spWb (vs : List V) (H : Hp) (Q : VK) (E : XK) : Prop
 | mk (v : V) (p : List Int) (s : Nat) : vs = [v] -> IsV H v p -> PrI p -> p.length <= 1000 -> btI p s -> (∀ (B : Int) (H' : Hp), Bd (ip p) ((B : Int) : Rat) -> 0 < B -> B.natAbs < 2 ^ (s + 2) -> Same H H' -> Q (.int B) H') -> spWb vs H Q E
inductive spGe (K : PySem.W.Frag) (vs : List V) (H : Hp) (Q : VK) (E : XK) : Prop
 | mk (u v : V) (p : List Int) (L : List (List Int)) (k : Nat) (t b : Int) (s m : Nat) : vs = [u, v] -> NumV K H u L k -> PrV K H v (t, b) -> 0 < b -> Cn L s -> (∃ l, L = p :: l) -> t.natAbs < 2 ^ m -> b.natAbs < 2 ^ m -> s + (m + 1) * 19 <= 134217728 -> (∀ H' : Hp, Same H H' -> Q (.bl (decide (bel p L (rf t b) <= k))) H') -> spGe K vs H Q E
inductive spFl (K : PySem.W.Frag) (vs : List V) (H : Hp) (Q : VK) (E : XK) : Prop
 | mk (u : V) (p : List Int) (L : List (List Int)) (k : Nat) (S : Int) (s m : Nat) : vs = [u, .int S] -> NumV K H u L k -> Nb p L k -> 0 < S -> Cn L s -> S.natAbs < 2 ^ m -> s + (s + m + 4) * 19 <= 134217728 -> (∀ (f : Int) (H' : Hp), Fl p L k S f -> f.natAbs < 2 ^ (s + m + 3) -> Same H H' -> Q (.int f) H') -> spFl K vs H Q E
theorem sr_zero {x : Rat} : sr x = 0 ↔ x = 0 := by
 constructor
 ·intro h
  false_or_by_contra
  rename_i hx
  rcases sr_ne hx with ⟨e, _⟩ | ⟨e, _⟩ <;> rw [e] at h <;> exact absurd h (by decide)
 ·intro h; subst h; rfl
structure Fs (p : List Int) (L : List (List Int)) (k : Nat) (S lo hi : Int) (M : Nat) : Prop where
 lt : lo < hi
 ge : bel p L (rf lo S) <= k
 no : (k : Int) < bel p L (rf hi S)
 lob : lo.natAbs <= M
 hib : hi.natAbs <= M
theorem Fs.start {p : List Int} {L : List (List Int)} {k : Nat} {S B : Int} (h : Nb p L k) (hS : 0 < S) (hB : Bd (ip p) ((B : Int) : Rat)) (hB0 : 0 < B) : Fs p L k S (-(B * S)) (B * S) (B * S).natAbs := by
 have h0 := ic_pos hS
 have e1 : rf (B * S) S = ((B : Int) : Rat) := by unfold rf; rw [Rat.intCast_mul]; grind
 have e2 : rf (-(B * S)) S = -((B : Int) : Rat) := by unfold rf; rw [Rat.intCast_neg, Rat.intCast_mul]; grind
 have hp := Int.mul_pos hB0 hS
 have hb0 := ic_pos hB0
 refine ⟨by lia, ?_, ?_, by lia, by lia⟩
 ·rw [e2]
  have := h.ch.low hB Rat.le_refl
  unfold bel
  lia
 ·rw [e1]
  have a := h.ch.high hB Rat.le_refl
  have hz : zr (ip p) ((B : Int) : Rat) = 0 := by
   unfold zr
   rw [if_neg (hB.ne (by unfold ab; split <;> grind))]
  have := h.lt
  unfold bel
  lia
theorem Fs.done {p : List Int} {L : List (List Int)} {k : Nat} {S lo hi : Int} {M : Nat} (h : Fs p L k S lo hi M) (e : ¬ 1 < hi - lo) : Fl p L k S lo := by
 have h1 := h.lt
 have e2 : hi = lo + 1 := by lia
 exact ⟨h.ge, by rw [<- e2]; exact h.no⟩
theorem Chn.hd0 {p : List Int} {L : List (List Int)} (h : Chn p L) : L[0]? = some p := by
 obtain ⟨t, e⟩ := h.hd
 rw [e]; rfl
theorem nat_abs_succ {f : Int} {a b : Nat} (h : f.natAbs < a) (e : a + a <= b) : (f + 1).natAbs < b := Nat.lt_of_le_of_lt (Int.natAbs_add_le f 1) (Nat.lt_of_lt_of_le (by show f.natAbs + 1 < a + a; generalize f.natAbs = n at h; lia) e)
theorem chn_chO {p : Poly} (hp : Nm p) (h0 : p ≠ []) : Chn (sfI (wp p)) (chO p) := by
 have hw := pri_wp hp h0
 have k := sfI_is hw.nm hw.ne
 exact chn_stC k.prs (by rw [sf_wp hp h0]; exact sf_squareFree hp h0)
theorem weight_bd {l : List Int} {s : Nat} (h : btI l s) : WrAlgn.weight (ip l) <= l.length * (s + 2) := by
 have key : ∀ l : List Int, btI l s -> WrAlgn.weight (ip l) <= l.length * (s + 2) := by
  refine snocI (fun _ => Nat.zero_le _) fun p c ih h => ?_
  have e : ip (p ++ [c]) = ip p ++ [((c : Int) : Rat)] := by unfold ip; rw [List.map_append]; rfl
  rw [e, weight_snoc]
  have h1 := ih fun x hx => h x (by simp [hx])
  have h2 := h c (by simp)
  have h3 : Nat.log2 (c.natAbs + 1) <= s := by
   have : c.natAbs + 1 <= 2 ^ s := h2
   have h4 := log2_mono (a := c.natAbs + 1) (b := 2 ^ s) (by lia) this
   rwa [Nat.log2_two_pow] at h4
  have e2 : (((c : Int) : Rat)).num.natAbs = c.natAbs := rfl
  have e3 : (((c : Int) : Rat)).den = 1 := rfl
  rw [e2, e3, List.length_append]
  have e4 : Nat.log2 1 = 0 := by decide
  rw [e4]
  simp only [List.length_cons, List.length_nil]
  rw [Nat.add_mul]
  lia
 exact key l h
inductive spIr (K : PySem.W.Frag) (vs : List V) (H : Hp) (Q : VK) (E : XK) : Prop
 | mk (r : Int) (a : Addr) (fs : List Frac) : vs = [.int r, .ref a] -> SqL K H a ((flat fs).map V.int) -> fs.length <= 30 -> (∀ H' : Hp, Same H H' -> Q (.bl (decide (r <= 1000) && polyOk fs)) H') -> spIr K vs H Q E
inductive spNn (vs : List V) (H : Hp) (Q : VK) (E : XK) : Prop
 | mk (n : Int) : vs = [.int n] -> (∀ (H' : Hp) (p : Addr), H' p = some (.lst ([9, 3, n].map V.int)) -> Q (.ref p) H') -> spNn vs H Q E
inductive spNo (K : PySem.W.Frag) (vs : List V) (H : Hp) (Q : VK) (E : XK) : Prop
 | mk (r : Nat) (a : Addr) (fs : List Frac) : vs = [.int (r : Int), .ref a] -> SqL K H a ((flat fs).map V.int) -> polyOk fs = true -> (fs ≠ [] -> (r : Int) < all (chO (ofPoly fs)) -> ∀ (H' : Hp) (v : V), Same H H' -> v ≠ .non -> NumV K H' v (chO (ofPoly fs)) r -> Q v H') -> (fs = [] \/ ¬ (r : Int) < all (chO (ofPoly fs)) -> ∀ H' : Hp, Same H H' -> Q .non H') -> spNo K vs H Q E
theorem if_ip {p : List Int} {s : Nat} (h : btI p s) : IF (ip p) s 1 :=
 ⟨1, by decide, by decide, fun i => ⟨ci p i, h.ci i, by rw [co_ip]; have : ((1 : Nat) : Rat) = 1 := rfl; rw [this]; grind⟩⟩
theorem sz_ip {p : List Int} {s : Nat} (h : btI p s) (h1 : 1 <= s) : polySz (ip p) s := fun c hc => by
 obtain ⟨a, ha, rfl⟩ := List.mem_map.mp hc
 refine ⟨h a ha, ?_⟩
 show 1 < 2 ^ s
 exact Nat.lt_of_lt_of_le (by decide : 1 < 2 ^ 1) (pow_le h1)
structure Np (p : List Int) : Prop where
 pr : PrI p
 len : p.length <= 9
 bt : btI p 401
structure Nq (q : Poly) : Prop where
 nm : Nm q
 ne : q ≠ []
 len : q.length <= 9
 sz : polySz q 401
 fi : IF q 401 401
abbrev jI (q : Poly) (p : List Int) : List Int := sfI (wp (WrAlgn.mul q (ip p)))
structure Jd (q : Poly) (p : List Int) : Prop where
 cm : cMul q (ip p)
 ws : cWsf (WrAlgn.mul q (ip p))
 nm : NmI (jI q p)
 ne : jI q p ≠ []
 len : (jI q p).length <= 17
 bt : btI (jI q p) 1007
 ch : Chn (jI q p) (stC (jI q p))
 cn : Cn (stC (jI q p)) 40000
 sp : sep (ip (jI q p)) <= 1200000
 eq : ip (jI q p) = WrAlgn.squareFree (WrAlgn.mul q (ip p))
theorem jd {q : Poly} {p : List Int} (hq : Nq q) (hp : Np p) : Jd q p := by
 have pn := hp.pr.ipn
 have p0 := hp.pr.ip0
 have lm := mul_length hq.nm pn hq.ne p0
 rw [ip_len] at lm
 have hn := nm_mul q (ip p)
 have h0 := mul_ne hq.nm pn hq.ne p0
 have l17 : (WrAlgn.mul q (ip p)).length <= 17 := by have := hq.len; have := hp.len; lia
 have hi : IF (WrAlgn.mul q (ip p)) 807 402 := hq.fi.mul' (if_ip hp.bt) (by have := hq.len; lia)
 have hw := pri_wp hn h0
 have kk := sfI_is hw.nm hw.ne
 have e := sf_wp hn h0
 have sl : (jI q p).length <= 17 := by
  rw [<- ip_len, e]
  have := sqf_len hn h0
  lia
 have sb := (sfI_bits hw.nm hw.ne (by rw [wp_len hn h0]; exact l17) (btI_wp hn h0 hi)).1
 have c := cn_stC kk.prs.nm kk.prs.ne sl sb
 refine ⟨⟨by have := hq.len; lia, by rw [ip_len]; have := hp.len; lia, hq.nm, pn, 401, hq.sz, sz_ip hp.bt (by decide), ?_⟩, ⟨l17, hn, h0, 807, 402, hi, by decide, by decide⟩, kk.prs.nm, kk.prs.ne, sl, sb, chn_chO hn h0, ⟨c.len, fun q hq => ⟨(c.mem q hq).1, (c.mem q hq).2.1, (c.mem q hq).2.2.mono (by decide)⟩⟩, ?_, e⟩
 ·have := hq.len; lia
 ·have hwt := weight_bd sb
  have hwt2 : WrAlgn.weight (ip (jI q p)) <= 17 * 1009 := Nat.le_trans hwt (Nat.mul_le_mul sl (by decide))
  unfold sep
  rw [ip_len]
  have a1 : ((jI q p).length - 1) * ((jI q p).length - 1) <= 16 * 16 := Nat.mul_le_mul (by lia) (by lia)
  have a2 : ((jI q p).length - 1) * WrAlgn.weight (ip (jI q p)) <= 16 * 17153 := Nat.mul_le_mul (by lia) hwt2
  clear hwt
  lia
theorem jd_dv {q : Poly} {p : List Int} (hq : Nq q) (hp : Np p) (hs : SF (ip p)) : Dv (ip p) (ip (jI q p)) := by
 rw [(jd hq hp).eq]
 obtain ⟨t, J⟩ := jn hs hq.nm hq.ne
 obtain ⟨c, _, h⟩ := J.w
 exact ⟨WrAlgn.scale c t, fun x => by rw [h x, at_scale]; grind⟩
theorem np_of {fs : List Frac} (h : polyOk fs = true) (h0 : ofPoly fs ≠ []) : Np (sfI (wp (ofPoly fs))) := by
 have hd := hd_ofPoly h
 have hw := pri_wp hd.nm h0
 have kk := sfI_is hw.nm hw.ne
 have hl := hd.len
 refine ⟨kk.prs, ?_, (sfI_bits hw.nm hw.ne (by rw [wp_len hd.nm h0]; lia) (btI_wp hd.nm h0 (IF.nine hd.sz hd.len (Nat.le_refl _)))).1⟩
 rw [<- ip_len, sf_wp hd.nm h0]
 have := sqf_len hd.nm h0
 lia
theorem nq_of {fs : List Frac} (h : polyOk fs = true) (h0 : ofPoly fs ≠ []) : Nq (ofPoly fs) := by
 have hd := hd_ofPoly h
 exact ⟨hd.nm, h0, hd.len, fun c hc => (hd.sz c hc).mono (by decide), (IF.nine hd.sz hd.len (Nat.le_refl _)).mono (by decide) (by decide)⟩
inductive spEa (K : PySem.W.Frag) (vs : List V) (H : Hp) (Q : VK) (E : XK) : Prop
 | mk (u : V) (p : List Int) (L : List (List Int)) (k : Nat) (S : Int) (s m : Nat) : vs = [u, .int S] -> NumV K H u L k -> Nb p L k -> 0 < S -> Cn L s -> S.natAbs < 2 ^ m -> s + (s + m + 4) * 19 <= 134217728 -> (∀ (f : Int) (H' : Hp) (r : V), Fl p L k S f -> f.natAbs < 2 ^ (s + m + 3) -> Same H H' -> EndV K H' r (f, S) (f + 1, S) -> Q r H') -> spEa K vs H Q E
inductive spCw (K : PySem.W.Frag) (vs : List V) (H : Hp) (Q : VK) (E : XK) : Prop
 | mk (u v : V) (q : Poly) (p : List Int) (L : List (List Int)) (k : Nat) : vs = [u, v] -> PoV K H u q -> NumV K H v L k -> (∃ l, L = p :: l) -> Nq q -> Np p -> (∀ (H' : Hp) (r : V), Same H H' -> ChV H' r (stC (jI q p)) -> Q r H') -> spCw K vs H Q E
inductive spLe (K : PySem.W.Frag) (vs : List V) (H : Hp) (Q : VK) (E : XK) : Prop
 | mk (u v : V) (W : List Int) (M : List (List Int)) (p : List Int) (L : List (List Int)) (k : Nat) : vs = [u, v] -> ChV H u M -> NumV K H v L k -> Nb p L k -> Cn L 20000 -> Chn W M -> Cn M 40000 -> Dv (ip p) (ip W) -> sep (ip W) <= 1200000 -> (∀ (f S : Int) (m : Nat) (H' : Hp) (r : V), 0 < S -> Fl p L k S f -> wit W M (rf f S) (rf (f + 1) S) <= 1 -> m <= 2500000 -> f.natAbs < 2 ^ m -> (f + 1).natAbs < 2 ^ m -> S.natAbs < 2 ^ m -> Same H H' -> EndV K H' r (f, S) (f + 1, S) -> Q r H') -> spLe K vs H Q E
inductive spSn (K : PySem.W.Frag) (vs : List V) (H : Hp) (Q : VK) (E : XK) : Prop
 | mk (u v : V) (q : Poly) (p : List Int) (L : List (List Int)) (k : Nat) (D : WrAlgn.Cell) : vs = [u, v] -> PoV K H u q -> NumV K H v L k -> Nb p L k -> Cn L 20000 -> DCell (ip p) (L.map ip) (-WrAlgn.two (WrAlgn.boundOf (ip p))) k D -> Nq q -> polySz q 20 -> Np p -> (∀ H' : Hp, Same H H' -> Q (.int ((WrAlgn.signAt q ⟨ip p, WrAlgn.sturm (ip p), D⟩ : Nat) - 1)) H') -> spSn K vs H Q E
inductive spSgT (K : PySem.W.Frag) (vs : List V) (H : Hp) (Q : VK) (E : XK) : Prop
 | mk (r : Int) (ap ax : Addr) (ps ns : List Int) : vs = [.int r, .ref ap, .ref ax] -> SqL K H ap (ps.map V.int) -> SqL K H ax (ns.map V.int) -> 0 <= r -> ps.length % 2 = 0 -> ns.length % 2 = 0 -> ps.length <= 60 -> ns.length <= 60 -> (∀ (H' : Hp) (p : Addr), H' p = some (.lst ((PyWralgn.sign r ps ns).map V.int)) -> Q (.ref p) H') -> spSgT K vs H Q E
theorem sign_eq {r : Int} {ps ns : List Int} {gs fs : List Frac} (h0 : 0 <= r) (hg : WrAlgnNeutral.fracs ps = gs) (hf : WrAlgnNeutral.fracs ns = fs) :
  PyWralgn.sign r ps ns = if polyOk gs = true /\ polyOk fs = true /\ r <= 1000 then (match (⟨ofPoly fs, r.toNat⟩ : WrAlgn.Num).near with
   | none => [9, 3, 0]
   | some x => [0, ((WrAlgn.signAt (ofPoly gs) x : Nat) : Int)]) else [9, 1] := by
 show WrAlgnNeutral.told (WrAlgn.answer (.sign (WrAlgnNeutral.fracs ps) (WrAlgnNeutral.fracs ns) r.toNat)) = _
 rw [hf, hg]
 by_cases h3 : polyOk gs = true
 case neg =>
  rw [if_neg (fun q => h3 q.1)]
  exact ans_no (by unfold WrAlgn.asked; simp [h3])
 by_cases h1 : polyOk fs = true
 case neg =>
  rw [if_neg (fun q => h1 q.2.1)]
  exact ans_no (by unfold WrAlgn.asked; simp [h1])
 by_cases h2 : r <= 1000
 case neg =>
  rw [if_neg (fun q => h2 q.2.2)]
  refine ans_no (by unfold WrAlgn.asked WrAlgn.ROOT; simp [h1]; lia)
 rw [if_pos ⟨h3, h1, h2⟩]
 have hask : WrAlgn.asked (.sign gs fs r.toNat) = true := by unfold WrAlgn.asked WrAlgn.ROOT; simp [h1, h3]; lia
 unfold WrAlgn.answer
 rw [if_neg (by rw [hask]; decide)]
 show WrAlgnNeutral.told (WrAlgn.nearOf 0 fs r.toNat _) = _
 unfold WrAlgn.nearOf
 cases (⟨ofPoly fs, r.toNat⟩ : WrAlgn.Num).near with
 | none => rfl
 | some x => rfl
theorem si_num (x : Rat) : si x.num = sr x := by
 unfold si sr
 by_cases h : x = 0
 ·subst h; rfl
 ·have hn : x.num ≠ 0 := fun e => h (Rat.num_eq_zero.mp e)
  rw [if_neg h, if_neg hn]
  by_cases h1 : 0 < x
  ·rw [if_pos h1, if_pos (by have := Rat.num_nonneg.mpr (Rat.le_of_lt h1); lia)]
  ·rw [if_neg h1, if_neg (fun e => h1 (by have := Rat.num_nonneg.mp (Int.le_of_lt e); grind))]
def top (i : Nat) : Stmt := PySem.Challenge.pw_rootnumbers_s12_sign.main.body.getD i (.Pass ⟨0, 0, 0, 0⟩)
section
variable {P : Program} {w : World} {K : PySem.W.Frag} {mg : Str -> Option Value} {base : Heap} {z zo : Addr}
abbrev s_whole_divisor : Stmt := top 2
theorem sc_whole_divisor : FnScope ["a", "b", "left", "right", "rest"] ["a", "b"] (defScope s_whole_divisor) := ⟨rfl, rfl, rfl, by decide +kernel, rfl, by decide +kernel, by decide +kernel⟩
set_option maxHeartbeats 4000000 in
theorem ok_whole_divisor (T : Txt P mg) : ∀ f fd, Fun K "whole_divisor" "whole_divisor" s_whole_divisor f fd -> FnOk P w K mg base CX0 41 f fd ["a", "b"] spWd := by
 intro f fd F
 refine fun_ok F sc_whole_divisor (fun vs H Q E h => ?_) (fun cdv A outer s H vs Q E hr h => ?_)
 ·rcases h with ⟨a, b, rfl, _⟩ <;> rfl
 ·rcases h with ⟨a, b, rfl, k⟩
  all_goals refine ⟨_, (pss_cons (ps_set (i := 2) sc_whole_divisor.nd rfl (Or.inl rfl) (pe_callB call_abs rfl T.abs PyProof.Rows.boot_abs (pa_cons (pv 0) pa_nil)))
   (pss_cons (ps_set (i := 3) sc_whole_divisor.nd rfl (Or.inl rfl) (pe_callB call_abs rfl T.abs PyProof.Rows.boot_abs (pa_cons (pv 1) pa_nil)))
   (pss_cons (ps_while PassesOwn.never (pt_cmpR op_ne (pv 3) pe_int (nomark _)) (pss_cons (ps_set (i := 4) sc_whole_divisor.nd rfl (Or.inl rfl) (pe_op op_mod (pv 2) (pv 3)))
   (pss_cons (ps_set (i := 2) sc_whole_divisor.nd rfl (Or.inl rfl) (pv 3))
   (pss_one (ps_set (i := 3) sc_whole_divisor.nd rfl (Or.inl rfl) (pv 4))))))
   (pss_one (ps_ret (pv 2)))))), ?_⟩
  all_goals try dsimp only [cx_K]
  refine ⟨_, rfl, _, rfl, _, rfl, _, rfl, ?_⟩
  have ea : (if a < 0 then -a else a) = (a.natAbs : Int) := by split <;> lia
  have eb : (if b < 0 then -b else b) = (b.natAbs : Int) := by split <;> lia
  refine ⟨fun m σ H' => ∃ (l r : Nat) (v : Option V), σ = [some (.int a), some (.int b), some (.int (l : Int)), some (.int (r : Int)), v] /\ H' = H /\ Nat.gcd l r = Int.gcd a b /\ m = r, ⟨_, a.natAbs, b.natAbs, none, ?_, rfl, rfl, rfl⟩, ?_⟩
  ·show [some (V.int a), some (V.int b), some (V.int (if a < 0 then -a else a)), some (V.int (if b < 0 then -b else b)), none] = _
   rw [ea, eb]
  rintro m σ H' ⟨l, r, v, rfl, rfl, hg, rfl⟩
  refine ⟨_, rfl, rfl, _, rfl, ?_⟩
  by_cases hr0 : m = 0
  ·subst hr0
   refine itN (by simp) ?_
   refine ⟨_, rfl, ?_⟩
   rw [Nat.gcd_zero_right] at hg
   show Q (.int (l : Int)) H'
   rw [hg]
   exact k
  ·refine itP (by simp; lia) ?_
   refine ⟨fun σ' H'' => ∃ v' : Option V, σ' = [some (.int a), some (.int b), some (.int (m : Int)), some (.int ((l % m : Nat) : Int)), v'] /\ H'' = H', ?_, ?_⟩
   ·rintro σ' H'' ⟨v', rfl, rfl⟩
    refine ⟨l % m, Nat.mod_lt _ (by lia), m, l % m, v', rfl, rfl, ?_, rfl⟩
    rw [<- hg, Nat.gcd_comm l m, Nat.gcd_rec m l, Nat.gcd_comm]
   ·exact ⟨_, rfl, _, rfl, _, _, rfl, rfl, (by show (0 : Int) < (m : Int); lia), _, rfl, _, rfl, _, rfl, rfl⟩
abbrev s_whole_power : Stmt := top 3
theorem sc_whole_power : FnScope ["base", "exponent", "power", "step"] ["base", "exponent"] (defScope s_whole_power) := ⟨rfl, rfl, rfl, by decide +kernel, rfl, by decide +kernel, by decide +kernel⟩
set_option maxHeartbeats 4000000 in
theorem ok_whole_power (T : Txt P mg) : ∀ f fd, Fun K "whole_power" "whole_power" s_whole_power f fd -> FnOk P w K mg base CX0 41 f fd ["base", "exponent"] spPow := by
 intro f fd F
 refine fun_ok F sc_whole_power (fun vs H Q E h => ?_) (fun cdv A outer s H vs Q E hr h => ?_)
 ·rcases h with ⟨b, n, m, rfl, _⟩ <;> rfl
 ·rcases h with ⟨b, n, m, rfl, hb, hn, hlim, k⟩
  all_goals refine ⟨_, (pss_cons (ps_set (i := 2) sc_whole_power.nd rfl (Or.inl rfl) pe_int)
   (pss_cons (ps_for PassesOwn.never rfl (pi_range1 rfl T.range (pa_cons (pv 1) pa_nil)) (pg_name (i := 3) sc_whole_power.nd rfl (Or.inl rfl)) (pss_one (ps_set (i := 2) sc_whole_power.nd rfl (Or.inl rfl) (pe_op op_mulB (pv 2) (pv 0)))))
   (pss_one (ps_ret (pv 2))))), ?_⟩
  all_goals try dsimp only [cx_K]
  refine ⟨_, rfl, ((n : Nat) : Int), rfl, (by lia), (by lia), ?_⟩
  refine for_any (n := n) (fun i σ H' => ∃ v3 : Option V, σ = [some (.int b), some (.int (n : Int)), some (.int (b ^ i)), v3] /\ H' = H) ⟨none, (by rw [Int.pow_zero]; rfl), rfl⟩ (fun i σ H' hi _ => hi) (fun σ H' _ => Nat.le_refl _) ?_ ?_
  ·rintro i σ H' y H'' hi ⟨v3, rfl, rfl⟩ ⟨rfl, rfl⟩
   have hm : m * (i + 1) <= m * n := Nat.mul_le_mul_left _ hi
   have e1 : m * (i + 1) = m * i + m := Nat.mul_succ _ _
   have e2 : m * (n + 1) = m * n + m := Nat.mul_succ _ _
   refine ⟨_, rfl, _, rfl, _, _, rfl, rfl, ⟨m * i + 1, m, pow_bits hb i, hb, by lia⟩, some (.int (0 + (i : Int))), ?_, rfl⟩
   rw [Int.pow_succ]
   rfl
  ·rintro σ H' ⟨v3, rfl, rfl⟩
   exact ⟨_, rfl, k⟩
abbrev s_lowest : Stmt := top 4
theorem sc_lowest : FnScope ["top", "bottom", "divisor"] ["top", "bottom"] (defScope s_lowest) := ⟨rfl, rfl, rfl, by decide +kernel, rfl, by decide +kernel, by decide +kernel⟩
set_option maxHeartbeats 4000000 in
theorem ok_lowest (T : Txt P mg) (C_whole_divisor : Cal P w K mg base "whole_divisor" 41 ["a", "b"] spWd) : ∀ f fd, Fun K "lowest" "lowest" s_lowest f fd -> FnOk P w K mg base CX0 42 f fd ["top", "bottom"] spLow := by
 intro f fd F
 refine fun_ok F sc_lowest (fun vs H Q E h => ?_) (fun cdv A outer s H vs Q E hr h => ?_)
 ·rcases h with ⟨t, b, rfl, _⟩ <;> rfl
 ·rcases h with ⟨t, b, rfl, hb, k⟩
  all_goals refine ⟨_, (pss_cons (ps_set (i := 2) sc_lowest.nd rfl (Or.inl rfl) (pe_cal C_whole_divisor hr rfl (pa_cons (pv 0) (pa_cons (pv 1) pa_nil))))
   (pss_cons (ps_if (pt_cmpR op_lt (pv 1) pe_int (nomark _)) (pss_one (ps_set (i := 2) sc_lowest.nd rfl (Or.inl rfl) (pe_un un_neg (pv 2)))) pss_nil)
   (pss_one (ps_ret (pe_tup (pa_cons (pe_op (op_fdivB ⟨T.tree, _, _, rfl, rfl, rfl, rfl, rfl⟩ hr) (pv 0) (pv 2)) (pa_cons (pe_op (op_fdivB ⟨T.tree, _, _, rfl, rfl, rfl, rfl, rfl⟩ hr) (pv 1) (pv 2)) pa_nil))))))), ?_⟩
  all_goals try dsimp only [cx_K]
  refine ⟨_, rfl, _, rfl, _, _, rfl, ?_⟩
  have fin : ∀ d : Int, d = dvs t b -> (tRet (tTup (tCons (tOp (rI (fun _ j => j ≠ 0) fun i j => .int (i.fdiv j)) (tVar 0) (tVar 2)) (tCons (tOp (rI (fun _ j => j ≠ 0) fun i j => .int (i.fdiv j)) (tVar 1) (tVar 2)) tNil)))) { nx := fun _ H' => Q .non H', rt := Q } [some (.int t), some (.int b), some (.int d)] H := by
   rintro d rfl
   refine ⟨_, rfl, _, rfl, _, _, rfl, rfl, dvs_ne hb, _, rfl, _, rfl, _, _, rfl, rfl, dvs_ne hb, (by show 2 <= sizeLine; decide), fun p hp => ?_⟩
   show Q (.ref p) (upd H p (.tup [.int (t.fdiv (dvs t b)), .int (b.fdiv (dvs t b))]))
   rw [low_num hb, low_den hb]
   exact k p hp
  refine ⟨_, rfl, _, _, rfl, rfl, _, rfl, ?_⟩
  by_cases hlt : b < 0
  ·refine itP (decide_eq_true hlt) ?_
   refine ⟨_, rfl, _, rfl, ?_⟩
   exact fin _ (by unfold dvs; rw [if_pos hlt])
  ·refine itN (by simpa using hlt) ?_
   exact fin _ (by unfold dvs; rw [if_neg hlt])
abbrev s_added : Stmt := top 5
theorem sc_added : FnScope ["a", "b"] ["a", "b"] (defScope s_added) := ⟨rfl, rfl, rfl, by decide +kernel, rfl, by decide +kernel, by decide +kernel⟩
set_option maxHeartbeats 4000000 in
theorem ok_added (T : Txt P mg) (C_lowest : Cal P w K mg base "lowest" 42 ["top", "bottom"] spLow) : ∀ f fd, Fun K "added" "added" s_added f fd -> FnOk P w K mg base CX0 43 f fd ["a", "b"] (spBin K (fun x y => x + y) fun _ => True) := by
 intro f fd F
 refine fun_ok F sc_added (fun vs H Q E h => ?_) (fun cdv A outer s H vs Q E hr h => ?_)
 ·rcases h with ⟨u, v, x, y, m, n, rfl, _⟩ <;> rfl
 ·rcases h with ⟨u, v, x, y, m, n, rfl, ⟨pa, rfl, hA⟩, ⟨pb, rfl, hB⟩, hx, hy, hmn, _, k⟩
  all_goals refine ⟨_, (pss_one (ps_ret (pe_cal C_lowest hr rfl (pa_cons (pe_op op_add (pe_op op_mulB (pe_ix ix_tup (pv 0) pe_int (fun _ _ => rfl)) (pe_ix ix_tup (pv 1) pe_int (fun _ _ => rfl))) (pe_op op_mulB (pe_ix ix_tup (pv 1) pe_int (fun _ _ => rfl)) (pe_ix ix_tup (pv 0) pe_int (fun _ _ => rfl)))) (pa_cons (pe_op op_mulB (pe_ix ix_tup (pv 0) pe_int (fun _ _ => rfl)) (pe_ix ix_tup (pv 1) pe_int (fun _ _ => rfl))) pa_nil))))), ?_⟩
  all_goals try dsimp only [cx_K]
  refine ⟨_, rfl, pa, _, _, _, rfl, rfl, hA, rfl, _, rfl, pb, _, _, _, rfl, rfl, hB, rfl, _, _, rfl, rfl, ⟨m, n, hx.num, hy.den, hmn⟩, _, rfl, pb, _, _, _, rfl, rfl, hB, rfl, _, rfl, pa, _, _, _, rfl, rfl, hA, rfl, _, _, rfl, rfl, ⟨n, m, hy.num, hx.den, by lia⟩, _, _, rfl, rfl, _, rfl, pa, _, _, _, rfl, rfl, hA, rfl, _, rfl, pb, _, _, _, rfl, rfl, hB, rfl, _, _, rfl, rfl, ⟨m, n, hx.den, hy.den, hmn⟩, _, _, rfl, den_mul_ne x y, fun p hp => ?_⟩
  refine k _ _ (Same.new hp) ⟨p, rfl, SqT.of ?_⟩
  rw [upd_same]
  show some (HO.tup [.int (Rat.divInt (x.num * (y.den : Int) + y.num * (x.den : Int)) ((x.den : Int) * (y.den : Int))).num, .int ((Rat.divInt (x.num * (y.den : Int) + y.num * (x.den : Int)) ((x.den : Int) * (y.den : Int))).den : Int)]) = _
  rw [add_low]
  rfl
abbrev s_times : Stmt := top 6
theorem sc_times : FnScope ["a", "b"] ["a", "b"] (defScope s_times) := ⟨rfl, rfl, rfl, by decide +kernel, rfl, by decide +kernel, by decide +kernel⟩
set_option maxHeartbeats 4000000 in
theorem ok_times (T : Txt P mg) (C_lowest : Cal P w K mg base "lowest" 42 ["top", "bottom"] spLow) : ∀ f fd, Fun K "times" "times" s_times f fd -> FnOk P w K mg base CX0 43 f fd ["a", "b"] (spBinQ K (fun x y => x * y) fun _ => True) := by
 intro f fd F
 refine fun_ok F sc_times (fun vs H Q E h => ?_) (fun cdv A outer s H vs Q E hr h => ?_)
 ·rcases h with ⟨u, v, x, y, m, n, rfl, _⟩ <;> rfl
 ·rcases h with ⟨u, v, x, y, m, n, rfl, ⟨pa, rfl, hA⟩, ⟨pb, rfl, hB⟩, hx0, hy0, hx1, hx2, hy1, hy2, hmn, _, k⟩
  all_goals refine ⟨_, (pss_one (ps_ret (pe_cal C_lowest hr rfl (pa_cons (pe_op op_mulB (pe_ix ix_tup (pv 0) pe_int (fun _ _ => rfl)) (pe_ix ix_tup (pv 1) pe_int (fun _ _ => rfl))) (pa_cons (pe_op op_mulB (pe_ix ix_tup (pv 0) pe_int (fun _ _ => rfl)) (pe_ix ix_tup (pv 1) pe_int (fun _ _ => rfl))) pa_nil))))), ?_⟩
  all_goals try dsimp only [cx_K]
  refine ⟨_, rfl, pa, _, _, _, rfl, rfl, hA, rfl, _, rfl, pb, _, _, _, rfl, rfl, hB, rfl, _, _, rfl, rfl, ⟨m, n, hx1, hy1, hmn⟩, _, rfl, pa, _, _, _, rfl, rfl, hA, rfl, _, rfl, pb, _, _, _, rfl, rfl, hB, rfl, _, _, rfl, rfl, ⟨m, n, hx2, hy2, hmn⟩, _, _, rfl, Int.ne_of_gt (Int.mul_pos hx0 hy0), fun p hp => ?_⟩
  refine k _ _ (Same.new hp) ⟨p, rfl, SqT.of ?_⟩
  rw [upd_same]
  show some (HO.tup [.int (Rat.divInt (x.1 * y.1) (x.2 * y.2)).num, .int ((Rat.divInt (x.1 * y.1) (x.2 * y.2)).den : Int)]) = _
  rw [frac_mul]
  rfl
abbrev s_over : Stmt := top 7
theorem sc_over : FnScope ["a", "b"] ["a", "b"] (defScope s_over) := ⟨rfl, rfl, rfl, by decide +kernel, rfl, by decide +kernel, by decide +kernel⟩
set_option maxHeartbeats 4000000 in
theorem ok_over (T : Txt P mg) (C_lowest : Cal P w K mg base "lowest" 42 ["top", "bottom"] spLow) : ∀ f fd, Fun K "over" "over" s_over f fd -> FnOk P w K mg base CX0 43 f fd ["a", "b"] (spBin K (fun x y => x / y) fun y => y ≠ 0) := by
 intro f fd F
 refine fun_ok F sc_over (fun vs H Q E h => ?_) (fun cdv A outer s H vs Q E hr h => ?_)
 ·rcases h with ⟨u, v, x, y, m, n, rfl, _⟩ <;> rfl
 ·rcases h with ⟨u, v, x, y, m, n, rfl, ⟨pa, rfl, hA⟩, ⟨pb, rfl, hB⟩, hx, hy, hmn, hne, k⟩
  all_goals refine ⟨_, (pss_one (ps_ret (pe_cal C_lowest hr rfl (pa_cons (pe_op op_mulB (pe_ix ix_tup (pv 0) pe_int (fun _ _ => rfl)) (pe_ix ix_tup (pv 1) pe_int (fun _ _ => rfl))) (pa_cons (pe_op op_mulB (pe_ix ix_tup (pv 0) pe_int (fun _ _ => rfl)) (pe_ix ix_tup (pv 1) pe_int (fun _ _ => rfl))) pa_nil))))), ?_⟩
  all_goals try dsimp only [cx_K]
  refine ⟨_, rfl, pa, _, _, _, rfl, rfl, hA, rfl, _, rfl, pb, _, _, _, rfl, rfl, hB, rfl, _, _, rfl, rfl, ⟨m, n, hx.num, hy.den, hmn⟩, _, rfl, pa, _, _, _, rfl, rfl, hA, rfl, _, rfl, pb, _, _, _, rfl, rfl, hB, rfl, _, _, rfl, rfl, ⟨m, n, hx.den, hy.num, hmn⟩, _, _, rfl, den_mul_num_ne hne, fun p hp => ?_⟩
  refine k _ _ (Same.new hp) ⟨p, rfl, SqT.of ?_⟩
  rw [upd_same]
  show some (HO.tup [.int (Rat.divInt (x.num * (y.den : Int)) ((x.den : Int) * y.num)).num, .int ((Rat.divInt (x.num * (y.den : Int)) ((x.den : Int) * y.num)).den : Int)]) = _
  rw [div_low]
  rfl
abbrev s_is_fraction : Stmt := top 12
theorem sc_is_fraction : FnScope ["top", "bottom"] ["top", "bottom"] (defScope s_is_fraction) := ⟨rfl, rfl, rfl, by decide +kernel, rfl, by decide +kernel, by decide +kernel⟩
set_option maxHeartbeats 4000000 in
theorem ok_is_fraction (T : Txt P mg) (K_SIZE_LIMIT : Kc mg "SIZE_LIMIT" 1000000) (C_whole_divisor : Cal P w K mg base "whole_divisor" 41 ["a", "b"] spWd) : ∀ f fd, Fun K "is_fraction" "is_fraction" s_is_fraction f fd -> FnOk P w K mg base CX0 42 f fd ["top", "bottom"] spIsF := by
 intro f fd F
 refine fun_ok F sc_is_fraction (fun vs H Q E h => ?_) (fun cdv A outer s H vs Q E hr h => ?_)
 ·rcases h with ⟨t, b, rfl, _⟩ <;> rfl
 ·rcases h with ⟨t, b, rfl, k⟩
  all_goals refine ⟨_, (pss_cons (ps_if (PW.pt (pw_or (pt_cmpR op_lt (pv 1) pe_int (nomark _)) (pw_or (pt_cmpR op_ge (pv 1) (g_int K_SIZE_LIMIT) (nomark _)) (pw_or1 (pt_cmpR op_ge (pe_callB call_abs rfl T.abs PyProof.Rows.boot_abs (pa_cons (pv 0) pa_nil)) (g_int K_SIZE_LIMIT) (nomark _)))))) (pss_one (ps_ret pe_bl)) pss_nil)
   (pss_one (ps_ret (pe_cmpR op_eq (pe_cal C_whole_divisor hr rfl (pa_cons (pv 0) (pa_cons (pv 1) pa_nil))) pe_int (nomark _))))), ?_⟩
  all_goals try dsimp only [cx_K]
  rw [fracOk_iff] at k
  refine ⟨_, rfl, _, _, rfl, rfl, _, rfl, ?_⟩
  by_cases h1 : b < 1
  ·refine itP (decide_eq_true h1) ?_
   rw [if_pos (Or.inl h1)] at k
   exact iteT k
  ·refine itN (by simpa using h1) ?_
   refine ⟨_, rfl, _, _, rfl, rfl, _, rfl, ?_⟩
   by_cases h2 : 1000000 <= b
   ·refine itP (decide_eq_true h2) ?_
    rw [if_pos (Or.inr (Or.inl h2))] at k
    exact iteT k
   ·refine itN (by simpa using h2) ?_
    refine ⟨_, rfl, _, rfl, _, _, rfl, rfl, _, rfl, ?_⟩
    by_cases h3 : 1000000 <= (if t < 0 then -t else t)
    ·rw [decide_eq_true h3]
     rw [if_pos (Or.inr (Or.inr h3))] at k
     exact iteT k
    ·rw [decide_eq_false h3]
     rw [if_neg (by lia)] at k
     refine iteF ?_
     refine ⟨_, rfl, _, rfl, _, _, rfl, rfl, ?_⟩
     rw [show decide (V.int ((Int.gcd t b : Nat) : Int) = V.int 1) = decide (((Int.gcd t b : Nat) : Int) = 1) from by simp]
     exact k
abbrev s_coefficients_of : Stmt := top 15
theorem sc_coefficients_of : FnScope ["numbers", "k"] ["numbers"] (defScope s_coefficients_of) := ⟨rfl, rfl, rfl, by decide +kernel, rfl, by decide +kernel, by decide +kernel⟩
set_option maxHeartbeats 4000000 in
theorem ok_coefficients_of (T : Txt P mg) : ∀ f fd, Fun K "coefficients_of" "coefficients_of" s_coefficients_of f fd -> FnOk P w K mg base CX0 41 f fd ["numbers"] (spCoef K) := by
 intro f fd F
 refine fun_ok F sc_coefficients_of (fun vs H Q E h => ?_) (fun cdv A outer s H vs Q E hr h => ?_)
 ·rcases h with ⟨a, fs, rfl, _⟩ <;> rfl
 ·rcases h with ⟨a, fs, rfl, hS, hlen, k⟩
  all_goals refine ⟨_, (pss_one (ps_ret (pe_lc rfl sc_coefficients_of.nd (pi_range3 rfl T.range (pa_cons pe_int (pa_cons (pe_callB call_len_seq rfl T.len PySem.boot_len (pa_cons (pv 0) pa_nil)) (pa_cons pe_int pa_nil)))) (own := [("k", 1)]) (blkOk_by (N := ["numbers", "k"]) (sc := defScope s_coefficients_of) (by decide +kernel)) (fun _ _ _ _ _ => (pg_name (i := 1) sc_coefficients_of.nd rfl (Or.inl rfl))) (fun _ _ _ _ _ => pts_nil) (fun _ _ _ _ _ => (pe_tup (pa_cons (pe_ix (show IxR _ (rIxL K) from ix_list) (pv 0) (pv 1) (fun _ _ => rfl)) (pa_cons (pe_ix (show IxR _ (rIxL K) from ix_list) (pv 0) (pe_op op_add (pv 1) pe_int) (fun _ _ => rfl)) pa_nil))))))), ?_⟩
  all_goals try dsimp only [cx_K]
  have hrg : RgC 0 ((((flat fs).map V.int).length : Nat) : Int) 2 fs.length := by
   rw [List.length_map, flat_len]
   exact rg2 _ (by lia)
  refine ⟨_, rfl, a, _, rfl, .inl hS, 0, _, 2, fs.length, rfl, hrg, fun D hD => ?_⟩
  refine lc_any (n := fs.length) (fun i H' => ∃ vs, H' D = some (.lst vs) /\ PrVs K H' vs (fs.take i) /\ Same H H') ⟨[], upd_same, .nil, Same.new hD⟩ (fun i H' hi _ => hi) (fun H' _ => Nat.le_refl _) ?_ ?_
  ·rintro i H' x H'' hi ⟨vs, hv, hp, hsm⟩ ⟨rfl, rfl⟩
   have hx : fs[i]? = some fs[i] := List.getElem?_eq_getElem hi
   have hvl : vs.length = i := by rw [hp.len, List.length_take]; lia
   refine ⟨rfl, ?_⟩
   unfold tYes
   refine iteT ?_
   refine ⟨_, rfl, _, rfl, a, _, _, _, rfl, rfl, hsm.seq hS, at_of (j := 2 * i) (v := V.int fs[i].1) (by lia) (by rw [List.getElem?_map, (flat_at hx).1]; rfl), _, rfl, _, rfl, _, _, rfl, rfl, a, _, _, _, rfl, rfl, hsm.seq hS,
    at_of (j := 2 * i + 1) (v := V.int fs[i].2) (by lia) (by rw [List.getElem?_map, (flat_at hx).2]; rfl), (by show 2 <= sizeLine; decide), fun p hp' => ?_⟩
   have nD : D ≠ p := ne_of_none hv hp'
   have hD4 : (upd H'' p (.tup [.int fs[i].1, .int fs[i].2])) D = some (.lst vs) := by rw [upd_ne nD]; exact hv
   refine ⟨vs, hD4, (by rw [hvl]; exact Nat.lt_of_le_of_lt (by lia : i <= 30) (by decide)), vs ++ [.ref p], upd_same, ?_, (hsm.trans (Same.new hp')).put hD⟩
   rw [take_snoc hx]
   refine PrVs.snoc ?_ ((hp.same (Same.new hp')).put hD4)
   exact PrV.put ⟨p, rfl, SqT.of upd_same⟩ hD4
  ·rintro H' ⟨vs, hv, hp, hsm⟩
   rw [List.take_length] at hp
   exact k H' _ hsm ⟨D, vs, rfl, hv, hp⟩
abbrev s_is_polynomial : Stmt := top 13
theorem sc_is_polynomial : FnScope ["numbers", "top", "bottom"] ["numbers"] (defScope s_is_polynomial) := ⟨rfl, rfl, rfl, by decide +kernel, rfl, by decide +kernel, by decide +kernel⟩
set_option maxHeartbeats 4000000 in
theorem ok_is_polynomial (T : Txt P mg) (K_MOST_COEFFICIENTS : Kc mg "MOST_COEFFICIENTS" 9) (C_is_fraction : Cal P w K mg base "is_fraction" 42 ["top", "bottom"] spIsF) (C_coefficients_of : Cal P w K mg base "coefficients_of" 41 ["numbers"] (spCoef K)) : ∀ f fd, Fun K "is_polynomial" "is_polynomial" s_is_polynomial f fd -> FnOk P w K mg base CX0 43 f fd ["numbers"] (spIsP K) := by
 intro f fd F
 refine fun_ok F sc_is_polynomial (fun vs H Q E h => ?_) (fun cdv A outer s H vs Q E hr h => ?_)
 ·rcases h with ⟨a, fs, rfl, _⟩ <;> rfl
 ·rcases h with ⟨a, fs, rfl, hS, hlen, k⟩
  all_goals refine ⟨_, (pss_cons (ps_if (pt_cmpR (op_eqD hr.units) (pv 0) (pe_lst pa_nil) (nomark _)) (pss_one (ps_ret pe_bl)) pss_nil)
   (pss_cons (ps_if (PW.pt (pw_or (pt_cmpR op_eq (pe_op op_mod (pe_callB call_len_seq rfl T.len PySem.boot_len (pa_cons (pv 0) pa_nil)) pe_int) pe_int (nomark _)) (pw_or (pt_cmpR op_gt (pe_callB call_len_seq rfl T.len PySem.boot_len (pa_cons (pv 0) pa_nil)) (pe_op op_mulB pe_int (g_int K_MOST_COEFFICIENTS)) (nomark _)) (pw_or1 (pt_cmpR op_eq (pe_ix ix_list (pv 0) (pe_un un_neg pe_int) (fun _ _ => rfl)) pe_int (nomark _)))))) (pss_one (ps_ret pe_bl)) pss_nil)
   (pss_one (ps_ret (pe_callB (cr_all rfl) rfl T.all PyProof.Rows.boot_all (pa_cons (pe_lc rfl sc_is_polynomial.nd (pi_list (pe_cal C_coefficients_of hr rfl (pa_cons (pv 0) pa_nil))) (own := [("top", 1), ("bottom", 2)]) (blkOk_by (N := ["numbers", "top", "bottom"]) (sc := defScope s_is_polynomial) (by decide +kernel)) (fun _ _ _ _ _ => (show PG _ _ (gTup K 2 _) from (pg_tup rfl (pgs_cons (pg_name (i := 1) sc_is_polynomial.nd rfl (Or.inl rfl)) (pgs_cons (pg_name (i := 2) sc_is_polynomial.nd rfl (Or.inl rfl)) pgs_nil))))) (fun _ _ _ _ _ => pts_nil) (fun _ _ _ _ _ => (pe_cal C_is_fraction hr rfl (pa_cons (pv 1) (pa_cons (pv 2) pa_nil))))) pa_nil)))))), ?_⟩
  all_goals try dsimp only [cx_K]
  refine seq_hide fun N1 hN1 => ?_
  refine ⟨_, rfl, Nat.zero_le _, fun p1 hp1 => ⟨dInts (flat fs), .list [], dp_ints ((Same.new hp1).seq hS), dp_nil upd_same, shaped_ints _, shaped_nil, _, rfl, ?_⟩⟩
  rw [eqv_nil_ints]
  by_cases h0 : fs = []
  ·subst h0
   exact iteT (k _ (Same.new hp1))
  have hf : flat fs ≠ [] := fun q => h0 (List.length_eq_zero_iff.mp (by have := flat_len fs; rw [q] at this; simp at this; lia))
  rw [decide_eq_false hf]
  refine iteF (hN1 _ _ (seq_hide fun N2 hN2 => ?_))
  clear hN1 N1
  have s1 := Same.new (o := HO.lst []) hp1
  have hS1 := s1.seq hS
  obtain ⟨gs, x, rfl⟩ : ∃ gs x, fs = gs ++ [x] := ⟨fs.dropLast, fs.getLast h0, (List.dropLast_concat_getLast h0).symm⟩
  have hl : ((flat (gs ++ [x])).map V.int).length = 2 * (gs.length + 1) := by rw [List.length_map, flat_len]; simp
  refine ⟨_, rfl, a, _, rfl, .inl hS1, _, _, rfl, rfl, (by show (0 : Int) < 2; decide), rfl, _, rfl, ?_⟩
  refine itN (by rw [hl]; simp <;> lia) ?_
  refine ⟨_, rfl, a, _, rfl, .inl hS1, _, _, rfl, rfl, ⟨64, 64, by decide, by decide, by decide⟩, _, _, rfl, rfl, _, rfl, ?_⟩
  have ep : polyOk (gs ++ [x]) = (decide ((gs ++ [x]).length <= 9) && (!decide (x.1 = 0) && (gs ++ [x]).all fracOk)) := by
   unfold polyOk WrAlgn.TERMS
   rw [List.getLast?_append]
   show ((gs ++ [x]).all fracOk && (decide ((gs ++ [x]).length <= 9) && (x.1 != 0))) = _
   have e : (x.1 != 0) = !decide (x.1 = 0) := by by_cases h : x.1 = 0 <;> simp [h]
   rw [e]
   cases (gs ++ [x]).all fracOk <;> cases decide ((gs ++ [x]).length <= 9) <;> cases decide (x.1 = 0) <;> rfl
  rw [ep] at k
  by_cases h1 : (gs ++ [x]).length <= 9
  case neg =>
   refine itP (by rw [hl]; simp at h1 ⊢; lia) ?_
   rw [decide_eq_false h1] at k
   exact iteT (k _ s1)
  refine itN (by rw [hl]; simp at h1 ⊢; lia) ?_
  rw [decide_eq_true h1] at k
  refine ⟨_, rfl, _, rfl, a, _, _, _, rfl, rfl, hS1, at_m2 gs x, rfl, _, rfl, ?_⟩
  by_cases h2 : x.1 = 0
  ·rw [decide_eq_true h2] at k
   rw [h2]
   exact iteT (k _ s1)
  rw [decide_eq_false h2] at k
  rw [show decide (V.int x.1 = V.int 0) = false from decide_eq_false (fun q => h2 (V.int.inj q))]
  refine iteF (hN2 _ _ ?_)
  clear hN2 N2
  refine ⟨_, rfl, a, _, rfl, hS1, hlen, fun H2 r s2 ⟨l, vs, er, hl2, hp⟩ => ⟨l, er, ⟨vs, SqL.of hl2⟩, fun D hD => ?_⟩⟩
  refine lc_any (n := (gs ++ [x]).length) (fun i H' => H' D = some (.lst (((gs ++ [x]).take i).map fun y => V.bl (fracOk y))) /\ Same H2 H') ⟨upd_same, Same.new hD⟩ ?_ ?_ ?_ ?_
  ·rintro i H' hi ⟨_, sm⟩
   exact ⟨vs, vs[i]'(by rw [hp.len]; exact hi), SqL.of (sm _ _ hl2), List.getElem?_eq_getElem _⟩
  ·rintro H' ⟨_, sm⟩
   exact ⟨vs, SqL.of (sm _ _ hl2), by rw [hp.len]; exact Nat.le_refl _⟩
  ·rintro i H' y H'' hi ⟨hd, sm⟩ ⟨rfl, hy⟩
   have hy := hy vs (SqL.of (sm _ _ hl2))
   obtain ⟨f, hfx, t, rfl, hq⟩ := hp.get' hy
   refine ⟨t, _, rfl, sm.tup hq, rfl, _, _, rfl, _, _, rfl, rfl, rfl, ?_⟩
   unfold tYes
   refine iteT ?_
   refine ⟨_, rfl, _, rfl, _, _, rfl, _, hd, ?_, ?_, sm.put hD⟩
   ·rw [List.length_map, List.length_take]
    exact Nat.lt_of_le_of_lt (Nat.le_trans (Nat.min_le_right _ _) hlen) (by decide)
   ·rw [upd_same, take_snoc hfx, List.map_append]
    rfl
  ·rintro H' ⟨hd, sm⟩
   rw [List.take_length] at hd
   refine ⟨D, (gs ++ [x]).map fracOk, rfl, SqL.of (by rw [hd, List.map_map]; rfl), ?_⟩
   have e : ((gs ++ [x]).map fracOk).all id = (gs ++ [x]).all fracOk := by rw [List.all_map]; rfl
   rw [e]
   exact k _ ((s1.trans s2).trans sm)
abbrev s_is_root : Stmt := top 14
theorem sc_is_root : FnScope ["root", "numbers"] ["root", "numbers"] (defScope s_is_root) := ⟨rfl, rfl, rfl, by decide +kernel, rfl, by decide +kernel, by decide +kernel⟩
set_option maxHeartbeats 4000000 in
theorem ok_is_root (T : Txt P mg) (K_MOST_ROOT : Kc mg "MOST_ROOT" 1000) (C_is_polynomial : Cal P w K mg base "is_polynomial" 43 ["numbers"] (spIsP K)) : ∀ f fd, Fun K "is_root" "is_root" s_is_root f fd -> FnOk P w K mg base CX0 44 f fd ["root", "numbers"] (spIr K) := by
 intro f fd F
 refine fun_ok F sc_is_root (fun vs H Q E h => ?_) (fun cdv A outer s H vs Q E hr h => ?_)
 ·rcases h with ⟨r, a, fs, rfl, _⟩ <;> rfl
 ·rcases h with ⟨r, a, fs, rfl, hS, hlen, k⟩
  all_goals refine ⟨_, (pss_one (ps_ret (pe_and (pe_cmpR op_le (pv 0) (g_int K_MOST_ROOT) (nomark _)) (pe_one (pe_cal C_is_polynomial hr rfl (pa_cons (pv 1) pa_nil)))))), ?_⟩
  all_goals try dsimp only [cx_K]
  refine ⟨_, rfl, _, _, rfl, rfl, _, rfl, ?_⟩
  by_cases h1 : r <= 1000
  ·refine itP (decide_eq_true h1) ?_
   rw [decide_eq_true h1] at k
   exact ⟨_, rfl, a, fs, rfl, hS, hlen, fun H1 s1 => k _ s1⟩
  ·refine itN (by simpa using h1) ?_
   rw [decide_eq_false h1] at k
   exact k _ (Same.refl H)
abbrev s_answered : Stmt := top 16
theorem sc_answered : FnScope ["numbers"] ["numbers"] (defScope s_answered) := ⟨rfl, rfl, rfl, by decide +kernel, rfl, by decide +kernel, by decide +kernel⟩
set_option maxHeartbeats 4000000 in
theorem ok_answered (T : Txt P mg) : ∀ f fd, Fun K "answered" "answered" s_answered f fd -> FnOk P w K mg base CX0 41 f fd ["numbers"] spAns := by
 intro f fd F
 refine fun_ok F sc_answered (fun vs H Q E h => ?_) (fun cdv A outer s H vs Q E hr h => ?_)
 ·rcases h with ⟨a, ns, rfl, _⟩ <;> rfl
 ·rcases h with ⟨a, ns, rfl, ha, hlen, k⟩
  all_goals refine ⟨_, (pss_one (ps_ret (pe_op op_cat (pe_lst (pa_cons pe_int pa_nil)) (pv 0)))), ?_⟩
  all_goals try dsimp only [cx_K]
  refine ⟨(by show 1 <= sizeLine; decide), fun p hp => ⟨_, rfl, p, a, _, _, rfl, rfl, upd_same, Same.new hp _ _ ha, ?_, fun q hq => k _ q upd_same⟩⟩
  show 1 + (ns.map V.int).length <= sizeLine
  rw [List.length_map]
  exact Nat.le_trans (by lia : 1 + ns.length <= 100001) (by decide)
abbrev s_refused : Stmt := top 17
theorem sc_refused : FnScope ["reason"] ["reason"] (defScope s_refused) := ⟨rfl, rfl, rfl, by decide +kernel, rfl, by decide +kernel, by decide +kernel⟩
set_option maxHeartbeats 4000000 in
theorem ok_refused (T : Txt P mg) : ∀ f fd, Fun K "refused" "refused" s_refused f fd -> FnOk P w K mg base CX0 41 f fd ["reason"] spRef := by
 intro f fd F
 refine fun_ok F sc_refused (fun vs H Q E h => ?_) (fun cdv A outer s H vs Q E hr h => ?_)
 ·rcases h with ⟨n, rfl, _⟩ <;> rfl
 ·rcases h with ⟨n, rfl, k⟩
  all_goals refine ⟨_, (pss_one (ps_ret (pe_lst (pa_cons pe_int (pa_cons (pv 0) pa_nil))))), ?_⟩
  all_goals try dsimp only [cx_K]
  exact ⟨_, rfl, (by show 2 <= sizeLine; decide), fun p hp => k _ p upd_same⟩
abbrev s_no_number : Stmt := top 18
theorem sc_no_number : FnScope ["operand"] ["operand"] (defScope s_no_number) := ⟨rfl, rfl, rfl, by decide +kernel, rfl, by decide +kernel, by decide +kernel⟩
set_option maxHeartbeats 4000000 in
theorem ok_no_number (T : Txt P mg) : ∀ f fd, Fun K "no_number" "no_number" s_no_number f fd -> FnOk P w K mg base CX0 41 f fd ["operand"] spNn := by
 intro f fd F
 refine fun_ok F sc_no_number (fun vs H Q E h => ?_) (fun cdv A outer s H vs Q E hr h => ?_)
 ·rcases h with ⟨n, rfl, _⟩ <;> rfl
 ·rcases h with ⟨n, rfl, k⟩
  all_goals refine ⟨_, (pss_one (ps_ret (pe_lst (pa_cons pe_int (pa_cons pe_int (pa_cons (pv 0) pa_nil)))))), ?_⟩
  all_goals try dsimp only [cx_K]
  exact ⟨_, rfl, (by show 3 <= sizeLine; decide), fun p hp => k _ p upd_same⟩
abbrev s_trimmed : Stmt := top 20
theorem sc_trimmed : FnScope ["coefficients", "zero", "size"] ["coefficients", "zero"] (defScope s_trimmed) := ⟨rfl, rfl, rfl, by decide +kernel, rfl, by decide +kernel, by decide +kernel⟩
set_option maxHeartbeats 4000000 in
theorem ok_trimmed (T : Txt P mg) : ∀ f fd, Fun K "trimmed" "trimmed" s_trimmed f fd -> FnOk P w K mg base CX0 41 f fd ["coefficients", "zero"] (spTrimI K) := by
 intro f fd F
 refine fun_ok F sc_trimmed (fun vs H Q E h => ?_) (fun cdv A outer s H vs Q E hr h => ?_)
 ·rcases h with ⟨⟨v, ns, rfl, _⟩⟩ <;> rfl
 ·rcases h with ⟨⟨v, ns, rfl, ⟨l, rfl, hl⟩, k⟩⟩
  all_goals refine ⟨_, (pss_cons (ps_set (i := 2) sc_trimmed.nd rfl (Or.inl rfl) (pe_callB call_len_seq rfl T.len PySem.boot_len (pa_cons (pv 0) pa_nil)))
   (pss_cons (ps_while PassesOwn.never (PW.pt (pw_and (pt_cmpR op_gt (pv 2) pe_int (nomark _)) (pw_and1 (pt_cmpR (op_eqD hr.units) (pe_ix ix_list (pv 0) (pe_op op_sub (pv 2) pe_int) (fun _ _ => rfl)) (pv 1) (nomark _))))) (pss_one (ps_set (i := 2) sc_trimmed.nd rfl (Or.inl rfl) (pe_op op_sub (pv 2) pe_int))))
   (pss_one (ps_ret (pe_slice sl_list (pv 0) po_none (po_some (pv 2))))))), ?_⟩
  all_goals try dsimp only [cx_K]
  refine ⟨_, rfl, l, _, rfl, .inl (SqL.of hl), ?_⟩
  have fin : ∀ s : Nat, s <= ns.length -> (∀ i, s <= i -> ci ns i = 0) -> (s = 0 \/ ci ns (s - 1) ≠ 0) -> (tRet (tSl (rSlL K) (tVar 0) tNoPart (tPart (tVar 2)))) { nx := fun _ H' => Q .non H', rt := Q } [some (.ref l), some (.int 0), some (.int (s : Int))] H := by
   intro s h1 h2 h3
   refine ⟨_, rfl, _, rfl, _, rfl, l, _, rfl, SqL.of hl, fun r hr' => ?_⟩
   refine k _ _ (Same.new hr') ⟨r, rfl, ?_⟩
   have e : cutV (ns.map V.int) none (some (s : Int)) = (ns.map V.int).take s := by
    unfold cutV
    rw [HT.sIx_nat, HT.sIx_none]
    show ((ns.map V.int).take (min s (ns.map V.int).length - 0)) = (ns.map V.int).take s
    rw [show min s (ns.map V.int).length - 0 = s by rw [List.length_map]; lia]
   rw [upd_same, e, <- take_trim h1 h2 h3, List.map_take]
  refine ⟨fun m σ H' => ∃ s : Nat, σ = [some (.ref l), some (.int 0), some (.int (s : Int))] /\ H' = H /\ s <= ns.length /\ (∀ i, s <= i -> ci ns i = 0) /\ m = s, ⟨_, ns.length, ?_, rfl, Nat.le_refl _, fun i hi => ci_of_ge hi, rfl⟩, ?_⟩
  ·show [some (V.ref l), some (V.int 0), some (V.int (((ns.map V.int).length : Nat) : Int))] = _
   rw [List.length_map]
  rintro m σ H' ⟨s, rfl, rfl, h1, h2, rfl⟩
  refine ⟨_, rfl, _, _, rfl, rfl, _, rfl, ?_⟩
  by_cases h0 : m = 0
  ·subst h0
   refine itN (by simp) ?_
   exact iteF (fin 0 h1 h2 (.inl rfl))
  refine itP (by simp; lia) ?_
  refine ⟨_, rfl, _, rfl, _, _, rfl, rfl, l, _, _, _, rfl, rfl, SqL.of hl, at_of (j := m - 1) (by lia) (at_ci (by lia)), _, rfl, .int (ci ns (m - 1)), .int 0, .int _, .int _, shaped_int _, shaped_int _, _, rfl, ?_⟩
  rw [eqv_int]
  by_cases hc : ci ns (m - 1) = 0
  ·refine itP (decide_eq_true hc) ?_
   refine ⟨fun σ' H'' => σ' = [some (.ref l), some (.int 0), some (.int ((m - 1 : Nat) : Int))] /\ H'' = H', ?_, ?_⟩
   ·rintro σ' H'' ⟨rfl, rfl⟩
    refine ⟨m - 1, by lia, m - 1, rfl, rfl, by lia, fun i hi => ?_, rfl⟩
    by_cases e : i = m - 1
    ·rw [e]; exact hc
    ·exact h2 i (by lia)
   ·refine ⟨_, rfl, _, _, rfl, rfl, ?_, rfl⟩
    show [some (V.ref l), some (V.int 0), some (V.int ((m : Int) - 1))] = _
    rw [show (m : Int) - 1 = ((m - 1 : Nat) : Int) by lia]
  ·refine itN (by simpa using hc) ?_
   exact fin m h1 h2 (.inr hc)
abbrev s_primitive : Stmt := top 21
theorem sc_primitive : FnScope ["p", "divisor", "a"] ["p"] (defScope s_primitive) := ⟨rfl, rfl, rfl, by decide +kernel, rfl, by decide +kernel, by decide +kernel⟩
set_option maxHeartbeats 4000000 in
theorem ok_primitive (T : Txt P mg) (C_whole_divisor : Cal P w K mg base "whole_divisor" 41 ["a", "b"] spWd) : ∀ f fd, Fun K "primitive" "primitive" s_primitive f fd -> FnOk P w K mg base CX0 42 f fd ["p"] (spI1 primI cPrm) := by
 intro f fd F
 refine fun_ok F sc_primitive (fun vs H Q E h => ?_) (fun cdv A outer s H vs Q E hr h => ?_)
 ·rcases h with ⟨v, p, rfl, _⟩ <;> rfl
 ·rcases h with ⟨v, p, rfl, ⟨l, rfl, hl⟩, ⟨hnm, hp0, hlen⟩, k⟩
  all_goals refine ⟨_, (pss_cons (ps_set (i := 1) sc_primitive.nd rfl (Or.inr rfl) pe_int)
   (pss_cons (ps_for PassesOwn.never rfl (pi_list (pv 0)) (pg_name (i := 2) sc_primitive.nd rfl (Or.inl rfl)) (pss_one (ps_set (i := 1) sc_primitive.nd rfl (Or.inr rfl) (pe_cal C_whole_divisor hr rfl (pa_cons (pv 1) (pa_cons (pv 2) pa_nil))))))
   (pss_cons (ps_if (pt_cmpR op_lt (pe_ix ix_list (pv 0) (pe_un un_neg pe_int) (fun _ _ => rfl)) pe_int (nomark _)) (pss_one (ps_set (i := 1) sc_primitive.nd rfl (Or.inr rfl) (pe_un un_neg (pv 1)))) pss_nil)
   (pss_one (ps_ret (pe_lc rfl sc_primitive.nd (pi_list (pv 0)) (own := [("a", 2)]) (blkOk_by (N := ["p", "divisor", "a"]) (sc := defScope s_primitive) (by decide +kernel)) (fun _ _ _ _ _ => (pg_name (i := 2) sc_primitive.nd rfl (Or.inl rfl))) (fun _ _ _ _ _ => pts_nil) (fun _ _ _ _ _ => (pe_op (op_fdivB ⟨T.tree, _, _, rfl, rfl, rfl, rfl, rfl⟩ hr) (pv 2) (pv 1))))))))), ?_⟩
  all_goals try dsimp only [cx_K]
  have hml : (p.map V.int).length = p.length := List.length_map ..
  refine seq_hide fun A1 hA1 => hA1 _ _ (seq_hide fun N hN => ?_)
  clear hA1 A1
  refine ⟨_, rfl, l, rfl, ⟨_, SqL.of hl⟩, ?_⟩
  refine for_any (n := p.length) (fun i σ H' => ∃ v2 : Option V, σ = [some (.ref l), some (.int ((gcI (p.take i) : Nat) : Int)), v2] /\ H' = H) ⟨none, rfl, rfl⟩ ?_ ?_ ?_ ?_
  ·rintro i σ H' hi ⟨v2, rfl, rfl⟩
   exact ⟨_, _, SqL.of hl, at_ci hi⟩
  ·rintro σ H' ⟨v2, rfl, rfl⟩
   exact ⟨_, SqL.of hl, by lia⟩
  ·rintro i σ H' y H'' hi ⟨v2, rfl, rfl⟩ ⟨rfl, hy⟩
   have hy := hy _ (SqL.of hl)
   rw [at_ci hi] at hy
   cases hy
   refine ⟨_, rfl, _, rfl, _, _, rfl, some (.int (ci p i)), ?_, rfl⟩
   rw [take_snoc (ci_lt hi), gcI_snoc]
   rfl
  ·rintro σ H' ⟨v2, rfl, rfl⟩
   refine hN _ _ ?_
   rw [List.take_length]
   have fin : ∀ d : Int, d = sgI p -> ∀ v2 : Option V, (tRet (tLc (iList K (tVar 0)) (gName 2) tYes (tOp (rI (fun _ j => j ≠ 0) fun i j => .int (i.fdiv j)) (tVar 2) (tVar 1)) [2])) { nx := fun _ H' => Q .non H', rt := Q } [some (.ref l), some (.int d), v2] H' := by
    rintro d rfl v2
    refine ⟨_, rfl, l, rfl, ⟨_, SqL.of hl⟩, fun D hD => ?_⟩
    refine lc_any (n := p.length) (fun i H2 => H2 D = some (.lst (((primI p).take i).map V.int)) /\ Same H' H2) ⟨upd_same, Same.new hD⟩ ?_ ?_ ?_ ?_
    ·rintro i H2 hi ⟨_, sm⟩
     exact ⟨_, _, SqL.of (sm _ _ hl), at_ci hi⟩
    ·rintro H2 ⟨_, sm⟩
     exact ⟨_, SqL.of (sm _ _ hl), by lia⟩
    ·rintro i H2 y H3 hi ⟨hd, sm⟩ ⟨rfl, hy⟩
     have hy := hy _ (SqL.of (sm _ _ hl))
     rw [at_ci hi] at hy
     cases hy
     refine ⟨rfl, ?_⟩
     unfold tYes
     refine iteT ?_
     refine ⟨_, rfl, _, rfl, _, _, rfl, rfl, sg_ne hnm hp0, _, hd, ?_, ?_, sm.put hD⟩
     ·rw [List.length_map, List.length_take]
      exact Nat.lt_of_le_of_lt (Nat.le_trans (Nat.min_le_left _ _) (by lia : i <= 1000)) (by decide)
     ·rw [upd_same, take_snoc (l := primI p) (x := (ci p i).fdiv (sgI p)) (by unfold primI; rw [List.getElem?_map, ci_lt hi]; rfl), List.map_append]
      rfl
    ·rintro H2 ⟨hd, sm⟩
     rw [List.take_of_length_le (by rw [prim_len]; lia)] at hd
     exact k _ _ sm ⟨D, rfl, hd⟩
   refine ⟨_, rfl, _, rfl, l, _, _, _, rfl, rfl, SqL.of hl, at_last hp0, _, _, rfl, rfl, _, rfl, ?_⟩
   by_cases hlt : leI p < 0
   ·refine itP (decide_eq_true hlt) ?_
    refine ⟨_, rfl, _, rfl, ?_⟩
    exact fin _ (by unfold sgI; rw [if_pos hlt]) _
   ·refine itN (by simpa using hlt) ?_
    exact fin _ (by unfold sgI; rw [if_neg hlt]) _
abbrev s_whole_derivative : Stmt := top 22
theorem sc_whole_derivative : FnScope ["p", "k", "a"] ["p"] (defScope s_whole_derivative) := ⟨rfl, rfl, rfl, by decide +kernel, rfl, by decide +kernel, by decide +kernel⟩
set_option maxHeartbeats 4000000 in
theorem ok_whole_derivative (T : Txt P mg) : ∀ f fd, Fun K "whole_derivative" "whole_derivative" s_whole_derivative f fd -> FnOk P w K mg base CX0 41 f fd ["p"] (spI1 deI cDe) := by
 intro f fd F
 refine fun_ok F sc_whole_derivative (fun vs H Q E h => ?_) (fun cdv A outer s H vs Q E hr h => ?_)
 ·rcases h with ⟨v, p, rfl, _⟩ <;> rfl
 ·rcases h with ⟨v, p, rfl, ⟨l, rfl, hl⟩, ⟨hlen, s, hs, hlim⟩, k⟩
  all_goals refine ⟨_, (pss_one (ps_ret (pe_slice sl_list (pe_lc rfl sc_whole_derivative.nd (pi_enum rfl T.enumerate (pa_cons (pv 0) pa_nil)) (own := [("k", 1), ("a", 2)]) (blkOk_by (N := ["p", "k", "a"]) (sc := defScope s_whole_derivative) (by decide +kernel)) (fun _ _ _ _ _ => (show PG _ _ (gTup K 2 _) from (pg_tup rfl (pgs_cons (pg_name (i := 1) sc_whole_derivative.nd rfl (Or.inl rfl)) (pgs_cons (pg_name (i := 2) sc_whole_derivative.nd rfl (Or.inl rfl)) pgs_nil))))) (fun _ _ _ _ _ => pts_nil) (fun _ _ _ _ _ => (pe_op op_mulB (pv 1) (pv 2)))) (po_some pe_int) po_none))), ?_⟩
  all_goals try dsimp only [cx_K]
  have hml : (p.map V.int).length = p.length := List.length_map ..
  refine ⟨_, rfl, l, _, rfl, SqL.of hl, fun D hD => ?_⟩
  refine lc_any (n := p.length) (fun i H' => H' D = some (.lst (((p.mapIdx fun k a => (k : Int) * a).take i).map V.int)) /\ Same H H') ⟨upd_same, Same.new hD⟩ ?_ ?_ ?_ ?_
  ·rintro i H' hi ⟨_, sm⟩
   exact ⟨_, _, SqL.of (sm _ _ hl), at_ci hi⟩
  ·rintro H' ⟨_, sm⟩
   exact ⟨_, SqL.of (sm _ _ hl), by lia⟩
  ·rintro i H' y H'' hi ⟨hd, sm⟩ ⟨t2, x2, rfl, ht2, rfl, hx2⟩
   have hx2 := hx2 _ (SqL.of (sm _ _ hl))
   rw [at_ci hi] at hx2
   cases hx2
   have st := Same.new (o := HO.tup [V.int (i : Nat), V.int (ci p i)]) ht2
   refine ⟨t2, _, rfl, SqT.of upd_same, rfl, _, _, rfl, _, _, rfl, rfl, rfl, ?_⟩
   unfold tYes
   refine iteT ?_
   refine ⟨_, rfl, _, rfl, _, _, rfl, rfl, ⟨10, s, (by show ((i : Nat) : Int).natAbs < 2 ^ 10; lia), hs.ci i, by lia⟩, _, st _ _ hd, ?_, ?_, (sm.trans st).put hD⟩
   ·rw [List.length_map, List.length_take]
    exact Nat.lt_of_le_of_lt (Nat.le_trans (Nat.min_le_left _ _) (by lia : i <= 1000)) (by decide)
   ·rw [upd_same, take_snoc (l := p.mapIdx fun k a => (k : Int) * a) (x := (i : Int) * ci p i) (by rw [List.getElem?_mapIdx, ci_lt hi]; rfl), List.map_append]
    rfl
  ·rintro H' ⟨hd, sm⟩
   rw [List.take_of_length_le (by rw [List.length_mapIdx]; lia)] at hd
   refine ⟨_, rfl, D, _, rfl, SqL.of hd, fun r hr' => ?_⟩
   refine k _ _ (sm.trans (Same.new hr')) ⟨r, rfl, ?_⟩
   have e : cutV ((p.mapIdx fun k a => (k : Int) * a).map V.int) (some 1) none = (deI p).map V.int := by
    unfold cutV
    have e1 : HT.sIx ((p.mapIdx fun k a => (k : Int) * a).map V.int).length 0 (some (1 : Int)) = min 1 ((p.mapIdx fun k a => (k : Int) * a).map V.int).length := HT.sIx_nat (n := ((p.mapIdx fun k a => (k : Int) * a).map V.int).length) (d := 0) (k := 1)
    rw [e1, HT.sIx_none, List.take_of_length_le (by rw [List.length_drop]; lia)]
    unfold deI
    rw [List.map_drop]
    generalize (p.mapIdx fun k a => (k : Int) * a).map V.int = ws
    cases ws with
    | nil => rfl
    | cons a r => rw [show min 1 (a :: r).length = 1 by simp]
   rw [upd_same, e]
abbrev s_scaled_rest : Stmt := top 23
theorem sc_scaled_rest : FnScope ["p", "q", "rest", "size", "shift", "factor", "k", "b", "a"] ["p", "q"] (defScope s_scaled_rest) := ⟨rfl, rfl, rfl, by decide +kernel, rfl, by decide +kernel, by decide +kernel⟩
set_option maxHeartbeats 4000000 in
theorem ok_scaled_rest (T : Txt P mg) (C_trimmed : Cal P w K mg base "trimmed" 41 ["coefficients", "zero"] (spTrimI K)) : ∀ f fd, Fun K "scaled_rest" "scaled_rest" s_scaled_rest f fd -> FnOk P w K mg base CX0 42 f fd ["p", "q"] (spI2 srI cSr) := by
 intro f fd F
 refine fun_ok F sc_scaled_rest (fun vs H Q E h => ?_) (fun cdv A outer s H vs Q E hr h => ?_)
 ·rcases h with ⟨u, v, p, q, rfl, _⟩ <;> rfl
 ·rcases h with ⟨u, v, p, q, rfl, ⟨lp, rfl, hlp⟩, ⟨lq, rfl, hlq⟩, ⟨hp9, hq0, hql, a, b, ha, hb, hlim⟩, k⟩
  all_goals refine ⟨_, (pss_cons (ps_set (i := 2) sc_scaled_rest.nd rfl (Or.inl rfl) (pe_callTy call_list_of rfl T.list PyProof.Rows.boot_list (pa_cons (pv 0) pa_nil)))
   (pss_cons (ps_set (i := 3) sc_scaled_rest.nd rfl (Or.inr rfl) (pe_callB call_abs rfl T.abs PyProof.Rows.boot_abs (pa_cons (pe_ix ix_list (pv 1) (pe_un un_neg pe_int) (fun _ _ => rfl)) pa_nil)))
   (pss_cons (ps_for PassesOwn.never rfl (pi_range3 rfl T.range (pa_cons (pe_op op_sub (pe_callB call_len_seq rfl T.len PySem.boot_len (pa_cons (pv 0) pa_nil)) (pe_callB call_len_seq rfl T.len PySem.boot_len (pa_cons (pv 1) pa_nil))) (pa_cons (pe_un un_neg pe_int) (pa_cons (pe_un un_neg pe_int) pa_nil)))) (pg_name (i := 4) sc_scaled_rest.nd rfl (Or.inl rfl)) (pss_cons (ps_set (i := 5) sc_scaled_rest.nd rfl (Or.inl rfl) (pe_ix ix_list (pv 2) (pe_op op_sub (pe_op op_add (pv 4) (pe_callB call_len_seq rfl T.len PySem.boot_len (pa_cons (pv 1) pa_nil))) pe_int) (fun _ _ => rfl)))
   (pss_cons (ps_if (pt_cmpR op_lt (pe_ix ix_list (pv 1) (pe_un un_neg pe_int) (fun _ _ => rfl)) pe_int (nomark _)) (pss_one (ps_set (i := 5) sc_scaled_rest.nd rfl (Or.inl rfl) (pe_un un_neg (pv 5)))) pss_nil)
   (pss_cons (ps_setLc (i := 2) rfl sc_scaled_rest.nd rfl rfl rfl (pi_list (pv 2)) (own := [("a", 8)]) (blkOk_by (N := ["p", "q", "rest", "size", "shift", "factor", "k", "b", "a"]) (sc := defScope s_scaled_rest) (by decide +kernel)) (fun _ _ _ _ _ => (pg_name (i := 8) sc_scaled_rest.nd rfl (Or.inl rfl))) (fun _ _ _ _ _ => pts_nil) (fun _ _ _ _ _ => (pe_op op_mulB (pv 3) (pv 8))))
   (pss_one (ps_for PassesOwn.never rfl (pi_enum rfl T.enumerate (pa_cons (pv 1) pa_nil)) (pg_tup rfl (pgs_cons (pg_name (i := 6) sc_scaled_rest.nd rfl (Or.inl rfl)) (pgs_cons (pg_name (i := 7) sc_scaled_rest.nd rfl (Or.inl rfl)) pgs_nil))) (pss_one (ps_asg (pe_op op_sub (pe_ix ix_list (pv 2) (pe_op op_add (pv 4) (pv 6)) (fun _ _ => rfl)) (pe_op op_mulB (pv 5) (pv 7))) (pg_sub (pv 2) (pe_op op_add (pv 4) (pv 6)) set_list)))))))))
   (pss_one (ps_ret (pe_cal C_trimmed hr rfl (pa_cons (pv 2) (pa_cons pe_int pa_nil)))))))), ?_⟩
  all_goals try dsimp only [cx_K]
  have evp : (p.map V.int).length = p.length := List.length_map ..
  have evq : (q.map V.int).length = q.length := List.length_map ..
  have lq0 : 0 < q.length := List.length_pos_iff.mpr hq0
  have hbl : (leI q).natAbs < 2 ^ b := by rw [leI_ci]; exact hb.ci _
  refine seq_hide fun M1 hM1 => ?_
  refine ⟨_, rfl, lp, _, rfl, .inl (SqL.of hlp), fun R hR => ?_⟩
  have sR := Same.new (o := HO.lst (p.map V.int)) hR
  refine hM1 _ _ (seq_hide fun M2 hM2 => ?_)
  clear hM1 M1
  refine ⟨_, rfl, _, rfl, lq, _, _, _, rfl, rfl, SqL.of (sR _ _ hlq), at_last hq0, _, rfl, ?_⟩
  rw [show (if leI q < 0 then -leI q else leI q) = ((leI q).natAbs : Int) by split <;> lia]
  obtain ⟨n, hn⟩ : ∃ n, n = p.length + 1 - q.length := ⟨_, rfl⟩
  have hlo : (((p.map V.int).length : Nat) : Int) - (((q.map V.int).length : Nat) : Int) - -1 = (n : Int) := by lia
  have hrg : RgC ((((p.map V.int).length : Nat) : Int) - (((q.map V.int).length : Nat) : Int)) (-1) (-1) n := by
   have z := RgC.neg (i := (((p.map V.int).length : Nat) : Int) - (((q.map V.int).length : Nat) : Int)) (j := -1) (by lia) (by lia) (by decide) (by decide)
   rw [hlo] at z
   exact z
  refine hM2 _ _ (seq_hide fun M3 hM3 => ?_)
  clear hM2 M2
  refine ⟨_, rfl, lp, _, rfl, .inl (SqL.of (sR _ _ hlp)), _, rfl, lq, _, rfl, .inl (SqL.of (sR _ _ hlq)), _, _, rfl, rfl, _, rfl, _, rfl, _, _, _, n, rfl, hrg, ?_⟩
  refine for_any (n := n) (IvSr H lp lq p q n a b) ?_ (fun i σ H' hi _ => hi) (fun σ H' _ => Nat.le_refl _) ?_ ?_
  ·exact ⟨R, p, none, none, none, none, rfl, sR, upd_same, rfl, ha.mono (by lia), rfl⟩
  ·rintro i σ H' y H'' hi hP ⟨rfl, rfl⟩
   obtain ⟨R, r, v4, v5, v6, v7, rfl, sm, hR', hrl, hbt, hsv⟩ := hP
   have evr : (r.map V.int).length = r.length := List.length_map ..
   obtain ⟨s, hs⟩ : ∃ s, n - i = s + 1 := ⟨n - i - 1, by lia⟩
   rw [show (((p.map V.int).length : Nat) : Int) - (((q.map V.int).length : Nat) : Int) + (i : Nat) * (-1) = (s : Int) by lia]
   rw [hs, sv] at hsv
   have hsq : s + q.length <= r.length := by lia
   have hi1 : (i + 1) * (b + 1) <= n * (b + 1) := Nat.mul_le_mul_right _ hi
   have hi2 : n * (b + 1) <= (p.length + 1) * (b + 1) := Nat.mul_le_mul_right _ (by lia)
   have e1 : (i + 1) * (b + 1) = i * (b + 1) + (b + 1) := Nat.succ_mul _ _
   have e2 : (p.length + 2) * (b + 1) = (p.length + 1) * (b + 1) + (b + 1) := Nat.succ_mul _ _
   have hfb : (fcI q s r).natAbs < 2 ^ (a + i * (b + 1)) := by
    unfold fcI
    have := hbt.ci (s + q.length - 1)
    split <;> omega
   refine seq_hide fun N1 hN1 => ?_
   refine ⟨_, rfl, _, rfl, _, rfl, lq, _, rfl, .inl (SqL.of (sm _ _ hlq)), _, _, rfl, rfl, _, _, rfl, rfl, R, _, _, _, rfl, rfl, SqL.of hR', at_of (j := s + q.length - 1) (by lia) (at_ci (by lia)), ?_⟩
   refine hN1 _ _ (seq_hide fun N2 hN2 => ?_)
   clear hN1 N1
   refine ⟨_, rfl, _, rfl, lq, _, _, _, rfl, rfl, SqL.of (sm _ _ hlq), at_last hq0, _, _, rfl, rfl, _, rfl, ?_⟩
   refine (fun (main : ∀ σ : List (Option V), σ = [some (.ref lp), some (.ref lq), some (.ref R), some (.int ((leI q).natAbs : Int)), some (.int (s : Int)), some (.int (fcI q s r)), v6, v7, none] -> (?G : List (Option V) -> Prop) σ) => ?first) ?second
   case first =>
    by_cases hlt : ¬ leI q < 0
    ·refine itN (by simpa using hlt) ?_
     have hfe : fcI q s r = ci r (s + q.length - 1) := by unfold fcI; rw [if_neg hlt]
     generalize hσ : List.set _ 5 _ = σ
     exact main σ (by rw [<- hσ, hfe]; rfl)
    ·have hlt : leI q < 0 := Classical.not_not.mp hlt
     refine itP (decide_eq_true hlt) ?_
     refine ⟨_, rfl, _, rfl, ?_⟩
     have hfe : fcI q s r = -ci r (s + q.length - 1) := by unfold fcI; rw [if_pos hlt]
     exact main _ (by rw [hfe]; rfl)
   case second =>
    rintro _ rfl
    refine hN2 _ _ (seq_hide fun N3 hN3 => ?_)
    clear hN2 N2
    refine ⟨_, rfl, R, rfl, ⟨_, SqL.of hR'⟩, fun D hD => ?_⟩
    have szl : (((leI q).natAbs : Int)).natAbs < 2 ^ b := by lia
    refine lc_any (n := r.length) (fun j H2 => H2 D = some (.lst (((r.map fun a => ((leI q).natAbs : Int) * a).take j).map V.int)) /\ Same H'' H2) ⟨upd_same, Same.new hD⟩ ?_ ?_ ?_ ?_
    ·rintro j H2 hj ⟨_, sm2⟩
     exact ⟨_, _, SqL.of (sm2 _ _ hR'), at_ci hj⟩
    ·rintro H2 ⟨_, sm2⟩
     exact ⟨_, SqL.of (sm2 _ _ hR'), by lia⟩
    ·rintro j H2 y H3 hj ⟨hd, sm2⟩ ⟨rfl, hy⟩
     have hy := hy _ (SqL.of (sm2 _ _ hR'))
     rw [at_ci hj] at hy
     cases hy
     refine ⟨rfl, ?_⟩
     unfold tYes
     refine iteT ?_
     refine ⟨_, rfl, _, rfl, _, _, rfl, rfl, ⟨b, a + i * (b + 1), szl, hbt.ci j, by lia⟩, _, hd, ?_, ?_, sm2.put hD⟩
     ·rw [List.length_map, List.length_take]
      exact Nat.lt_of_le_of_lt (Nat.le_trans (Nat.min_le_left _ _) (by lia : j <= 1000)) (by decide)
     ·rw [upd_same, take_snoc (l := r.map fun a => ((leI q).natAbs : Int) * a) (x := ((leI q).natAbs : Int) * ci r j) (by rw [List.getElem?_map, ci_lt hj]; rfl), List.map_append]
      rfl
    ·rintro H2 ⟨hd, sm2⟩
     rw [List.take_of_length_le (by rw [List.length_map]; lia)] at hd
     have sm3 := sm.trans sm2
     have hHD : H D = none := sm.free hD
     obtain ⟨r2, hr2⟩ : ∃ r2, r2 = r.map fun a => ((leI q).natAbs : Int) * a := ⟨_, rfl⟩
     rw [<- hr2] at hd
     have hrl2 : r2.length = r.length := by rw [hr2, List.length_map]
     refine hN3 _ _ ?_
     clear hN3 N3
     refine ⟨_, rfl, lq, _, rfl, SqL.of (sm3 _ _ hlq), ?_⟩
     refine for_any (n := q.length) (IwSr H lp lq D q r r2 s) ?_ ?_ ?_ ?_ ?_
     ·exact ⟨v6, v7, rfl, sm3, by rw [stI_zero]; exact hd⟩
     ·intro j σ H4 hj hQ
      obtain ⟨v6, v7, rfl, sm4, _⟩ := hQ
      exact ⟨_, _, SqL.of (sm4 _ _ hlq), at_ci hj⟩
     ·intro σ H4 hQ
      obtain ⟨v6, v7, rfl, sm4, _⟩ := hQ
      exact ⟨_, SqL.of (sm4 _ _ hlq), by lia⟩
     ·rintro j σ H4 y H5 hj hQ ⟨t2, x2, rfl, ht2, rfl, hx2⟩
      obtain ⟨v6, v7, rfl, sm4, hd4⟩ := hQ
      have hx2 := hx2 _ (SqL.of (sm4 _ _ hlq))
      rw [at_ci hj] at hx2
      cases hx2
      have st2 := Same.new (o := HO.tup [V.int (j : Nat), V.int (ci q j)]) ht2
      have hd5 := st2 _ _ hd4
      have hsl : (stI q s (fcI q s r) r2 j).length = r2.length := stI_len ..
      have hat : ((stI q s (fcI q s r) r2 j).map V.int)[s + j]? = some (.int (ci r2 (s + j))) := by rw [List.getElem?_map, stI_at (by lia)]; rfl
      refine ⟨t2, _, rfl, SqT.of upd_same, rfl, _, _, rfl, _, _, rfl, rfl, ?_⟩
      refine ⟨_, rfl, _, rfl, _, rfl, _, _, rfl, rfl, D, _, _, _, rfl, rfl, SqL.of hd5, at_of (j := s + j) (by lia) hat, ?_⟩
      refine ⟨_, rfl, _, rfl, _, _, rfl, rfl, ⟨a + i * (b + 1), b, hfb, hb.ci j, by lia⟩, ?_⟩
      refine ⟨_, _, rfl, rfl, ?_⟩
      refine ⟨_, rfl, _, rfl, _, rfl, _, _, rfl, rfl, D, _, _, s + j, rfl, rfl, hd5, ?_, ?_⟩
      ·rw [show (s : Int) + (j : Int) = ((s + j : Nat) : Int) by lia]
       exact ix_nat (by rw [List.length_map]; lia)
      ·refine ⟨_, _, rfl, (sm4.trans st2).put hHD, ?_⟩
       rw [upd_same, <- stI_set (by lia), List.map_set]
     ·intro σ H4 hQ
      obtain ⟨v6, v7, rfl, sm4, hd4⟩ := hQ
      refine ⟨D, sst q s r, _, _, _, _, rfl, sm4, ?_, by rw [sst_len]; exact hrl, ?_, by rw [hsv, show n - (i + 1) = s by lia]⟩
      ·rw [hr2, sst_st] at hd4; exact hd4
      ·refine (sst_bits hb hbt).mono ?_
       lia
  ·intro σ H' hP
   obtain ⟨R, r, v4, v5, v6, v7, rfl, sm, hR', hrl, hbt, hsv⟩ := hP
   rw [Nat.sub_self] at hsv
   have hsv : sv q n p = r := hsv
   refine hM3 _ _ ⟨_, rfl, .inr ⟨.ref R, r, rfl, ⟨R, rfl, hR'⟩, fun H2 r2 s2 h2 => k _ _ (sm.trans s2) ?_⟩⟩
   unfold srI
   rw [<- hn, hsv]
   exact h2
abbrev s_remainder_chain : Stmt := top 24
theorem sc_remainder_chain : FnScope ["p", "q", "chain", "left", "right", "lead", "height", "gap", "divisor", "rest", "a"] ["p", "q"] (defScope s_remainder_chain) := ⟨rfl, rfl, rfl, by decide +kernel, rfl, by decide +kernel, by decide +kernel⟩
set_option maxHeartbeats 4000000 in
theorem ok_remainder_chain (T : Txt P mg) (C_scaled_rest : Cal P w K mg base "scaled_rest" 42 ["p", "q"] (spI2 srI cSr)) (C_whole_power : Cal P w K mg base "whole_power" 41 ["base", "exponent"] spPow) : ∀ f fd, Fun K "remainder_chain" "remainder_chain" s_remainder_chain f fd -> FnOk P w K mg base CX0 43 f fd ["p", "q"] (spCh chI cCh) := by
 intro f fd F
 refine fun_ok F sc_remainder_chain (fun vs H Q E h => ?_) (fun cdv A outer s H vs Q E hr h => ?_)
 ·rcases h with ⟨u, v, p, q, rfl, _⟩ <;> rfl
 ·rcases h with ⟨u, v, p, q, rfl, hP, hQ, ⟨hpn, hp0, hqn, hql, hlen, s0, hps, hqs, hlim⟩, k⟩
  all_goals refine ⟨_, (pss_cons (ps_set (i := 2) sc_remainder_chain.nd rfl (Or.inl rfl) (pe_lst (pa_cons (pv 0) pa_nil)))
   (pss_cons (ps_set (i := 3) sc_remainder_chain.nd rfl (Or.inl rfl) (pv 0))
   (pss_cons (ps_set (i := 4) sc_remainder_chain.nd rfl (Or.inl rfl) (pv 1))
   (pss_cons (ps_set (i := 5) sc_remainder_chain.nd rfl (Or.inl rfl) pe_int)
   (pss_cons (ps_set (i := 6) sc_remainder_chain.nd rfl (Or.inl rfl) pe_int)
   (pss_cons (ps_while PassesOwn.never (pt_cmpR (op_neD hr.units) (pv 4) (pe_lst pa_nil) (nomark _)) (pss_cons (ps_expr (pe_bm PySem.F.plainAttrs_list PySem.F.slot_list_append PySem.F.type_list_append mt_append (pv 2) (pa_cons (pv 4) pa_nil)))
   (pss_cons (ps_set (i := 7) sc_remainder_chain.nd rfl (Or.inl rfl) (pe_op op_sub (pe_callB call_len_seq rfl T.len PySem.boot_len (pa_cons (pv 3) pa_nil)) (pe_callB call_len_seq rfl T.len PySem.boot_len (pa_cons (pv 4) pa_nil))))
   (pss_cons (ps_set (i := 8) sc_remainder_chain.nd rfl (Or.inr rfl) (pe_op op_mulB (pv 5) (pe_cal C_whole_power hr rfl (pa_cons (pv 6) (pa_cons (pv 7) pa_nil)))))
   (pss_cons (ps_set (i := 9) sc_remainder_chain.nd rfl (Or.inl rfl) (pe_cal C_scaled_rest hr rfl (pa_cons (pv 3) (pa_cons (pv 4) pa_nil))))
   (pss_cons (ps_set (i := 3) sc_remainder_chain.nd rfl (Or.inl rfl) (pv 4))
   (pss_cons (ps_setLc (i := 4) rfl sc_remainder_chain.nd rfl rfl rfl (pi_list (pv 9)) (own := [("a", 10)]) (blkOk_by (N := ["p", "q", "chain", "left", "right", "lead", "height", "gap", "divisor", "rest", "a"]) (sc := defScope s_remainder_chain) (by decide +kernel)) (fun _ _ _ _ _ => (pg_name (i := 10) sc_remainder_chain.nd rfl (Or.inl rfl))) (fun _ _ _ _ _ => pts_nil) (fun _ _ _ _ _ => (pe_un un_neg (pe_op (op_fdivB ⟨T.tree, _, _, rfl, rfl, rfl, rfl, rfl⟩ hr) (pv 10) (pv 8)))))
   (pss_cons (ps_set (i := 5) sc_remainder_chain.nd rfl (Or.inl rfl) (pe_callB call_abs rfl T.abs PyProof.Rows.boot_abs (pa_cons (pe_ix ix_list (pv 3) (pe_un un_neg pe_int) (fun _ _ => rfl)) pa_nil)))
   (pss_one (ps_if (pt_cmpR op_gt (pv 7) pe_int (nomark _)) (pss_one (ps_set (i := 6) sc_remainder_chain.nd rfl (Or.inl rfl) (pe_op (op_fdivB ⟨T.tree, _, _, rfl, rfl, rfl, rfl, rfl⟩ hr) (pe_cal C_whole_power hr rfl (pa_cons (pv 5) (pa_cons (pv 7) pa_nil))) (pe_cal C_whole_power hr rfl (pa_cons (pv 6) (pa_cons (pe_op op_sub (pv 7) pe_int) pa_nil)))))) pss_nil))))))))))
   (pss_one (ps_ret (pv 2))))))))), ?_⟩
  all_goals try dsimp only [cx_K]
  have lp0 : 0 < p.length := List.length_pos_iff.mpr hp0
  obtain ⟨s, es⟩ : ∃ s, s = (6 + s0) * 34 + 1 := ⟨_, rfl⟩
  have hcb : chB p q (2 ^ s0) < 2 ^ s := by rw [es]; exact ch_bits hlen hql lp0
  have h2s : 1 <= 2 ^ s0 := Nat.pow_pos (by decide)
  have bP : bdI p (2 ^ s0) := fun c hc => by have := hps c hc; lia
  have bQ : bdI q (2 ^ s0) := fun c hc => by have := hqs c hc; lia
  have hs20 : 20 * (s + 2) <= 134217728 := by lia
  refine ⟨_, rfl, (by show 1 <= sizeLine; decide), fun C hC => ?_⟩
  have sC := Same.new (o := HO.lst [u]) hC
  have ncP : NcV C (upd H C (.lst [u])) u p := ⟨hP.same sC, fun e => by
   obtain ⟨l, rfl, hl⟩ := hP
   cases e
   rw [hC] at hl; cases hl⟩
  have ncQ : NcV C (upd H C (.lst [u])) v q := ⟨hQ.same sC, fun e => by
   obtain ⟨l, rfl, hl⟩ := hQ
   cases e
   rw [hC] at hl; cases hl⟩
  refine ⟨_, rfl, _, rfl, ?_⟩
  refine ⟨WRc u v C H p q s0, ⟨_, u, v, p, q, 1, 1, [], [u], q.length + 1, none, none, none, rfl, sC, upd_same, .cons ncP .nil, ncP, ncQ, rfl, (by show 0 + (q.length + 1) <= 20; lia), (by lia), hpn, hp0, hlen, ?_, rfl⟩, ?_⟩
  ·by_cases h0 : q = []
   ·exact .inl h0
   ·exact .inr (.start hpn hqn h0 hql bP bQ h2s)
  rintro m σ H' ⟨x, y, l, r, g, h, pre, vs, f, v7, v8, v9, rfl, sm, hCv, hvs, hx, hy, hch, hpf, hrf, hln, hl0, hll, hiv, rfl⟩
  refine ⟨_, rfl, Nat.zero_le _, fun p1 hp1 => ?_⟩
  have s1 := Same.new (o := HO.lst []) hp1
  obtain ⟨ly, ey, hly⟩ := hy.1
  subst ey
  refine ⟨_, _, dp_ints (SqL.of (s1 _ _ hly)), dp_nil upd_same, shaped_ints _, shaped_nil, _, rfl, ?_⟩
  rw [eqv_nil_ints]
  have sm1 := sm.trans s1
  have hC1 := s1 _ _ hCv
  have hvs1 := hvs.same s1
  have hx1 := hx.same s1
  have hy1 := hy.same s1
  generalize upd H' p1 (.lst []) = H1 at *
  by_cases hr0 : r = []
  ·refine itN (by simpa using hr0) ?_
   subst hr0
   refine ⟨_, rfl, k _ _ sm1 ⟨C, vs, rfl, hC1, ?_⟩⟩
   have e : chF f l [] g h = [l] := by
    cases f with
    | zero => rfl
    | succ f => unfold chF; rw [if_pos rfl]
   rw [hch, e]
   exact hvs1.out
  refine itP (by simpa using hr0) ?_
  have I := hiv.resolve_left hr0
  have lr0 : 0 < r.length := List.length_pos_iff.mpr hr0
  obtain ⟨f', rfl⟩ : ∃ f', f = f' + 1 := ⟨f - 1, by lia⟩
  have hch2 : chF (f' + 1) l r g h = l :: chF f' r (nxI l r g h) ((leI r).natAbs : Int) (hgI l r h) := by
   conv => lhs; unfold chF
   rw [if_neg hr0]
  have hle := I.le
  have hgap : l.length - r.length <= 16 := by lia
  have bts : ∀ c : List Int, bdI c (chB p q (2 ^ s0)) -> btI c s := fun c hc => btI_of hc hcb
  have hnl := I.nx_len
  refine ⟨NRc H u v C ly l r g h pre, ?_, ?_⟩
  ·rintro σ' H2 ⟨y2, vs2, w7, w8, w9, rfl, sm2, hC2, hvs2, hl2, hy2⟩
   refine ⟨(nxI l r g h).length, hnl, ⟨.ref ly, y2, r, nxI l r g h, _, _, pre ++ [l], vs2, f', w7, w8, w9, rfl, sm2, hC2, hvs2, hl2, hy2, ?_, ?_, by lia, I.nr, hr0, by lia, ?_, rfl⟩⟩
   ·rw [hch, hch2, List.append_assoc]; rfl
   ·rw [List.length_append]; simp; lia
   ·by_cases z : nxI l r g h = []
    ·exact .inl z
    ·exact .inr (I.next z)
  refine seq_hide fun N1 hN1 => ?_
  have hvl : vs.length <= 20 := by
   have : vs.length = (pre ++ [l]).length := Paired.length hvs1
   rw [this, List.length_append]; simp; lia
  have h21 : (20 : Nat) < sizeLine := by decide
  refine ⟨_, rfl, .inl ⟨rfl, _, SqL.of hC1⟩, _, rfl, C, vs, _, rfl, rfl, hC1, Nat.lt_of_le_of_lt hvl h21, ?_⟩
  have sm2 : Same H (upd H1 C (.lst (vs ++ [.ref ly]))) := sm1.put hC
  have hC2 : (upd H1 C (.lst (vs ++ [.ref ly]))) C = some (.lst (vs ++ [.ref ly])) := upd_same
  have hx2 := hx1.put (o := .lst (vs ++ [.ref ly]))
  have hy2 := hy1.put (o := .lst (vs ++ [.ref ly]))
  have hvs2 : NcVs C (upd H1 C (.lst (vs ++ [.ref ly]))) (vs ++ [.ref ly]) ((pre ++ [l]) ++ [r]) := NcVs.snoc hy2 hvs1.put
  generalize upd H1 C (.lst (vs ++ [.ref ly])) = H2 at *
  obtain ⟨lx, ex, hlx⟩ := hx2.1
  subst ex
  have hly2 : H2 ly = some (.lst (r.map V.int)) := by
   obtain ⟨l', e', h'⟩ := hy2.1
   cases e'
   exact h'
  have evl : (l.map V.int).length = l.length := List.length_map ..
  have evr : (r.map V.int).length = r.length := List.length_map ..
  refine hN1 _ _ (seq_hide fun N2 hN2 => ?_)
  clear hN1 N1
  refine ⟨_, rfl, lx, _, rfl, .inl (SqL.of hlx), _, rfl, ly, _, rfl, .inl (SqL.of hly2), _, _, rfl, rfl, ?_⟩
  obtain ⟨gap, hg⟩ : ∃ gap, gap = l.length - r.length := ⟨_, rfl⟩
  change gName 7 (V.int ((((l.map V.int).length : Nat) : Int) - (((r.map V.int).length : Nat) : Int))) _ _ _
  rw [show (((l.map V.int).length : Nat) : Int) - (((r.map V.int).length : Nat) : Int) = ((gap : Nat) : Int) by lia]
  have hgs : s * (gap + 1) <= s * 17 := Nat.mul_le_mul_left _ (by lia)
  have hhb : h.natAbs < 2 ^ s := Nat.lt_of_le_of_lt I.bh hcb
  have hgb : g.natAbs < 2 ^ s := Nat.lt_of_le_of_lt I.bg hcb
  have hlb : (((leI r).natAbs : Int)).natAbs < 2 ^ s := by
   have := (bts r I.br).ci (r.length - 1)
   rw [<- leI_ci] at this
   lia
  have e1 : s * (gap + 1) = s * gap + s := Nat.mul_succ _ _
  refine hN2 _ _ (seq_hide fun N3 hN3 => ?_)
  clear hN2 N2
  refine ⟨_, rfl, _, rfl, _, rfl, h, gap, s, rfl, hhb, by lia, by lia, ?_⟩
  refine ⟨_, _, rfl, rfl, ⟨s, s * gap + 1, hgb, pow_bits hhb gap, by lia⟩, ?_⟩
  refine hN3 _ _ (seq_hide fun N4 hN4 => ?_)
  clear hN3 N3
  refine ⟨_, rfl, _, rfl, .ref lx, .ref ly, l, r, rfl, ⟨lx, rfl, hlx⟩, ⟨ly, rfl, hly2⟩, ⟨by lia, hr0, hle, s, s, bts l I.bl, bts r I.br, ?_⟩, fun H3 r3 s3 h3 => ?_⟩
  ·have : (l.length + 2) * (s + 1) <= 19 * (s + 1) := Nat.mul_le_mul_right _ (by lia)
   lia
  obtain ⟨l3, rfl, hl3⟩ := h3
  have sm3 := sm2.trans s3
  have hC3 := s3 _ _ hC2
  have hvs3 := hvs2.same s3
  have hy3 := hy2.same s3
  have evs : ((srI l r).map V.int).length = (srI l r).length := List.length_map ..
  have hsl : (srI l r).length <= 1000 := by
   have e := ip_sr I.nl I.nr I.r0
   have z := scale_len (rpow_ne (x := WrAlgn.size (WrAlgn.lead (ip r))) (by have := I.inv.gp; grind) (l.length + 1 - r.length)) (nm_rest I.inv.nA I.inv.nB I.inv.B0)
   rw [<- e, ip_len] at z
   have := rest_len I.inv.nA I.inv.nB I.inv.B0
   rw [ip_len] at this
   lia
  refine hN4 _ _ (seq_hide fun N7 hN7 => ⟨_, rfl, hN7 _ _ (seq_hide fun N5 hN5 => ?_)⟩)
  clear hN4 N4 hN7 N7
  refine ⟨_, rfl, l3, rfl, ⟨_, SqL.of hl3⟩, fun D hD => ?_⟩
  have hbeta : g * h ^ gap ≠ 0 := by
   have := I.beta
   rw [<- hg] at this
   lia
  refine lc_any (n := (srI l r).length) (fun j H4 => H4 D = some (.lst (((nxI l r g h).take j).map V.int)) /\ Same H3 H4) ⟨upd_same, Same.new hD⟩ ?_ ?_ ?_ ?_
  ·rintro j H4 hj ⟨_, sm4⟩
   exact ⟨_, _, SqL.of (sm4 _ _ hl3), at_ci hj⟩
  ·rintro H4 ⟨_, sm4⟩
   exact ⟨_, SqL.of (sm4 _ _ hl3), by lia⟩
  ·rintro j H4 y4 H5 hj ⟨hd, sm4⟩ ⟨rfl, hy4⟩
   have hy4 := hy4 _ (SqL.of (sm4 _ _ hl3))
   rw [at_ci hj] at hy4
   cases hy4
   refine ⟨rfl, ?_⟩
   unfold tYes
   refine iteT ?_
   refine ⟨_, rfl, _, rfl, _, _, rfl, rfl, hbeta, _, rfl, _, hd, ?_, ?_, sm4.put hD⟩
   ·rw [List.length_map, List.length_take]
    exact Nat.lt_of_le_of_lt (Nat.le_trans (Nat.min_le_left _ _) (by lia : j <= 1000)) (by decide)
   ·rw [upd_same, take_snoc (l := nxI l r g h) (x := -((ci (srI l r) j).fdiv (g * h ^ gap))) (by unfold nxI; rw [<- hg, List.getElem?_map, ci_lt hj]; rfl), List.map_append]
    rfl
  ·rintro H4 ⟨hd, sm4⟩
   rw [List.take_of_length_le (by unfold nxI; rw [List.length_map]; lia)] at hd
   have sm5 := sm3.trans sm4
   have hC5 := sm4 _ _ hC3
   have hvs5 := hvs3.same sm4
   have hy5 := hy3.same sm4
   have hly5 : H4 ly = some (.lst (r.map V.int)) := sm4 _ _ (s3 _ _ hly2)
   have hnx : NcV C H4 (.ref D) (nxI l r g h) := ⟨⟨D, rfl, hd⟩, fun e => by
    cases e
    rw [hC3] at hD; cases hD⟩
   refine hN5 _ _ (seq_hide fun N6 hN6 => ?_)
   clear hN5 N5
   refine ⟨_, rfl, _, rfl, ly, _, _, _, rfl, rfl, SqL.of hly5, at_last hr0, _, rfl, ?_⟩
   rw [show (if leI r < 0 then -leI r else leI r) = ((leI r).natAbs : Int) by split <;> lia]
   refine hN6 _ _ ⟨_, rfl, _, _, rfl, rfl, _, rfl, ?_⟩
   by_cases hgp : 0 < gap
   ·refine itP (by simp; omega) ?_
    refine ⟨_, rfl, _, rfl, ((leI r).natAbs : Int), gap, s, rfl, hlb, by lia, by lia, ?_⟩
    have e2 : s * (gap - 1 + 1) <= s * 17 := Nat.mul_le_mul_left _ (by lia)
    refine ⟨_, rfl, _, rfl, _, _, rfl, rfl, h, gap - 1, s, ?_, hhb, by lia, by lia, ?_⟩
    ·show [V.int h, V.int (((gap : Nat) : Int) - 1)] = [V.int h, V.int ((gap - 1 : Nat) : Int)]
     rw [show ((gap : Nat) : Int) - 1 = ((gap - 1 : Nat) : Int) by lia]
    refine ⟨_, _, rfl, rfl, ?_, ?_⟩
    ·have : (0 : Int) < h ^ (gap - 1) := Int.pow_pos I.h0
     lia
    ·refine ⟨.ref D, vs ++ [.ref ly], some (.int (gap : Int)), some (.int (g * h ^ gap)), some (.ref l3), ?_, sm5, hC5, hvs5, hy5, hnx⟩
     have eh : hgI l r h = (((leI r).natAbs : Int) ^ gap).fdiv (h ^ (gap - 1)) := by unfold hgI; rw [<- hg, if_pos hgp]
     rw [eh]
     rfl
   ·refine itN (by simp; lia) ?_
    refine ⟨.ref D, vs ++ [.ref ly], some (.int (gap : Int)), some (.int (g * h ^ gap)), some (.ref l3), ?_, sm5, hC5, hvs5, hy5, hnx⟩
    have eh : hgI l r h = h := by unfold hgI; rw [<- hg, if_neg hgp]
    rw [eh]
    rfl
abbrev s_whole_common_divisor : Stmt := top 25
theorem sc_whole_common_divisor : FnScope ["p", "q"] ["p", "q"] (defScope s_whole_common_divisor) := ⟨rfl, rfl, rfl, by decide +kernel, rfl, by decide +kernel, by decide +kernel⟩
set_option maxHeartbeats 4000000 in
theorem ok_whole_common_divisor (T : Txt P mg) (C_primitive : Cal P w K mg base "primitive" 42 ["p"] (spI1 primI cPrm)) (C_remainder_chain : Cal P w K mg base "remainder_chain" 43 ["p", "q"] (spCh chI cCh)) : ∀ f fd, Fun K "whole_common_divisor" "whole_common_divisor" s_whole_common_divisor f fd -> FnOk P w K mg base CX0 44 f fd ["p", "q"] (spI2 wgI cCh) := by
 intro f fd F
 refine fun_ok F sc_whole_common_divisor (fun vs H Q E h => ?_) (fun cdv A outer s H vs Q E hr h => ?_)
 ·rcases h with ⟨u, v, p, q, rfl, _⟩ <;> rfl
 ·rcases h with ⟨u, v, p, q, rfl, hP, hQ, hC, k⟩
  all_goals refine ⟨_, (pss_one (ps_ret (pe_cal C_primitive hr rfl (pa_cons (pe_ix ix_list (pe_cal C_remainder_chain hr rfl (pa_cons (pv 0) (pa_cons (pv 1) pa_nil))) (pe_un un_neg pe_int) (fun _ _ => rfl)) pa_nil)))), ?_⟩
  all_goals try dsimp only [cx_K]
  have hC' := hC
  obtain ⟨hpn, hp0, hqn, hql, hlen, s, hps, hqs, hlim⟩ := hC'
  refine ⟨_, rfl, _, rfl, u, v, p, q, rfl, hP, hQ, hC, fun H1 r1 s1 h1 => ?_⟩
  obtain ⟨h2, h3, h4⟩ := chI_last hpn hp0 hqn hql
  obtain ⟨l, vs, rfl, hl, hv⟩ := h1
  have hne := chF_ne (q.length + 1) p q 1 1
  have hne : chI p q ≠ [] := hne
  have hcl := List.length_pos_iff.mpr hne
  have hla : (chI p q)[(chI p q).length - 1]? = some (laI (chI p q)) := by
   unfold laI
   rw [List.getLastD_eq_getLast?, <- List.getLast?_eq_getElem?]
   cases hx : (chI p q).getLast? with
   | none => exact absurd (List.getLast?_eq_none_iff.mp hx) hne
   | some x => rfl
  obtain ⟨w, hw, hx⟩ := hv.get hla
  refine ⟨_, rfl, l, vs, _, w, rfl, rfl, SqL.of hl, at_m1 (n := (chI p q).length - 1) (by rw [hv.len]; lia) hw, ?_⟩
  have hll := (chI_member hpn hp0 hqn hql (List.mem_of_getElem? hla)).2.2
  exact ⟨w, _, rfl, hx, ⟨h2, h3, by lia⟩, fun H2 r2 s2 h => k _ _ (s1.trans s2) h⟩
abbrev s_exact_quotient : Stmt := top 26
theorem sc_exact_quotient : FnScope ["p", "q", "rest", "quotient", "shift", "factor", "k", "b"] ["p", "q"] (defScope s_exact_quotient) := ⟨rfl, rfl, rfl, by decide +kernel, rfl, by decide +kernel, by decide +kernel⟩
set_option maxHeartbeats 4000000 in
theorem ok_exact_quotient (T : Txt P mg) : ∀ f fd, Fun K "exact_quotient" "exact_quotient" s_exact_quotient f fd -> FnOk P w K mg base CX0 41 f fd ["p", "q"] (spI2 exq cExq) := by
 intro f fd F
 refine fun_ok F sc_exact_quotient (fun vs H Q E h => ?_) (fun cdv A outer s H vs Q E hr h => ?_)
 ·rcases h with ⟨u, v, p, q, rfl, _⟩ <;> rfl
 ·rcases h with ⟨u, v, p, q, rfl, ⟨lp, rfl, hlp⟩, ⟨lq, rfl, hlq⟩, ⟨hp9, hq0, hqn, hql, b, c, hb, hc, hlim⟩, k⟩
  all_goals refine ⟨_, (pss_cons (ps_set (i := 2) sc_exact_quotient.nd rfl (Or.inl rfl) (pe_callTy call_list_of rfl T.list PyProof.Rows.boot_list (pa_cons (pv 0) pa_nil)))
   (pss_cons (ps_set (i := 3) sc_exact_quotient.nd rfl (Or.inl rfl) (pe_op op_rep (pe_lst (pa_cons pe_int pa_nil)) (pe_op op_add (pe_op op_sub (pe_callB call_len_seq rfl T.len PySem.boot_len (pa_cons (pv 0) pa_nil)) (pe_callB call_len_seq rfl T.len PySem.boot_len (pa_cons (pv 1) pa_nil))) pe_int)))
   (pss_cons (ps_for PassesOwn.never rfl (pi_range3 rfl T.range (pa_cons (pe_op op_sub (pe_callB call_len_seq rfl T.len PySem.boot_len (pa_cons (pv 0) pa_nil)) (pe_callB call_len_seq rfl T.len PySem.boot_len (pa_cons (pv 1) pa_nil))) (pa_cons (pe_un un_neg pe_int) (pa_cons (pe_un un_neg pe_int) pa_nil)))) (pg_name (i := 4) sc_exact_quotient.nd rfl (Or.inl rfl)) (pss_cons (ps_set (i := 5) sc_exact_quotient.nd rfl (Or.inl rfl) (pe_op (op_fdivB ⟨T.tree, _, _, rfl, rfl, rfl, rfl, rfl⟩ hr) (pe_ix ix_list (pv 2) (pe_op op_sub (pe_op op_add (pv 4) (pe_callB call_len_seq rfl T.len PySem.boot_len (pa_cons (pv 1) pa_nil))) pe_int) (fun _ _ => rfl)) (pe_ix ix_list (pv 1) (pe_un un_neg pe_int) (fun _ _ => rfl))))
   (pss_cons (ps_asg (pv 5) (pg_sub (pv 3) (pv 4) set_list))
   (pss_one (ps_for PassesOwn.never rfl (pi_enum rfl T.enumerate (pa_cons (pv 1) pa_nil)) (pg_tup rfl (pgs_cons (pg_name (i := 6) sc_exact_quotient.nd rfl (Or.inl rfl)) (pgs_cons (pg_name (i := 7) sc_exact_quotient.nd rfl (Or.inl rfl)) pgs_nil))) (pss_one (ps_asg (pe_op op_sub (pe_ix ix_list (pv 2) (pe_op op_add (pv 4) (pv 6)) (fun _ _ => rfl)) (pe_op op_mulB (pv 5) (pv 7))) (pg_sub (pv 2) (pe_op op_add (pv 4) (pv 6)) set_list))))))))
   (pss_one (ps_ret (pv 3)))))), ?_⟩
  all_goals try dsimp only [cx_K]
  have evp : (p.map V.int).length = p.length := List.length_map ..
  have evq : (q.map V.int).length = q.length := List.length_map ..
  have lq0 : 0 < q.length := List.length_pos_iff.mpr hq0
  have hle := leI_ne hqn hq0
  refine seq_hide fun M1 hM1 => ?_
  refine ⟨_, rfl, lp, _, rfl, .inl (SqL.of hlp), fun R hR => ?_⟩
  have sR := Same.new (o := HO.lst (p.map V.int)) hR
  refine hM1 _ _ (seq_hide fun M2 hM2 => ?_)
  clear hM1 M1
  refine ⟨(by show 1 <= sizeLine; decide), fun p3 hp3 => ?_⟩
  have s3 := Same.new (o := HO.lst [.int 0]) hp3
  obtain ⟨n, hn⟩ : ∃ n, n = p.length + 1 - q.length := ⟨_, rfl⟩
  have hz16 : (2000 : Nat) <= sizeLine := by decide
  refine ⟨_, rfl, lp, _, rfl, .inl (SqL.of (s3 _ _ (sR _ _ hlp))), _, rfl, lq, _, rfl, .inl (SqL.of (s3 _ _ (sR _ _ hlq))), _, _, rfl, rfl, _, _, rfl, rfl, ?_⟩
  have eN : (((p.map V.int).length : Nat) : Int) - (((q.map V.int).length : Nat) : Int) + 1 = ((n : Nat) : Int) := by lia
  refine ⟨p3, ((n : Nat) : Int), _, rfl, congrArg V.int eN, upd_same, (by lia), (by lia), (by show 1 * ((n : Nat) : Int).toNat <= sizeLine; lia), fun D hD => ?_⟩
  rw [show ((n : Nat) : Int).toNat = n from rfl, flat_rep]
  have sD := Same.new (o := HO.lst (List.replicate n (V.int 0))) hD
  have sH : Same H (upd (upd H R (.lst (p.map V.int))) p3 (.lst [.int 0])) := sR.trans s3
  have hRD : (upd (upd (upd H R (.lst (p.map V.int))) p3 (.lst [.int 0])) D (.lst (List.replicate n (V.int 0)))) R = some (.lst (p.map V.int)) := sD _ _ (s3 _ _ upd_same)
  have hDR : D ≠ R := fun q => by
   subst q
   have := s3 _ _ (upd_same (H := H) (a := D) (o := HO.lst (p.map V.int)))
   rw [hD] at this
   cases this
  have hHD : H D = none := sH.free hD
  have hlo : (((p.map V.int).length : Nat) : Int) - (((q.map V.int).length : Nat) : Int) - -1 = (n : Int) := by lia
  have hrg : RgC ((((p.map V.int).length : Nat) : Int) - (((q.map V.int).length : Nat) : Int)) (-1) (-1) n := by
   have z := RgC.neg (i := (((p.map V.int).length : Nat) : Int) - (((q.map V.int).length : Nat) : Int)) (j := -1) (by lia) (by lia) (by decide) (by decide)
   rw [hlo] at z
   exact z
  refine hM2 _ _ (seq_hide fun M3 hM3 => ?_)
  clear hM2 M2
  refine ⟨_, rfl, lp, _, rfl, .inl (SqL.of (sD _ _ (sH _ _ hlp))), _, rfl, lq, _, rfl, .inl (SqL.of (sD _ _ (sH _ _ hlq))), _, _, rfl, rfl, _, rfl, _, rfl, _, _, _, n, rfl, hrg, ?_⟩
  refine for_any (n := n) (IvEq H lp lq R D p q n) ?_ (fun i σ H' hi _ => hi) (fun σ H' _ => Nat.le_refl _) ?_ ?_
  ·refine ⟨none, none, none, none, rfl, sH.trans sD, p, [], hRD, ?_, rfl, rfl, ?_⟩
   ·rw [upd_same, List.append_nil, List.map_replicate, Nat.sub_zero]
   ·rw [List.append_nil, Nat.sub_zero, hn]; rfl
  ·rintro i σ H' y H'' hi hP ⟨rfl, rfl⟩
   obtain ⟨v4, v5, v6, v7, rfl, sm, r, fs, hr1, hd1, hfl, hrl, hev⟩ := hP
   have evr : (r.map V.int).length = r.length := List.length_map ..
   obtain ⟨s, hs⟩ : ∃ s, n - i = s + 1 := ⟨n - i - 1, by lia⟩
   rw [show (((p.map V.int).length : Nat) : Int) - (((q.map V.int).length : Nat) : Int) + (i : Nat) * (-1) = (s : Int) by lia]
   have hsq : s + q.length <= r.length := by lia
   rw [hs, eqv] at hev
   have hfb : (efI q s r).natAbs < 2 ^ c := hc _ (by rw [hev]; simp)
   refine seq_hide fun N1 hN1 => ?_
   refine ⟨_, rfl, _, rfl, _, rfl, lq, _, rfl, .inl (SqL.of (sm _ _ hlq)), _, _, rfl, rfl, _, _, rfl, rfl, R, _, _, _, rfl, rfl, SqL.of hr1, at_of (j := s + q.length - 1) (by lia) (at_ci (by lia)), ?_⟩
   refine ⟨_, rfl, _, rfl, lq, _, _, _, rfl, rfl, SqL.of (sm _ _ hlq), at_last hq0, _, _, rfl, rfl, hle, ?_⟩
   refine hN1 _ _ (seq_hide fun N2 hN2 => ?_)
   clear hN1 N1
   refine ⟨_, rfl, _, rfl, _, rfl, D, _, _, s, rfl, rfl, hd1, ix_nat (by rw [List.length_map, List.length_append, List.length_replicate]; lia), ?_⟩
   have hset : ((List.replicate (n - i) 0 ++ fs).map V.int).set s (V.int ((ci r (s + q.length - 1)).fdiv (leI q))) = (List.replicate s 0 ++ (efI q s r :: fs)).map V.int := by
    rw [<- List.map_set]
    congr 1
    rw [hs, List.replicate_succ', List.append_assoc, List.set_append, if_neg (by rw [List.length_replicate]; lia), List.length_replicate, Nat.sub_self]
    rfl
   rw [hset]
   have hr3 : (upd H'' D (.lst ((List.replicate s 0 ++ (efI q s r :: fs)).map V.int))) R = some (.lst (r.map V.int)) := by rw [upd_ne (Ne.symm hDR)]; exact hr1
   have sm3 : Same H (upd H'' D (.lst ((List.replicate s 0 ++ (efI q s r :: fs)).map V.int))) := sm.put hHD
   have hd3 : (upd H'' D (.lst ((List.replicate s 0 ++ (efI q s r :: fs)).map V.int))) D = some (.lst ((List.replicate s 0 ++ (efI q s r :: fs)).map V.int)) := upd_same
   generalize upd H'' D (.lst ((List.replicate s 0 ++ (efI q s r :: fs)).map V.int)) = H3 at *
   refine hN2 _ _ ?_
   clear hN2 N2
   refine ⟨_, rfl, lq, _, rfl, SqL.of (sm3 _ _ hlq), ?_⟩
   refine for_any (n := q.length) (IwEq H lp lq R D q r fs s) ?_ ?_ ?_ ?_ ?_
   ·exact ⟨v6, v7, rfl, sm3, hd3, by rw [stI_zero]; exact hr3⟩
   ·intro j σ H4 hj hQ
    obtain ⟨v6, v7, rfl, sm4, _⟩ := hQ
    exact ⟨_, _, SqL.of (sm4 _ _ hlq), at_ci hj⟩
   ·intro σ H4 hQ
    obtain ⟨v6, v7, rfl, sm4, _⟩ := hQ
    exact ⟨_, SqL.of (sm4 _ _ hlq), by lia⟩
   ·rintro j σ H4 y H5 hj hQ ⟨t2, x2, rfl, ht2, rfl, hx2⟩
    obtain ⟨v6, v7, rfl, sm4, hd4, hr4⟩ := hQ
    have hx2 := hx2 _ (SqL.of (sm4 _ _ hlq))
    rw [at_ci hj] at hx2
    cases hx2
    have st2 := Same.new (o := HO.tup [V.int (j : Nat), V.int (ci q j)]) ht2
    have hd5 := st2 _ _ hd4
    have hr5 := st2 _ _ hr4
    have hsl : (stI q s (efI q s r) r j).length = r.length := stI_len ..
    have hat : ((stI q s (efI q s r) r j).map V.int)[s + j]? = some (.int (ci r (s + j))) := by rw [List.getElem?_map, stI_at (by lia)]; rfl
    refine ⟨t2, _, rfl, SqT.of upd_same, rfl, _, _, rfl, _, _, rfl, rfl, ?_⟩
    refine ⟨_, rfl, _, rfl, _, rfl, _, _, rfl, rfl, R, _, _, _, rfl, rfl, SqL.of hr5, at_of (j := s + j) (by lia) hat, ?_⟩
    refine ⟨_, rfl, _, rfl, _, _, rfl, rfl, ⟨c, b, hfb, hb.ci j, by lia⟩, ?_⟩
    refine ⟨_, _, rfl, rfl, ?_⟩
    refine ⟨_, rfl, _, rfl, _, rfl, _, _, rfl, rfl, R, _, _, s + j, rfl, rfl, hr5, ?_, ?_⟩
    ·rw [show (s : Int) + (j : Int) = ((s + j : Nat) : Int) by lia]
     exact ix_nat (by rw [List.length_map]; lia)
    ·refine ⟨_, _, rfl, (sm4.trans st2).put hR, ?_, ?_⟩
     ·rw [upd_ne hDR]; exact hd5
     ·rw [upd_same, <- stI_set (by lia), List.map_set]
   ·intro σ H4 hQ
    obtain ⟨v6, v7, rfl, sm4, hd4, hr4⟩ := hQ
    refine ⟨_, _, _, _, rfl, sm4, est q s r, efI q s r :: fs, hr4, ?_, ?_, ?_, ?_⟩
    ·rw [show n - (i + 1) = s by lia]; exact hd4
    ·rw [List.length_cons]; lia
    ·rw [est_len]; exact hrl
    ·rw [hev, show n - (i + 1) = s by lia, List.append_assoc]; rfl
  ·intro σ H' hP
   obtain ⟨v4, v5, v6, v7, rfl, sm, r, fs, hr1, hd1, hfl, hrl, hev⟩ := hP
   rw [Nat.sub_self] at hev hd1
   have hev : exq p q = fs := hev
   refine hM3 _ _ ⟨_, rfl, k _ _ sm ⟨D, rfl, ?_⟩⟩
   rw [hev]
   exact hd1
abbrev s_square_free : Stmt := top 27
theorem sc_square_free : FnScope ["p", "base"] ["p"] (defScope s_square_free) := ⟨rfl, rfl, rfl, by decide +kernel, rfl, by decide +kernel, by decide +kernel⟩
set_option maxHeartbeats 4000000 in
theorem ok_square_free (T : Txt P mg) (C_primitive : Cal P w K mg base "primitive" 42 ["p"] (spI1 primI cPrm)) (C_exact_quotient : Cal P w K mg base "exact_quotient" 41 ["p", "q"] (spI2 exq cExq)) (C_whole_common_divisor : Cal P w K mg base "whole_common_divisor" 44 ["p", "q"] (spI2 wgI cCh)) (C_whole_derivative : Cal P w K mg base "whole_derivative" 41 ["p"] (spI1 deI cDe)) : ∀ f fd, Fun K "square_free" "square_free" s_square_free f fd -> FnOk P w K mg base CX0 45 f fd ["p"] (spI1 sfI cSfI) := by
 intro f fd F
 refine fun_ok F sc_square_free (fun vs H Q E h => ?_) (fun cdv A outer s H vs Q E hr h => ?_)
 ·rcases h with ⟨v, p, rfl, _⟩ <;> rfl
 ·rcases h with ⟨v, p, rfl, hP, ⟨hnm, hp0, hlen, s, hs, hlim⟩, k⟩
  all_goals refine ⟨_, (pss_cons (ps_set (i := 1) sc_square_free.nd rfl (Or.inl rfl) (pe_cal C_primitive hr rfl (pa_cons (pv 0) pa_nil)))
   (pss_one (ps_ret (pe_cal C_exact_quotient hr rfl (pa_cons (pv 1) (pa_cons (pe_cal C_whole_common_divisor hr rfl (pa_cons (pv 1) (pa_cons (pe_cal C_whole_derivative hr rfl (pa_cons (pv 1) pa_nil)) pa_nil))) pa_nil)))))), ?_⟩
  all_goals try dsimp only [cx_K]
  have hpr := pri_ip hnm hp0
  have hb := btI_of (prim_bd hnm hp0 (btI_bd hs)) (Nat.sub_lt (Nat.pow_pos (by decide)) (by decide))
  have hl1 : (primI p).length <= 17 := by rw [prim_len]; exact hlen
  refine ⟨_, rfl, v, p, rfl, hP, ⟨hnm, hp0, by lia⟩, fun H1 r1 s1 h1 => ?_⟩
  refine ⟨_, rfl, _, rfl, _, rfl, r1, primI p, rfl, h1, ⟨by lia, s, hb, by lia⟩, fun H2 r2 s2 h2 => ?_⟩
  have hde : btI (deI (primI p)) (s + 5) := by
   have h5 : (primI p).length <= 2 ^ 5 := Nat.le_trans (by lia : (primI p).length <= 32) (by decide)
   have z := de_bd (btI_bd hb)
   refine btI_of z ?_
   have : 0 < 2 ^ s := Nat.pow_pos (by decide)
   rw [Nat.pow_add]
   calc (primI p).length * (2 ^ s - 1) <= 2 ^ 5 * (2 ^ s - 1) := Nat.mul_le_mul_right _ h5
    _ < 2 ^ 5 * 2 ^ s := Nat.mul_lt_mul_of_pos_left (by lia) (by decide)
    _ = 2 ^ s * 2 ^ 5 := Nat.mul_comm _ _
  refine ⟨r1, r2, primI p, deI (primI p), rfl, h1.same s2, h2, ⟨hpr.nm, hpr.ne, de_nm hpr.nm, by rw [de_len]; lia, hl1, s + 5, hb.mono (by lia), hde, by lia⟩, fun H3 r3 s3 h3 => ?_⟩
  have hk := sfI_is hnm hp0
  obtain ⟨b1, b2⟩ := sfI_bits hnm hp0 hlen hs
  have hgl : (wgI (primI p) (deI (primI p))).length <= (primI p).length := by
   have e := hk.mul
   have l := mul_length (nm_ip.mpr hk.prs.nm) (nm_ip.mpr hk.prg.nm) (fun q => hk.prs.ne ((ip_nil _).mp q)) (fun q => hk.prg.ne ((ip_nil _).mp q))
   rw [<- e, ip_len, ip_len, ip_len] at l
   have := List.length_pos_iff.mpr hk.prs.ne
   lia
  exact ⟨r1, r3, primI p, wgI (primI p) (deI (primI p)), rfl, h1.same (s2.trans s3), h3, ⟨by lia, hk.prg.ne, hk.prg.nm, hgl, s + 200, s + 200, b2, b1, by lia⟩, fun H4 r4 s4 h4 => k _ _ (((s1.trans s2).trans s3).trans s4) h4⟩
abbrev s_sign_of : Stmt := top 29
theorem sc_sign_of : FnScope ["number"] ["number"] (defScope s_sign_of) := ⟨rfl, rfl, rfl, by decide +kernel, rfl, by decide +kernel, by decide +kernel⟩
set_option maxHeartbeats 4000000 in
theorem ok_sign_of (T : Txt P mg) : ∀ f fd, Fun K "sign_of" "sign_of" s_sign_of f fd -> FnOk P w K mg base CX0 41 f fd ["number"] spSi := by
 intro f fd F
 refine fun_ok F sc_sign_of (fun vs H Q E h => ?_) (fun cdv A outer s H vs Q E hr h => ?_)
 ·rcases h with ⟨n, rfl, _⟩ <;> rfl
 ·rcases h with ⟨n, rfl, k⟩
  all_goals refine ⟨_, (pss_cons (ps_if (pt_cmpR op_eq (pv 0) pe_int (nomark _)) (pss_one (ps_ret pe_int)) pss_nil)
   (pss_one (ps_ret (pe_ifExp (pt_cmpR op_gt (pv 0) pe_int (nomark _)) pe_int (pe_un un_neg pe_int))))), ?_⟩
  all_goals try dsimp only [cx_K]
  refine ⟨_, rfl, rfl, _, rfl, ?_⟩
  rw [dec_int]
  by_cases h0 : n = 0
  ·refine itP (decide_eq_true h0) ?_
   show Q (.int 0) H
   unfold si at k
   rw [if_pos h0] at k
   exact k
  refine itN (by simpa using h0) ?_
  unfold si at k
  rw [if_neg h0] at k
  refine ⟨_, rfl, _, _, rfl, rfl, _, rfl, ?_⟩
  by_cases h1 : 0 < n
  ·refine itP (decide_eq_true h1) ?_
   rw [if_pos h1] at k
   exact k
  ·refine itN (by simpa using h1) ?_
   rw [if_neg h1] at k
   exact ⟨_, rfl, k⟩
abbrev s_value_sign : Stmt := top 28
theorem sc_value_sign : FnScope ["p", "place", "value", "scale", "a"] ["p", "place"] (defScope s_value_sign) := ⟨rfl, rfl, rfl, by decide +kernel, rfl, by decide +kernel, by decide +kernel⟩
set_option maxHeartbeats 4000000 in
theorem ok_value_sign (T : Txt P mg) (C_sign_of : Cal P w K mg base "sign_of" 41 ["number"] spSi) : ∀ f fd, Fun K "value_sign" "value_sign" s_value_sign f fd -> FnOk P w K mg base CX0 42 f fd ["p", "place"] (spVs K) := by
 intro f fd F
 refine fun_ok F sc_value_sign (fun vs H Q E h => ?_) (fun cdv A outer s H vs Q E hr h => ?_)
 ·rcases h with ⟨u, v, p, t, b, s, m, rfl, _⟩ <;> rfl
 ·rcases h with ⟨u, v, p, t, b, s, m, rfl, ⟨l, rfl, hl⟩, ⟨a, rfl, hT⟩, hb0, hs, ht, hb, hlen, hlim, k⟩
  all_goals refine ⟨_, (pss_cons (ps_set (i := 2) sc_value_sign.nd rfl (Or.inl rfl) pe_int)
   (pss_cons (ps_set (i := 3) sc_value_sign.nd rfl (Or.inl rfl) pe_int)
   (pss_cons (ps_for PassesOwn.never rfl (pi_reversed rfl T.reversed (pa_cons (pv 0) pa_nil)) (pg_name (i := 4) sc_value_sign.nd rfl (Or.inl rfl)) (pss_cons (ps_set (i := 2) sc_value_sign.nd rfl (Or.inl rfl) (pe_op op_add (pe_op op_mulB (pv 2) (pe_ix ix_tup (pv 1) pe_int (fun _ _ => rfl))) (pe_op op_mulB (pv 4) (pv 3))))
   (pss_one (ps_set (i := 3) sc_value_sign.nd rfl (Or.inl rfl) (pe_op op_mulB (pv 3) (pe_ix ix_tup (pv 1) pe_int (fun _ _ => rfl)))))))
   (pss_one (ps_ret (pe_cal C_sign_of hr rfl (pa_cons (pv 2) pa_nil))))))), ?_⟩
  all_goals try dsimp only [cx_K]
  have evl : (p.map V.int).length = p.length := List.length_map ..
  refine seq_hide fun A1 hA1 => hA1 _ _ (seq_hide fun A2 hA2 => hA2 _ _ (seq_hide fun N hN => ?_))
  clear hA1 A1 hA2 A2
  refine ⟨_, rfl, l, _, rfl, SqL.of hl, ?_⟩
  refine for_any (n := (p.map V.int).length) (fun i σ H' => ∃ v4 : Option V, σ = [some (.ref l), some (.ref a), some (.int (hvI t b (p.drop (p.length - i)))), some (.int (b ^ i)), v4] /\ H' = H) ⟨none, ?_, rfl⟩ ?_ ?_ ?_ ?_
  ·rw [Nat.sub_zero, List.drop_length, Int.pow_zero]; rfl
  ·rintro i σ H' hi ⟨v4, rfl, rfl⟩
   exact ⟨hi, _, _, SqL.of hl, by rw [evl] at hi ⊢; exact at_ci (by lia)⟩
  ·intro σ H' _
   exact Nat.le_refl _
  ·rintro i σ H' y H'' hi ⟨v4, rfl, rfl⟩ ⟨rfl, hy⟩
   have hy := hy _ (SqL.of hl)
   rw [evl] at hi hy
   rw [at_ci (by lia)] at hy
   cases hy
   have hdl : (p.drop (p.length - i)).length = i := by rw [List.length_drop]; lia
   have hbt : btI (p.drop (p.length - i)) s := fun c hc => hs c (List.mem_of_mem_drop hc)
   have h1 := hvI_bits ht hb hbt
   rw [hdl] at h1
   have e1 : (m + 1) * (p.length + 2) = (m + 1) * p.length + ((m + 1) + (m + 1)) := by rw [Nat.mul_add]; lia
   have e2 : (m + 1) * i <= (m + 1) * p.length := Nat.mul_le_mul_left _ (by lia)
   have e3 : (m + 1) * i = m * i + i := Nat.succ_mul _ _
   refine ⟨_, rfl, _, rfl, a, _, _, _, rfl, rfl, hT, rfl, _, _, rfl, rfl, ⟨s + (m + 1) * i, m, h1, ht, by lia⟩, ?_⟩
   refine ⟨_, rfl, _, rfl, _, _, rfl, rfl, ⟨s, m * i + 1, hs.ci _, pow_bits hb i, by lia⟩, ?_⟩
   refine ⟨_, _, rfl, rfl, ?_⟩
   refine ⟨_, rfl, _, rfl, a, _, _, _, rfl, rfl, hT, rfl, _, _, rfl, rfl, ⟨m * i + 1, m, pow_bits hb i, hb, by lia⟩, ?_⟩
   refine ⟨some (.int (ci p (p.length - 1 - i))), ?_, rfl⟩
   have ed : p.drop (p.length - (i + 1)) = ci p (p.length - 1 - i) :: p.drop (p.length - i) := by
    have hlt : p.length - (i + 1) < p.length := by lia
    rw [List.drop_eq_getElem_cons hlt]
    have z := ci_lt (l := p) (i := p.length - 1 - i) (by lia)
    rw [List.getElem?_eq_getElem (by lia)] at z
    have z := Option.some.inj z
    rw [<- z]
    congr 1
    ·congr 1; lia
    ·congr 1; lia
   rw [ed]
   simp only [hvI, hdl, Int.pow_succ]
   rfl
  ·rintro σ H' ⟨v4, rfl, rfl⟩
   refine hN _ _ ?_
   rw [evl, Nat.sub_self, List.drop_zero]
   rw [<- hvI_sign hb0] at k
   exact ⟨_, rfl, _, rfl, k⟩
abbrev s_poly_product : Stmt := top 31
theorem sc_poly_product : FnScope ["p", "q", "product", "i", "a", "k", "b"] ["p", "q"] (defScope s_poly_product) := ⟨rfl, rfl, rfl, by decide +kernel, rfl, by decide +kernel, by decide +kernel⟩
set_option maxHeartbeats 4000000 in
theorem ok_poly_product (T : Txt P mg) (K_ZERO : Tc K mg "ZERO" z 0 1) (C_added : Cal P w K mg base "added" 43 ["a", "b"] (spBin K (fun x y => x + y) fun _ => True)) (C_times : Cal P w K mg base "times" 43 ["a", "b"] (spBinQ K (fun x y => x * y) fun _ => True)) : ∀ f fd, Fun K "poly_product" "poly_product" s_poly_product f fd -> FnOk P w K mg base CX0 44 f fd ["p", "q"] (spTwo K WrAlgn.mul cMul) := by
 intro f fd F
 refine fun_ok F sc_poly_product (fun vs H Q E h => ?_) (fun cdv A outer s H vs Q E hr h => ?_)
 ·rcases h with ⟨u, v, p, q, rfl, _⟩ <;> rfl
 ·rcases h with ⟨u, v, p, q, rfl, hP, hQ, ⟨hp9, hq9, hpn, hqn, n, hpz, hqz, hn⟩, k⟩
  all_goals refine ⟨_, (pss_cons (ps_if (PW.pt (pw_or (pt_cmpR (op_eqD hr.units) (pv 0) (pe_lst pa_nil) (nomark _)) (pw_or1 (pt_cmpR (op_eqD hr.units) (pv 1) (pe_lst pa_nil) (nomark _))))) (pss_one (ps_ret (pe_lst pa_nil))) pss_nil)
   (pss_cons (ps_set (i := 2) sc_poly_product.nd rfl (Or.inl rfl) (pe_op op_rep (pe_lst (pa_cons (g_pair K_ZERO) pa_nil)) (pe_op op_sub (pe_op op_add (pe_callB call_len_seq rfl T.len PySem.boot_len (pa_cons (pv 0) pa_nil)) (pe_callB call_len_seq rfl T.len PySem.boot_len (pa_cons (pv 1) pa_nil))) pe_int)))
   (pss_cons (ps_for PassesOwn.never rfl (pi_enum rfl T.enumerate (pa_cons (pv 0) pa_nil)) (pg_tup rfl (pgs_cons (pg_name (i := 3) sc_poly_product.nd rfl (Or.inl rfl)) (pgs_cons (pg_name (i := 4) sc_poly_product.nd rfl (Or.inl rfl)) pgs_nil))) (pss_one (ps_for PassesOwn.never rfl (pi_enum rfl T.enumerate (pa_cons (pv 1) pa_nil)) (pg_tup rfl (pgs_cons (pg_name (i := 5) sc_poly_product.nd rfl (Or.inl rfl)) (pgs_cons (pg_name (i := 6) sc_poly_product.nd rfl (Or.inl rfl)) pgs_nil))) (pss_one (ps_asg (pe_cal C_added hr rfl (pa_cons (pe_ix ix_list (pv 2) (pe_op op_add (pv 3) (pv 5)) (fun _ _ => rfl)) (pa_cons (pe_cal C_times hr rfl (pa_cons (pv 4) (pa_cons (pv 6) pa_nil))) pa_nil))) (pg_sub (pv 2) (pe_op op_add (pv 3) (pv 5)) set_list))))))
   (pss_one (ps_ret (pv 2)))))), ?_⟩
  all_goals try dsimp only [cx_K]
  refine ⟨_, rfl, Nat.zero_le _, fun p1 hp1 => ⟨_, _, dp_pairs (hP.same (Same.new hp1)), dp_nil upd_same, shaped_pairs _, shaped_nil, _, rfl, ?_⟩⟩
  rw [eqv_nil_pairs, map_pr_nil]
  have s1 := Same.new (o := HO.lst []) hp1
  by_cases h0 : p = []
  ·subst h0
   exact iteT (iteT ⟨Nat.zero_le _, fun r hr' => k _ _ (s1.trans (Same.new hr')) ⟨r, [], rfl, upd_same, .nil⟩⟩)
  rw [decide_eq_false h0]
  refine iteF ?_
  refine ⟨_, rfl, Nat.zero_le _, fun p2 hp2 => ⟨_, _, dp_pairs ((hQ.same s1).same (Same.new hp2)), dp_nil upd_same, shaped_pairs _, shaped_nil, _, rfl, ?_⟩⟩
  rw [eqv_nil_pairs, map_pr_nil]
  have s2 := s1.trans (Same.new (o := HO.lst []) hp2)
  by_cases h1 : q = []
  ·subst h1
   rw [mul_nil] at k
   exact iteT ⟨Nat.zero_le _, fun r hr' => k _ _ (s2.trans (Same.new hr')) ⟨r, [], rfl, upd_same, .nil⟩⟩
  rw [decide_eq_false h1]
  refine iteF ?_
  have lp0 : 0 < p.length := List.length_pos_iff.mpr h0
  have lq0 : 0 < q.length := List.length_pos_iff.mpr h1
  refine ⟨(by show 1 <= sizeLine; decide), fun p3 hp3 => ?_⟩
  have s3 := s2.trans (Same.new (o := HO.lst [.ref z]) hp3)
  obtain ⟨lp, vp, rfl, hlp, hvp⟩ := hP
  obtain ⟨lq, vq, rfl, hlq, hvq⟩ := hQ
  have evp : vp.length = p.length := by rw [hvp.len, List.length_map]
  have evq : vq.length = q.length := by rw [hvq.len, List.length_map]
  have ek : (((vp.length : Nat) : Int) + ((vq.length : Nat) : Int) - 1).toNat = p.length + q.length - 1 := by lia
  have hz16 : (2000 : Nat) <= sizeLine := by decide
  generalize hN : p.length + q.length - 1 = N at ek
  refine ⟨_, rfl, lp, vp, rfl, .inl (SqL.of (s3 _ _ hlp)), _, rfl, lq, vq, rfl, .inl (SqL.of (s3 _ _ hlq)), _, _, rfl, rfl, _, _, rfl, rfl, p3, _, _, rfl, rfl, upd_same, (by lia), (by lia), ?_, fun D hD => ?_⟩
  ·show 1 * (((vp.length : Nat) : Int) + ((vq.length : Nat) : Int) - 1).toNat <= sizeLine
   rw [ek]; lia
  rw [ek, flat_rep]
  have sD := Same.new (o := HO.lst (List.replicate N (V.ref z))) hD
  generalize hH3 : upd (upd (upd H p1 (.lst [])) p2 (.lst [])) p3 (.lst [.ref z]) = H3 at *
  have hlp3 := s3 _ _ hlp
  have hlq3 := s3 _ _ hlq
  have hvp3 := hvp.same s3
  have hvq3 := hvq.same s3
  refine ⟨_, rfl, lp, vp, rfl, SqL.of (sD _ _ hlp3), ?_⟩
  refine for_any (n := p.length) (IvPp K H3 lp lq D p q N) ?_ ?_ ?_ ?_ ?_
  ·refine ⟨none, none, none, none, rfl, sD, _, upd_same, ?_⟩
   rw [rowL_zero]
   exact rep_zero (K_ZERO.pv _) N
  ·intro i σ H' hi hP
   obtain ⟨v3, v4, v5, v6, rfl, sm, _⟩ := hP
   exact ⟨vp, vp[i]'(by lia), SqL.of (sm _ _ hlp3), List.getElem?_eq_getElem _⟩
  ·intro σ H' hP
   obtain ⟨v3, v4, v5, v6, rfl, sm, _⟩ := hP
   exact ⟨vp, SqL.of (sm _ _ hlp3), by lia⟩
  ·rintro i σ H' y H'' hi hP ⟨t, x1, rfl, ht, rfl, hx1⟩
   obtain ⟨v3, v4, v5, v6, rfl, sm, vs, hv, hw⟩ := hP
   have hx1 := hx1 vp (SqL.of (sm _ _ hlp3))
   obtain ⟨f1, hf1, g1⟩ := hvp3.get' hx1
   rw [List.getElem?_map, co_lt hi] at hf1
   cases hf1
   have st := Same.new (o := HO.tup [V.int (i : Nat), x1]) ht
   refine ⟨t, _, rfl, SqT.of upd_same, rfl, _, _, rfl, _, _, rfl, rfl, ?_⟩
   have smt := sm.trans st
   refine ⟨_, rfl, lq, vq, rfl, SqL.of (smt _ _ hlq3), ?_⟩
   refine for_any (n := q.length) (IwPp K H3 lp lq D p q N i x1) ?_ ?_ ?_ ?_ ?_
   ·exact ⟨v5, v6, rfl, smt, vs, st _ _ hv, hw.same st⟩
   ·intro j σ H4 hj hQ
    obtain ⟨v5, v6, rfl, sm4, _⟩ := hQ
    exact ⟨vq, vq[j]'(by lia), SqL.of (sm4 _ _ hlq3), List.getElem?_eq_getElem _⟩
   ·intro σ H4 hQ
    obtain ⟨v5, v6, rfl, sm4, _⟩ := hQ
    exact ⟨vq, SqL.of (sm4 _ _ hlq3), by lia⟩
   ·rintro j σ H4 y H5 hj hQ ⟨t2, x2, rfl, ht2, rfl, hx2⟩
    obtain ⟨v5, v6, rfl, sm4, ws, hv4, hw4⟩ := hQ
    have hx2 := hx2 vq (SqL.of (sm4 _ _ hlq3))
    obtain ⟨f2, hf2, g2⟩ := hvq3.get' hx2
    rw [List.getElem?_map, co_lt hj] at hf2
    cases hf2
    have st2 := Same.new (o := HO.tup [V.int (j : Nat), x2]) ht2
    have sm5 := sm4.trans st2
    have hv5 := st2 _ _ hv4
    have hw5 := hw4.same st2
    have hlt : i + j < N := by lia
    obtain ⟨u5, hu5, gu5⟩ := hw5.get (i := i + j) (x := pr (pm p q i (i + j))) (by
     rw [List.getElem?_map, rowL_get hlt, if_neg (by lia)]
     show some (pr (pm p q i (i + j) + 0)) = _
     rw [show pm p q i (i + j) + 0 = pm p q i (i + j) by grind])
    refine ⟨t2, _, rfl, SqT.of upd_same, rfl, _, _, rfl, _, _, rfl, rfl, ?_⟩
    have z1 : Sz (co p i) n := hpz _ (List.mem_of_getElem? (co_lt hi))
    have z2 : Sz (co q j) n := hqz _ (List.mem_of_getElem? (co_lt hj))
    have z3 := pm_sz hpz hqz i (i + j) (by lia)
    have hb : (i * (2 * n + 1) + 1) + (n + n) <= 134217728 := by
     have : i * (2 * n + 1) <= p.length * (2 * n + 1) := Nat.mul_le_mul_right _ (by lia)
     rw [Nat.succ_mul] at hn
     lia
    refine ⟨_, rfl, _, rfl, _, rfl, _, _, rfl, rfl, D, ws, _, u5, rfl, rfl, SqL.of hv5, at_of (j := i + j) (by lia) hu5, ?_⟩
    refine ⟨_, rfl, _, rfl, tim_q ⟨x1, x2, co p i, co q j, n, n, rfl, g1.same sm5, g2.same sm5, z1, z2, (by lia), trivial, fun H6 r6 s6 h6 => ?_⟩⟩
    refine ⟨u5, r6, pm p q i (i + j), co p i * co q j, _, _, rfl, gu5.same s6, h6, z3, z1.mul z2, hb, trivial, fun H7 r7 s7 h7 => ?_⟩
    have s57 := s6.trans s7
    have hv7 := s57 _ _ hv5
    have hwl : ws.length = N := by rw [hw4.len, List.length_map, rowL_len]
    refine ⟨_, rfl, _, rfl, _, rfl, _, _, rfl, rfl, D, ws, _, i + j, rfl, rfl, hv7, ?_, ?_⟩
    ·rw [show (i : Int) + (j : Int) = ((i + j : Nat) : Int) by lia]
     exact ix_nat (by lia)
    ·refine ⟨_, _, rfl, (sm5.trans s57).put hD, _, upd_same, ?_⟩
     rw [<- rowL_set hlt, List.map_set]
     exact ((hw5.same s57).put hv7).set (h7.put hv7) (i + j)
   ·intro σ H4 hQ
    obtain ⟨v5, v6, rfl, sm4, ws, hv4, hw4⟩ := hQ
    rw [rowL_next] at hw4
    exact ⟨_, _, _, _, rfl, sm4, ws, hv4, hw4⟩
  ·intro σ H' hP
   obtain ⟨v3, v4, v5, v6, rfl, sm, vs, hv, hw⟩ := hP
   refine ⟨_, rfl, k H' _ (s3.trans sm) ⟨D, vs, rfl, hv, ?_⟩⟩
   have e : rowL p q N p.length 0 = WrAlgn.mul p q := by
    refine prod_eq hpn hqn h0 h1 (by rw [rowL_len]; lia) fun j hj => ?_
    rw [rowL_len] at hj
    rw [co_of_get (rowL_get hj), if_neg (by lia)]; grind
   rw [<- e]
   exact hw
abbrev s_content : Stmt := top 32
theorem sc_content : FnScope ["p", "top", "bottom", "numerator", "denominator"] ["p"] (defScope s_content) := ⟨rfl, rfl, rfl, by decide +kernel, rfl, by decide +kernel, by decide +kernel⟩
set_option maxHeartbeats 4000000 in
theorem ok_content (T : Txt P mg) (C_whole_divisor : Cal P w K mg base "whole_divisor" 41 ["a", "b"] spWd) : ∀ f fd, Fun K "content" "content" s_content f fd -> FnOk P w K mg base CX0 42 f fd ["p"] (spCt K) := by
 intro f fd F
 refine fun_ok F sc_content (fun vs H Q E h => ?_) (fun cdv A outer s H vs Q E hr h => ?_)
 ·rcases h with ⟨v, p, a, d, rfl, _⟩ <;> rfl
 ·rcases h with ⟨v, p, a, d, rfl, ⟨l, vs, rfl, hl, hp⟩, hpn, hp0, hif, hlim, k⟩
  all_goals refine ⟨_, (pss_cons (ps_set (i := 1) sc_content.nd rfl (Or.inl rfl) pe_int)
   (pss_cons (ps_set (i := 2) sc_content.nd rfl (Or.inl rfl) pe_int)
   (pss_cons (ps_for PassesOwn.never rfl (pi_list (pv 0)) (pg_tup rfl (pgs_cons (pg_name (i := 3) sc_content.nd rfl (Or.inl rfl)) (pgs_cons (pg_name (i := 4) sc_content.nd rfl (Or.inl rfl)) pgs_nil))) (pss_cons (ps_set (i := 1) sc_content.nd rfl (Or.inl rfl) (pe_cal C_whole_divisor hr rfl (pa_cons (pv 1) (pa_cons (pv 3) pa_nil))))
   (pss_one (ps_set (i := 2) sc_content.nd rfl (Or.inl rfl) (pe_op op_mulB (pe_op (op_fdivB ⟨T.tree, _, _, rfl, rfl, rfl, rfl, rfl⟩ hr) (pv 2) (pe_cal C_whole_divisor hr rfl (pa_cons (pv 2) (pa_cons (pv 4) pa_nil)))) (pv 4))))))
   (pss_one (ps_ret (pe_ifExp (pt_cmpR op_gt (pe_ix ix_tup (pe_ix ix_list (pv 0) (pe_un un_neg pe_int) (fun _ _ => rfl)) pe_int (fun _ _ => rfl)) pe_int (nomark _)) (pe_tup (pa_cons (pv 1) (pa_cons (pv 2) pa_nil))) (pe_tup (pa_cons (pe_un un_neg (pv 1)) (pa_cons (pv 2) pa_nil))))))))), ?_⟩
  all_goals try dsimp only [cx_K]
  have hvl : vs.length = p.length := by rw [hp.len, List.length_map]
  have lp0 : 0 < p.length := List.length_pos_iff.mpr hp0
  refine seq_hide fun A1 hA1 => hA1 _ _ (seq_hide fun A2 hA2 => hA2 _ _ (seq_hide fun N hN => ?_))
  clear hA1 A1 hA2 A2
  refine ⟨_, rfl, l, rfl, ⟨vs, SqL.of hl⟩, ?_⟩
  refine for_any (n := p.length) (fun i σ H' => ∃ v3 v4 : Option V, σ = [some (.ref l), some (.int ((cTop (p.take i) : Nat) : Int)), some (.int ((cBot (p.take i) : Nat) : Int)), v3, v4] /\ H' = H) ⟨none, none, rfl, rfl⟩ ?_ ?_ ?_ ?_
  ·rintro i σ H' hi ⟨v3, v4, rfl, rfl⟩
   exact ⟨vs, vs[i]'(by lia), SqL.of hl, List.getElem?_eq_getElem _⟩
  ·rintro σ H' ⟨v3, v4, rfl, rfl⟩
   exact ⟨vs, SqL.of hl, by lia⟩
  ·rintro i σ H' y H'' hi ⟨v3, v4, rfl, rfl⟩ ⟨rfl, hy⟩
   have hy := hy vs (SqL.of hl)
   obtain ⟨f, hf, t, rfl, g⟩ := hp.get' hy
   rw [List.getElem?_map, co_lt hi] at hf
   cases hf
   generalize hc : co p i = c at g
   have hci : p[i]? = some c := by rw [<- hc]; exact co_lt hi
   have hcm : c ∈ p := List.mem_of_getElem? hci
   refine ⟨t, _, rfl, g, rfl, _, _, rfl, _, _, rfl, rfl, ?_⟩
   refine ⟨_, rfl, _, rfl, _, _, rfl, ?_⟩
   have hb0 := cBot_pos (p.take i)
   have hg : Int.gcd ((cBot (p.take i) : Nat) : Int) (pr c).2 = Nat.gcd (cBot (p.take i)) c.den := rfl
   have hgp : 0 < Nat.gcd (cBot (p.take i)) c.den := Nat.gcd_pos_of_pos_left _ hb0
   have ed : (((cBot (p.take i) : Nat) : Int)).fdiv ((Nat.gcd (cBot (p.take i)) c.den : Nat) : Int) = ((cBot (p.take i) / Nat.gcd (cBot (p.take i)) c.den : Nat) : Int) := by
    rw [Int.fdiv_eq_ediv_of_nonneg _ (by lia)]; rfl
   have hdd : cBot (p.take i) ∣ cBot p := cBot_dvd_of _ fun x hx => den_dvd_cBot p x (List.mem_of_mem_take hx)
   have hbl := hif.den
   have hbl1 : cBot (p.take i) < 2 ^ d := Nat.lt_of_le_of_lt (Nat.le_of_dvd (cBot_pos p) hdd) hbl
   have hbl2 : c.den < 2 ^ d := Nat.lt_of_le_of_lt (Nat.le_of_dvd (cBot_pos p) (den_dvd_cBot p c hcm)) hbl
   refine ⟨_, rfl, _, rfl, _, rfl, _, _, rfl, _, _, rfl, rfl, (by show ((Int.gcd ((cBot (p.take i) : Nat) : Int) (pr c).2 : Nat) : Int) ≠ 0; rw [hg]; lia), ?_⟩
   refine ⟨_, rfl, _, _, rfl, rfl, ⟨d, d, ?_, ?_, by lia⟩, ?_⟩
   ·show (Int.fdiv ((cBot (p.take i) : Nat) : Int) ((Int.gcd ((cBot (p.take i) : Nat) : Int) (pr c).2 : Nat) : Int)).natAbs < _
    rw [hg, ed, Int.natAbs_natCast]
    exact Nat.lt_of_le_of_lt (Nat.div_le_self _ _) hbl1
   ·show (((c.den : Nat) : Int)).natAbs < _
    rw [Int.natAbs_natCast]; exact hbl2
   ·refine ⟨some (.int (pr c).1), some (.int (pr c).2), ?_, rfl⟩
    have e1 : cTop (p.take (i + 1)) = Nat.gcd (cTop (p.take i)) c.num.natAbs := by rw [take_snoc hci, cTop_snoc]
    have e2 : cBot (p.take (i + 1)) = cBot (p.take i) / Nat.gcd (cBot (p.take i)) c.den * c.den := by
     rw [take_snoc hci, cBot_snoc]
     unfold Nat.lcm
     rw [Nat.mul_comm, Nat.mul_div_assoc _ (Nat.gcd_dvd_left _ _), Nat.mul_comm]
    rw [e1, e2]
    show [some (V.ref l), some (V.int ((Int.gcd ((cTop (p.take i) : Nat) : Int) (pr c).1 : Nat) : Int)), some (V.int (Int.fdiv ((cBot (p.take i) : Nat) : Int) ((Int.gcd ((cBot (p.take i) : Nat) : Int) (pr c).2 : Nat) : Int) * (pr c).2)), some (V.int (pr c).1), some (V.int (pr c).2)] = _
    rw [hg, ed]
    rfl
  ·rintro σ H' ⟨v3, v4, rfl, rfl⟩
   refine hN _ _ ?_
   rw [List.take_length]
   obtain ⟨u, hu, t, rfl, g⟩ := hp.get (i := p.length - 1) (x := pr (co p (p.length - 1))) (by rw [List.getElem?_map, co_lt (by lia)]; rfl)
   rw [<- lead_co] at g
   refine ⟨_, rfl, _, rfl, l, vs, _, _, rfl, rfl, SqL.of hl, at_m1 (n := p.length - 1) (by lia) hu, t, _, _, _, rfl, rfl, g, rfl, _, _, rfl, rfl, _, rfl, ?_⟩
   have fin : ∀ (r : Addr) (x : Int), H' r = none -> x = cNum p -> Q (.ref r) (upd H' r (.tup [.int x, .int ((cBot p : Nat) : Int)])) := by
    rintro r x hr' rfl
    refine k _ _ (Same.new hr') ⟨r, rfl, SqT.of ?_⟩
    rw [upd_same]
    show _ = some (HO.tup [.int (ct p).num, .int (((ct p).den : Nat) : Int)])
    rw [ct_num, ct_den]
   by_cases hpos : 0 < (WrAlgn.lead p).num
   ·refine itP (decide_eq_true hpos) ?_
    exact ⟨_, rfl, _, rfl, (by show 2 <= sizeLine; decide), fun r hr' => fin r _ hr' (by unfold cNum; rw [if_pos hpos])⟩
   ·refine itN (fun z => hpos (of_decide_eq_true z)) ?_
    exact ⟨_, rfl, _, rfl, _, rfl, (by show 2 <= sizeLine; decide), fun r hr' => fin r _ hr' (by unfold cNum; rw [if_neg hpos])⟩
abbrev s_divided_by : Stmt := top 33
theorem sc_divided_by : FnScope ["p", "number", "a"] ["p", "number"] (defScope s_divided_by) := ⟨rfl, rfl, rfl, by decide +kernel, rfl, by decide +kernel, by decide +kernel⟩
set_option maxHeartbeats 4000000 in
theorem ok_divided_by (T : Txt P mg) (C_over : Cal P w K mg base "over" 43 ["a", "b"] (spBin K (fun x y => x / y) fun y => y ≠ 0)) : ∀ f fd, Fun K "divided_by" "divided_by" s_divided_by f fd -> FnOk P w K mg base CX0 44 f fd ["p", "number"] (spDvb K) := by
 intro f fd F
 refine fun_ok F sc_divided_by (fun vs H Q E h => ?_) (fun cdv A outer s H vs Q E hr h => ?_)
 ·rcases h with ⟨u, v, p, x, m, n, rfl, _⟩ <;> rfl
 ·rcases h with ⟨u, v, p, x, m, n, rfl, ⟨l, vs, rfl, hl, hp⟩, hx, hx0, hpz, hxz, hlim, hlen, k⟩
  all_goals refine ⟨_, (pss_one (ps_ret (pe_lc rfl sc_divided_by.nd (pi_list (pv 0)) (own := [("a", 2)]) (blkOk_by (N := ["p", "number", "a"]) (sc := defScope s_divided_by) (by decide +kernel)) (fun _ _ _ _ _ => (pg_name (i := 2) sc_divided_by.nd rfl (Or.inl rfl))) (fun _ _ _ _ _ => pts_nil) (fun _ _ _ _ _ => (pe_cal C_over hr rfl (pa_cons (pv 2) (pa_cons (pv 1) pa_nil))))))), ?_⟩
  all_goals try dsimp only [cx_K]
  have hvl : vs.length = p.length := by rw [hp.len, List.length_map]
  refine ⟨_, rfl, l, rfl, ⟨vs, SqL.of hl⟩, fun D hD => ?_⟩
  refine lc_any (n := p.length) (fun i H' => ∃ ws, H' D = some (.lst ws) /\ PrVs K H' ws (((p.map fun c => c / x).take i).map pr) /\ Same H H') ⟨[], upd_same, .nil, Same.new hD⟩ ?_ ?_ ?_ ?_
  ·rintro i H' hi ⟨ws, hv, _, sm⟩
   exact ⟨vs, vs[i]'(by lia), SqL.of (sm _ _ hl), List.getElem?_eq_getElem _⟩
  ·rintro H' ⟨ws, hv, _, sm⟩
   exact ⟨vs, SqL.of (sm _ _ hl), by lia⟩
  ·rintro i H' y H'' hi ⟨ws, hv, hw, sm⟩ ⟨rfl, hy⟩
   have hy := hy vs (SqL.of (sm _ _ hl))
   obtain ⟨f, hf, g⟩ := hp.get' hy
   rw [List.getElem?_map, co_lt hi] at hf
   cases hf
   have hwl : ws.length = i := by rw [hw.len, List.length_map, List.length_take, List.length_map]; lia
   refine ⟨rfl, ?_⟩
   unfold tYes
   refine iteT ?_
   refine ⟨_, rfl, _, rfl, y, v, co p i, x, m, n, rfl, g.same sm, hx.same sm, hpz _ (List.mem_of_getElem? (co_lt hi)), hxz, hlim, hx0, fun H3 r3 s3 h3 => ?_⟩
   have hv3 := s3 _ _ hv
   refine ⟨ws, hv3, (by rw [hwl]; exact Nat.lt_of_lt_of_le (by lia : i < 1000) (by decide)), ws ++ [r3], upd_same, ?_, (sm.trans s3).put hD⟩
   rw [take_snoc (x := co p i / x) (by rw [List.getElem?_map, co_lt hi]; rfl), List.map_append]
   exact PrVs.snoc (h3.put hv3) ((hw.same s3).put hv3)
  ·rintro H' ⟨ws, hv, hw, sm⟩
   rw [List.take_of_length_le (by rw [List.length_map]; lia)] at hw
   exact k H' _ sm ⟨D, ws, rfl, hv, hw⟩
abbrev s_whole_part : Stmt := top 34
theorem sc_whole_part : FnScope ["p", "top", "bottom"] ["p"] (defScope s_whole_part) := ⟨rfl, rfl, rfl, by decide +kernel, rfl, by decide +kernel, by decide +kernel⟩
set_option maxHeartbeats 4000000 in
theorem ok_whole_part (T : Txt P mg) (C_divided_by : Cal P w K mg base "divided_by" 44 ["p", "number"] (spDvb K)) (C_content : Cal P w K mg base "content" 42 ["p"] (spCt K)) : ∀ f fd, Fun K "whole_part" "whole_part" s_whole_part f fd -> FnOk P w K mg base CX0 45 f fd ["p"] (spWp K wp cWp) := by
 intro f fd F
 refine fun_ok F sc_whole_part (fun vs H Q E h => ?_) (fun cdv A outer s H vs Q E hr h => ?_)
 ·rcases h with ⟨v, p, rfl, _⟩ <;> rfl
 ·rcases h with ⟨v, p, rfl, hP, ⟨hlen, hpn, hp0, a, d, hif, hlim⟩, k⟩
  all_goals refine ⟨_, (pss_one (ps_ret (pe_lc rfl sc_whole_part.nd (pi_list (pe_cal C_divided_by hr rfl (pa_cons (pv 0) (pa_cons (pe_cal C_content hr rfl (pa_cons (pv 0) pa_nil)) pa_nil)))) (own := [("top", 1), ("bottom", 2)]) (blkOk_by (N := ["p", "top", "bottom"]) (sc := defScope s_whole_part) (by decide +kernel)) (fun _ _ _ _ _ => (show PG _ _ (gTup K 2 _) from (pg_tup rfl (pgs_cons (pg_name (i := 1) sc_whole_part.nd rfl (Or.inl rfl)) (pgs_cons (pg_name (i := 2) sc_whole_part.nd rfl (Or.inl rfl)) pgs_nil))))) (fun _ _ _ _ _ => pts_nil) (fun _ _ _ _ _ => (pv 1))))), ?_⟩
  all_goals try dsimp only [cx_K]
  refine ⟨_, rfl, _, rfl, v, p, a, d, rfl, hP, hpn, hp0, hif, (by lia), fun H1 r1 s1 h1 => ?_⟩
  have hz : Sz (ct p) (a + d) := by
   refine ⟨?_, ?_⟩
   ·rw [ct_num, cNum_abs]
    have h1 := Nat.le_of_dvd (Int.natAbs_pos.mpr (num_ne (lead_ne hpn hp0))) (cTop_dvd p _ (lead_mem hp0))
    exact Nat.lt_of_le_of_lt h1 (Nat.lt_of_lt_of_le (hif.szm (lead_mem hp0)).num (pow_le (by lia)))
   ·rw [ct_den]
    exact Nat.lt_of_lt_of_le hif.den (pow_le (by lia))
  refine ⟨v, r1, p, ct p, a + d, a + d, rfl, hP.same s1, h1, ct_ne hpn hp0, fun c hc => (hif.szm hc).mono (by lia), hz, (by lia), hlen, fun H2 r2 s2 h2 => ?_⟩
  rw [<- part_eq hpn hp0] at h2
  obtain ⟨l, vs, rfl, hl, hv⟩ := h2
  have hpl := part_len hpn hp0
  have hvl : vs.length = p.length := by rw [hv.len, List.length_map, hpl]
  refine ⟨l, rfl, ⟨vs, SqL.of hl⟩, fun D hD => ?_⟩
  refine lc_any (n := p.length) (fun i H' => H' D = some (.lst (((wp p).take i).map V.int)) /\ Same H2 H') ⟨upd_same, Same.new hD⟩ ?_ ?_ ?_ ?_
  ·rintro i H' hi ⟨_, sm⟩
   exact ⟨vs, vs[i]'(by lia), SqL.of (sm _ _ hl), List.getElem?_eq_getElem _⟩
  ·rintro H' ⟨_, sm⟩
   exact ⟨vs, SqL.of (sm _ _ hl), by lia⟩
  ·rintro i H' y H'' hi ⟨hd, sm⟩ ⟨rfl, hy⟩
   have hy := hy vs (SqL.of (sm _ _ hl))
   obtain ⟨f, hfx, t, rfl, hq⟩ := hv.get' hy
   rw [List.getElem?_map, co_lt (by lia)] at hfx
   cases hfx
   refine ⟨t, _, rfl, sm.tup hq, rfl, _, _, rfl, _, _, rfl, rfl, rfl, ?_⟩
   unfold tYes
   refine iteT ?_
   refine ⟨_, rfl, _, hd, ?_, ?_, sm.put hD⟩
   ·rw [List.length_map, List.length_take]
    exact Nat.lt_of_le_of_lt (Nat.le_trans (Nat.min_le_left _ _) (by lia : i <= 1000)) (by decide)
   ·rw [upd_same, take_snoc (l := wp p) (x := (co (WrAlgn.part p) i).num) (by unfold wp; rw [List.getElem?_map, co_lt (by lia)]; rfl), List.map_append]
    rfl
  ·rintro H' ⟨hd, sm⟩
   rw [List.take_of_length_le (by rw [wp_len hpn hp0]; lia)] at hd
   exact k _ _ ((s1.trans s2).trans sm) ⟨D, rfl, hd⟩
abbrev s_of_whole : Stmt := top 35
theorem sc_of_whole : FnScope ["p", "a"] ["p"] (defScope s_of_whole) := ⟨rfl, rfl, rfl, by decide +kernel, rfl, by decide +kernel, by decide +kernel⟩
set_option maxHeartbeats 4000000 in
theorem ok_of_whole (T : Txt P mg) : ∀ f fd, Fun K "of_whole" "of_whole" s_of_whole f fd -> FnOk P w K mg base CX0 41 f fd ["p"] (spOw K) := by
 intro f fd F
 refine fun_ok F sc_of_whole (fun vs H Q E h => ?_) (fun cdv A outer s H vs Q E hr h => ?_)
 ·rcases h with ⟨v, p, rfl, _⟩ <;> rfl
 ·rcases h with ⟨v, p, rfl, ⟨l, rfl, hl⟩, hlen, k⟩
  all_goals refine ⟨_, (pss_one (ps_ret (pe_lc rfl sc_of_whole.nd (pi_list (pv 0)) (own := [("a", 1)]) (blkOk_by (N := ["p", "a"]) (sc := defScope s_of_whole) (by decide +kernel)) (fun _ _ _ _ _ => (pg_name (i := 1) sc_of_whole.nd rfl (Or.inl rfl))) (fun _ _ _ _ _ => pts_nil) (fun _ _ _ _ _ => (pe_tup (pa_cons (pv 1) (pa_cons pe_int pa_nil))))))), ?_⟩
  all_goals try dsimp only [cx_K]
  have hml : (p.map V.int).length = p.length := List.length_map ..
  refine ⟨_, rfl, l, rfl, ⟨_, SqL.of hl⟩, fun D hD => ?_⟩
  refine lc_any (n := p.length) (fun i H' => ∃ ws, H' D = some (.lst ws) /\ PrVs K H' ws (((ip p).take i).map pr) /\ Same H H') ⟨[], upd_same, .nil, Same.new hD⟩ ?_ ?_ ?_ ?_
  ·rintro i H' hi ⟨ws, hv, _, sm⟩
   exact ⟨_, _, SqL.of (sm _ _ hl), at_ci hi⟩
  ·rintro H' ⟨ws, hv, _, sm⟩
   exact ⟨_, SqL.of (sm _ _ hl), by lia⟩
  ·rintro i H' y H'' hi ⟨ws, hv, hw, sm⟩ ⟨rfl, hy⟩
   have hy := hy _ (SqL.of (sm _ _ hl))
   rw [at_ci hi] at hy
   cases hy
   have hwl : ws.length = i := by rw [hw.len, List.length_map, List.length_take, ip_len]; lia
   refine ⟨rfl, ?_⟩
   unfold tYes
   refine iteT ?_
   refine ⟨_, rfl, (by show 2 <= sizeLine; decide), fun t3 ht3 => ?_⟩
   have st3 := Same.new (o := HO.tup [V.int (ci p i), V.int 1]) ht3
   have hv3 := st3 _ _ hv
   refine ⟨ws, hv3, (by rw [hwl]; exact Nat.lt_of_le_of_lt (by lia : i <= 1000) (by decide)), ws ++ [.ref t3], upd_same, ?_, (sm.trans st3).put hD⟩
   rw [take_snoc (l := ip p) (x := ((ci p i : Int) : Rat)) (by unfold ip; rw [List.getElem?_map, ci_lt hi]; rfl), List.map_append]
   exact PrVs.snoc (PrV.put (x := pr ((ci p i : Int) : Rat)) ⟨t3, rfl, SqT.of upd_same⟩ hv3) ((hw.same st3).put hv3)
  ·rintro H' ⟨ws, hv, hw, sm⟩
   rw [List.take_of_length_le (by rw [ip_len]; lia)] at hw
   exact k H' _ sm ⟨D, ws, rfl, hv, hw⟩
abbrev s_whole_square_free_part : Stmt := top 36
theorem sc_whole_square_free_part : FnScope ["p"] ["p"] (defScope s_whole_square_free_part) := ⟨rfl, rfl, rfl, by decide +kernel, rfl, by decide +kernel, by decide +kernel⟩
set_option maxHeartbeats 4000000 in
theorem ok_whole_square_free_part (T : Txt P mg) (C_square_free : Cal P w K mg base "square_free" 45 ["p"] (spI1 sfI cSfI)) (C_whole_part : Cal P w K mg base "whole_part" 45 ["p"] (spWp K wp cWp)) : ∀ f fd, Fun K "whole_square_free_part" "whole_square_free_part" s_whole_square_free_part f fd -> FnOk P w K mg base CX0 46 f fd ["p"] (spWp K (fun p => sfI (wp p)) cWsf) := by
 intro f fd F
 refine fun_ok F sc_whole_square_free_part (fun vs H Q E h => ?_) (fun cdv A outer s H vs Q E hr h => ?_)
 ·rcases h with ⟨v, p, rfl, _⟩ <;> rfl
 ·rcases h with ⟨v, p, rfl, hP, ⟨hlen, hpn, hp0, a, d, hif, ha, hlim⟩, k⟩
  all_goals refine ⟨_, (pss_one (ps_ret (pe_cal C_square_free hr rfl (pa_cons (pe_cal C_whole_part hr rfl (pa_cons (pv 0) pa_nil)) pa_nil)))), ?_⟩
  all_goals try dsimp only [cx_K]
  refine ⟨_, rfl, v, p, rfl, hP, ⟨by lia, hpn, hp0, a, d, hif, hlim⟩, fun H1 r1 s1 h1 => ?_⟩
  have hw := pri_wp hpn hp0
  exact ⟨r1, wp p, rfl, h1, ⟨hw.nm, hw.ne, by rw [wp_len hpn hp0]; exact hlen, a, btI_wp hpn hp0 hif, ha⟩, fun H2 r2 s2 h2 => k _ _ (s1.trans s2) h2⟩
abbrev s_value_at : Stmt := top 37
theorem sc_value_at : FnScope ["p", "place", "value", "a"] ["p", "place"] (defScope s_value_at) := ⟨rfl, rfl, rfl, by decide +kernel, rfl, by decide +kernel, by decide +kernel⟩
set_option maxHeartbeats 4000000 in
theorem ok_value_at (T : Txt P mg) (K_ZERO : Tc K mg "ZERO" z 0 1) (C_added : Cal P w K mg base "added" 43 ["a", "b"] (spBin K (fun x y => x + y) fun _ => True)) (C_times : Cal P w K mg base "times" 43 ["a", "b"] (spBinQ K (fun x y => x * y) fun _ => True)) : ∀ f fd, Fun K "value_at" "value_at" s_value_at f fd -> FnOk P w K mg base CX0 44 f fd ["p", "place"] (spVal K) := by
 intro f fd F
 refine fun_ok F sc_value_at (fun vs H Q E h => ?_) (fun cdv A outer s H vs Q E hr h => ?_)
 ·rcases h with ⟨u, v, p, x, m, rfl, _⟩ <;> rfl
 ·rcases h with ⟨u, v, p, x, m, rfl, ⟨l, vs, rfl, hl, hp⟩, hv, hx0, hpz, hx1, hx2, hm, hlen, k⟩
  all_goals refine ⟨_, (pss_cons (ps_set (i := 2) sc_value_at.nd rfl (Or.inl rfl) (g_pair K_ZERO))
   (pss_cons (ps_for PassesOwn.never rfl (pi_reversed rfl T.reversed (pa_cons (pv 0) pa_nil)) (pg_name (i := 3) sc_value_at.nd rfl (Or.inl rfl)) (pss_one (ps_set (i := 2) sc_value_at.nd rfl (Or.inl rfl) (pe_cal C_added hr rfl (pa_cons (pe_cal C_times hr rfl (pa_cons (pv 2) (pa_cons (pv 1) pa_nil))) (pa_cons (pv 3) pa_nil))))))
   (pss_one (ps_ret (pv 2))))), ?_⟩
  all_goals try dsimp only [cx_K]
  have hxz := sz_frac hx0 hx1 hx2
  have hlim : ∀ i, i < vs.length -> 1 + (m + 21) * i + m + 20 <= 134217728 := fun i hi => by
   have : (m + 21) * i <= 5000021 * 9 := Nat.mul_le_mul (by lia) (by rw [hp.len, List.length_map] at hi; lia)
   lia
  have hvl : vs.length = p.length := by rw [hp.len, List.length_map]
  refine seq_hide fun A1 hA1 => hA1 _ _ (seq_hide fun N hN => ?_)
  clear hA1 A1
  refine ⟨_, rfl, l, vs, rfl, SqL.of hl, ?_⟩
  let val : Nat -> Rat := fun i => (p.reverse.take i).foldl (fun v a => v * ofFrac x + a) 0
  refine for_any (n := vs.length) (fun i σ H' => ∃ (r : V) (v4 : Option V), σ = [some (.ref l), some v, some r, v4] /\ Same H H' /\ FrV K H' r (val i) /\ Sz (val i) (1 + (m + 21) * i)) ⟨.ref z, none, rfl, Same.refl H, K_ZERO.pv H, zero_sz⟩ ?_ ?_ ?_ ?_
  ·rintro i σ H' hi ⟨r, v4, rfl, sm, _⟩
   exact ⟨hi, vs, vs[vs.length - 1 - i]'(by omega), SqL.of (sm _ _ hl), List.getElem?_eq_getElem _⟩
  ·intro σ H' _
   exact Nat.le_refl _
  ·rintro i σ H' y H'' hi ⟨r, v4, rfl, sm, hr', hz⟩ ⟨rfl, hy⟩
   have hy := hy vs (SqL.of (sm _ _ hl))
   obtain ⟨f, hfx, hq⟩ := hp.get' hy
   rw [List.getElem?_map] at hfx
   obtain ⟨c, hc, rfl⟩ := Option.map_eq_some_iff.mp hfx
   have hci : p.reverse[i]? = some c := by
    rw [List.getElem?_reverse (by lia), <- hvl]
    exact hc
   have hcz : Sz c 20 := hpz c (List.mem_of_getElem? hc)
   have e1 : val (i + 1) = val i * ofFrac x + c := by
    show (p.reverse.take (i + 1)).foldl _ 0 = _
    rw [take_snoc hci, List.foldl_append]
    rfl
   have hb := hlim i hi
   refine ⟨_, rfl, _, rfl, r, v, pr (val i), x, _, m, rfl, hr', hv.same sm, Int.natCast_pos.mpr (val i).den_pos, hx0, hz.num, hz.den, hx1, hx2, (by lia), trivial, fun H3 r3 s3 h3 => ?_⟩
   rw [ofFrac_pr] at h3
   refine ⟨_, rfl, r3, _, val i * ofFrac x, c, _, 20, rfl, h3, (hq.same (sm.trans s3)), hz.mul hxz, hcz, (by omega), trivial, fun H4 r4 s4 h4 => ?_⟩
   refine ⟨r4, _, rfl, (sm.trans s3).trans s4, ?_, ?_⟩
   ·rw [e1]
    exact h4
   ·rw [e1]
    exact ((hz.mul hxz).add hcz).mono (by rw [Nat.mul_succ]; lia)
  ·rintro σ H' ⟨r, v4, rfl, sm, h, _⟩
   refine hN _ _ ⟨_, rfl, k H' r sm ?_⟩
   have e : val vs.length = WrAlgn.at_ p (ofFrac x) := by
    rw [<- at_rev]
    show (p.reverse.take vs.length).foldl _ 0 = _
    rw [List.take_of_length_le (by rw [List.length_reverse]; lia)]
   rw [<- e]
   exact h
abbrev s_sturm_chain : Stmt := top 40
theorem sc_sturm_chain : FnScope ["p"] ["p"] (defScope s_sturm_chain) := ⟨rfl, rfl, rfl, by decide +kernel, rfl, by decide +kernel, by decide +kernel⟩
set_option maxHeartbeats 4000000 in
theorem ok_sturm_chain (T : Txt P mg) (C_remainder_chain : Cal P w K mg base "remainder_chain" 43 ["p", "q"] (spCh chI cCh)) (C_whole_derivative : Cal P w K mg base "whole_derivative" 41 ["p"] (spI1 deI cDe)) : ∀ f fd, Fun K "sturm_chain" "sturm_chain" s_sturm_chain f fd -> FnOk P w K mg base CX0 44 f fd ["p"] spSc := by
 intro f fd F
 refine fun_ok F sc_sturm_chain (fun vs H Q E h => ?_) (fun cdv A outer s H vs Q E hr h => ?_)
 ·rcases h with ⟨v, p, rfl, _⟩ <;> rfl
 ·rcases h with ⟨v, p, rfl, hP, hn, hp0, hlen, ⟨s, hs, hlim⟩, k⟩
  all_goals refine ⟨_, (pss_one (ps_ret (pe_cal C_remainder_chain hr rfl (pa_cons (pv 0) (pa_cons (pe_cal C_whole_derivative hr rfl (pa_cons (pv 0) pa_nil)) pa_nil))))), ?_⟩
  all_goals try dsimp only [cx_K]
  refine ⟨_, rfl, _, rfl, v, p, rfl, hP, ⟨by lia, s, hs, by lia⟩, fun H1 r1 s1 h1 => ?_⟩
  have hde : btI (deI p) (s + 5) := by
   have h5 : p.length <= 2 ^ 5 := Nat.le_trans (by lia : p.length <= 32) (by decide)
   refine btI_of (de_bd (btI_bd hs)) ?_
   have : 0 < 2 ^ s := Nat.pow_pos (by decide)
   rw [Nat.pow_add]
   calc p.length * (2 ^ s - 1) <= 2 ^ 5 * (2 ^ s - 1) := Nat.mul_le_mul_right _ h5
    _ < 2 ^ 5 * 2 ^ s := Nat.mul_lt_mul_of_pos_left (by lia) (by decide)
    _ = 2 ^ s * 2 ^ 5 := Nat.mul_comm _ _
  exact ⟨v, r1, p, deI p, rfl, hP.same s1, h1, ⟨hn, hp0, de_nm hn, by rw [de_len]; lia, hlen, s + 5, hs.mono (by lia), hde, by lia⟩, fun H2 r2 s2 h2 => k _ _ (s1.trans s2) h2⟩
abbrev s_changes : Stmt := top 41
theorem sc_changes : FnScope ["signs", "seen", "sign", "k"] ["signs"] (defScope s_changes) := ⟨rfl, rfl, rfl, by decide +kernel, rfl, by decide +kernel, by decide +kernel⟩
set_option maxHeartbeats 4000000 in
theorem ok_changes (T : Txt P mg) : ∀ f fd, Fun K "changes" "changes" s_changes f fd -> FnOk P w K mg base CX0 41 f fd ["signs"] spChg := by
 intro f fd F
 refine fun_ok F sc_changes (fun vs H Q E h => ?_) (fun cdv A outer s H vs Q E hr h => ?_)
 ·rcases h with ⟨v, l, rfl, _⟩ <;> rfl
 ·rcases h with ⟨v, l, rfl, ⟨a, rfl, hl⟩, hlen, k⟩
  all_goals refine ⟨_, (pss_cons (ps_set (i := 1) sc_changes.nd rfl (Or.inr rfl) (pe_lc rfl sc_changes.nd (pi_list (pv 0)) (own := [("sign", 2)]) (blkOk_by (N := ["signs", "seen", "sign", "k"]) (sc := defScope s_changes) (by decide +kernel)) (fun _ _ _ _ _ => (pg_name (i := 2) sc_changes.nd rfl (Or.inl rfl))) (fun _ _ _ _ _ => (pts_one (pt_cmpR op_ne (pv 2) pe_int (nomark _)))) (fun _ _ _ _ _ => (pv 2))))
   (pss_one (ps_ret (pe_callB call_len_seq rfl T.len PySem.boot_len (pa_cons (pe_lc rfl sc_changes.nd (pi_range2 rfl T.range (pa_cons pe_int (pa_cons (pe_callB call_len_seq rfl T.len PySem.boot_len (pa_cons (pv 1) pa_nil)) pa_nil))) (own := [("k", 3)]) (blkOk_by (N := ["signs", "seen", "sign", "k"]) (sc := defScope s_changes) (by decide +kernel)) (fun _ _ _ _ _ => (pg_name (i := 3) sc_changes.nd rfl (Or.inl rfl))) (fun _ _ _ _ _ => (pts_one (pt_cmpR op_ne (pe_ix (show IxR _ (rIxL K) from ix_list) (pv 1) (pe_op op_sub (pv 3) pe_int) (fun _ _ => rfl)) (pe_ix (show IxR _ (rIxL K) from ix_list) (pv 1) (pv 3) (fun _ _ => rfl)) (nomark _)))) (fun _ _ _ _ _ => (pv 3))) pa_nil))))), ?_⟩
  all_goals try dsimp only [cx_K]
  have evl : (l.map V.int).length = l.length := List.length_map ..
  refine ⟨_, rfl, a, rfl, ⟨_, SqL.of hl⟩, fun D hD => ?_⟩
  refine lc_any (n := l.length) (fun i H' => H' D = some (.lst ((seen (l.take i)).map V.int)) /\ Same H H') ⟨upd_same, Same.new hD⟩ ?_ ?_ ?_ ?_
  ·rintro i H' hi ⟨_, sm⟩
   exact ⟨_, _, SqL.of (sm _ _ hl), at_ci hi⟩
  ·rintro H' ⟨_, sm⟩
   exact ⟨_, SqL.of (sm _ _ hl), by lia⟩
  ·rintro i H' y H'' hi ⟨hd, sm⟩ ⟨rfl, hy⟩
   have hy := hy _ (SqL.of (sm _ _ hl))
   rw [at_ci hi] at hy
   cases hy
   have es : seen (l.take (i + 1)) = seen (l.take i) ++ if ci l i ≠ 0 then [ci l i] else [] := by
    rw [take_snoc (ci_lt hi)]
    unfold seen
    rw [List.filter_append]
    congr 1
    by_cases h : ci l i = 0
    ·rw [if_neg (by simpa using h)]; simp [h]
    ·rw [if_pos h]; simp [h]
   refine ⟨rfl, ?_⟩
   refine ⟨_, rfl, rfl, _, rfl, ?_⟩
   by_cases h : ci l i = 0
   ·refine itN (by simp [h]) ?_
    refine ⟨?_, sm⟩
    rw [es, if_neg (by simpa using h), List.append_nil]
    exact hd
   ·refine itP (by simp [h]) ?_
    refine ⟨_, rfl, _, hd, ?_, ?_, sm.put hD⟩
    ·rw [List.length_map]
     refine Nat.lt_of_le_of_lt (List.length_filter_le _ _) ?_
     rw [List.length_take]
     exact Nat.lt_of_le_of_lt (Nat.le_trans (Nat.min_le_left _ _) (by lia : i <= 1000)) (by decide)
    ·rw [upd_same, es, if_pos h, List.map_append]
     rfl
  ·rintro H1 ⟨hd, sm1⟩
   rw [List.take_length] at hd
   generalize hsn : seen l = sn at hd
   have evs : (sn.map V.int).length = sn.length := List.length_map ..
   have hsl : sn.length <= 1000 := by rw [<- hsn]; exact Nat.le_trans (List.length_filter_le _ _) hlen
   refine ⟨_, rfl, D, _, rfl, .inl (SqL.of hd), 1, (((sn.map V.int).length : Nat) : Int), rfl, ⟨by decide, by decide, by lia, by lia⟩, fun D2 hD2 => ?_⟩
   have en : ((((sn.map V.int).length : Nat) : Int) - 1).toNat = sn.length - 1 := by lia
   rw [en]
   refine lc_any (n := sn.length - 1) (fun i H' => ∃ ks : List V, H' D2 = some (.lst ks) /\ ks.length = cgK sn i /\ cgK sn i <= i /\ Same H1 H') ⟨[], upd_same, rfl, Nat.le_refl _, Same.new hD2⟩ (fun i H' hi _ => hi) (fun H' _ => Nat.le_refl _) ?_ ?_
   ·rintro i H' x H'' hi ⟨ks, hk, hkl, hki, sm⟩ ⟨rfl, rfl⟩
    refine ⟨rfl, ?_⟩
    have hd2 := sm _ _ hd
    refine ⟨_, rfl, _, rfl, _, _, rfl, rfl, D, _, _, _, rfl, rfl, SqL.of hd2, at_of (j := i) (by lia) (at_ci (by lia)), _, rfl, _, rfl, D, _, _, _, rfl, rfl, SqL.of hd2, at_of (j := i + 1) (by lia) (at_ci (by lia)), rfl, _, rfl, ?_⟩
    by_cases h : ci sn i = ci sn (i + 1)
    ·refine itN (by simp [h]) ?_
     refine ⟨ks, hk, ?_, ?_, sm⟩
     ·rw [hkl, cgK, if_neg (by simpa using h)]; rfl
     ·rw [cgK, if_neg (by simpa using h)]; lia
    ·refine itP (by simp [h]) ?_
     refine ⟨_, rfl, ks, hk, ?_, ks ++ [_], upd_same, ?_, ?_, sm.put hD2⟩
     ·rw [hkl]
      exact Nat.lt_of_le_of_lt (by lia : cgK sn i <= 1000) (by decide)
     ·rw [List.length_append, hkl, cgK, if_pos h]; rfl
     ·rw [cgK, if_pos h]; lia
   ·rintro H' ⟨ks, hk, hkl, _, sm⟩
    refine ⟨D2, ks, rfl, .inl (SqL.of hk), ?_⟩
    rw [hkl, cgK_all, <- hsn]
    exact k _ (sm1.trans sm)
abbrev s_far_above : Stmt := top 42
theorem sc_far_above : FnScope ["p"] ["p"] (defScope s_far_above) := ⟨rfl, rfl, rfl, by decide +kernel, rfl, by decide +kernel, by decide +kernel⟩
set_option maxHeartbeats 4000000 in
theorem ok_far_above (T : Txt P mg) (C_sign_of : Cal P w K mg base "sign_of" 41 ["number"] spSi) : ∀ f fd, Fun K "far_above" "far_above" s_far_above f fd -> FnOk P w K mg base CX0 42 f fd ["p"] (spFar fun p => si (leI p)) := by
 intro f fd F
 refine fun_ok F sc_far_above (fun vs H Q E h => ?_) (fun cdv A outer s H vs Q E hr h => ?_)
 ·rcases h with ⟨v, p, rfl, _⟩ <;> rfl
 ·rcases h with ⟨v, p, rfl, ⟨l, rfl, hl⟩, hp0, k⟩
  all_goals refine ⟨_, (pss_one (ps_ret (pe_cal C_sign_of hr rfl (pa_cons (pe_ix ix_list (pv 0) (pe_un un_neg pe_int) (fun _ _ => rfl)) pa_nil)))), ?_⟩
  all_goals try dsimp only [cx_K]
  exact ⟨_, rfl, _, rfl, l, _, _, _, rfl, rfl, SqL.of hl, at_last hp0, _, rfl, k⟩
abbrev s_far_below : Stmt := top 43
theorem sc_far_below : FnScope ["p"] ["p"] (defScope s_far_below) := ⟨rfl, rfl, rfl, by decide +kernel, rfl, by decide +kernel, by decide +kernel⟩
set_option maxHeartbeats 4000000 in
theorem ok_far_below (T : Txt P mg) (C_far_above : Cal P w K mg base "far_above" 42 ["p"] (spFar fun p => si (leI p))) : ∀ f fd, Fun K "far_below" "far_below" s_far_below f fd -> FnOk P w K mg base CX0 43 f fd ["p"] (spFar fbI) := by
 intro f fd F
 refine fun_ok F sc_far_below (fun vs H Q E h => ?_) (fun cdv A outer s H vs Q E hr h => ?_)
 ·rcases h with ⟨v, p, rfl, _⟩ <;> rfl
 ·rcases h with ⟨v, p, rfl, ⟨l, rfl, hl⟩, hp0, k⟩
  all_goals refine ⟨_, (pss_one (ps_ret (pe_ifExp (pt_cmpR op_eq (pe_op op_mod (pe_callB call_len_seq rfl T.len PySem.boot_len (pa_cons (pv 0) pa_nil)) pe_int) pe_int (nomark _)) (pe_cal C_far_above hr rfl (pa_cons (pv 0) pa_nil)) (pe_un un_neg (pe_cal C_far_above hr rfl (pa_cons (pv 0) pa_nil)))))), ?_⟩
  all_goals try dsimp only [cx_K]
  have evl : (p.map V.int).length = p.length := List.length_map ..
  refine ⟨_, rfl, l, _, rfl, .inl (SqL.of hl), _, _, rfl, rfl, (by show (0 : Int) < 2; decide), rfl, _, rfl, ?_⟩
  unfold fbI at k
  by_cases h : p.length % 2 = 1
  ·refine itP (by rw [dec_int]; exact decide_eq_true (by lia)) ?_
   rw [if_pos h] at k
   exact ⟨_, rfl, .ref l, p, rfl, ⟨l, rfl, hl⟩, hp0, k⟩
  ·refine itN (by rw [dec_int]; simp; lia) ?_
   rw [if_neg h] at k
   exact ⟨_, rfl, .ref l, p, rfl, ⟨l, rfl, hl⟩, hp0, _, rfl, k⟩
abbrev s_how_many_roots : Stmt := top 44
theorem sc_how_many_roots : FnScope ["chain", "p"] ["chain"] (defScope s_how_many_roots) := ⟨rfl, rfl, rfl, by decide +kernel, rfl, by decide +kernel, by decide +kernel⟩
set_option maxHeartbeats 4000000 in
theorem ok_how_many_roots (T : Txt P mg) (C_changes : Cal P w K mg base "changes" 41 ["signs"] spChg) (C_far_below : Cal P w K mg base "far_below" 43 ["p"] (spFar fbI)) (C_far_above : Cal P w K mg base "far_above" 42 ["p"] (spFar fun p => si (leI p))) : ∀ f fd, Fun K "how_many_roots" "how_many_roots" s_how_many_roots f fd -> FnOk P w K mg base CX0 44 f fd ["chain"] spHm := by
 intro f fd F
 refine fun_ok F sc_how_many_roots (fun vs H Q E h => ?_) (fun cdv A outer s H vs Q E hr h => ?_)
 ·rcases h with ⟨u, L, s, rfl, _⟩ <;> rfl
 ·rcases h with ⟨u, L, s, rfl, ⟨l, vs, rfl, hl, hv⟩, hC, k⟩
  all_goals refine ⟨_, (pss_one (ps_ret (pe_op op_sub (pe_cal C_changes hr rfl (pa_cons (pe_lc rfl sc_how_many_roots.nd (pi_list (pv 0)) (own := [("p", 1)]) (blkOk_by (N := ["chain", "p"]) (sc := defScope s_how_many_roots) (by decide +kernel)) (fun _ _ _ _ _ => (pg_name (i := 1) sc_how_many_roots.nd rfl (Or.inl rfl))) (fun _ _ _ _ _ => pts_nil) (fun _ _ _ _ _ => (pe_cal C_far_below hr rfl (pa_cons (pv 1) pa_nil)))) pa_nil)) (pe_cal C_changes hr rfl (pa_cons (pe_lc rfl sc_how_many_roots.nd (pi_list (pv 0)) (own := [("p", 1)]) (blkOk_by (N := ["chain", "p"]) (sc := defScope s_how_many_roots) (by decide +kernel)) (fun _ _ _ _ _ => (pg_name (i := 1) sc_how_many_roots.nd rfl (Or.inl rfl))) (fun _ _ _ _ _ => pts_nil) (fun _ _ _ _ _ => (pe_cal C_far_above hr rfl (pa_cons (pv 1) pa_nil)))) pa_nil))))), ?_⟩
  all_goals try dsimp only [cx_K]
  have evs : vs.length = L.length := hv.len
  have hLl := hC.len
  refine ⟨_, rfl, l, rfl, ⟨vs, SqL.of hl⟩, fun D hD => ?_⟩
  refine lc_any (n := L.length) (fun i H' => H' D = some (.lst (((L.map fbI).take i).map V.int)) /\ Same H H') ⟨upd_same, Same.new hD⟩ ?_ ?_ ?_ ?_
  ·rintro i H' hi ⟨_, sm⟩
   exact ⟨vs, vs[i]'(by lia), SqL.of (sm _ _ hl), List.getElem?_eq_getElem _⟩
  ·rintro H' ⟨_, sm⟩
   exact ⟨vs, SqL.of (sm _ _ hl), by lia⟩
  ·rintro i H' y H'' hi ⟨hd, sm⟩ ⟨rfl, hy⟩
   have hy := hy vs (SqL.of (sm _ _ hl))
   obtain ⟨p, hp, g⟩ := hv.get' hy
   refine ⟨rfl, ?_⟩
   unfold tYes
   refine iteT ?_
   refine ⟨_, rfl, y, p, rfl, g.same sm, (hC.mem p (List.mem_of_getElem? hp)).1, _, hd, ?_, ?_, sm.put hD⟩
   ·rw [List.length_map, List.length_take]
    exact Nat.lt_of_le_of_lt (Nat.le_trans (Nat.min_le_left _ _) (by lia : i <= 1000)) (by decide)
   ·rw [upd_same, take_snoc (l := L.map fbI) (x := fbI p) (by rw [List.getElem?_map, hp]; rfl), List.map_append]
    rfl
  ·rintro H1 ⟨hd, sm1⟩
   rw [List.take_of_length_le (by rw [List.length_map]; lia)] at hd
   refine ⟨.ref D, L.map fbI, rfl, ⟨D, rfl, hd⟩, by rw [List.length_map]; lia, fun H2 s2 => ?_⟩
   have sm2 := sm1.trans s2
   have hl2 := sm2 _ _ hl
   have hv2 := hv.same sm2
   refine ⟨_, rfl, l, rfl, ⟨vs, SqL.of hl2⟩, fun D2 hD2 => ?_⟩
   refine lc_any (n := L.length) (fun i H' => H' D2 = some (.lst (((L.map faI).take i).map V.int)) /\ Same H2 H') ⟨upd_same, Same.new hD2⟩ ?_ ?_ ?_ ?_
   ·rintro i H' hi ⟨_, sm⟩
    exact ⟨vs, vs[i]'(by lia), SqL.of (sm _ _ hl2), List.getElem?_eq_getElem _⟩
   ·rintro H' ⟨_, sm⟩
    exact ⟨vs, SqL.of (sm _ _ hl2), by lia⟩
   ·rintro i H' y H'' hi ⟨hd, sm⟩ ⟨rfl, hy⟩
    have hy := hy vs (SqL.of (sm _ _ hl2))
    obtain ⟨p, hp, g⟩ := hv2.get' hy
    refine ⟨rfl, ?_⟩
    unfold tYes
    refine iteT ?_
    refine ⟨_, rfl, y, p, rfl, g.same sm, (hC.mem p (List.mem_of_getElem? hp)).1, _, hd, ?_, ?_, sm.put hD2⟩
    ·rw [List.length_map, List.length_take]
     exact Nat.lt_of_le_of_lt (Nat.le_trans (Nat.min_le_left _ _) (by lia : i <= 1000)) (by decide)
    ·rw [upd_same, take_snoc (l := L.map faI) (x := faI p) (by rw [List.getElem?_map, hp]; rfl), List.map_append]
     rfl
   ·rintro H3 ⟨hd', sm3⟩
    rw [List.take_of_length_le (by rw [List.length_map]; lia)] at hd'
    refine ⟨.ref D2, _, rfl, ⟨D2, rfl, hd'⟩, by rw [List.length_map]; lia, fun H4 s4 => ?_⟩
    refine ⟨_, _, rfl, rfl, ?_⟩
    exact k _ ((sm2.trans sm3).trans s4)
abbrev s_roots_upto : Stmt := top 45
theorem sc_roots_upto : FnScope ["chain", "place", "p"] ["chain", "place"] (defScope s_roots_upto) := ⟨rfl, rfl, rfl, by decide +kernel, rfl, by decide +kernel, by decide +kernel⟩
set_option maxHeartbeats 4000000 in
theorem ok_roots_upto (T : Txt P mg) (C_changes : Cal P w K mg base "changes" 41 ["signs"] spChg) (C_far_below : Cal P w K mg base "far_below" 43 ["p"] (spFar fbI)) (C_value_sign : Cal P w K mg base "value_sign" 42 ["p", "place"] (spVs K)) : ∀ f fd, Fun K "roots_upto" "roots_upto" s_roots_upto f fd -> FnOk P w K mg base CX0 44 f fd ["chain", "place"] (spUp K) := by
 intro f fd F
 refine fun_ok F sc_roots_upto (fun vs H Q E h => ?_) (fun cdv A outer s H vs Q E hr h => ?_)
 ·rcases h with ⟨u, v, L, t, b, s, m, rfl, _⟩ <;> rfl
 ·rcases h with ⟨u, v, L, t, b, s, m, rfl, ⟨l, vs, rfl, hl, hv⟩, hT, hb0, hC, ht, hb, hlim, k⟩
  all_goals refine ⟨_, (pss_one (ps_ret (pe_op op_sub (pe_cal C_changes hr rfl (pa_cons (pe_lc rfl sc_roots_upto.nd (pi_list (pv 0)) (own := [("p", 2)]) (blkOk_by (N := ["chain", "place", "p"]) (sc := defScope s_roots_upto) (by decide +kernel)) (fun _ _ _ _ _ => (pg_name (i := 2) sc_roots_upto.nd rfl (Or.inl rfl))) (fun _ _ _ _ _ => pts_nil) (fun _ _ _ _ _ => (pe_cal C_far_below hr rfl (pa_cons (pv 2) pa_nil)))) pa_nil)) (pe_cal C_changes hr rfl (pa_cons (pe_lc rfl sc_roots_upto.nd (pi_list (pv 0)) (own := [("p", 2)]) (blkOk_by (N := ["chain", "place", "p"]) (sc := defScope s_roots_upto) (by decide +kernel)) (fun _ _ _ _ _ => (pg_name (i := 2) sc_roots_upto.nd rfl (Or.inl rfl))) (fun _ _ _ _ _ => pts_nil) (fun _ _ _ _ _ => (pe_cal C_value_sign hr rfl (pa_cons (pv 2) (pa_cons (pv 1) pa_nil))))) pa_nil))))), ?_⟩
  all_goals try dsimp only [cx_K]
  have evs : vs.length = L.length := hv.len
  have hLl := hC.len
  refine ⟨_, rfl, l, rfl, ⟨vs, SqL.of hl⟩, fun D hD => ?_⟩
  refine lc_any (n := L.length) (fun i H' => H' D = some (.lst (((L.map fbI).take i).map V.int)) /\ Same H H') ⟨upd_same, Same.new hD⟩ ?_ ?_ ?_ ?_
  ·rintro i H' hi ⟨_, sm⟩
   exact ⟨vs, vs[i]'(by lia), SqL.of (sm _ _ hl), List.getElem?_eq_getElem _⟩
  ·rintro H' ⟨_, sm⟩
   exact ⟨vs, SqL.of (sm _ _ hl), by lia⟩
  ·rintro i H' y H'' hi ⟨hd, sm⟩ ⟨rfl, hy⟩
   have hy := hy vs (SqL.of (sm _ _ hl))
   obtain ⟨p, hp, g⟩ := hv.get' hy
   refine ⟨rfl, ?_⟩
   unfold tYes
   refine iteT ?_
   refine ⟨_, rfl, y, p, rfl, g.same sm, (hC.mem p (List.mem_of_getElem? hp)).1, _, hd, ?_, ?_, sm.put hD⟩
   ·rw [List.length_map, List.length_take]
    exact Nat.lt_of_le_of_lt (Nat.le_trans (Nat.min_le_left _ _) (by lia : i <= 1000)) (by decide)
   ·rw [upd_same, take_snoc (l := L.map fbI) (x := fbI p) (by rw [List.getElem?_map, hp]; rfl), List.map_append]
    rfl
  ·rintro H1 ⟨hd, sm1⟩
   rw [List.take_of_length_le (by rw [List.length_map]; lia)] at hd
   refine ⟨.ref D, L.map fbI, rfl, ⟨D, rfl, hd⟩, by rw [List.length_map]; lia, fun H2 s2 => ?_⟩
   have sm2 := sm1.trans s2
   refine ⟨_, rfl, l, rfl, ⟨vs, SqL.of (sm2 _ _ hl)⟩, fun D2 hD2 => ?_⟩
   have hx : ∀ i, i < L.length -> (L.map fun p => sr (WrAlgn.at_ (ip p) (((t : Int) : Rat) / ((b : Int) : Rat))))[i]? = (L[i]?).map fun p => sr (WrAlgn.at_ (ip p) (((t : Int) : Rat) / ((b : Int) : Rat))) := fun i _ => List.getElem?_map ..
   refine lc_any (n := L.length) (fun i H' => H' D2 = some (.lst (((L.map fun p => sr (WrAlgn.at_ (ip p) (((t : Int) : Rat) / ((b : Int) : Rat)))).take i).map V.int)) /\ Same H2 H') ⟨upd_same, Same.new hD2⟩ ?_ ?_ ?_ ?_
   ·rintro i H' hi ⟨_, sm⟩
    exact ⟨vs, vs[i]'(by lia), SqL.of (sm _ _ (sm2 _ _ hl)), List.getElem?_eq_getElem _⟩
   ·rintro H' ⟨_, sm⟩
    exact ⟨vs, SqL.of (sm _ _ (sm2 _ _ hl)), by lia⟩
   ·rintro i H' y H'' hi ⟨hd', sm⟩ ⟨rfl, hy⟩
    have hy := hy vs (SqL.of (sm _ _ (sm2 _ _ hl)))
    obtain ⟨p, hp, g⟩ := hv.get' hy
    obtain ⟨m1, m2, m3⟩ := hC.mem p (List.mem_of_getElem? hp)
    have e1 : (m + 1) * (p.length + 2) <= (m + 1) * 19 := Nat.mul_le_mul_left _ (by lia)
    refine ⟨rfl, ?_⟩
    unfold tYes
    refine iteT ?_
    refine ⟨_, rfl, _, rfl, y, v, p, t, b, s, m, rfl, g.same (sm2.trans sm), hT.same (sm2.trans sm), hb0, m3, ht, hb, by lia, by lia, _, hd', ?_, ?_, sm.put hD2⟩
    ·rw [List.length_map, List.length_take]
     exact Nat.lt_of_le_of_lt (Nat.le_trans (Nat.min_le_left _ _) (by lia : i <= 1000)) (by decide)
    ·rw [upd_same, take_snoc (l := L.map fun p => sr (WrAlgn.at_ (ip p) (((t : Int) : Rat) / ((b : Int) : Rat)))) (x := sr (WrAlgn.at_ (ip p) (((t : Int) : Rat) / ((b : Int) : Rat)))) (by rw [hx i hi, hp]; rfl), List.map_append]
     rfl
   ·rintro H3 ⟨hd', sm3⟩
    rw [List.take_of_length_le (by rw [List.length_map]; lia)] at hd'
    refine ⟨.ref D2, _, rfl, ⟨D2, rfl, hd'⟩, by rw [List.length_map]; lia, fun H4 s4 => ?_⟩
    refine ⟨_, _, rfl, rfl, ?_⟩
    rw [chS_at]
    exact k _ ((sm2.trans sm3).trans s4)
abbrev s_roots_below : Stmt := top 46
theorem sc_roots_below : FnScope ["chain", "place", "just_there"] ["chain", "place"] (defScope s_roots_below) := ⟨rfl, rfl, rfl, by decide +kernel, rfl, by decide +kernel, by decide +kernel⟩
set_option maxHeartbeats 4000000 in
theorem ok_roots_below (T : Txt P mg) (C_roots_upto : Cal P w K mg base "roots_upto" 44 ["chain", "place"] (spUp K)) (C_value_sign : Cal P w K mg base "value_sign" 42 ["p", "place"] (spVs K)) : ∀ f fd, Fun K "roots_below" "roots_below" s_roots_below f fd -> FnOk P w K mg base CX0 45 f fd ["chain", "place"] (spRb K) := by
 intro f fd F
 refine fun_ok F sc_roots_below (fun vs H Q E h => ?_) (fun cdv A outer s H vs Q E hr h => ?_)
 ·rcases h with ⟨u, v, p, L, t, b, s, m, rfl, _⟩ <;> rfl
 ·rcases h with ⟨u, v, p, L, t, b, s, m, rfl, hU, hV, hb0, hC, ⟨tl, hL⟩, ht, hb, hlim, k⟩
  all_goals refine ⟨_, (pss_cons (ps_set (i := 2) sc_roots_below.nd rfl (Or.inl rfl) (pe_ifExp (pt_cmpR op_eq (pe_cal C_value_sign hr rfl (pa_cons (pe_ix ix_list (pv 0) pe_int (fun _ _ => rfl)) (pa_cons (pv 1) pa_nil))) pe_int (nomark _)) pe_int pe_int))
   (pss_one (ps_ret (pe_op op_sub (pe_cal C_roots_upto hr rfl (pa_cons (pv 0) (pa_cons (pv 1) pa_nil))) (pv 2))))), ?_⟩
  all_goals try dsimp only [cx_K]
  have hU' := hU
  obtain ⟨l, vs, rfl, hl, hv⟩ := hU'
  have hp0 : L[0]? = some p := by rw [hL]; rfl
  obtain ⟨w, hw, gw⟩ := hv.get hp0
  obtain ⟨m1, m2, m3⟩ := hC.mem p (List.mem_of_getElem? hp0)
  have e1 : (m + 1) * (p.length + 2) <= (m + 1) * 19 := Nat.mul_le_mul_left _ (by lia)
  have hvl : 0 < vs.length := by rw [hv.len]; exact (List.getElem?_eq_some_iff.mp hp0).1
  have fin : ∀ j : Int, j = ((zr (ip p) (rf t b) : Nat) : Int) -> (tRet (tOp (rI0 fun i j => .int (i - j)) (tCall (spUp K) [] E0 (tCons (tVar 0) (tCons (tVar 1) tNil))) (tVar 2))) { nx := fun _ H' => Q .non H', rt := Q } [some (.ref l), some v, some (.int j)] H := by
   rintro j rfl
   refine ⟨_, rfl, _, rfl, .ref l, v, L, t, b, s, m, rfl, hU, hV, hb0, hC, ht, hb, hlim, fun H2 s2 => ?_⟩
   exact ⟨_, rfl, _, _, rfl, rfl, k _ s2⟩
  refine ⟨_, rfl, l, vs, _, w, rfl, rfl, SqL.of hl, at_of (j := 0) (by lia) hw, _, rfl, w, v, p, t, b, s, m, rfl, gw, hV, hb0, m3, ht, hb, by lia, by lia, rfl, _, rfl, ?_⟩
  rw [dec_int]
  by_cases hz : WrAlgn.at_ (ip p) (((t : Int) : Rat) / ((b : Int) : Rat)) = 0
  ·refine itP (decide_eq_true (sr_zero.mpr hz)) ?_
   exact fin 1 (by unfold zr rf; rw [if_pos hz]; rfl)
  ·refine itN (fun z => hz (sr_zero.mp (of_decide_eq_true z))) ?_
   exact fin 0 (by unfold zr rf; rw [if_neg hz]; rfl)
abbrev s_roots_within : Stmt := top 47
theorem sc_roots_within : FnScope ["chain", "ends"] ["chain", "ends"] (defScope s_roots_within) := ⟨rfl, rfl, rfl, by decide +kernel, rfl, by decide +kernel, by decide +kernel⟩
set_option maxHeartbeats 4000000 in
theorem ok_roots_within (T : Txt P mg) (C_roots_upto : Cal P w K mg base "roots_upto" 44 ["chain", "place"] (spUp K)) (C_roots_below : Cal P w K mg base "roots_below" 45 ["chain", "place"] (spRb K)) : ∀ f fd, Fun K "roots_within" "roots_within" s_roots_within f fd -> FnOk P w K mg base CX0 46 f fd ["chain", "ends"] (spRw K) := by
 intro f fd F
 refine fun_ok F sc_roots_within (fun vs H Q E h => ?_) (fun cdv A outer s H vs Q E hr h => ?_)
 ·rcases h with ⟨u, v, p, L, x, y, s, m, rfl, _⟩ <;> rfl
 ·rcases h with ⟨u, v, p, L, x, y, s, m, rfl, hU, ⟨t, a, b, rfl, hT, hA, hB⟩, hx0, hy0, hC, hL, x1, x2, y1, y2, hlim, k⟩
  all_goals refine ⟨_, (pss_one (ps_ret (pe_op op_sub (pe_cal C_roots_upto hr rfl (pa_cons (pv 0) (pa_cons (pe_ix ix_tup (pv 1) pe_int (fun _ _ => rfl)) pa_nil))) (pe_cal C_roots_below hr rfl (pa_cons (pv 0) (pa_cons (pe_ix ix_tup (pv 1) pe_int (fun _ _ => rfl)) pa_nil)))))), ?_⟩
  all_goals try dsimp only [cx_K]
  refine ⟨_, rfl, _, rfl, t, _, _, b, rfl, rfl, hT, rfl, u, b, L, y.1, y.2, s, m, rfl, hU, hB, hy0, hC, y1, y2, hlim, fun H1 s1 => ?_⟩
  refine ⟨_, rfl, _, rfl, t, _, _, a, rfl, rfl, s1.tup hT, rfl, u, a, p, L, x.1, x.2, s, m, rfl, hU.same s1, hA.same s1, hx0, hC, hL, x1, x2, hlim, fun H2 s2 => ?_⟩
  exact ⟨_, _, rfl, rfl, k _ (s1.trans s2)⟩
abbrev s_whole_bound : Stmt := top 48
theorem sc_whole_bound : FnScope ["p", "a"] ["p"] (defScope s_whole_bound) := ⟨rfl, rfl, rfl, by decide +kernel, rfl, by decide +kernel, by decide +kernel⟩
set_option maxHeartbeats 4000000 in
theorem ok_whole_bound (T : Txt P mg) : ∀ f fd, Fun K "whole_bound" "whole_bound" s_whole_bound f fd -> FnOk P w K mg base CX0 41 f fd ["p"] spWb := by
 intro f fd F
 refine fun_ok F sc_whole_bound (fun vs H Q E h => ?_) (fun cdv A outer s H vs Q E hr h => ?_)
 ·rcases h with ⟨v, p, s, rfl, _⟩ <;> rfl
 ·rcases h with ⟨v, p, s, rfl, ⟨l, rfl, hl⟩, hp, hlen, hs, k⟩
  all_goals refine ⟨_, (pss_one (ps_ret (pe_op op_add pe_int (pe_op (op_fdivB ⟨T.tree, _, _, rfl, rfl, rfl, rfl, rfl⟩ hr) (pe_callB (cr_max rfl) rfl T.max PyProof.Rows.boot_max (pa_cons (pe_lc rfl sc_whole_bound.nd (pi_list (pv 0)) (own := [("a", 1)]) (blkOk_by (N := ["p", "a"]) (sc := defScope s_whole_bound) (by decide +kernel)) (fun _ _ _ _ _ => (pg_name (i := 1) sc_whole_bound.nd rfl (Or.inl rfl))) (fun _ _ _ _ _ => pts_nil) (fun _ _ _ _ _ => (pe_callB call_abs rfl T.abs PyProof.Rows.boot_abs (pa_cons (pv 1) pa_nil)))) pa_nil)) (pe_ix ix_list (pv 0) (pe_un un_neg pe_int) (fun _ _ => rfl)))))), ?_⟩
  all_goals try dsimp only [cx_K]
  have evl : (p.map V.int).length = p.length := List.length_map ..
  have lp0 := List.length_pos_iff.mpr hp.ne
  refine ⟨_, rfl, l, rfl, ⟨_, SqL.of hl⟩, fun D hD => ?_⟩
  refine lc_any (n := p.length) (fun i H' => H' D = some (.lst (((p.map fun a => (a.natAbs : Int)).take i).map V.int)) /\ Same H H') ⟨upd_same, Same.new hD⟩ ?_ ?_ ?_ ?_
  ·rintro i H' hi ⟨_, sm⟩
   exact ⟨_, _, SqL.of (sm _ _ hl), at_ci hi⟩
  ·rintro H' ⟨_, sm⟩
   exact ⟨_, SqL.of (sm _ _ hl), by lia⟩
  ·rintro i H' y H'' hi ⟨hd, sm⟩ ⟨rfl, hy⟩
   have hy := hy _ (SqL.of (sm _ _ hl))
   rw [at_ci hi] at hy
   cases hy
   refine ⟨rfl, ?_⟩
   unfold tYes
   refine iteT ?_
   refine ⟨_, rfl, _, rfl, _, hd, ?_, ?_, sm.put hD⟩
   ·rw [List.length_map, List.length_take]
    exact Nat.lt_of_le_of_lt (Nat.le_trans (Nat.min_le_left _ _) (by lia : i <= 1000)) (by decide)
   ·rw [upd_same, take_snoc (l := p.map fun a => (a.natAbs : Int)) (x := ((ci p i).natAbs : Int)) (by rw [List.getElem?_map, ci_lt hi]; rfl), List.map_append]
    rw [show (if ci p i < 0 then -ci p i else ci p i) = ((ci p i).natAbs : Int) by split <;> lia]
    rfl
  ·rintro H1 ⟨hd, sm⟩
   rw [List.take_of_length_le (by rw [List.length_map]; lia)] at hd
   refine ⟨D, p.map fun a => (a.natAbs : Int), rfl, SqL.of hd, by rw [List.length_map]; omega, fun m hm1 hm2 => ?_⟩
   have hle := leI_ne hp.nm hp.ne
   have hpos := hp.pos
   obtain ⟨c, hc, rfl⟩ := List.mem_map.mp hm1
   have hb : c.natAbs < 2 ^ s := hs c hc
   refine ⟨_, rfl, _, rfl, l, _, _, _, rfl, rfl, SqL.of (sm _ _ hl), at_last hp.ne, _, _, rfl, rfl, hle, _, _, rfl, rfl, ?_⟩
   have hq : 0 <= ((c.natAbs : Int)).fdiv (leI p) /\ ((c.natAbs : Int)).fdiv (leI p) <= (c.natAbs : Int) := by
    rw [Int.fdiv_eq_ediv_of_nonneg _ (by lia)]
    exact ⟨Int.ediv_nonneg (by lia) (by lia), Int.ediv_le_self _ (by lia)⟩
   refine k _ H1 (cauchy hp fun z hz => hm2 _ (List.mem_map.mpr ⟨z, hz, rfl⟩)) (by omega) ?_ sm
   have e : 2 ^ (s + 2) = 4 * 2 ^ s := by rw [Nat.pow_add]; lia
   have : 0 < 2 ^ s := Nat.pow_pos (by decide)
   rw [e]
   omega
abbrev s_is_at_least : Stmt := top 49
theorem sc_is_at_least : FnScope ["number", "place"] ["number", "place"] (defScope s_is_at_least) := ⟨rfl, rfl, rfl, by decide +kernel, rfl, by decide +kernel, by decide +kernel⟩
set_option maxHeartbeats 4000000 in
theorem ok_is_at_least (T : Txt P mg) (C_roots_below : Cal P w K mg base "roots_below" 45 ["chain", "place"] (spRb K)) : ∀ f fd, Fun K "is_at_least" "is_at_least" s_is_at_least f fd -> FnOk P w K mg base CX0 46 f fd ["number", "place"] (spGe K) := by
 intro f fd F
 refine fun_ok F sc_is_at_least (fun vs H Q E h => ?_) (fun cdv A outer s H vs Q E hr h => ?_)
 ·rcases h with ⟨u, v, p, L, k, t, b, s, m, rfl, _⟩ <;> rfl
 ·rcases h with ⟨u, v, p, L, n, t, b, s, m, rfl, ⟨tt, c, rfl, hT, hC⟩, hV, hb0, hCn, hL, ht, hb, hlim, k⟩
  all_goals refine ⟨_, (pss_one (ps_ret (pe_cmpR op_le (pe_cal C_roots_below hr rfl (pa_cons (pe_ix ix_tup (pv 0) pe_int (fun _ _ => rfl)) (pa_cons (pv 1) pa_nil))) (pe_ix ix_tup (pv 0) pe_int (fun _ _ => rfl)) (nomark _)))), ?_⟩
  all_goals try dsimp only [cx_K]
  refine ⟨_, rfl, tt, _, _, c, rfl, rfl, hT, rfl, _, rfl, c, v, p, L, t, b, s, m, rfl, hC, hV, hb0, hCn, hL, ht, hb, hlim, fun H1 s1 => ?_⟩
  exact ⟨_, rfl, tt, _, _, _, rfl, rfl, s1.tup hT, rfl, _, _, rfl, rfl, k _ s1⟩
abbrev s_floor_of : Stmt := top 50
theorem sc_floor_of : FnScope ["number", "scale", "high", "low", "middle"] ["number", "scale"] (defScope s_floor_of) := ⟨rfl, rfl, rfl, by decide +kernel, rfl, by decide +kernel, by decide +kernel⟩
set_option maxHeartbeats 4000000 in
theorem ok_floor_of (T : Txt P mg) (C_whole_bound : Cal P w K mg base "whole_bound" 41 ["p"] spWb) (C_is_at_least : Cal P w K mg base "is_at_least" 46 ["number", "place"] (spGe K)) : ∀ f fd, Fun K "floor_of" "floor_of" s_floor_of f fd -> FnOk P w K mg base CX0 47 f fd ["number", "scale"] (spFl K) := by
 intro f fd F
 refine fun_ok F sc_floor_of (fun vs H Q E h => ?_) (fun cdv A outer s H vs Q E hr h => ?_)
 ·rcases h with ⟨u, p, L, k, S, s, m, rfl, _⟩ <;> rfl
 ·rcases h with ⟨u, p, L, n, S, s, m, rfl, hN, hNb, hS, hCn, hSm, hlim, k⟩
  all_goals refine ⟨_, (pss_cons (ps_set (i := 2) sc_floor_of.nd rfl (Or.inl rfl) (pe_op op_mulB (pe_cal C_whole_bound hr rfl (pa_cons (pe_ix ix_list (pe_ix ix_tup (pv 0) pe_int (fun _ _ => rfl)) pe_int (fun _ _ => rfl)) pa_nil)) (pv 1)))
   (pss_cons (ps_set (i := 3) sc_floor_of.nd rfl (Or.inl rfl) (pe_un un_neg (pv 2)))
   (pss_cons (ps_while PassesOwn.never (pt_cmpR op_gt (pe_op op_sub (pv 2) (pv 3)) pe_int (nomark _)) (pss_cons (ps_set (i := 4) sc_floor_of.nd rfl (Or.inl rfl) (pe_op (op_fdivB ⟨T.tree, _, _, rfl, rfl, rfl, rfl, rfl⟩ hr) (pe_op op_add (pv 3) (pv 2)) pe_int))
   (pss_one (ps_if (pt_val (pe_cal C_is_at_least hr rfl (pa_cons (pv 0) (pa_cons (pe_tup (pa_cons (pv 4) (pa_cons (pv 1) pa_nil))) pa_nil)))) (pss_one (ps_set (i := 3) sc_floor_of.nd rfl (Or.inl rfl) (pv 4))) (pss_one (ps_set (i := 2) sc_floor_of.nd rfl (Or.inl rfl) (pv 4)))))))
   (pss_one (ps_ret (pv 3)))))), ?_⟩
  all_goals try dsimp only [cx_K]
  have hlim' : s + (s + m + 3 + 1) * 19 <= 134217728 := hlim
  have hlim2 : s + 2 + m <= 134217728 := Nat.le_trans (by clear hlim hlim'; lia : s + 2 + m <= s + (s + m + 4) * 19) hlim
  clear hlim
  have pw1 : 2 ^ (s + 2 + m) <= 2 ^ (s + m + 3) := pow_le (by lia)
  have hN' := hN
  obtain ⟨tt, c, rfl, hT, hC⟩ := hN'
  have hC' := hC
  obtain ⟨l, vs, rfl, hl, hv⟩ := hC'
  have hp0 := hNb.ch.hd0
  obtain ⟨w, hw, gw⟩ := hv.get hp0
  obtain ⟨m1, m2, m3⟩ := hCn.mem p (List.mem_of_getElem? hp0)
  have hvl : 0 < vs.length := by rw [hv.len]; exact (List.getElem?_eq_some_iff.mp hp0).1
  refine seq_hide fun N1 hN1 => ?_
  refine ⟨_, rfl, tt, _, _, _, rfl, rfl, hT, rfl, l, vs, _, w, rfl, rfl, SqL.of hl, at_of (j := 0) (by lia) hw, w, p, s, rfl, gw, hNb.ch.pr, by lia, m3, fun B H1 hB hB0 hBs s1 => ?_⟩
  refine ⟨_, rfl, _, _, rfl, rfl, ⟨s + 2, m, hBs, hSm, hlim2⟩, ?_⟩
  refine hN1 _ _ (seq_hide fun N2 hN2 => ⟨_, rfl, _, rfl, hN2 _ _ (seq_hide fun N3 hN3 => ?_)⟩)
  clear hN1 N1 hN2 N2
  have hM : (B * S).natAbs < 2 ^ (s + 2 + m) := by
   rw [Int.natAbs_mul, Nat.pow_add]
   exact Nat.mul_lt_mul'' hBs hSm
  refine ⟨fun j σ H' => ∃ (hi lo : Int) (v4 : Option V), σ = [some (.ref tt), some (.int S), some (.int hi), some (.int lo), v4] /\ Same H H' /\ Fs p L n S lo hi (B * S).natAbs /\ j = (hi - lo).toNat, ⟨_, B * S, -(B * S), none, rfl, s1, Fs.start hNb hS hB hB0, rfl⟩, ?_⟩
  rintro j σ H' ⟨hi, lo, v4, rfl, sm, F, rfl⟩
  refine ⟨_, rfl, _, rfl, _, _, rfl, rfl, _, _, rfl, rfl, _, rfl, ?_⟩
  by_cases hlt : 1 < hi - lo
  case neg =>
   refine itN (by simpa using hlt) ?_
   refine hN3 _ _ ⟨_, rfl, k lo _ (F.done hlt) ?_ sm⟩
   exact Nat.lt_of_le_of_lt F.lob (Nat.lt_of_lt_of_le hM pw1)
  refine itP (decide_eq_true hlt) ?_
  have hmid : (lo + hi).fdiv 2 = (lo + hi) / 2 := Int.fdiv_eq_ediv_of_nonneg _ (by decide)
  have hm1 : lo < (lo + hi) / 2 := by lia
  have hm2 : (lo + hi) / 2 < hi := by lia
  have hmM : ((lo + hi) / 2).natAbs <= (B * S).natAbs := by
   have h1 := F.lob
   have h2 := F.hib
   clear hM hBs hSm pw1 hlim' hlim2
   generalize (B * S).natAbs = M at h1 h2
   lia
  have hmb : ((lo + hi) / 2).natAbs < 2 ^ (s + m + 3) := Nat.lt_of_le_of_lt hmM (Nat.lt_of_lt_of_le hM pw1)
  have hmb' : ((lo + hi).fdiv 2).natAbs < 2 ^ (s + m + 3) := by rw [hmid]; exact hmb
  have hSb : S.natAbs < 2 ^ (s + m + 3) := Nat.lt_of_lt_of_le hSm (pow_le (by lia))
  refine ⟨fun σ' H2 => ∃ (hi2 lo2 : Int), σ' = [some (.ref tt), some (.int S), some (.int hi2), some (.int lo2), some (.int ((lo + hi).fdiv 2))] /\ Same H H2 /\ Fs p L n S lo2 hi2 (B * S).natAbs /\ hi2 - lo2 < hi - lo, ?_, ?_⟩
  ·rintro σ' H2 ⟨hi2, lo2, rfl, sm2, F2, hd⟩
   have := F2.lt
   exact ⟨_, by lia, hi2, lo2, some (.int ((lo + hi).fdiv 2)), rfl, sm2, F2, rfl⟩
  refine ⟨_, rfl, _, rfl, _, _, rfl, rfl, _, _, rfl, rfl, (by show (2 : Int) ≠ 0; decide), ?_⟩
  refine ⟨_, rfl, _, rfl, _, rfl, (by show 2 <= sizeLine; decide), fun p4 hp4 => ?_⟩
  have s4 := Same.new (o := HO.tup [V.int ((lo + hi).fdiv 2), V.int S]) hp4
  refine ⟨.ref tt, .ref p4, p, L, n, (lo + hi).fdiv 2, S, s, s + m + 3, rfl, (hN.same sm).same s4, ⟨p4, rfl, SqT.of upd_same⟩, hS, hCn, hNb.ch.hd, hmb', hSb, hlim', fun H5 s5 => ⟨_, rfl, ?_⟩⟩
  have sm5 := (sm.trans s4).trans s5
  by_cases hge : bel p L (rf ((lo + hi).fdiv 2) S) <= n
  ·refine itP (decide_eq_true hge) ?_
   refine ⟨_, rfl, hi, (lo + hi).fdiv 2, rfl, sm5, ⟨by rw [hmid]; exact hm2, hge, F.no, ?_, F.hib⟩, by rw [hmid]; lia⟩
   rw [hmid]; exact hmM
  ·refine itN (by simpa using hge) ?_
   refine ⟨_, rfl, (lo + hi).fdiv 2, lo, rfl, sm5, ⟨by rw [hmid]; exact hm1, F.ge, by lia, F.lob, ?_⟩, by rw [hmid]; lia⟩
   rw [hmid]; exact hmM
abbrev s_ends_at : Stmt := top 51
theorem sc_ends_at : FnScope ["number", "scale", "low"] ["number", "scale"] (defScope s_ends_at) := ⟨rfl, rfl, rfl, by decide +kernel, rfl, by decide +kernel, by decide +kernel⟩
set_option maxHeartbeats 4000000 in
theorem ok_ends_at (T : Txt P mg) (C_floor_of : Cal P w K mg base "floor_of" 47 ["number", "scale"] (spFl K)) : ∀ f fd, Fun K "ends_at" "ends_at" s_ends_at f fd -> FnOk P w K mg base CX0 48 f fd ["number", "scale"] (spEa K) := by
 intro f fd F
 refine fun_ok F sc_ends_at (fun vs H Q E h => ?_) (fun cdv A outer s H vs Q E hr h => ?_)
 ·rcases h with ⟨u, p, L, k, S, s, m, rfl, _⟩ <;> rfl
 ·rcases h with ⟨u, p, L, n, S, s, m, rfl, hN, hNb, hS, hCn, hSm, hlim, k⟩
  all_goals refine ⟨_, (pss_cons (ps_set (i := 2) sc_ends_at.nd rfl (Or.inl rfl) (pe_cal C_floor_of hr rfl (pa_cons (pv 0) (pa_cons (pv 1) pa_nil))))
   (pss_one (ps_ret (pe_tup (pa_cons (pe_tup (pa_cons (pv 2) (pa_cons (pv 1) pa_nil))) (pa_cons (pe_tup (pa_cons (pe_op op_add (pv 2) pe_int) (pa_cons (pv 1) pa_nil))) pa_nil)))))), ?_⟩
  all_goals try dsimp only [cx_K]
  refine ⟨_, rfl, _, rfl, u, p, L, n, S, s, m, rfl, hN, hNb, hS, hCn, hSm, hlim, fun f H1 hf hfb s1 => ?_⟩
  refine ⟨_, rfl, _, rfl, (by show 2 <= sizeLine; decide), fun p3 hp3 => ?_⟩
  have s3 := Same.new (o := HO.tup [V.int f, V.int S]) hp3
  refine ⟨_, rfl, _, _, rfl, rfl, _, rfl, (by show 2 <= sizeLine; decide), fun p4 hp4 => ?_⟩
  have s4 := Same.new (o := HO.tup [V.int (f + 1), V.int S]) hp4
  refine ⟨(by show 2 <= sizeLine; decide), fun p5 hp5 => ?_⟩
  have s5 := Same.new (o := HO.tup [V.ref p3, V.ref p4]) hp5
  exact k f _ _ hf hfb (((s1.trans s3).trans s4).trans s5) ⟨p5, .ref p3, .ref p4, rfl, SqT.of upd_same, ⟨p3, rfl, s5.tup (s4.tup (SqT.of upd_same))⟩, ⟨p4, rfl, s5.tup (SqT.of upd_same)⟩⟩
abbrev s_lone_ends : Stmt := top 53
theorem sc_lone_ends : FnScope ["chain", "number", "scale", "ends"] ["chain", "number"] (defScope s_lone_ends) := ⟨rfl, rfl, rfl, by decide +kernel, rfl, by decide +kernel, by decide +kernel⟩
set_option maxHeartbeats 4000000 in
theorem ok_lone_ends (T : Txt P mg) (K_FIRST_SCALE : Kc mg "FIRST_SCALE" 16) (C_ends_at : Cal P w K mg base "ends_at" 48 ["number", "scale"] (spEa K)) (C_roots_within : Cal P w K mg base "roots_within" 46 ["chain", "ends"] (spRw K)) : ∀ f fd, Fun K "lone_ends" "lone_ends" s_lone_ends f fd -> FnOk P w K mg base CX0 49 f fd ["chain", "number"] (spLe K) := by
 intro f fd F
 refine fun_ok F sc_lone_ends (fun vs H Q E h => ?_) (fun cdv A outer s H vs Q E hr h => ?_)
 ·rcases h with ⟨u, v, W, M, p, L, k, rfl, _⟩ <;> rfl
 ·rcases h with ⟨u, v, W, M, p, L, n, rfl, hC, hN, hNb, hCn, hW, hM, hd, hsp, k⟩
  all_goals refine ⟨_, (pss_cons (ps_set (i := 2) sc_lone_ends.nd rfl (Or.inl rfl) (g_int K_FIRST_SCALE))
   (pss_cons (ps_set (i := 3) sc_lone_ends.nd rfl (Or.inl rfl) (pe_cal C_ends_at hr rfl (pa_cons (pv 1) (pa_cons (pv 2) pa_nil))))
   (pss_cons (ps_while PassesOwn.never (pt_cmpR op_gt (pe_cal C_roots_within hr rfl (pa_cons (pv 0) (pa_cons (pv 3) pa_nil))) pe_int (nomark _)) (pss_cons (ps_set (i := 2) sc_lone_ends.nd rfl (Or.inl rfl) (pe_op op_mulB (pv 2) (pv 2)))
   (pss_one (ps_set (i := 3) sc_lone_ends.nd rfl (Or.inl rfl) (pe_cal C_ends_at hr rfl (pa_cons (pv 1) (pa_cons (pv 2) pa_nil)))))))
   (pss_one (ps_ret (pv 3)))))), ?_⟩
  all_goals try dsimp only [cx_K]
  have lim1 : ∀ e, e <= 2400004 -> 20000 + (20000 + (e + 1) + 4) * 19 <= 134217728 := fun e he => Nat.le_trans (Nat.add_le_add_left (Nat.mul_le_mul_right 19 (by lia : 20000 + (e + 1) + 4 <= 20000 + (2400004 + 1) + 4)) 20000) (by decide)
  have lim2 : ∀ e, e <= 2400004 -> 40000 + (20000 + (e + 1) + 4 + 1) * 19 <= 134217728 := fun e he => Nat.le_trans (Nat.add_le_add_left (Nat.mul_le_mul_right 19 (by lia : 20000 + (e + 1) + 4 + 1 <= 20000 + (2400004 + 1) + 4 + 1)) 40000) (by decide)
  have hb : ∀ e : Nat, ((2 : Int) ^ e).natAbs < 2 ^ (e + 1) := fun e => by
   rw [Int.natAbs_pow]
   exact Nat.pow_lt_pow_right (by decide) (by lia)
  refine seq_hide fun N0 hN0 => hN0 _ _ (seq_hide fun N1 hN1 => ?_)
  clear hN0 N0
  refine ⟨_, rfl, _, rfl, v, p, L, n, 16, 20000, 5, rfl, hN, hNb, by decide, hCn, by decide, by decide, fun f0 H1 r1 hf0 hfb0 s1 h1 => ?_⟩
  have e16 : (16 : Int) = 2 ^ 4 := rfl
  rw [e16] at hf0 h1
  have e3 : ∀ N : Nat, 2 ^ N + 2 ^ N <= 2 ^ (N + 1) := fun N => by rw [Nat.pow_succ]; lia
  refine hN1 _ _ (seq_hide fun N2 hN2 => ?_)
  clear hN1 N1
  refine ⟨fun j σ H' => ∃ (e : Nat) (f : Int) (r : V), σ = [some u, some v, some (.int (2 ^ e)), some r] /\ Same H H' /\ 4 <= e /\ e <= 2400004 /\ Fl p L n (2 ^ e) f /\ f.natAbs < 2 ^ (20000 + (e + 1) + 3) /\ EndV K H' r (f, 2 ^ e) (f + 1, 2 ^ e) /\ j = sep (ip W) - e, ⟨_, 4, f0, r1, rfl, s1, by decide, by decide, hf0, hfb0, h1, rfl⟩, ?_⟩
  rintro j σ H' ⟨e, f, r, rfl, sm, he4, heM, hf, hfb, hE, rfl⟩
  have hpos := pow2_pos e
  have bS : ((2 : Int) ^ e).natAbs < 2 ^ (20000 + (e + 1) + 4) := Nat.lt_of_lt_of_le (hb e) (pow_le (by lia))
  have bf : f.natAbs < 2 ^ (20000 + (e + 1) + 4) := Nat.lt_of_lt_of_le hfb (pow_le (by lia))
  have bf1 : (f + 1).natAbs < 2 ^ (20000 + (e + 1) + 4) := nat_abs_succ hfb (e3 _)
  refine ⟨_, rfl, _, rfl, u, r, W, M, (f, 2 ^ e), (f + 1, 2 ^ e), 40000, 20000 + (e + 1) + 4, rfl, hC.same sm, hE, hpos, hpos, hM, hW.hd, bf, bS, bf1, bS, lim2 e heM, fun H2 s2 => ?_⟩
  refine ⟨_, _, rfl, rfl, _, rfl, ?_⟩
  have sm2 := sm.trans s2
  by_cases hw : 1 < wit W M (rf f (2 ^ e)) (rf (f + 1) (2 ^ e))
  case neg =>
   refine itN (by simpa using hw) ?_
   exact hN2 _ _ ⟨_, rfl, k f (2 ^ e) _ _ _ hpos hf (by lia) (by lia) bf bf1 bS sm2 (hE.same s2)⟩
  refine itP (decide_eq_true hw) ?_
  have hlt : e < sep (ip W) := by
   rcases Nat.lt_or_ge e (sep (ip W)) with z | z
   ·exact z
   ·exact absurd (lone_fl hNb hW hd hf z) (by lia)
  refine ⟨fun σ' H3 => ∃ (f2 : Int) (r2 : V), σ' = [some u, some v, some (.int (2 ^ (2 * e))), some r2] /\ Same H H3 /\ Fl p L n (2 ^ (2 * e)) f2 /\ f2.natAbs < 2 ^ (20000 + (2 * e + 1) + 3) /\ EndV K H3 r2 (f2, 2 ^ (2 * e)) (f2 + 1, 2 ^ (2 * e)), ?_, ?_⟩
  ·rintro σ' H3 ⟨f2, r2, rfl, sm3, hf2, hfb2, hE2⟩
   exact ⟨_, by lia, 2 * e, f2, r2, rfl, sm3, by lia, by lia, hf2, hfb2, hE2, rfl⟩
  refine ⟨_, rfl, _, rfl, _, _, rfl, rfl, ⟨e + 1, e + 1, hb e, hb e, by lia⟩, ?_⟩
  have e2 : (2 : Int) ^ e * 2 ^ e = 2 ^ (2 * e) := by rw [<- Int.pow_add]; congr 1; lia
  refine ⟨_, rfl, _, rfl, v, p, L, n, 2 ^ e * 2 ^ e, 20000, 2 * e + 1, rfl, hN.same sm2, hNb, by rw [e2]; exact pow2_pos _, hCn, by rw [e2]; exact hb _, lim1 _ (by lia), fun f2 H3 r2 hf2 hfb2 s3 h3 => ?_⟩
  rw [e2] at hf2 h3
  exact ⟨f2, r2, by rw [<- e2]; rfl, sm2.trans s3, hf2, hfb2, h3⟩
abbrev s_chain_with : Stmt := top 54
theorem sc_chain_with : FnScope ["p", "number"] ["p", "number"] (defScope s_chain_with) := ⟨rfl, rfl, rfl, by decide +kernel, rfl, by decide +kernel, by decide +kernel⟩
set_option maxHeartbeats 4000000 in
theorem ok_chain_with (T : Txt P mg) (C_sturm_chain : Cal P w K mg base "sturm_chain" 44 ["p"] spSc) (C_whole_square_free_part : Cal P w K mg base "whole_square_free_part" 46 ["p"] (spWp K (fun p => sfI (wp p)) cWsf)) (C_poly_product : Cal P w K mg base "poly_product" 44 ["p", "q"] (spTwo K WrAlgn.mul cMul)) (C_of_whole : Cal P w K mg base "of_whole" 41 ["p"] (spOw K)) : ∀ f fd, Fun K "chain_with" "chain_with" s_chain_with f fd -> FnOk P w K mg base CX0 47 f fd ["p", "number"] (spCw K) := by
 intro f fd F
 refine fun_ok F sc_chain_with (fun vs H Q E h => ?_) (fun cdv A outer s H vs Q E hr h => ?_)
 ·rcases h with ⟨u, v, q, p, L, k, rfl, _⟩ <;> rfl
 ·rcases h with ⟨u, v, q, p, L, n, rfl, hP, hN, ⟨l0, rfl⟩, hq, hp, k⟩
  all_goals refine ⟨_, (pss_one (ps_ret (pe_cal C_sturm_chain hr rfl (pa_cons (pe_cal C_whole_square_free_part hr rfl (pa_cons (pe_cal C_poly_product hr rfl (pa_cons (pv 0) (pa_cons (pe_cal C_of_whole hr rfl (pa_cons (pe_ix ix_list (pe_ix ix_tup (pv 1) pe_int (fun _ _ => rfl)) pe_int (fun _ _ => rfl)) pa_nil)) pa_nil))) pa_nil)) pa_nil)))), ?_⟩
  all_goals try dsimp only [cx_K]
  have J := jd hq hp
  obtain ⟨tt, c, rfl, hT, hC⟩ := hN
  obtain ⟨l, vs, rfl, hl, hv⟩ := hC
  obtain ⟨w, hw, gw⟩ := hv.get (i := 0) rfl
  have hvl : 0 < vs.length := by rw [hv.len]; simp
  refine ⟨_, rfl, _, rfl, tt, _, _, _, rfl, rfl, hT, rfl, l, vs, _, w, rfl, rfl, SqL.of hl, at_of (j := 0) (by lia) hw, w, p, rfl, gw, by have := hp.len; lia, fun H1 r1 s1 h1 => ?_⟩
  refine ⟨u, r1, q, ip p, rfl, hP.same s1, h1, J.cm, fun H2 r2 s2 h2 => ?_⟩
  refine ⟨r2, _, rfl, h2, J.ws, fun H3 r3 s3 h3 => ?_⟩
  exact ⟨r3, _, rfl, h3, J.nm, J.ne, J.len, ⟨_, J.bt, by decide⟩, fun H4 r4 s4 h4 => k _ _ (((s1.trans s2).trans s3).trans s4) h4⟩
abbrev s_sign_at_number : Stmt := top 55
theorem sc_sign_at_number : FnScope ["p", "x", "ends", "base"] ["p", "x"] (defScope s_sign_at_number) := ⟨rfl, rfl, rfl, by decide +kernel, rfl, by decide +kernel, by decide +kernel⟩
set_option maxHeartbeats 4000000 in
theorem ok_sign_at_number (T : Txt P mg) (C_lone_ends : Cal P w K mg base "lone_ends" 49 ["chain", "number"] (spLe K)) (C_whole_square_free_part : Cal P w K mg base "whole_square_free_part" 46 ["p"] (spWp K (fun p => sfI (wp p)) cWsf)) (C_sign_of : Cal P w K mg base "sign_of" 41 ["number"] spSi) (C_chain_with : Cal P w K mg base "chain_with" 47 ["p", "number"] (spCw K)) (C_value_sign : Cal P w K mg base "value_sign" 42 ["p", "place"] (spVs K)) (C_value_at : Cal P w K mg base "value_at" 44 ["p", "place"] (spVal K)) : ∀ f fd, Fun K "sign_at_number" "sign_at_number" s_sign_at_number f fd -> FnOk P w K mg base CX0 50 f fd ["p", "x"] (spSn K) := by
 intro f fd F
 refine fun_ok F sc_sign_at_number (fun vs H Q E h => ?_) (fun cdv A outer s H vs Q E hr h => ?_)
 ·rcases h with ⟨u, v, q, p, L, k, D, rfl, _⟩ <;> rfl
 ·rcases h with ⟨u, v, q, p, L, n, D, rfl, hP, hN, hNb, hCn, hD, hq, hqz, hp, k⟩
  all_goals refine ⟨_, (pss_cons (ps_set (i := 2) sc_sign_at_number.nd rfl (Or.inl rfl) (pe_cal C_lone_ends hr rfl (pa_cons (pe_cal C_chain_with hr rfl (pa_cons (pv 0) (pa_cons (pv 1) pa_nil))) (pa_cons (pv 1) pa_nil))))
   (pss_cons (ps_set (i := 3) sc_sign_at_number.nd rfl (Or.inl rfl) (pe_cal C_whole_square_free_part hr rfl (pa_cons (pv 0) pa_nil)))
   (pss_cons (ps_if (pt_cmpR op_le (pe_op op_mulB (pe_cal C_value_sign hr rfl (pa_cons (pv 3) (pa_cons (pe_ix ix_tup (pv 2) pe_int (fun _ _ => rfl)) pa_nil))) (pe_cal C_value_sign hr rfl (pa_cons (pv 3) (pa_cons (pe_ix ix_tup (pv 2) pe_int (fun _ _ => rfl)) pa_nil)))) pe_int (nomark _)) (pss_one (ps_ret pe_int)) pss_nil)
   (pss_one (ps_ret (pe_cal C_sign_of hr rfl (pa_cons (pe_ix ix_tup (pe_cal C_value_at hr rfl (pa_cons (pv 0) (pa_cons (pe_ix ix_tup (pv 2) pe_int (fun _ _ => rfl)) pa_nil))) pe_int (fun _ _ => rfl)) pa_nil))))))), ?_⟩
  all_goals try dsimp only [cx_K]
  have J := jd hq hp
  have hsf := hNb.ch.sf
  have hdv := jd_dv hq hp hsf
  refine seq_hide fun N1 hN1 => ?_
  refine ⟨_, rfl, _, rfl, u, v, q, p, L, n, rfl, hP, hN, hNb.ch.hd, hq, hp, fun H1 r1 s1 h1 => ?_⟩
  refine ⟨_, rfl, r1, v, jI q p, stC (jI q p), p, L, n, rfl, h1, hN.same s1, hNb, hCn, J.ch, J.cn, hdv, J.sp, fun f S m H2 r2 hS hf hw hm bf bf1 bS s2 h2 => ?_⟩
  have hws : cWsf q := ⟨by have := hq.len; lia, hq.nm, hq.ne, 401, 401, hq.fi, by decide, by decide⟩
  refine hN1 _ _ (seq_hide fun N2 hN2 => ?_)
  clear hN1 N1
  refine ⟨_, rfl, u, q, rfl, hP.same (s1.trans s2), hws, fun H3 r3 s3 h3 => ?_⟩
  have s13 := (s1.trans s2).trans s3
  have hwq := pri_wp hq.nm hq.ne
  have kk := sfI_is hwq.nm hwq.ne
  have eq2 := sf_wp hq.nm hq.ne
  have bl : (sfI (wp q)).length <= 9 := by
   rw [<- ip_len, eq2]
   have := sqf_len hq.nm hq.ne
   have := hq.len
   lia
  have bb := (sfI_bits hwq.nm hwq.ne (by rw [wp_len hq.nm hq.ne]; have := hq.len; lia) (btI_wp hq.nm hq.ne hq.fi)).1
  have hlim : 601 + (m + 1) * ((sfI (wp q)).length + 2) <= 134217728 := Nat.le_trans (Nat.add_le_add_left (Nat.mul_le_mul (by lia : m + 1 <= 2500001) (by lia : (sfI (wp q)).length + 2 <= 11)) 601) (by decide)
  obtain ⟨tt, ea, eb, rfl, hT, hA, hB⟩ := h2
  have hT3 := s3.tup hT
  have hA3 := hA.same s3
  have hB3 := hB.same s3
  refine hN2 _ _ (seq_hide fun N3 hN3 => ?_)
  clear hN2 N2
  refine ⟨_, rfl, _, rfl, tt, _, _, _, rfl, rfl, hT3, rfl, r3, ea, sfI (wp q), f, S, 601, m, rfl, h3, hA3, hS, bb, bf, bS, by lia, hlim, ?_⟩
  refine ⟨_, rfl, _, rfl, tt, _, _, _, rfl, rfl, hT3, rfl, r3, eb, sfI (wp q), f + 1, S, 601, m, rfl, h3, hB3, hS, bb, bf1, bS, by lia, hlim, ?_⟩
  have hle := rf_lt (s := S) (f := f) (g := f + 1) hS (by lia)
  have hone : My.cw (WrAlgn.squareFree (WrAlgn.mul q (ip p))) (rf f S) (rf (f + 1) S) <= 1 := by
   have := cw_wit J.ch (Rat.le_of_lt hle)
   rw [J.eq] at this
   lia
  have h17 : (WrAlgn.mul (ip p) q).length <= 17 := by
   have := mul_length hp.pr.ipn hq.nm hp.pr.ip0 hq.ne
   rw [ip_len] at this
   have := hq.len
   have := hp.len
   lia
  have told := sign_told hNb hD hq.nm hq.ne h17 (hf.hol hNb hS) hone
  have esr : sr (WrAlgn.at_ (ip (sfI (wp q))) (((f : Int) : Rat) / ((S : Int) : Rat))) * sr (WrAlgn.at_ (ip (sfI (wp q))) ((((f + 1 : Int)) : Rat) / ((S : Int) : Rat))) <= 0 ↔ WrAlgn.at_ (WrAlgn.squareFree q) (rf f S) * WrAlgn.at_ (WrAlgn.squareFree q) (rf (f + 1) S) <= 0 := by
   rw [eq2]
   exact sr_le
  have hsm : ∀ x : Rat, (sr x).natAbs < 2 ^ 2 := fun x => by
   unfold sr
   split
   ·decide
   ·split <;> decide
  refine ⟨_, _, rfl, rfl, ⟨2, 2, hsm _, hsm _, by decide⟩, _, _, rfl, rfl, _, rfl, ?_⟩
  by_cases hx : WrAlgn.at_ (WrAlgn.squareFree q) (rf f S) * WrAlgn.at_ (WrAlgn.squareFree q) (rf (f + 1) S) <= 0
  ·refine itP (decide_eq_true (esr.mpr hx)) ?_
   rw [if_pos hx] at told
   rw [told] at k
   exact k _ s13
  ·refine itN (by rw [decide_eq_true_eq]; exact fun z => hx (esr.mp z)) ?_
   rw [if_neg hx] at told
   refine hN3 _ _ ⟨_, rfl, _, rfl, tt, _, _, _, rfl, rfl, hT3, rfl, u, ea, q, (f, S), m, rfl, hP.same s13, hA3, hS, hqz, bf, bS, by lia, hq.len, fun H4 r4 s4 h4 => ?_⟩
   obtain ⟨ta, rfl, hR⟩ := h4
   refine ⟨ta, _, _, _, rfl, rfl, hR, rfl, _, rfl, ?_⟩
   have kq := k _ (s13.trans s4)
   rw [told, show (1 : Int) + sr (WrAlgn.at_ q (rf f S)) - 1 = sr (WrAlgn.at_ q (rf f S)) by lia, <- si_num] at kq
   exact kq
abbrev s_chain_of : Stmt := top 57
theorem sc_chain_of : FnScope ["p"] ["p"] (defScope s_chain_of) := ⟨rfl, rfl, rfl, by decide +kernel, rfl, by decide +kernel, by decide +kernel⟩
set_option maxHeartbeats 4000000 in
theorem ok_chain_of (T : Txt P mg) (C_sturm_chain : Cal P w K mg base "sturm_chain" 44 ["p"] spSc) (C_whole_square_free_part : Cal P w K mg base "whole_square_free_part" 46 ["p"] (spWp K (fun p => sfI (wp p)) cWsf)) (C_coefficients_of : Cal P w K mg base "coefficients_of" 41 ["numbers"] (spCoef K)) : ∀ f fd, Fun K "chain_of" "chain_of" s_chain_of f fd -> FnOk P w K mg base CX0 47 f fd ["p"] (spCof K) := by
 intro f fd F
 refine fun_ok F sc_chain_of (fun vs H Q E h => ?_) (fun cdv A outer s H vs Q E hr h => ?_)
 ·rcases h with ⟨a, fs, rfl, _⟩ <;> rfl
 ·rcases h with ⟨a, fs, rfl, hS, hok, hf0, k⟩
  all_goals refine ⟨_, (pss_one (ps_ret (pe_cal C_sturm_chain hr rfl (pa_cons (pe_cal C_whole_square_free_part hr rfl (pa_cons (pe_cal C_coefficients_of hr rfl (pa_cons (pv 0) pa_nil)) pa_nil)) pa_nil)))), ?_⟩
  all_goals try dsimp only [cx_K]
  have hd := hd_ofPoly hok
  have hp0 : ofPoly fs ≠ [] := fun e => hf0 (ofPoly_nil.mp e)
  have hl9 := polyOk_len hok
  refine ⟨_, rfl, a, fs, rfl, hS, by lia, fun H1 r1 s1 h1 => ?_⟩
  have hdl := hd.len
  refine ⟨r1, ofPoly fs, rfl, po_of hok h1, ⟨by lia, hd.nm, hp0, 201, 181, IF.nine hd.sz hd.len (Nat.le_refl _), by decide, by decide⟩, fun H2 r2 s2 h2 => ?_⟩
  have hw := pri_wp hd.nm hp0
  have kk := sfI_is hw.nm hw.ne
  have hsl : (sfI (wp (ofPoly fs))).length <= 9 := by
   rw [<- ip_len, sf_wp hd.nm hp0]
   have := sqf_len hd.nm hp0
   lia
  have hsb := (sfI_bits hw.nm hw.ne (by rw [wp_len hd.nm hp0]; lia) (btI_wp hd.nm hp0 (IF.nine hd.sz hd.len (Nat.le_refl _)))).1
  exact ⟨r2, _, rfl, h2, kk.prs.nm, kk.prs.ne, by show (sfI (wp (ofPoly fs))).length <= 17; lia, ⟨_, hsb, by decide⟩, fun H3 r3 s3 h3 => k _ _ ((s1.trans s2).trans s3) h3⟩
abbrev s_number_of : Stmt := top 58
theorem sc_number_of : FnScope ["root_number", "p", "chain"] ["root_number", "p"] (defScope s_number_of) := ⟨rfl, rfl, rfl, by decide +kernel, rfl, by decide +kernel, by decide +kernel⟩
set_option maxHeartbeats 4000000 in
theorem ok_number_of (T : Txt P mg) (C_chain_of : Cal P w K mg base "chain_of" 47 ["p"] (spCof K)) (C_how_many_roots : Cal P w K mg base "how_many_roots" 44 ["chain"] spHm) : ∀ f fd, Fun K "number_of" "number_of" s_number_of f fd -> FnOk P w K mg base CX0 48 f fd ["root_number", "p"] (spNo K) := by
 intro f fd F
 refine fun_ok F sc_number_of (fun vs H Q E h => ?_) (fun cdv A outer s H vs Q E hr h => ?_)
 ·rcases h with ⟨r, a, fs, rfl, _⟩ <;> rfl
 ·rcases h with ⟨r, a, fs, rfl, hS, hok, ky, kn⟩
  all_goals refine ⟨_, (pss_cons (ps_if (pt_cmpR (op_eqD hr.units) (pv 1) (pe_lst pa_nil) (nomark _)) (pss_one (ps_ret pe_non)) pss_nil)
   (pss_cons (ps_set (i := 2) sc_number_of.nd rfl (Or.inl rfl) (pe_cal C_chain_of hr rfl (pa_cons (pv 1) pa_nil)))
   (pss_one (ps_ret (pe_ifExp (pt_cmpR op_lt (pv 0) (pe_cal C_how_many_roots hr rfl (pa_cons (pv 2) pa_nil)) (nomark _)) (pe_tup (pa_cons (pv 2) (pa_cons (pv 0) pa_nil))) pe_non))))), ?_⟩
  all_goals try dsimp only [cx_K]
  refine ⟨_, rfl, Nat.zero_le _, fun p1 hp1 => ⟨dInts (flat fs), .list [], dp_ints ((Same.new hp1).seq hS), dp_nil upd_same, shaped_ints _, shaped_nil, _, rfl, ?_⟩⟩
  rw [eqv_nil_ints]
  have s1 := Same.new (o := HO.lst []) hp1
  generalize upd H p1 (.lst []) = H1 at s1
  by_cases h0 : fs = []
  ·subst h0
   refine itP (by decide) ?_
   exact kn (.inl rfl) _ s1
  have hf : flat fs ≠ [] := fun q => h0 (List.length_eq_zero_iff.mp (by have := flat_len fs; rw [q] at this; simp at this; lia))
  refine itN (by simpa using hf) ?_
  have hd := hd_ofPoly hok
  have hp0 : ofPoly fs ≠ [] := fun e => h0 (ofPoly_nil.mp e)
  have hCn := cn_chO hd hp0
  refine ⟨_, rfl, a, fs, rfl, s1.seq hS, hok, h0, fun H2 r2 s2 h2 => ?_⟩
  refine ⟨_, rfl, _, rfl, r2, _, 20000, rfl, h2, hCn, fun H3 s3 => ?_⟩
  refine ⟨_, _, rfl, rfl, _, rfl, ?_⟩
  have sm := (s1.trans s2).trans s3
  by_cases hlt : (r : Int) < all (chO (ofPoly fs))
  ·refine itP (decide_eq_true hlt) ?_
   refine ⟨_, rfl, _, rfl, (by show 2 <= sizeLine; decide), fun p4 hp4 => ?_⟩
   have s4 := Same.new (o := HO.tup [r2, V.int (r : Int)]) hp4
   exact ky h0 hlt _ _ (sm.trans s4) (by intro q; cases q) ⟨p4, r2, rfl, SqT.of upd_same, (h2.same s3).same s4⟩
  ·refine itN (by simpa using hlt) ?_
   exact kn (.inr hlt) _ sm
abbrev s_sign : Stmt := top 59
theorem sc_sign : FnScope ["x_root", "p", "x", "number"] ["x_root", "p", "x"] (defScope s_sign) := ⟨rfl, rfl, rfl, by decide +kernel, rfl, by decide +kernel, by decide +kernel⟩
set_option maxHeartbeats 4000000 in
theorem ok_sign (T : Txt P mg) (C_number_of : Cal P w K mg base "number_of" 48 ["root_number", "p"] (spNo K)) (C_answered : Cal P w K mg base "answered" 41 ["numbers"] spAns) (C_refused : Cal P w K mg base "refused" 41 ["reason"] spRef) (C_no_number : Cal P w K mg base "no_number" 41 ["operand"] spNn) (C_is_polynomial : Cal P w K mg base "is_polynomial" 43 ["numbers"] (spIsP K)) (C_is_root : Cal P w K mg base "is_root" 44 ["root", "numbers"] (spIr K)) (C_sign_at_number : Cal P w K mg base "sign_at_number" 50 ["p", "x"] (spSn K)) (C_coefficients_of : Cal P w K mg base "coefficients_of" 41 ["numbers"] (spCoef K)) : ∀ f fd, Fun K "sign" "sign" s_sign f fd -> FnOk P w K mg base CX0 51 f fd ["x_root", "p", "x"] (spSgT K) := by
 intro f fd F
 refine fun_ok F sc_sign (fun vs H Q E h => ?_) (fun cdv A outer s H vs Q E hr h => ?_)
 ·rcases h with ⟨r, ap, ax, ps, ns, rfl, _⟩ <;> rfl
 ·rcases h with ⟨r, ap, ax, ps, ns, rfl, hSp, hS, hr0, hep, he, hlp, hlen, k⟩
  all_goals refine ⟨_, (pss_cons (ps_if (PW.pt (pw_or (pt_not (pt_val (pe_cal C_is_polynomial hr rfl (pa_cons (pv 1) pa_nil)))) (pw_or1 (pt_not (pt_val (pe_cal C_is_root hr rfl (pa_cons (pv 0) (pa_cons (pv 2) pa_nil)))))))) (pss_one (ps_ret (pe_cal C_refused hr rfl (pa_cons pe_int pa_nil)))) pss_nil)
   (pss_cons (ps_set (i := 3) sc_sign.nd rfl (Or.inl rfl) (pe_cal C_number_of hr rfl (pa_cons (pv 0) (pa_cons (pv 2) pa_nil))))
   (pss_cons (ps_if (pt_cmpR op_isN (pv 3) pe_non (nomark _)) (pss_one (ps_ret (pe_cal C_no_number hr rfl (pa_cons pe_int pa_nil)))) pss_nil)
   (pss_cons (ps_if (pt_cmpR (op_eqD hr.units) (pv 1) (pe_lst pa_nil) (nomark _)) (pss_one (ps_ret (pe_cal C_answered hr rfl (pa_cons (pe_lst (pa_cons pe_int pa_nil)) pa_nil)))) pss_nil)
   (pss_one (ps_ret (pe_cal C_answered hr rfl (pa_cons (pe_lst (pa_cons (pe_op op_add pe_int (pe_cal C_sign_at_number hr rfl (pa_cons (pe_cal C_coefficients_of hr rfl (pa_cons (pv 1) pa_nil)) (pa_cons (pv 3) pa_nil)))) pa_nil)) pa_nil)))))))), ?_⟩
  all_goals try dsimp only [cx_K]
  obtain ⟨ef, efl⟩ := flat_fracs (n := ns.length / 2) (ns := ns) (by lia)
  generalize hfs : WrAlgnNeutral.fracs ns = fs at ef efl
  obtain ⟨eg, egl⟩ := flat_fracs (n := ps.length / 2) (ns := ps) (by lia)
  generalize hgs : WrAlgnNeutral.fracs ps = gs at eg egl
  rw [sign_eq hr0 hgs hfs] at k
  rw [<- ef] at hS
  rw [<- eg] at hSp
  obtain ⟨i, rfl⟩ := Int.eq_ofNat_of_zero_le hr0
  have hl30 : fs.length <= 30 := by lia
  have hg30 : gs.length <= 30 := by lia
  refine seq_hide fun N1 hN1 => ?_
  refine ⟨_, rfl, ap, gs, rfl, hSp, hg30, fun H0 s0 => ⟨_, rfl, ?_⟩⟩
  by_cases hg : polyOk gs = true
  case neg =>
   rw [if_neg (fun q => hg q.1)] at k
   rw [show polyOk gs = false from by simpa using hg]
   exact iteT (iteT ⟨_, rfl, k⟩)
  rw [hg]
  refine iteF ?_
  refine ⟨_, rfl, _, rfl, _, ax, fs, rfl, s0.seq hS, hl30, fun H1 s1' => ⟨_, rfl, ?_⟩⟩
  have s1 := s0.trans s1'
  by_cases hok : polyOk fs = true /\ (i : Int) <= 1000
  case neg =>
   rw [if_neg (fun q => hok q.2)] at k
   have e : (decide ((i : Int) <= 1000) && polyOk fs) = false := by
    by_cases h1 : (i : Int) <= 1000
    ·have : polyOk fs = false := by
      cases hq : polyOk fs with
      | false => rfl
      | true => exact absurd ⟨hq, h1⟩ hok
     rw [this, Bool.and_false]
    ·rw [decide_eq_false h1]; rfl
   rw [e]
   exact iteT ⟨_, rfl, k⟩
  obtain ⟨h3, h1⟩ := hok
  rw [decide_eq_true h1, h3]
  refine iteF ?_
  rw [if_pos ⟨hg, h3, h1⟩] at k
  have ei : ((i : Int)).toNat = i := by lia
  rw [ei] at k
  refine hN1 _ _ (seq_hide fun N2 hN2 => ?_)
  clear hN1 N1
  refine ⟨_, rfl, _, rfl, i, ax, fs, rfl, s1.seq hS, h3, fun h0 hlt H2 v s2 hvn hN => ?_, fun hno H2 s2 => ?_⟩
  ·have hd := hd_ofPoly h3
   have hp0 : ofPoly fs ≠ [] := fun e => h0 (ofPoly_nil.mp e)
   have hCn := cn_chO hd hp0
   have hch := chn_chO hd.nm hp0
   have hNb : Nb (sfI (wp (ofPoly fs))) (chO (ofPoly fs)) i := ⟨hch, hlt⟩
   obtain ⟨D, hD1, hD2⟩ := ((spc_chO hd.nm hp0 hch).near hd.nm hp0 i).1 hlt
   rw [hD1] at k
   simp only at k
   have s12 := s1.trans s2
   refine hN2 _ _ (seq_hide fun N3 hN3 => ?_)
   clear hN2 N2
   refine ⟨_, rfl, rfl, _, rfl, ?_⟩
   refine itN (by simp [hvn]) ?_
   refine hN3 _ _ (seq_hide fun N4 hN4 => ?_)
   clear hN3 N3
   refine ⟨_, rfl, Nat.zero_le _, fun p1 hp1 => ⟨dInts (flat gs), .list [], dp_ints ((s12.trans (Same.new hp1)).seq hSp), dp_nil upd_same, shaped_ints _, shaped_nil, _, rfl, ?_⟩⟩
   rw [eqv_nil_ints]
   have sp1 := s12.trans (Same.new (o := HO.lst []) hp1)
   have hN1 := hN.same (Same.new (o := HO.lst []) hp1)
   generalize upd H2 p1 (.lst []) = H3 at sp1 hN1
   by_cases hg0 : gs = []
   ·subst hg0
    refine itP (by decide) ?_
    rw [show ofPoly [] = [] from rfl, signAt_nil] at k
    exact ⟨(by show 1 <= sizeLine; decide), fun p8 hp8 => ⟨p8, [1], rfl, upd_same, by show 1 <= 100000; decide, k⟩⟩
   have hf : flat gs ≠ [] := fun q => hg0 (List.length_eq_zero_iff.mp (by have := flat_len gs; rw [q] at this; simp at this; lia))
   refine itN (by simpa using hf) ?_
   refine hN4 _ _ ?_
   have hq0 : ofPoly gs ≠ [] := fun e => hg0 (ofPoly_nil.mp e)
   refine ⟨_, rfl, ap, gs, rfl, sp1.seq hSp, hg30, fun H4 r4 s4 h4 => ?_⟩
   refine ⟨_, rfl, r4, v, ofPoly gs, _, _, i, D, rfl, po_of hg h4, hN1.same s4, hNb, hCn, hD2, nq_of hg hq0, ofPoly_sz (polyOk_all hg), np_of h3 hp0, fun H5 s5 => ?_⟩
   refine ⟨_, _, rfl, rfl, (by show 1 <= sizeLine; decide), fun p8 hp8 => ?_⟩
   have e1 : ∀ x : Int, (1 : Int) + (x - 1) = x := fun x => by lia
   exact ⟨p8, [_], rfl, upd_same, by show 1 <= 100000; decide, fun H9 p9 h9 => k H9 p9 (h9.trans (congrArg (fun x : Int => some (HO.lst [V.int 0, V.int x])) (e1 _)))⟩
  ·have e : (⟨ofPoly fs, i⟩ : WrAlgn.Num).near = none := by
    rcases hno with h0 | hlt
    ·rw [h0]; rfl
    ·by_cases h0 : fs = []
     ·rw [h0]; rfl
     ·have hd := hd_ofPoly h3
      have hp0 : ofPoly fs ≠ [] := fun e => h0 (ofPoly_nil.mp e)
      exact ((spc_chO hd.nm hp0 (chn_chO hd.nm hp0)).near hd.nm hp0 i).2 hlt
   rw [e] at k
   refine hN2 _ _ ⟨_, rfl, rfl, _, rfl, ?_⟩
   refine itP (by simp) ?_
   exact ⟨_, rfl, k⟩
end
theorem all_mk {P : Program} {w : World} {K : PySem.W.Frag} {h : Heap} {mg : Str -> Option Value} {fa z f47 : Addr} (tree : P.given.tree = none) (X : K.In h) (G : h.Ns mainGlobals mg) (hfa : mg "sign" = some (.ref fa))
  {ktSIZE_LIMIT : Tok} {ktMOST_COEFFICIENTS : Tok} {ktMOST_ROOT : Tok} {zdZERO : Option Addr} {zt0ZERO zt1ZERO : Tok} {znZERO : Nat} {zsZERO : Array (Option Value)} {ktFIRST_SCALE : Tok} {od47 an47 : Option Addr} {sl47 : Array (Option Value)} {oc47 kV47 dc47 pm47 cd47 ct47 : Value}
  (n_abs : PySem.W.nsIn K mainGlobals "abs" = some none)
  (n_len : PySem.W.nsIn K mainGlobals "len" = some none)
  (n_max : PySem.W.nsIn K mainGlobals "max" = some none)
  (n_all : PySem.W.nsIn K mainGlobals "all" = some none)
  (n_list : PySem.W.nsIn K mainGlobals "list" = some none)
  (n_range : PySem.W.nsIn K mainGlobals "range" = some none)
  (n_enumerate : PySem.W.nsIn K mainGlobals "enumerate" = some none)
  (n_zip : PySem.W.nsIn K mainGlobals "zip" = some none)
  (n_reversed : PySem.W.nsIn K mainGlobals "reversed" = some none)
  (k_SIZE_LIMIT : PySem.W.nsIn K mainGlobals "SIZE_LIMIT" = some (some (.int 1000000 ktSIZE_LIMIT)))
  (k_MOST_COEFFICIENTS : PySem.W.nsIn K mainGlobals "MOST_COEFFICIENTS" = some (some (.int 9 ktMOST_COEFFICIENTS)))
  (k_MOST_ROOT : PySem.W.nsIn K mainGlobals "MOST_ROOT" = some (some (.int 1000 ktMOST_ROOT)))
  (z_aZERO : PySem.W.nsIn K mainGlobals "ZERO" = some (some (.ref z)))
  (z_lZERO : K.lookup z = some ⟨.type "tuple", zdZERO, .seq #[.int 0 zt0ZERO, .int 1 zt1ZERO] znZERO, zsZERO⟩)
  (k_FIRST_SCALE : PySem.W.nsIn K mainGlobals "FIRST_SCALE" = some (some (.int 16 ktFIRST_SCALE)))
  (h0 : DfH K "whole_divisor" s_whole_divisor)
  (h1 : DfH K "whole_power" s_whole_power)
  (h2 : DfH K "lowest" s_lowest)
  (h3 : DfH K "added" s_added)
  (h4 : DfH K "times" s_times)
  (h5 : DfH K "over" s_over)
  (h6 : DfH K "is_fraction" s_is_fraction)
  (h7 : DfH K "coefficients_of" s_coefficients_of)
  (h8 : DfH K "is_polynomial" s_is_polynomial)
  (h9 : DfH K "is_root" s_is_root)
  (h10 : DfH K "answered" s_answered)
  (h11 : DfH K "refused" s_refused)
  (h12 : DfH K "no_number" s_no_number)
  (h13 : DfH K "trimmed" s_trimmed)
  (h14 : DfH K "primitive" s_primitive)
  (h15 : DfH K "whole_derivative" s_whole_derivative)
  (h16 : DfH K "scaled_rest" s_scaled_rest)
  (h17 : DfH K "remainder_chain" s_remainder_chain)
  (h18 : DfH K "whole_common_divisor" s_whole_common_divisor)
  (h19 : DfH K "exact_quotient" s_exact_quotient)
  (h20 : DfH K "square_free" s_square_free)
  (h21 : DfH K "sign_of" s_sign_of)
  (h22 : DfH K "value_sign" s_value_sign)
  (h23 : DfH K "poly_product" s_poly_product)
  (h24 : DfH K "content" s_content)
  (h25 : DfH K "divided_by" s_divided_by)
  (h26 : DfH K "whole_part" s_whole_part)
  (h27 : DfH K "of_whole" s_of_whole)
  (h28 : DfH K "whole_square_free_part" s_whole_square_free_part)
  (h29 : DfH K "value_at" s_value_at)
  (h30 : DfH K "sturm_chain" s_sturm_chain)
  (h31 : DfH K "changes" s_changes)
  (h32 : DfH K "far_above" s_far_above)
  (h33 : DfH K "far_below" s_far_below)
  (h34 : DfH K "how_many_roots" s_how_many_roots)
  (h35 : DfH K "roots_upto" s_roots_upto)
  (h36 : DfH K "roots_below" s_roots_below)
  (h37 : DfH K "roots_within" s_roots_within)
  (h38 : DfH K "whole_bound" s_whole_bound)
  (h39 : DfH K "is_at_least" s_is_at_least)
  (h40 : DfH K "floor_of" s_floor_of)
  (h41 : DfH K "ends_at" s_ends_at)
  (h42 : DfH K "lone_ends" s_lone_ends)
  (h43 : DfH K "chain_with" s_chain_with)
  (h44 : DfH K "sign_at_number" s_sign_at_number)
  (h45 : DfH K "chain_of" s_chain_of)
  (h46 : DfH K "number_of" s_number_of)
  (a47 : PySem.W.nsIn K mainGlobals "sign" = some (some (.ref f47)))
  (l47 : K.lookup f47 = some ⟨oc47, od47, .func (PySem.W.fnOf "sign" "sign" (defArgs s_sign) (defBody s_sign) (defScope s_sign) .none kV47 dc47 pm47 an47 cd47 ct47), sl47⟩)
  (c47 : PySem.W.codeIn K cd47 "sign" = true)
  (k47 : PySem.W.keepIn K (.ref f47) = true) :
  ∃ fd : FuncData, (∀ (s : Shared) (us : List Value), us.length = (["x_root", "p", "x"] : List Str).length -> BindsTo s fd ⟨us, []⟩ ((["x_root", "p", "x"] : List Str).zip us)) /\ ∀ base : Heap, K.In base -> base.Ns mainGlobals mg -> FnOk P w K mg base CX0 51 fa fd ["x_root", "p", "x"] (spSgT K) := by
 have e := hfa.symm.trans (PySem.W.mg_of X G a47)
 cases e
 have T : Txt P mg := ⟨tree, PySem.W.mg_none_of X G n_abs, PySem.W.mg_none_of X G n_len, PySem.W.mg_none_of X G n_max, PySem.W.mg_none_of X G n_all, PySem.W.mg_none_of X G n_list, PySem.W.mg_none_of X G n_range, PySem.W.mg_none_of X G n_enumerate, PySem.W.mg_none_of X G n_zip, PySem.W.mg_none_of X G n_reversed⟩
 have K_SIZE_LIMIT : Kc mg "SIZE_LIMIT" 1000000 := ⟨⟨_, PySem.W.mg_of X G k_SIZE_LIMIT⟩⟩
 have K_MOST_COEFFICIENTS : Kc mg "MOST_COEFFICIENTS" 9 := ⟨⟨_, PySem.W.mg_of X G k_MOST_COEFFICIENTS⟩⟩
 have K_MOST_ROOT : Kc mg "MOST_ROOT" 1000 := ⟨⟨_, PySem.W.mg_of X G k_MOST_ROOT⟩⟩
 have K_ZERO : Tc K mg "ZERO" z 0 1 := ⟨PySem.W.mg_of X G z_aZERO, ⟨_, _, _, z_lZERO, rfl, rfl, (by show 2 <= sizeLine; decide), .cons ⟨_, rfl⟩ (.cons ⟨_, rfl⟩ .nil)⟩⟩
 have K_FIRST_SCALE : Kc mg "FIRST_SCALE" 16 := ⟨⟨_, PySem.W.mg_of X G k_FIRST_SCALE⟩⟩
 have F47 := fun_mk (st := s_sign) l47 c47 k47
 refine ⟨PySem.W.fnOf "sign" "sign" (defArgs s_sign) (defBody s_sign) (defScope s_sign) .none kV47 dc47 pm47 an47 cd47 ct47, fun s us hu => us3 (P := fun us => BindsTo s _ ⟨us, []⟩ ((["x_root", "p", "x"] : List Str).zip us)) (fun _ _ _ => .of_eq rfl) us hu, fun base _ _ => ?_⟩
 have C_whole_divisor : Cal P w K mg base "whole_divisor" 41 ["a", "b"] spWd := (h0.df X G).cal (ok_whole_divisor T) fun _ _ _ _ _ _ us hl => us2 (P := fun us => bindArgs _ ⟨us, []⟩ = pure ((["a", "b"] : List Str).zip us)) (fun _ _ => rfl) us hl
 have C_whole_power : Cal P w K mg base "whole_power" 41 ["base", "exponent"] spPow := (h1.df X G).cal (ok_whole_power T) fun _ _ _ _ _ _ us hl => us2 (P := fun us => bindArgs _ ⟨us, []⟩ = pure ((["base", "exponent"] : List Str).zip us)) (fun _ _ => rfl) us hl
 have C_lowest : Cal P w K mg base "lowest" 42 ["top", "bottom"] spLow := (h2.df X G).cal (ok_lowest T C_whole_divisor) fun _ _ _ _ _ _ us hl => us2 (P := fun us => bindArgs _ ⟨us, []⟩ = pure ((["top", "bottom"] : List Str).zip us)) (fun _ _ => rfl) us hl
 have C_added : Cal P w K mg base "added" 43 ["a", "b"] (spBin K (fun x y => x + y) fun _ => True) := (h3.df X G).cal (ok_added T C_lowest) fun _ _ _ _ _ _ us hl => us2 (P := fun us => bindArgs _ ⟨us, []⟩ = pure ((["a", "b"] : List Str).zip us)) (fun _ _ => rfl) us hl
 have C_times : Cal P w K mg base "times" 43 ["a", "b"] (spBinQ K (fun x y => x * y) fun _ => True) := (h4.df X G).cal (ok_times T C_lowest) fun _ _ _ _ _ _ us hl => us2 (P := fun us => bindArgs _ ⟨us, []⟩ = pure ((["a", "b"] : List Str).zip us)) (fun _ _ => rfl) us hl
 have C_over : Cal P w K mg base "over" 43 ["a", "b"] (spBin K (fun x y => x / y) fun y => y ≠ 0) := (h5.df X G).cal (ok_over T C_lowest) fun _ _ _ _ _ _ us hl => us2 (P := fun us => bindArgs _ ⟨us, []⟩ = pure ((["a", "b"] : List Str).zip us)) (fun _ _ => rfl) us hl
 have C_is_fraction : Cal P w K mg base "is_fraction" 42 ["top", "bottom"] spIsF := (h6.df X G).cal (ok_is_fraction T K_SIZE_LIMIT C_whole_divisor) fun _ _ _ _ _ _ us hl => us2 (P := fun us => bindArgs _ ⟨us, []⟩ = pure ((["top", "bottom"] : List Str).zip us)) (fun _ _ => rfl) us hl
 have C_coefficients_of : Cal P w K mg base "coefficients_of" 41 ["numbers"] (spCoef K) := (h7.df X G).cal (ok_coefficients_of T) fun _ _ _ _ _ _ us hl => us1 (P := fun us => bindArgs _ ⟨us, []⟩ = pure ((["numbers"] : List Str).zip us)) (fun _ => rfl) us hl
 have C_is_polynomial : Cal P w K mg base "is_polynomial" 43 ["numbers"] (spIsP K) := (h8.df X G).cal (ok_is_polynomial T K_MOST_COEFFICIENTS C_is_fraction C_coefficients_of) fun _ _ _ _ _ _ us hl => us1 (P := fun us => bindArgs _ ⟨us, []⟩ = pure ((["numbers"] : List Str).zip us)) (fun _ => rfl) us hl
 have C_is_root : Cal P w K mg base "is_root" 44 ["root", "numbers"] (spIr K) := (h9.df X G).cal (ok_is_root T K_MOST_ROOT C_is_polynomial) fun _ _ _ _ _ _ us hl => us2 (P := fun us => bindArgs _ ⟨us, []⟩ = pure ((["root", "numbers"] : List Str).zip us)) (fun _ _ => rfl) us hl
 have C_answered : Cal P w K mg base "answered" 41 ["numbers"] spAns := (h10.df X G).cal (ok_answered T) fun _ _ _ _ _ _ us hl => us1 (P := fun us => bindArgs _ ⟨us, []⟩ = pure ((["numbers"] : List Str).zip us)) (fun _ => rfl) us hl
 have C_refused : Cal P w K mg base "refused" 41 ["reason"] spRef := (h11.df X G).cal (ok_refused T) fun _ _ _ _ _ _ us hl => us1 (P := fun us => bindArgs _ ⟨us, []⟩ = pure ((["reason"] : List Str).zip us)) (fun _ => rfl) us hl
 have C_no_number : Cal P w K mg base "no_number" 41 ["operand"] spNn := (h12.df X G).cal (ok_no_number T) fun _ _ _ _ _ _ us hl => us1 (P := fun us => bindArgs _ ⟨us, []⟩ = pure ((["operand"] : List Str).zip us)) (fun _ => rfl) us hl
 have C_trimmed : Cal P w K mg base "trimmed" 41 ["coefficients", "zero"] (spTrimI K) := (h13.df X G).cal (ok_trimmed T) fun _ _ _ _ _ _ us hl => us2 (P := fun us => bindArgs _ ⟨us, []⟩ = pure ((["coefficients", "zero"] : List Str).zip us)) (fun _ _ => rfl) us hl
 have C_primitive : Cal P w K mg base "primitive" 42 ["p"] (spI1 primI cPrm) := (h14.df X G).cal (ok_primitive T C_whole_divisor) fun _ _ _ _ _ _ us hl => us1 (P := fun us => bindArgs _ ⟨us, []⟩ = pure ((["p"] : List Str).zip us)) (fun _ => rfl) us hl
 have C_whole_derivative : Cal P w K mg base "whole_derivative" 41 ["p"] (spI1 deI cDe) := (h15.df X G).cal (ok_whole_derivative T) fun _ _ _ _ _ _ us hl => us1 (P := fun us => bindArgs _ ⟨us, []⟩ = pure ((["p"] : List Str).zip us)) (fun _ => rfl) us hl
 have C_scaled_rest : Cal P w K mg base "scaled_rest" 42 ["p", "q"] (spI2 srI cSr) := (h16.df X G).cal (ok_scaled_rest T C_trimmed) fun _ _ _ _ _ _ us hl => us2 (P := fun us => bindArgs _ ⟨us, []⟩ = pure ((["p", "q"] : List Str).zip us)) (fun _ _ => rfl) us hl
 have C_remainder_chain : Cal P w K mg base "remainder_chain" 43 ["p", "q"] (spCh chI cCh) := (h17.df X G).cal (ok_remainder_chain T C_scaled_rest C_whole_power) fun _ _ _ _ _ _ us hl => us2 (P := fun us => bindArgs _ ⟨us, []⟩ = pure ((["p", "q"] : List Str).zip us)) (fun _ _ => rfl) us hl
 have C_whole_common_divisor : Cal P w K mg base "whole_common_divisor" 44 ["p", "q"] (spI2 wgI cCh) := (h18.df X G).cal (ok_whole_common_divisor T C_primitive C_remainder_chain) fun _ _ _ _ _ _ us hl => us2 (P := fun us => bindArgs _ ⟨us, []⟩ = pure ((["p", "q"] : List Str).zip us)) (fun _ _ => rfl) us hl
 have C_exact_quotient : Cal P w K mg base "exact_quotient" 41 ["p", "q"] (spI2 exq cExq) := (h19.df X G).cal (ok_exact_quotient T) fun _ _ _ _ _ _ us hl => us2 (P := fun us => bindArgs _ ⟨us, []⟩ = pure ((["p", "q"] : List Str).zip us)) (fun _ _ => rfl) us hl
 have C_square_free : Cal P w K mg base "square_free" 45 ["p"] (spI1 sfI cSfI) := (h20.df X G).cal (ok_square_free T C_primitive C_exact_quotient C_whole_common_divisor C_whole_derivative) fun _ _ _ _ _ _ us hl => us1 (P := fun us => bindArgs _ ⟨us, []⟩ = pure ((["p"] : List Str).zip us)) (fun _ => rfl) us hl
 have C_sign_of : Cal P w K mg base "sign_of" 41 ["number"] spSi := (h21.df X G).cal (ok_sign_of T) fun _ _ _ _ _ _ us hl => us1 (P := fun us => bindArgs _ ⟨us, []⟩ = pure ((["number"] : List Str).zip us)) (fun _ => rfl) us hl
 have C_value_sign : Cal P w K mg base "value_sign" 42 ["p", "place"] (spVs K) := (h22.df X G).cal (ok_value_sign T C_sign_of) fun _ _ _ _ _ _ us hl => us2 (P := fun us => bindArgs _ ⟨us, []⟩ = pure ((["p", "place"] : List Str).zip us)) (fun _ _ => rfl) us hl
 have C_poly_product : Cal P w K mg base "poly_product" 44 ["p", "q"] (spTwo K WrAlgn.mul cMul) := (h23.df X G).cal (ok_poly_product T K_ZERO C_added C_times) fun _ _ _ _ _ _ us hl => us2 (P := fun us => bindArgs _ ⟨us, []⟩ = pure ((["p", "q"] : List Str).zip us)) (fun _ _ => rfl) us hl
 have C_content : Cal P w K mg base "content" 42 ["p"] (spCt K) := (h24.df X G).cal (ok_content T C_whole_divisor) fun _ _ _ _ _ _ us hl => us1 (P := fun us => bindArgs _ ⟨us, []⟩ = pure ((["p"] : List Str).zip us)) (fun _ => rfl) us hl
 have C_divided_by : Cal P w K mg base "divided_by" 44 ["p", "number"] (spDvb K) := (h25.df X G).cal (ok_divided_by T C_over) fun _ _ _ _ _ _ us hl => us2 (P := fun us => bindArgs _ ⟨us, []⟩ = pure ((["p", "number"] : List Str).zip us)) (fun _ _ => rfl) us hl
 have C_whole_part : Cal P w K mg base "whole_part" 45 ["p"] (spWp K wp cWp) := (h26.df X G).cal (ok_whole_part T C_divided_by C_content) fun _ _ _ _ _ _ us hl => us1 (P := fun us => bindArgs _ ⟨us, []⟩ = pure ((["p"] : List Str).zip us)) (fun _ => rfl) us hl
 have C_of_whole : Cal P w K mg base "of_whole" 41 ["p"] (spOw K) := (h27.df X G).cal (ok_of_whole T) fun _ _ _ _ _ _ us hl => us1 (P := fun us => bindArgs _ ⟨us, []⟩ = pure ((["p"] : List Str).zip us)) (fun _ => rfl) us hl
 have C_whole_square_free_part : Cal P w K mg base "whole_square_free_part" 46 ["p"] (spWp K (fun p => sfI (wp p)) cWsf) := (h28.df X G).cal (ok_whole_square_free_part T C_square_free C_whole_part) fun _ _ _ _ _ _ us hl => us1 (P := fun us => bindArgs _ ⟨us, []⟩ = pure ((["p"] : List Str).zip us)) (fun _ => rfl) us hl
 have C_value_at : Cal P w K mg base "value_at" 44 ["p", "place"] (spVal K) := (h29.df X G).cal (ok_value_at T K_ZERO C_added C_times) fun _ _ _ _ _ _ us hl => us2 (P := fun us => bindArgs _ ⟨us, []⟩ = pure ((["p", "place"] : List Str).zip us)) (fun _ _ => rfl) us hl
 have C_sturm_chain : Cal P w K mg base "sturm_chain" 44 ["p"] spSc := (h30.df X G).cal (ok_sturm_chain T C_remainder_chain C_whole_derivative) fun _ _ _ _ _ _ us hl => us1 (P := fun us => bindArgs _ ⟨us, []⟩ = pure ((["p"] : List Str).zip us)) (fun _ => rfl) us hl
 have C_changes : Cal P w K mg base "changes" 41 ["signs"] spChg := (h31.df X G).cal (ok_changes T) fun _ _ _ _ _ _ us hl => us1 (P := fun us => bindArgs _ ⟨us, []⟩ = pure ((["signs"] : List Str).zip us)) (fun _ => rfl) us hl
 have C_far_above : Cal P w K mg base "far_above" 42 ["p"] (spFar fun p => si (leI p)) := (h32.df X G).cal (ok_far_above T C_sign_of) fun _ _ _ _ _ _ us hl => us1 (P := fun us => bindArgs _ ⟨us, []⟩ = pure ((["p"] : List Str).zip us)) (fun _ => rfl) us hl
 have C_far_below : Cal P w K mg base "far_below" 43 ["p"] (spFar fbI) := (h33.df X G).cal (ok_far_below T C_far_above) fun _ _ _ _ _ _ us hl => us1 (P := fun us => bindArgs _ ⟨us, []⟩ = pure ((["p"] : List Str).zip us)) (fun _ => rfl) us hl
 have C_how_many_roots : Cal P w K mg base "how_many_roots" 44 ["chain"] spHm := (h34.df X G).cal (ok_how_many_roots T C_changes C_far_below C_far_above) fun _ _ _ _ _ _ us hl => us1 (P := fun us => bindArgs _ ⟨us, []⟩ = pure ((["chain"] : List Str).zip us)) (fun _ => rfl) us hl
 have C_roots_upto : Cal P w K mg base "roots_upto" 44 ["chain", "place"] (spUp K) := (h35.df X G).cal (ok_roots_upto T C_changes C_far_below C_value_sign) fun _ _ _ _ _ _ us hl => us2 (P := fun us => bindArgs _ ⟨us, []⟩ = pure ((["chain", "place"] : List Str).zip us)) (fun _ _ => rfl) us hl
 have C_roots_below : Cal P w K mg base "roots_below" 45 ["chain", "place"] (spRb K) := (h36.df X G).cal (ok_roots_below T C_roots_upto C_value_sign) fun _ _ _ _ _ _ us hl => us2 (P := fun us => bindArgs _ ⟨us, []⟩ = pure ((["chain", "place"] : List Str).zip us)) (fun _ _ => rfl) us hl
 have C_roots_within : Cal P w K mg base "roots_within" 46 ["chain", "ends"] (spRw K) := (h37.df X G).cal (ok_roots_within T C_roots_upto C_roots_below) fun _ _ _ _ _ _ us hl => us2 (P := fun us => bindArgs _ ⟨us, []⟩ = pure ((["chain", "ends"] : List Str).zip us)) (fun _ _ => rfl) us hl
 have C_whole_bound : Cal P w K mg base "whole_bound" 41 ["p"] spWb := (h38.df X G).cal (ok_whole_bound T) fun _ _ _ _ _ _ us hl => us1 (P := fun us => bindArgs _ ⟨us, []⟩ = pure ((["p"] : List Str).zip us)) (fun _ => rfl) us hl
 have C_is_at_least : Cal P w K mg base "is_at_least" 46 ["number", "place"] (spGe K) := (h39.df X G).cal (ok_is_at_least T C_roots_below) fun _ _ _ _ _ _ us hl => us2 (P := fun us => bindArgs _ ⟨us, []⟩ = pure ((["number", "place"] : List Str).zip us)) (fun _ _ => rfl) us hl
 have C_floor_of : Cal P w K mg base "floor_of" 47 ["number", "scale"] (spFl K) := (h40.df X G).cal (ok_floor_of T C_whole_bound C_is_at_least) fun _ _ _ _ _ _ us hl => us2 (P := fun us => bindArgs _ ⟨us, []⟩ = pure ((["number", "scale"] : List Str).zip us)) (fun _ _ => rfl) us hl
 have C_ends_at : Cal P w K mg base "ends_at" 48 ["number", "scale"] (spEa K) := (h41.df X G).cal (ok_ends_at T C_floor_of) fun _ _ _ _ _ _ us hl => us2 (P := fun us => bindArgs _ ⟨us, []⟩ = pure ((["number", "scale"] : List Str).zip us)) (fun _ _ => rfl) us hl
 have C_lone_ends : Cal P w K mg base "lone_ends" 49 ["chain", "number"] (spLe K) := (h42.df X G).cal (ok_lone_ends T K_FIRST_SCALE C_ends_at C_roots_within) fun _ _ _ _ _ _ us hl => us2 (P := fun us => bindArgs _ ⟨us, []⟩ = pure ((["chain", "number"] : List Str).zip us)) (fun _ _ => rfl) us hl
 have C_chain_with : Cal P w K mg base "chain_with" 47 ["p", "number"] (spCw K) := (h43.df X G).cal (ok_chain_with T C_sturm_chain C_whole_square_free_part C_poly_product C_of_whole) fun _ _ _ _ _ _ us hl => us2 (P := fun us => bindArgs _ ⟨us, []⟩ = pure ((["p", "number"] : List Str).zip us)) (fun _ _ => rfl) us hl
 have C_sign_at_number : Cal P w K mg base "sign_at_number" 50 ["p", "x"] (spSn K) := (h44.df X G).cal (ok_sign_at_number T C_lone_ends C_whole_square_free_part C_sign_of C_chain_with C_value_sign C_value_at) fun _ _ _ _ _ _ us hl => us2 (P := fun us => bindArgs _ ⟨us, []⟩ = pure ((["p", "x"] : List Str).zip us)) (fun _ _ => rfl) us hl
 have C_chain_of : Cal P w K mg base "chain_of" 47 ["p"] (spCof K) := (h45.df X G).cal (ok_chain_of T C_sturm_chain C_whole_square_free_part C_coefficients_of) fun _ _ _ _ _ _ us hl => us1 (P := fun us => bindArgs _ ⟨us, []⟩ = pure ((["p"] : List Str).zip us)) (fun _ => rfl) us hl
 have C_number_of : Cal P w K mg base "number_of" 48 ["root_number", "p"] (spNo K) := (h46.df X G).cal (ok_number_of T C_chain_of C_how_many_roots) fun _ _ _ _ _ _ us hl => us2 (P := fun us => bindArgs _ ⟨us, []⟩ = pure ((["root_number", "p"] : List Str).zip us)) (fun _ _ => rfl) us hl
 exact ok_sign T C_number_of C_answered C_refused C_no_number C_is_polynomial C_is_root C_sign_at_number C_coefficients_of _ _ F47
end My
open PySem PySem.W PyProof.Rows
set_option maxRecDepth 100000 in
set_option maxHeartbeats 0 in
theorem PySem.Challenge.cw_rootnumbers_s12_sign_holds : PySem.Challenge.rw_rootnumbers_s12_sign.Holds := by
 w_on; k_headS; (case hw => exact ⟨[.int 0, .list [], .list []], by decide +kernel, by decide +kernel⟩)
 k_fillS
 refine L2.walk_specK (r := PySem.Challenge.rw_rootnumbers_s12_sign) (k := 51) (CX := L2.CX0) (ps := ["x_root", "p", "x"]) (sp := fun K => (My.spSgT K)) (by decide +kernel) (by decide +kernel) rfl rfl ⟨rfl, by decide, by decide⟩ (fun w h Y => PySem.W.kIn_of Y) ?F ?S (fun _ _ _ _ z => z)
 case F =>
  intro w mg fa h Y KX G hmg
  refine' My.all_mk rfl KX G hmg ?n_abs ?n_len ?n_max ?n_all ?n_list ?n_range ?n_enumerate ?n_zip ?n_reversed ?k_SIZE_LIMIT ?k_MOST_COEFFICIENTS ?k_MOST_ROOT ?z_aZERO ?z_lZERO ?k_FIRST_SCALE ?h0 ?h1 ?h2 ?h3 ?h4 ?h5 ?h6 ?h7 ?h8 ?h9 ?h10 ?h11 ?h12 ?h13 ?h14 ?h15 ?h16 ?h17 ?h18 ?h19 ?h20 ?h21 ?h22 ?h23 ?h24 ?h25 ?h26 ?h27 ?h28 ?h29 ?h30 ?h31 ?h32 ?h33 ?h34 ?h35 ?h36 ?h37 ?h38 ?h39 ?h40 ?h41 ?h42 ?h43 ?h44 ?h45 ?h46 ?a47 ?l47 ?c47 ?k47
  (case n_abs => k_is)
  (case n_len => k_is)
  (case n_max => k_is)
  (case n_all => k_is)
  (case n_list => k_is)
  (case n_range => k_is)
  (case n_enumerate => k_is)
  (case n_zip => k_is)
  (case n_reversed => k_is)
  (case k_SIZE_LIMIT => k_is)
  (case k_MOST_COEFFICIENTS => k_is)
  (case k_MOST_ROOT => k_is)
  (case z_aZERO => k_is)
  (case z_lZERO => k_is)
  (case k_FIRST_SCALE => k_is)
  (case h0 => refine' My.DfH.of ?a ?l ?c ?k; (case a => k_is); (case l => k_is); (case c => k_is); (case k => k_is))
  (case h1 => refine' My.DfH.of ?a ?l ?c ?k; (case a => k_is); (case l => k_is); (case c => k_is); (case k => k_is))
  (case h2 => refine' My.DfH.of ?a ?l ?c ?k; (case a => k_is); (case l => k_is); (case c => k_is); (case k => k_is))
  (case h3 => refine' My.DfH.of ?a ?l ?c ?k; (case a => k_is); (case l => k_is); (case c => k_is); (case k => k_is))
  (case h4 => refine' My.DfH.of ?a ?l ?c ?k; (case a => k_is); (case l => k_is); (case c => k_is); (case k => k_is))
  (case h5 => refine' My.DfH.of ?a ?l ?c ?k; (case a => k_is); (case l => k_is); (case c => k_is); (case k => k_is))
  (case h6 => refine' My.DfH.of ?a ?l ?c ?k; (case a => k_is); (case l => k_is); (case c => k_is); (case k => k_is))
  (case h7 => refine' My.DfH.of ?a ?l ?c ?k; (case a => k_is); (case l => k_is); (case c => k_is); (case k => k_is))
  (case h8 => refine' My.DfH.of ?a ?l ?c ?k; (case a => k_is); (case l => k_is); (case c => k_is); (case k => k_is))
  (case h9 => refine' My.DfH.of ?a ?l ?c ?k; (case a => k_is); (case l => k_is); (case c => k_is); (case k => k_is))
  (case h10 => refine' My.DfH.of ?a ?l ?c ?k; (case a => k_is); (case l => k_is); (case c => k_is); (case k => k_is))
  (case h11 => refine' My.DfH.of ?a ?l ?c ?k; (case a => k_is); (case l => k_is); (case c => k_is); (case k => k_is))
  (case h12 => refine' My.DfH.of ?a ?l ?c ?k; (case a => k_is); (case l => k_is); (case c => k_is); (case k => k_is))
  (case h13 => refine' My.DfH.of ?a ?l ?c ?k; (case a => k_is); (case l => k_is); (case c => k_is); (case k => k_is))
  (case h14 => refine' My.DfH.of ?a ?l ?c ?k; (case a => k_is); (case l => k_is); (case c => k_is); (case k => k_is))
  (case h15 => refine' My.DfH.of ?a ?l ?c ?k; (case a => k_is); (case l => k_is); (case c => k_is); (case k => k_is))
  (case h16 => refine' My.DfH.of ?a ?l ?c ?k; (case a => k_is); (case l => k_is); (case c => k_is); (case k => k_is))
  (case h17 => refine' My.DfH.of ?a ?l ?c ?k; (case a => k_is); (case l => k_is); (case c => k_is); (case k => k_is))
  (case h18 => refine' My.DfH.of ?a ?l ?c ?k; (case a => k_is); (case l => k_is); (case c => k_is); (case k => k_is))
  (case h19 => refine' My.DfH.of ?a ?l ?c ?k; (case a => k_is); (case l => k_is); (case c => k_is); (case k => k_is))
  (case h20 => refine' My.DfH.of ?a ?l ?c ?k; (case a => k_is); (case l => k_is); (case c => k_is); (case k => k_is))
  (case h21 => refine' My.DfH.of ?a ?l ?c ?k; (case a => k_is); (case l => k_is); (case c => k_is); (case k => k_is))
  (case h22 => refine' My.DfH.of ?a ?l ?c ?k; (case a => k_is); (case l => k_is); (case c => k_is); (case k => k_is))
  (case h23 => refine' My.DfH.of ?a ?l ?c ?k; (case a => k_is); (case l => k_is); (case c => k_is); (case k => k_is))
  (case h24 => refine' My.DfH.of ?a ?l ?c ?k; (case a => k_is); (case l => k_is); (case c => k_is); (case k => k_is))
  (case h25 => refine' My.DfH.of ?a ?l ?c ?k; (case a => k_is); (case l => k_is); (case c => k_is); (case k => k_is))
  (case h26 => refine' My.DfH.of ?a ?l ?c ?k; (case a => k_is); (case l => k_is); (case c => k_is); (case k => k_is))
  (case h27 => refine' My.DfH.of ?a ?l ?c ?k; (case a => k_is); (case l => k_is); (case c => k_is); (case k => k_is))
  (case h28 => refine' My.DfH.of ?a ?l ?c ?k; (case a => k_is); (case l => k_is); (case c => k_is); (case k => k_is))
  (case h29 => refine' My.DfH.of ?a ?l ?c ?k; (case a => k_is); (case l => k_is); (case c => k_is); (case k => k_is))
  (case h30 => refine' My.DfH.of ?a ?l ?c ?k; (case a => k_is); (case l => k_is); (case c => k_is); (case k => k_is))
  (case h31 => refine' My.DfH.of ?a ?l ?c ?k; (case a => k_is); (case l => k_is); (case c => k_is); (case k => k_is))
  (case h32 => refine' My.DfH.of ?a ?l ?c ?k; (case a => k_is); (case l => k_is); (case c => k_is); (case k => k_is))
  (case h33 => refine' My.DfH.of ?a ?l ?c ?k; (case a => k_is); (case l => k_is); (case c => k_is); (case k => k_is))
  (case h34 => refine' My.DfH.of ?a ?l ?c ?k; (case a => k_is); (case l => k_is); (case c => k_is); (case k => k_is))
  (case h35 => refine' My.DfH.of ?a ?l ?c ?k; (case a => k_is); (case l => k_is); (case c => k_is); (case k => k_is))
  (case h36 => refine' My.DfH.of ?a ?l ?c ?k; (case a => k_is); (case l => k_is); (case c => k_is); (case k => k_is))
  (case h37 => refine' My.DfH.of ?a ?l ?c ?k; (case a => k_is); (case l => k_is); (case c => k_is); (case k => k_is))
  (case h38 => refine' My.DfH.of ?a ?l ?c ?k; (case a => k_is); (case l => k_is); (case c => k_is); (case k => k_is))
  (case h39 => refine' My.DfH.of ?a ?l ?c ?k; (case a => k_is); (case l => k_is); (case c => k_is); (case k => k_is))
  (case h40 => refine' My.DfH.of ?a ?l ?c ?k; (case a => k_is); (case l => k_is); (case c => k_is); (case k => k_is))
  (case h41 => refine' My.DfH.of ?a ?l ?c ?k; (case a => k_is); (case l => k_is); (case c => k_is); (case k => k_is))
  (case h42 => refine' My.DfH.of ?a ?l ?c ?k; (case a => k_is); (case l => k_is); (case c => k_is); (case k => k_is))
  (case h43 => refine' My.DfH.of ?a ?l ?c ?k; (case a => k_is); (case l => k_is); (case c => k_is); (case k => k_is))
  (case h44 => refine' My.DfH.of ?a ?l ?c ?k; (case a => k_is); (case l => k_is); (case c => k_is); (case k => k_is))
  (case h45 => refine' My.DfH.of ?a ?l ?c ?k; (case a => k_is); (case l => k_is); (case c => k_is); (case k => k_is))
  (case h46 => refine' My.DfH.of ?a ?l ?c ?k; (case a => k_is); (case l => k_is); (case c => k_is); (case k => k_is))
  (case a47 => k_is)
  (case l47 => k_is)
  (case c47 => k_is)
  (case k47 => k_is)
 case S =>
  intro K H xs a hO hwi hask hx
  obtain ⟨r, ps, ns, u⟩ := a
  cases hx with
  | cons h1 hx =>
   cases hx with
   | cons h2 hx =>
    cases hx with
    | cons h3 hx =>
     cases hx
     cases h1
     cases h2 with
     | lst hs2 ha2 =>
      have e2 := L2.ints_dw ps _ ha2
      subst e2
      cases h3 with
      | lst hs ha =>
       have e := L2.ints_dw ns _ ha
       subst e
       have q : (Codec.inInt 0 4294967295 r && ((Codec.inLen 0 60 ps && ps.all (Codec.inInt (-1000000000000) 1000000000000)) && ((Codec.inLen 0 60 ns && ns.all (Codec.inInt (-1000000000000) 1000000000000)) && true))) = true := hwi
       simp only [Bool.and_eq_true] at q
       have hk : WrAlgnNeutral.asked [[[11, r], ps, ns]] = true := hask
       have hev : 0 <= r /\ ps.length % 2 = 0 /\ ns.length % 2 = 0 := by
        have hk1 : ((((decide (0 <= r) && decide (r <= 4294967295)) && (decide (ps.length % 2 = 0) && decide (ns.length % 2 = 0))) && true) && true) = true := hk
        simp only [Bool.and_eq_true, decide_eq_true_eq] at hk1
        exact ⟨hk1.1.1.1.1, hk1.1.1.2.1, hk1.1.1.2.2⟩
       exact ⟨r, _, _, ps, ns, rfl, hs2, hs, hev.1, hev.2.1, hev.2.2, (Codec.inNat_iff.mp q.2.1.1).2, (Codec.inNat_iff.mp q.2.2.1.1).2, fun H' p hp => .lst (L2.SqL.of hp) (L2.dw_ints _)⟩
#print axioms PySem.Challenge.cw_rootnumbers_s12_sign_holds
