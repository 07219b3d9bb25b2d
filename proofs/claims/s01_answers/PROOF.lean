import PyProof.Rows.All
import Wide.All
import OpenK.AllK
import Wide.FinOn
import PyProof.EqAt
import PyProof.EqKinds
import PyProof.TupleCall
import KE.BitLaws
import Open.SpecLaws
import KE.OsHead
import KE.OsGo
import KE.SpHead
import KE.OsShapes
import KE.KDictList
import PySem.Challenge.RW_tyresjudged_s01_answers
set_option Elab.async false
set_option linter.all false
set_option maxRecDepth 100000
namespace L2
open PySem PySem.Spec PyProof.Rows

abbrev Key := Sum Int Str
def keyIs : Key → Value → Bool
  | .inl k, v => Value.isInt k v
  | .inr x, v => Value.isStrOf x v
def keyH (w : World) : Key → Int
  | .inl k => hashInt k
  | .inr x => hashStr w x
theorem keyIs_shape : ∀ {k : Key} {v : Value}, keyIs k v = true → (∃ i t, k = Sum.inl i ∧ v = Value.int i t) ∨ (∃ x t, k = Sum.inr x ∧ v = Value.str x t)
  | .inl i, v, h => by
    obtain ⟨t, e⟩ := Value.isInt_shape (k := i) (v := v) h
    exact .inl ⟨i, t, rfl, e⟩
  | .inr x, v, h => by
    obtain ⟨t, e⟩ := Value.isStrOf_shape (x := x) (v := v) h
    exact .inr ⟨x, t, rfl, e⟩
theorem keyIs_int (i : Int) (t : Tok) : keyIs (.inl i) (.int i t) = true := by simp [keyIs, Value.isInt]
theorem keyIs_str (x : Str) (t : Tok) : keyIs (.inr x) (.str x t) = true := by simp [keyIs, Value.isStrOf]
theorem key_ll (a b : Int) : decide ((Sum.inl a : Key) = Sum.inl b) = (a == b) := by
  by_cases e : a = b
  · subst e; simp
  · have h : ¬ (Sum.inl a : Key) = Sum.inl b := fun q => e (Sum.inl.inj q)
    rw [decide_eq_false h]
    exact (beq_eq_false_iff_ne.mpr e).symm
theorem key_rr (a b : Str) : decide ((Sum.inr a : Key) = Sum.inr b) = decide (a = b) := by
  by_cases e : a = b
  · subst e; simp
  · have h : ¬ (Sum.inr a : Key) = Sum.inr b := fun q => e (Sum.inr.inj q)
    rw [decide_eq_false h, decide_eq_false e]
theorem key_lr (a : Int) (b : Str) : decide ((Sum.inl a : Key) = Sum.inr b) = false := decide_eq_false (fun q => nomatch q)
theorem key_rl (a : Str) (b : Int) : decide ((Sum.inr a : Key) = Sum.inl b) = false := decide_eq_false (fun q => nomatch q)

def mixKind (prog : Program) (w : World) : PySem.KeyKind prog w Key where
  is := keyIs
  hash := keyH w
  inj := fun v a b ha hb => by
    rcases keyIs_shape ha with ⟨i, t, rfl, rfl⟩ | ⟨x, t, rfl, rfl⟩
    · rcases keyIs_shape hb with ⟨j, u, rfl, e⟩ | ⟨y, u, rfl, e⟩
      · injection e with e1 _; rw [e1]
      · exact nomatch e
    · rcases keyIs_shape hb with ⟨j, u, rfl, e⟩ | ⟨y, u, rfl, e⟩
      · exact nomatch e
      · injection e with e1 _; rw [e1]
  byValue := fun k v h => by
    rcases keyIs_shape h with ⟨i, t, rfl, rfl⟩ | ⟨x, t, rfl, rfl⟩ <;> rfl
  pyHash := fun hv h => by
    rcases keyIs_shape hv with ⟨i, t, rfl, rfl⟩ | ⟨x, t, rfl, rfl⟩
    · exact wpAny_pyHash_int h
    · exact wpAny_pyHash_str h
  eqBool := fun hu hv h => by
    rcases keyIs_shape hu with ⟨i, t, rfl, rfl⟩ | ⟨x, t, rfl, rfl⟩
    · rcases keyIs_shape hv with ⟨j, u, rfl, rfl⟩ | ⟨y, u, rfl, rfl⟩
      · rw [key_ll] at h; exact wpAny_eqBool_int h
      · rw [key_lr] at h; exact SeqAt.EqAt.int_str i t y u _ _ _ _ h
    · rcases keyIs_shape hv with ⟨j, u, rfl, rfl⟩ | ⟨y, u, rfl, rfl⟩
      · rw [key_rl] at h; exact SeqAt.EqAt.str_int x t j u _ _ _ _ h
      · rw [key_rr] at h; exact wpAny_eqBool_str h
  «strs» := fun k x t v h => by
    rcases keyIs_shape h with ⟨i, u, rfl, e⟩ | ⟨y, u, rfl, e⟩
    · exact nomatch e
    · injection e with e1 _
      subst e1
      cases v <;> rfl

theorem mixKind_int (prog : Program) (w : World) (i : Int) (t : Tok) : (mixKind prog w).is (.inl i) (.int i t) = true := keyIs_int i t
theorem mixKind_str (prog : Program) (w : World) (x : Str) (t : Tok) : (mixKind prog w).is (.inr x) (.str x t) = true := keyIs_str x t
end L2

namespace L2
open PySem PySem.Spec PyProof.Rows

inductive V where
  | non | bl (b : Bool) | int (i : Int) | str (x : Str) | byt (b : Array UInt8) | flt (b : UInt64) | ref (a : Addr) | ty (n : String)
  deriving DecidableEq

def RelV : V → Value → Prop
  | .non, u => u = Value.none
  | .bl b, u => u = Value.bool b
  | .int i, u => ∃ t, u = Value.int i t
  | .str x, u => ∃ t, u = Value.str x t
  | .byt b, u => ∃ t, u = Value.bytes b t
  | .flt b, u => ∃ t, u = Value.float b t
  | .ref a, u => u = Value.ref a
  | .ty n, u => u = Value.type n

abbrev Vals : List V → List Value → Prop := Paired RelV
theorem Vals.length {xs : List V} {us : List Value} (r : Vals xs us) : xs.length = us.length := Paired.length r
theorem Vals.get : ∀ {xs : List V} {us : List Value} {i : Nat} {x : V}, Vals xs us → xs[i]? = some x → ∃ u, us[i]? = some u ∧ RelV x u
  | _, _, _, _, .nil, e => by simp at e
  | _, _, 0, _, .cons r _, e => by simp at e; subst e; exact ⟨_, rfl, r⟩
  | _, _, i + 1, x, .cons _ t, e => by
    obtain ⟨u, h1, h2⟩ := Vals.get (i := i) (x := x) t (by simpa using e)
    exact ⟨u, by simpa using h1, h2⟩
theorem Vals.set {x : V} {u : Value} (r : RelV x u) : ∀ {xs : List V} {us : List Value} (i : Nat), Vals xs us → Vals (xs.set i x) (us.set i u)
  | _, _, _, .nil => .nil
  | _, _, 0, .cons _ t => .cons r t
  | _, _, i + 1, .cons q t => .cons q (Vals.set r i t)
theorem Vals.append : ∀ {xs ys : List V} {us ws : List Value}, Vals xs us → Vals ys ws → Vals (xs ++ ys) (us ++ ws)
  | _, _, _, _, .nil, s => s
  | _, _, _, _, .cons r t, s => .cons r (Vals.append t s)
theorem Vals.take : ∀ {xs : List V} {us : List Value} (n : Nat), Vals xs us → Vals (xs.take n) (us.take n)
  | _, _, 0, _ => .nil
  | _, _, _ + 1, .nil => .nil
  | _, _, n + 1, .cons r t => .cons r (Vals.take n t)
theorem Vals.drop : ∀ {xs : List V} {us : List Value} (n : Nat), Vals xs us → Vals (xs.drop n) (us.drop n)
  | _, _, 0, r => r
  | _, _, _ + 1, .nil => .nil
  | _, _, n + 1, .cons _ t => Vals.drop n t
theorem Vals.none_of : ∀ {xs : List V} {us : List Value} {i : Nat}, Vals xs us → xs[i]? = none → us[i]? = none := fun {xs us i} r e => by
  have h1 := r.length
  have h2 : xs.length ≤ i := List.getElem?_eq_none_iff.mp e
  exact List.getElem?_eq_none_iff.mpr (by omega)

def RelO : Option V → Option Value → Prop
  | some v, some u => RelV v u
  | none, none => True
  | _, _ => False
def KV {κ : Type} : List (κ × V) → List (κ × Value) → Prop := Paired fun (p : κ × V) (q : κ × Value) => p.1 = q.1 ∧ RelV p.2 q.2

def kV : Key → V
  | .inl i => .int i
  | .inr x => .str x

inductive HO where
  | lst (xs : List V)
  | tup (xs : List V)
  | dK (kvs : List (Key × V)) | dT (kvs : List (List Key × V))
  | set (S : Int → Bool) (n : Nat)
  | ins (C dx : Addr) (fs : List (Str × V))
  | own (x : Addr)
  | xd (fs : List (Str × V))
  | met (f x : Addr)
  | rng (lo hi : Int)
  | frz (o : Obj) (u : HO)
  | tbl (ps : Array Value)
  | ext (φ : Heap → Prop)

abbrev Hp := Addr → Option HO
def upd (H : Hp) (a : Addr) (o : HO) : Hp := fun b => if b = a then some o else H b
theorem upd_same {H : Hp} {a : Addr} {o : HO} : upd H a o a = some o := by unfold upd; rw [if_pos rfl]
theorem upd_ne {H : Hp} {a b : Addr} {o : HO} (h : b ≠ a) : upd H a o b = H b := by unfold upd; rw [if_neg h]
theorem ne_of_none {H : Hp} {a b : Addr} {o : HO} (h : H a = some o) (h' : H b = none) : a ≠ b := by
  intro e; subst e; rw [h] at h'; cases h'

section
variable (P : Program) (w : World)
def ObjOk (H : Hp) (h : Heap) (a : Addr) : HO → Prop
  | .lst xs => xs.length ≤ sizeLine ∧ ∃ (its : List Value) (n : Nat), Vals xs its ∧ h.get? a = some { cls := .type "list", data := .seq its.toArray n }
  | .tup xs => xs.length ≤ sizeLine ∧ ∃ its : List Value, Vals xs its ∧ IsTup h a its.toArray
  | .dK kvs => kvs.length ≤ sizeLine ∧ (a == sysModules) = false ∧ ∃ vs, KV kvs vs ∧ h.DictOf (mixKind P w) a vs
  | .dT kvs => kvs.length ≤ sizeLine ∧ (a == sysModules) = false ∧ ∃ xs : List (List Key × Addr × Value),
      Paired (fun (p : List Key × V) (q : List Key × Addr × Value) => p.1 = q.1 ∧ H q.2.1 = some (.tup (p.1.map kV)) ∧ RelV p.2 q.2.2) kvs xs ∧
      ∃ o es ep, h.get? a = some o ∧ o.ExactDict ∧ o.data = .dict es ep ∧ es.toList = xs.map (entryOfKey (tupleKind (mixKind P w))) ∧ (xs.map (·.1)).Nodup
  | .set S n => h.SetOf (intKind P w) a S n
  | .ins C dx fs => H dx = some (.own a) ∧ fs.length ≤ 1000 ∧ dx ≠ a ∧ h.get? a = some (PySem.W.instObj C dx) ∧
      ∃ mA, h.Ns1 dx mA ∧ (∀ f, RelO (fs.lookup f) (mA f)) ∧ PySem.Within mA (fs.map (·.1))
  | .own _ => ∃ o, h.get? a = some o
  | .xd fs => ∃ mA, h.Ns1 a mA ∧ ∀ f, RelO (fs.lookup f) (mA f)
  | .rng lo hi => ∃ t u v, h.get? a = some { cls := .type "range", data := .fields #[.int lo t, .int hi u, .int 1 v] }
  | .frz o u => h.get? a = some o ∧ ObjOk H h a u
  | .tbl ps => h.get? a = some { cls := .none, data := .fields ps }
  | .met f x => h.get? a = some (PySem.W.methodObj (.ref f) (.ref x))
  | .ext φ => φ h ∧ (∃ o, h.get? a = some o) ∧ ∀ h1 h2 : Heap, φ h1 → (∀ o, h1.get? a = some o → h2.get? a = some o) → φ h2
def HOk (H : Hp) (h : Heap) : Prop := ∀ a o, H a = some o → ObjOk P w H h a o
end

section
variable {P : Program} {w : World} {H H' : Hp} {h h' : Heap} {a : Addr} {o : HO}
theorem ObjOk.lt (x : ObjOk P w H h a o) : a < h.objs.size := by
  cases o with
  | lst xs => obtain ⟨_, _, _, _, e⟩ := x; exact Heap.lt_size e
  | tup xs => obtain ⟨_, _, _, p⟩ := x; exact p.lt
  | dK kvs => obtain ⟨_, _, _, _, o, _, _, e, _⟩ := x; exact Heap.lt_size e
  | dT kvs => obtain ⟨_, _, _, _, o, _, _, e, _⟩ := x; exact Heap.lt_size e
  | set S n => obtain ⟨o, _, _, _, e, _⟩ := x; exact Heap.lt_size e
  | ins C dx fs => obtain ⟨_, _, _, e, _⟩ := x; exact Heap.lt_size e
  | own y => obtain ⟨_, e⟩ := x; exact Heap.lt_size e
  | xd fs => obtain ⟨_, ⟨_, _, _, e, _⟩, _⟩ := x; exact Heap.lt_size e
  | rng lo hi => obtain ⟨_, _, _, e⟩ := x; exact Heap.lt_size e
  | frz ob u => obtain ⟨e, _⟩ := x; exact Heap.lt_size e
  | tbl ps => exact Heap.lt_size (show h.get? a = some _ from x)
  | met f y => exact Heap.lt_size (show h.get? a = some _ from x)
  | ext φ => obtain ⟨_, ⟨_, e⟩, _⟩ := x; exact Heap.lt_size e
theorem Paired.mapP {α β : Type} {F G : α → β → Prop} : ∀ {l₁ : List α} {l₂ : List β}, Paired F l₁ l₂ → (∀ a b, F a b → G a b) → Paired G l₁ l₂
  | _, _, .nil, _ => .nil
  | _, _, .cons r t, f => .cons (f _ _ r) (Paired.mapP t f)
theorem ObjOk.stay (x : ObjOk P w H h a o) (k : ∀ b u, (b = a ∨ H b = some (.own a)) → h.get? b = some u → h'.get? b = some u)
    (ho : ∀ b, H b = some (.own a) → H' b = some (.own a)) (ht : ∀ b xs, H b = some (.tup xs) → H' b = some (.tup xs)) : ObjOk P w H' h' a o := by
  induction o with
  | lst xs => obtain ⟨z, its, n, r, e⟩ := x; exact ⟨z, its, n, r, k _ _ (.inl rfl) e⟩
  | tup xs => obtain ⟨z, its, r, ob, e, c⟩ := x; exact ⟨z, its, r, ob, k _ _ (.inl rfl) e, c⟩
  | dK kvs => obtain ⟨z, y, vs, r, ob, es, ep, e, c⟩ := x; exact ⟨z, y, vs, r, ob, es, ep, k _ _ (.inl rfl) e, c⟩
  | dT kvs =>
    obtain ⟨z, y, xs, r, ob, es, ep, e, c⟩ := x
    exact ⟨z, y, xs, Paired.mapP r fun p q z => ⟨z.1, ht _ _ z.2.1, z.2.2⟩, ob, es, ep, k _ _ (.inl rfl) e, c⟩
  | set S n => obtain ⟨ob, es, ep, t, e, c⟩ := x; exact ⟨ob, es, ep, t, k _ _ (.inl rfl) e, c⟩
  | ins C dx fs =>
    obtain ⟨d, z, ne, e, mA, ⟨od, es, ep, e2, c⟩, r⟩ := x
    exact ⟨ho _ d, z, ne, k _ _ (.inl rfl) e, mA, ⟨od, es, ep, k _ _ (.inr d) e2, c⟩, r⟩
  | own y => obtain ⟨ob, e⟩ := x; exact ⟨ob, k _ _ (.inl rfl) e⟩
  | xd fs => obtain ⟨mA, ⟨od, es, ep, e, c⟩, r⟩ := x; exact ⟨mA, ⟨od, es, ep, k _ _ (.inl rfl) e, c⟩, r⟩
  | rng lo hi => obtain ⟨t, u, v, e⟩ := x; exact ⟨t, u, v, k _ _ (.inl rfl) e⟩
  | frz ob u ih => obtain ⟨e, q⟩ := x; exact ⟨k _ _ (.inl rfl) e, ih q⟩
  | tbl ps =>
    have e : h.get? a = some { cls := .none, data := .fields ps } := x
    show h'.get? a = some { cls := .none, data := .fields ps }
    exact k a _ (.inl rfl) e
  | met f y =>
    have e : h.get? a = some (PySem.W.methodObj (.ref f) (.ref y)) := x
    show h'.get? a = some (PySem.W.methodObj (.ref f) (.ref y))
    exact k a _ (.inl rfl) e
  | ext φ => obtain ⟨p, ⟨o, e⟩, st⟩ := x; exact ⟨st _ _ p fun o q => k _ _ (.inl rfl) q, ⟨o, k _ _ (.inl rfl) e⟩, st⟩
theorem HOk.lt (x : HOk P w H h) (e : H a = some o) : a < h.objs.size := (x a o e).lt
theorem HOk.fresh (x : HOk P w H h) (e : h.objs.size ≤ a) : H a = none := by
  cases q : H a with
  | none => rfl
  | some u => exact absurd (Nat.lt_of_lt_of_le (x.lt q) e) (Nat.lt_irrefl _)
theorem HOk.kept (x : HOk P w H h) (k : ∀ b u, h.get? b = some u → h'.get? b = some u) : HOk P w H h' := fun a o e =>
  (x a o e).stay (fun b u _ q => k b u q) (fun _ q => q) fun _ _ q => q
theorem HOk.laid (x : HOk P w H h) (k : ∀ b u, h.get? b = some u → h'.get? b = some u) (hp : h.objs.size ≤ a) (new : ObjOk P w (upd H a o) h' a o) : HOk P w (upd H a o) h' := fun b u e => by
  have hn := x.fresh hp
  by_cases hb : b = a
  · subst hb; rw [upd_same] at e; cases e; exact new
  · rw [upd_ne hb] at e
    exact (x b u e).stay (fun c v _ q => k c v q) (fun c q => by rw [upd_ne (ne_of_none q hn)]; exact q) fun c xs q => by rw [upd_ne (ne_of_none q hn)]; exact q
end

def Rd (H : Hp) (a : Addr) (u : HO) : Prop := H a = some u ∨ ∃ o, H a = some (.frz o u)
theorem Rd.of {H : Hp} {a : Addr} {u : HO} (h : H a = some u) : Rd H a u := .inl h
theorem Rd.ok {P : Program} {w : World} {H : Hp} {h : Heap} {a : Addr} {u : HO} (r : Rd H a u) (x : HOk P w H h) : ObjOk P w H h a u := by
  rcases r with r | ⟨o, r⟩
  · exact x a u r
  · obtain ⟨_, q⟩ := x a _ r
    exact q
def Mut : Option HO → Prop
  | some (.lst _) => True
  | some (.dK _) => True
  | some (.dT _) => True
  | some (.set _ _) => True
  | some (.ins _ _ _) => True
  | some (.ext _) => True
  | _ => False
section
variable {P : Program} {w : World} {H : Hp} {h h' : Heap} {x e : Addr} {o' : HO}
theorem HOk.write (ok : HOk P w H h) (mu : Mut (H x)) (he : e = x ∨ H e = some (.own x)) (k : ∀ b u, b ≠ e → h.get? b = some u → h'.get? b = some u) (heo : ∃ u, h'.get? e = some u)
    (new : ObjOk P w (upd H x o') h' x o') : HOk P w (upd H x o') h' := fun b u q => by
  have nown : ∀ c y, H c = some (.own y) → c ≠ x := fun c y r z => by subst z; rw [r] at mu; exact mu
  have ntup : ∀ c xs, H c = some (.tup xs) → c ≠ x := fun c xs r z => by subst z; rw [r] at mu; exact mu
  by_cases hb : b = x
  · subst hb; rw [upd_same] at q; cases q; exact new
  · rw [upd_ne hb] at q
    by_cases hbe : b = e
    · have q' : H b = some (.own x) := by
        rcases he with z | z
        · exact absurd (hbe.trans z) hb
        · rw [hbe]; exact z
      rw [q] at q'; cases q'
      obtain ⟨v, hv⟩ := heo
      exact ⟨v, by rw [hbe]; exact hv⟩
    · refine (ok b u q).stay (fun c v hc r => k c v ?_ r) (fun c r => by rw [upd_ne (nown c b r)]; exact r) fun c xs r => by rw [upd_ne (ntup c xs r)]; exact r
      rcases hc with rfl | hc
      · exact hbe
      · rintro rfl
        rcases he with z | z
        · exact nown c b hc z
        · rw [hc] at z; cases z; exact hb rfl
end

structure Un (fs ex : List Addr) (H H' : Hp) (h h' : Heap) : Prop where
  keep : ∀ b o, h.get? b = some o → H b = none → b ∉ fs → b ∉ ex → h'.get? b = some o
  slot : ∀ b o, h.get? b = some o → H b = none → b ∈ fs → b ∉ ex → ∃ sl, h'.get? b = some { o with slots := sl }
  free : ∀ b o, h.get? b = some o → H b = none → b ∉ ex → H' b = none
  there : ∀ b o, h.get? b = some o → b ∉ ex → ∃ o', h'.get? b = some o'
  tups : ∀ b xs, H b = some (.tup xs) → H' b = some (.tup xs)
  frzs : ∀ b o u, H b = some (.frz o u) → H' b = some (.frz o u)
  tbls : ∀ b ps, H b = some (.tbl ps) → ∃ more, H' b = some (.tbl (ps ++ more))
section
variable {fs fs' ex ex' : List Addr} {H H1 H2 : Hp} {h h1 h2 h' : Heap} {a x e : Addr} {o : HO}
theorem Un.any (u : Un fs ex H H1 h h1) {b : Addr} {ob : Obj} (q : h.get? b = some ob) (n : H b = none) (hx : b ∉ ex) : ∃ sl, h1.get? b = some { ob with slots := sl } := by
  by_cases hb : b ∈ fs
  · exact u.slot b ob q n hb hx
  · exact ⟨ob.slots, u.keep b ob q n hb hx⟩
theorem Un.trans (a : Un fs ex H H1 h h1) (b : Un fs ex H1 H2 h1 h2) : Un fs ex H H2 h h2 where
  keep := fun c ob q n hc hx => b.keep c ob (a.keep c ob q n hc hx) (a.free c ob q n hx) hc hx
  slot := fun c ob q n hc hx => by
    obtain ⟨sl, e1⟩ := a.slot c ob q n hc hx
    obtain ⟨sl', e2⟩ := b.slot c _ e1 (a.free c ob q n hx) hc hx
    exact ⟨sl', e2⟩
  free := fun c ob q n hx => by
    obtain ⟨o', e1⟩ := a.there c ob q hx
    exact b.free c o' e1 (a.free c ob q n hx) hx
  there := fun c ob q hx => by
    obtain ⟨o', e1⟩ := a.there c ob q hx
    exact b.there c o' e1 hx
  tups := fun c xs q => b.tups c xs (a.tups c xs q)
  frzs := fun c ob xs q => b.frzs c ob xs (a.frzs c ob xs q)
  tbls := fun c ps q => by
    obtain ⟨m1, e1⟩ := a.tbls c ps q
    obtain ⟨m2, e2⟩ := b.tbls c _ e1
    exact ⟨m1 ++ m2, by rw [e2, Array.append_assoc]⟩
theorem Un.kept (k : ∀ b u, h.get? b = some u → h'.get? b = some u) : Un fs ex H H h h' :=
  ⟨fun b ob q _ _ _ => k b ob q, fun b ob q _ _ _ => ⟨ob.slots, k b ob q⟩, fun _ _ _ n _ => n, fun b ob q _ => ⟨ob, k b ob q⟩, fun _ _ q => q, fun _ _ _ q => q, fun _ ps q => ⟨#[], by rw [q]; simp⟩⟩
theorem Un.refl : Un fs ex H H h h := Un.kept fun _ _ q => q
theorem Un.laid (k : ∀ b u, h.get? b = some u → h'.get? b = some u) (hp : h.objs.size ≤ a) (hn : H a = none) : Un fs ex H (upd H a o) h h' where
  keep := fun b u q _ _ _ => k b u q
  slot := fun b u q _ _ _ => ⟨u.slots, k b u q⟩
  free := fun b u q n _ => by rw [upd_ne (Nat.ne_of_lt (Nat.lt_of_lt_of_le (Heap.lt_size q) hp))]; exact n
  there := fun b u q _ => ⟨u, k b u q⟩
  tups := fun b xs q => by rw [upd_ne (ne_of_none q hn)]; exact q
  frzs := fun b u xs q => by rw [upd_ne (ne_of_none q hn)]; exact q
  tbls := fun b ps q => ⟨#[], by rw [upd_ne (ne_of_none q hn), q]; simp⟩
theorem Un.write (mu : Mut (H x)) (he : e = x ∨ H e = some (.own x)) (k : ∀ b u, b ≠ e → h.get? b = some u → h'.get? b = some u) (heo : ∃ u, h'.get? e = some u) : Un fs ex H (upd H x o) h h' := by
  have hx : ∀ b, H b = none → b ≠ x := fun b n z => by subst z; rw [n] at mu; exact mu
  have hb : ∀ b, H b = none → b ≠ e := fun b n z => by
    subst z
    rcases he with r | r
    · exact hx b n r
    · rw [n] at r; cases r
  have hm : ∀ b u, H b = some u → ¬ Mut (some u) → b ≠ x := fun b u q nm z => by subst z; rw [q] at mu; exact nm mu
  refine ⟨fun b u q n _ _ => k b u (hb b n) q, fun b u q n _ _ => ⟨u.slots, k b u (hb b n) q⟩, fun b u q n _ => by rw [upd_ne (hx b n)]; exact n, fun b u q _ => ?_,
    fun b xs q => by rw [upd_ne (hm b _ q fun z => z)]; exact q, fun b u xs q => by rw [upd_ne (hm b _ q fun z => z)]; exact q, fun b ps q => ⟨#[], by rw [upd_ne (hm b _ q fun z => z), q]; simp⟩⟩
  by_cases hbe : b = e
  · subst hbe; exact heo
  · exact ⟨u, k b u hbe q⟩
theorem Un.mono (u : Un fs ex H H1 h h1) (hs : ∀ b ∈ fs, b ∈ fs') (hx : ∀ b ∈ ex, b ∈ ex') : Un fs' ex' H H1 h h1 :=
  ⟨fun b ob q n hb he => u.keep b ob q n (fun z => hb (hs b z)) fun z => he (hx b z), fun _ _ q n _ he => u.any q n fun z => he (hx _ z), fun b ob q n he => u.free b ob q n fun z => he (hx b z), fun b ob q he => u.there b ob q fun z => he (hx b z), u.tups, u.frzs, u.tbls⟩
end

def trk (h : Heap) (H : Hp) : List Addr := (List.range h.objs.size).filter fun a => (H a).isSome
def hidT (h : Heap) (H : Hp) : Heap := PySem.W.hideAll h (trk h H)
theorem hidT_size (h : Heap) (H : Hp) : (hidT h H).objs.size = h.objs.size := PySem.W.hideAll_size _ _
theorem hidT_get {h : Heap} {H : Hp} {b : Addr} {o : Obj} (e : h.get? b = some o) (n : H b = none) : (hidT h H).get? b = some o :=
  PySem.W.hideAll_get _ e fun hm => by
    have q : (H b).isSome = true := (List.mem_filter.mp hm).2
    rw [n] at q; simp at q
theorem of_hidT {h : Heap} {H : Hp} {b : Addr} {o : Obj} (e : (hidT h H).get? b = some o) : h.get? b = some o ∧ H b = none := by
  have e' : h.get? b = some o := PySem.W.of_hideAll (trk h H) e
  refine ⟨e', ?_⟩
  cases q : H b with
  | none => rfl
  | some x =>
    have hm : b ∈ trk h H := List.mem_filter.mpr ⟨List.mem_range.mpr (Heap.lt_size e'), by simp [q]⟩
    have z : (hidT h H).get? b = none := PySem.W.hideAll_none (trk h H) hm
    rw [z] at e; cases e

def allNews (g h : Heap) (L : Addr) : List (Addr × Obj) := (List.range h.objs.size).filterMap fun a => if a = L ∨ (g.get? a).isSome = true then none else (h.get? a).map fun o => (a, o)
def rest (g h : Heap) (L d : Addr) : List (Addr × Obj) := (allNews g h L).filter fun p => decide (p.1 ≠ d)
end L2

namespace L2
open PySem PySem.Spec PyProof.Rows

structure Mod (K : PySem.W.Frag) (mg : Str → Option Value) (base : Heap) : Prop where
  kin : K.In base
  glob : base.Ns mainGlobals mg
  blt : ∃ mb, base.Ns builtinsNs mb ∧ ∀ x : Str, x ≠ "__name__" → mb x = bootBuiltins x
  nolimit : base.NoLimit

structure Cx where
  prog : Program
  w : World
  K : PySem.W.Frag
  mg : Str → Option Value
  base : Heap
  A : Around
  N : List Str
  s_0 : Shared
  H_0 : Hp
  env : Env
  outer : List Env
  stack : List Env
  ex : List Addr
  fn : Str → Bool
  calm : Bool
  pn : List (Addr × Obj)
  xe : Value → Shared → Prop
def frs (l : List Env) : List Addr := l.filterMap (·.frame)
abbrev Cx.fs (X : Cx) : List Addr := frs X.outer

def Vis (sc : Scope) (x : Str) : Prop := sc.names.lookup x = some .local ∨ sc.names.lookup x = some .cell ∨ sc.names.lookup x = some .free
def Loc (sc : Scope) (x : Str) : Prop := sc.names.lookup x = some .local ∨ sc.names.lookup x = some .cell
def Look (env : Env) (h : Heap) (m : Str → Option Value) (x : Str) (u : Value) : Prop :=
  (env.kindOf x = some .local ∧ m x = some u) ∨ ((env.kindOf x = some .cell ∨ env.kindOf x = some .free) ∧ ∃ c, env.cells.lookup x = some c ∧ h.IsCell c (some u))

structure Cx.Ok (X : Cx) : Prop where
  mod : Mod X.K X.mg X.base
  kind : X.env.scope.kind = .function
  glob : X.env.globals = mainGlobals
  blt : X.env.builtins = builtinsNs
  above : X.s_0.heap.objs.size ≤ X.env.locals
  inj : ∀ x y c, X.env.cells.lookup x = some c → X.env.cells.lookup y = some c → x = y
  has : ∀ x, (X.env.kindOf x = some .cell ∨ X.env.kindOf x = some .free) → ∃ c, X.env.cells.lookup x = some c
  cab : ∀ x c, X.fn x = true → X.env.cells.lookup x = some c → X.s_0.heap.objs.size ≤ c
  hd : X.calm = true → X.A.handled = none
  frames : X.A.frames = some X.stack
  stk : X.stack = X.outer ∨ (X.stack = X.env :: X.outer ∧ X.env.frame = some X.env.locals)
  exf : ∀ b ∈ X.ex, b ≠ X.env.locals ∧ ∀ x c, X.env.cells.lookup x = some c → c ≠ b
  bs : ∀ b o, X.base.get? b = some o → X.s_0.heap.get? b = some o ∧ X.H_0 b = none
  bsz : X.base.objs.size ≤ X.s_0.heap.objs.size
  noex : ∀ b o, X.base.get? b = some o → b ∉ X.ex
  exfs : ∀ b ∈ X.ex, b ∉ X.fs
  funs : X.s_0.heap.FunFrames X.base X.outer
  frf : ∀ b ∈ X.fs, X.H_0 b = none

structure Inv (X : Cx) (pins : List (Addr × Obj)) (σ : List (Option V)) (H : Hp) (s : Shared) : Prop where
  ok : X.Ok
  os : s.os = X.s_0.os
  bare : AllBare s.gens
  base : Un X.fs X.ex X.H_0 H X.s_0.heap s.heap
  loc : ∃ m, s.heap.Ns X.env.locals m ∧ ∀ (i : Nat) (x : Str) (v : V), X.N[i]? = some x → σ[i]? = some (some v) → Vis X.env.scope x → ∃ u, RelV v u ∧ Look X.env s.heap m x u
  cell : ∀ x c, X.env.cells.lookup x = some c → ∃ v, s.heap.IsCell c v
  free : H X.env.locals = none
  freeC : ∀ x c, X.env.cells.lookup x = some c → H c = none
  pin : ∀ p ∈ X.pn ++ pins, s.heap.get? p.1 = some p.2 ∧ H p.1 = none ∧ p.1 ≠ X.env.locals ∧ p.1 ∉ X.fs ∧ ∀ v, p.2.data ≠ .cell v
  hok : HOk X.prog X.w H s.heap
  len : σ.length = X.N.length

section
variable {X : Cx} {pins : List (Addr × Obj)} {σ : List (Option V)} {H H' : Hp} {s : Shared} {h' : Heap}

theorem Cx.Ok.nofr (ok : X.Ok) {b : Addr} {o : Obj} (e : X.base.get? b = some o) : b ∉ X.fs := fun hb => by
  have := (ok.funs.mem hb).1
  rw [e] at this; cases this
theorem Inv.bs (I : Inv X pins σ H s) : ∀ b o, X.base.get? b = some o → s.heap.get? b = some o ∧ H b = none := fun b o e =>
  ⟨I.base.keep b o (I.ok.bs b o e).1 (I.ok.bs b o e).2 (I.ok.nofr e) (I.ok.noex b o e), I.base.free b o (I.ok.bs b o e).1 (I.ok.bs b o e).2 (I.ok.noex b o e)⟩
theorem Inv.bk (I : Inv X pins σ H s) : ∀ b o, X.base.get? b = some o → s.heap.get? b = some o := fun b o e => (I.bs b o e).1
theorem Inv.mod (I : Inv X pins σ H s) : Mod X.K X.mg X.base := I.ok.mod
theorem Inv.kIn (I : Inv X pins σ H s) : X.K.In s.heap := I.ok.mod.kin.keeps I.bk
theorem Inv.nolimit (I : Inv X pins σ H s) : s.heap.NoLimit := I.ok.mod.nolimit.keeps I.bk
theorem Inv.fr (I : Inv X pins σ H s) : ∃ m, Fr X.base X.env.locals s.heap m :=
  let ⟨m, hn, _⟩ := I.loc
  ⟨m, hn, I.bk, Nat.le_trans I.ok.bsz I.ok.above⟩
theorem Inv.lt (I : Inv X pins σ H s) : X.env.locals < s.heap.objs.size := let ⟨_, hn, _⟩ := I.loc; hn.lt
theorem Inv.sz (I : Inv X pins σ H s) : X.s_0.heap.objs.size ≤ s.heap.objs.size := Nat.le_trans I.ok.above (Nat.le_of_lt I.lt)
theorem Inv.nofs (I : Inv X pins σ H s) {a : Addr} (h : s.heap.objs.size ≤ a) : a ∉ X.fs := fun hb => by
  obtain ⟨_, o, ho, _⟩ := I.ok.funs.mem hb
  exact absurd (Nat.lt_of_lt_of_le (Heap.lt_size ho) (Nat.le_trans I.sz h)) (Nat.lt_irrefl _)
theorem Inv.cne (I : Inv X pins σ H s) : ∀ x c, X.env.cells.lookup x = some c → c ≠ X.env.locals := fun x c e z => by
  obtain ⟨v, o, ho, hd⟩ := I.cell x c e
  obtain ⟨m, ⟨o', es, ep, ho', hd', _⟩, _⟩ := I.loc
  rw [z, ho'] at ho; cases ho; rw [hd'] at hd; cases hd
theorem Inv.funs (I : Inv X pins σ H s) : s.heap.FunFrames X.base X.outer := by
  have all : ∀ (l : List Env), (∀ b ∈ frs l, b ∈ X.fs) → X.s_0.heap.FunFrames X.base l → s.heap.FunFrames X.base l := by
    intro l
    induction l with
    | nil => intro _ _; trivial
    | cons env r ih =>
      intro hs hl
      obtain ⟨hk, ⟨L, o, hf, hn, ho, hd⟩, hr⟩ := hl
      have hL : L ∈ X.fs := hs L (by unfold frs; rw [List.filterMap_cons, hf]; exact List.mem_cons_self)
      obtain ⟨sl, e⟩ := I.base.slot L o ho (I.ok.frf L hL) hL fun z => I.ok.exfs L z hL
      exact ⟨hk, ⟨L, _, hf, hn, e, hd⟩, ih (fun b hb => hs b (by unfold frs; rw [List.filterMap_cons, hf]; exact List.mem_cons_of_mem _ hb)) hr⟩
  exact all X.outer (fun _ hb => hb) I.ok.funs

theorem Inv.stack (I : Inv X pins σ H s) : s.heap.FunFrames X.base X.stack := by
  rcases I.ok.stk with e | ⟨e, hf⟩
  · rw [e]; exact I.funs
  · rw [e]
    obtain ⟨m, hn, _⟩ := I.loc
    refine .cons (by rw [I.ok.kind]; decide) hf hn ?_ I.funs
    exact Heap.get?_none_of_le (Nat.le_trans I.ok.bsz I.ok.above)
theorem Inv.stkSub (I : Inv X pins σ H s) : ∀ b ∈ frs X.stack, b ∈ X.env.locals :: X.fs := fun b hb => by
  rcases I.ok.stk with e | ⟨e, hf⟩
  · rw [e] at hb; exact List.mem_cons_of_mem _ hb
  · rw [e] at hb
    unfold frs at hb
    rw [List.filterMap_cons, hf] at hb
    exact hb
theorem Inv.stkFree (I : Inv X pins σ H s) : ∀ b ∈ frs X.stack, H b = none := fun b hb => by
  rcases List.mem_cons.mp (I.stkSub b hb) with e | hb
  · rw [e]; exact I.free
  · obtain ⟨_, o, ho, _⟩ := I.ok.funs.mem hb
    exact I.base.free b o ho (I.ok.frf b hb) fun z => I.ok.exfs b z hb

theorem Inv.step {g' : Array GenState} {t' : Nat} {d' : Drawn} {ch : List Addr} (I : Inv X pins σ H s)
    (hch : ∀ b ∈ ch, (b ∈ X.ex ∨ X.s_0.heap.objs.size ≤ b) ∧ b ≠ X.env.locals ∧ (∀ x c, X.env.cells.lookup x = some c → c ≠ b) ∧ ∀ p ∈ X.pn ++ pins, p.1 ≠ b)
    (keep : ∀ b o, b ≠ X.env.locals → b ∉ X.fs → b ∉ ch → s.heap.get? b = some o → H b = none → h'.get? b = some o)
    (slot : ∀ b o, b ≠ X.env.locals → b ∈ X.fs → b ∉ ch → s.heap.get? b = some o → H b = none → ∃ sl, h'.get? b = some { o with slots := sl }) (free : ∀ b o, b ∉ ch → s.heap.get? b = some o → H b = none → H' b = none)
    (there : ∀ b o, b ∉ ch → s.heap.get? b = some o → ∃ o', h'.get? b = some o')
    (tups : ∀ b xs, H b = some (.tup xs) → H' b = some (.tup xs)) (frzs : ∀ b o u, H b = some (.frz o u) → H' b = some (.frz o u)) (tbls : ∀ b ps, H b = some (.tbl ps) → ∃ more, H' b = some (.tbl (ps ++ more)))
    (ns : ∀ m, s.heap.Ns X.env.locals m → h'.Ns X.env.locals m) (hok : HOk X.prog X.w H' h') (hg : AllBare g') :
    Inv X pins σ H' { s with heap := h', gens := g', drawn := d', toks := t' } := by
  have neL : ∀ b o, X.s_0.heap.get? b = some o → b ≠ X.env.locals := fun b o e => Nat.ne_of_lt (Nat.lt_of_lt_of_le (Heap.lt_size e) I.ok.above)
  have neC : ∀ b o, X.s_0.heap.get? b = some o → b ∉ X.ex → b ∉ ch := fun b o e hx hb => by
    rcases (hch b hb).1 with z | z
    · exact hx z
    · exact absurd (Nat.lt_of_lt_of_le (Heap.lt_size e) z) (Nat.lt_irrefl _)
  have cellK : ∀ x c, X.env.cells.lookup x = some c → ∀ v, s.heap.IsCell c v → h'.IsCell c v := fun x c e v ⟨o, ho, hd⟩ => by
    have nch : c ∉ ch := fun z => (hch c z).2.2.1 x c e rfl
    by_cases hc : c ∈ X.fs
    · obtain ⟨sl, q⟩ := slot c o (I.cne x c e) hc nch ho (I.freeC x c e)
      exact ⟨_, q, hd⟩
    · exact ⟨o, keep c o (I.cne x c e) hc nch ho (I.freeC x c e), hd⟩
  refine ⟨I.ok, I.os, hg, ⟨fun b o e n hb hx => ?_, fun b o e n hb hx => ?_, fun b o e n hx => ?_, fun b o e hx => ?_, fun b xs e => tups b xs (I.base.tups b xs e), fun b o xs e => frzs b o xs (I.base.frzs b o xs e), fun b ps e => ?_⟩, ?_, fun x c e => ?_, ?_, fun x c e => ?_, fun p hp => ?_, hok, I.len⟩
  · exact keep b o (neL b o e) hb (neC b o e hx) (I.base.keep b o e n hb hx) (I.base.free b o e n hx)
  · obtain ⟨sl, e1⟩ := I.base.slot b o e n hb hx
    obtain ⟨sl', e2⟩ := slot b _ (neL b o e) hb (neC b o e hx) e1 (I.base.free b o e n hx)
    exact ⟨sl', e2⟩
  · obtain ⟨o', e1⟩ := I.base.there b o e hx
    exact free b o' (neC b o e hx) e1 (I.base.free b o e n hx)
  · obtain ⟨o', e1⟩ := I.base.there b o e hx
    exact there b o' (neC b o e hx) e1
  · obtain ⟨m1, e1⟩ := I.base.tbls b ps e
    obtain ⟨m2, e2⟩ := tbls b _ e1
    exact ⟨m1 ++ m2, by rw [e2, Array.append_assoc]⟩
  · obtain ⟨m, hn, hl⟩ := I.loc
    refine ⟨m, ns m hn, fun i x v e1 e2 e3 => ?_⟩
    obtain ⟨u, r, l⟩ := hl i x v e1 e2 e3
    refine ⟨u, r, ?_⟩
    rcases l with l | ⟨k, c, e, z⟩
    · exact .inl l
    · exact .inr ⟨k, c, e, cellK x c e _ z⟩
  · obtain ⟨v, z⟩ := I.cell x c e
    exact ⟨v, cellK x c e v z⟩
  · obtain ⟨m, ⟨o, _, _, ho, _⟩, _⟩ := I.loc
    exact free _ o (fun z => (hch _ z).2.1 rfl) ho I.free
  · obtain ⟨v, o, ho, hd⟩ := I.cell x c e
    exact free c o (fun z => (hch c z).2.2.1 x c e rfl) ho (I.freeC x c e)
  · obtain ⟨e, n, ne, nf, d⟩ := I.pin p hp
    have nch : p.1 ∉ ch := fun z => (hch p.1 z).2.2.2 p hp rfl
    exact ⟨keep p.1 p.2 ne nf nch e n, free p.1 p.2 nch e n, ne, nf, d⟩
theorem Inv.un {t' : Nat} (I : Inv X pins σ H s) (u : Un X.fs [] H H' s.heap h') (hok : HOk X.prog X.w H' h') : Inv X pins σ H' { s with heap := h', toks := t' } := by
  obtain ⟨m, ⟨o, es, ep, ho, r⟩, _⟩ := id I.loc
  obtain ⟨sl, hL⟩ := u.any ho I.free (by simp)
  exact I.step (g' := s.gens) (d' := s.drawn) (ch := []) (fun _ z => nomatch z) (fun b o _ hb _ e n => u.keep b o e n hb (by simp)) (fun b o _ hb _ e n => u.slot b o e n hb (by simp)) (fun b o _ e n => u.free b o e n (by simp)) (fun b o _ e => u.there b o e (by simp)) u.tups u.frzs u.tbls (fun m' hm => by
    obtain ⟨o', es', ep', ho', r'⟩ := hm
    rw [ho] at ho'; cases ho'
    exact ⟨_, es', ep', hL, r'⟩) hok I.bare
theorem Inv.call {g' : Array GenState} {t' : Nat} {d' : Drawn} {ch : List Addr} (I : Inv X pins σ H s) (u : Un (frs X.stack) ch H H' s.heap h') (hok : HOk X.prog X.w H' h') (hg : AllBare g')
    (hch : ∀ b ∈ ch, (b ∈ X.ex ∨ X.s_0.heap.objs.size ≤ b) ∧ b ≠ X.env.locals ∧ (∀ x c, X.env.cells.lookup x = some c → c ≠ b) ∧ ∀ p ∈ X.pn ++ pins, p.1 ≠ b) :
    Inv X pins σ H' { s with heap := h', gens := g', drawn := d', toks := t' } := by
  obtain ⟨m, ⟨o, es, ep, ho, r⟩, _⟩ := id I.loc
  obtain ⟨sl, hL⟩ := u.any ho I.free fun z => (hch _ z).2.1 rfl
  exact I.step (ch := ch) hch (fun b o hL hb hc e n => u.keep b o e n (fun z => (List.mem_cons.mp (I.stkSub b z)).elim hL hb) hc) (fun b o _ _ hc e n => u.any e n hc) (fun b o hc e n => u.free b o e n hc) (fun b o hc e => u.there b o e hc) u.tups u.frzs u.tbls (fun m' hm => by
    obtain ⟨o', es', ep', ho', r'⟩ := hm
    rw [ho] at ho'; cases ho'
    exact ⟨_, es', ep', hL, r'⟩) hok hg
theorem Inv.turned {t' : Nat} {it : Addr} (I : Inv X pins σ H s) (k : ∀ b o, b ≠ it → s.heap.get? b = some o → h'.get? b = some o) (hn : H it = none) (hL : it ≠ X.env.locals)
    (h1 : it ∈ X.ex ∨ X.s_0.heap.objs.size ≤ it) (h2 : ∀ x c, X.env.cells.lookup x = some c → c ≠ it) (h3 : ∀ p ∈ X.pn ++ pins, p.1 ≠ it) : Inv X pins σ H { s with heap := h', toks := t' } := by
  have nit : ∀ b u, H b = some u → b ≠ it := fun b u e z => by rw [z, hn] at e; cases e
  refine I.step (g' := s.gens) (d' := s.drawn) (ch := [it]) (fun b hb => ?_) (fun b o _ _ hc e _ => k b o (fun z => hc (by simp [z])) e) (fun b o _ _ hc e _ => ⟨o.slots, k b o (fun z => hc (by simp [z])) e⟩) (fun _ _ _ _ n => n)
    (fun b o hc e => ⟨o, k b o (fun z => hc (by simp [z])) e⟩) (fun _ _ e => e) (fun _ _ _ e => e) (fun b ps e => ⟨#[], by rw [e]; simp⟩) (fun m hm => ?_) (fun b u e => ?_) I.bare
  · have e : b = it := by simpa using hb
    subst e
    exact ⟨h1, hL, h2, h3⟩
  · obtain ⟨o, es, ep, ho, r⟩ := hm
    exact ⟨o, es, ep, k _ o (Ne.symm hL) ho, r⟩
  · refine (I.hok b u e).stay (fun c v hc q => k c v ?_ q) (fun _ q => q) fun _ _ q => q
    rcases hc with z | z
    · rw [z]; exact nit b u e
    · exact nit c _ z
theorem Inv.tok (I : Inv X pins σ H s) (t : Nat) : Inv X pins σ H { s with toks := t } := I.un (h' := s.heap) (t' := t) Un.refl I.hok
theorem Inv.kept {t' : Nat} (I : Inv X pins σ H s) (k : ∀ b u, s.heap.get? b = some u → h'.get? b = some u) : Inv X pins σ H { s with heap := h', toks := t' } := I.un (Un.kept k) (I.hok.kept k)
theorem Inv.laid {a : Addr} {o : HO} {t' : Nat} (I : Inv X pins σ H s) (k : ∀ b u, s.heap.get? b = some u → h'.get? b = some u) (hp : s.heap.objs.size ≤ a) (new : ObjOk X.prog X.w (upd H a o) h' a o) :
    Inv X pins σ (upd H a o) { s with heap := h', toks := t' } := I.un (Un.laid k hp (I.hok.fresh hp)) (I.hok.laid k hp new)
theorem Inv.write {x e : Addr} {o : HO} {t' : Nat} (I : Inv X pins σ H s) (mu : Mut (H x)) (he : e = x ∨ H e = some (.own x)) (k : ∀ b u, b ≠ e → s.heap.get? b = some u → h'.get? b = some u) (heo : ∃ u, h'.get? e = some u)
    (new : ObjOk X.prog X.w (upd H x o) h' x o) : Inv X pins σ (upd H x o) { s with heap := h', toks := t' } := I.un (Un.write mu he k heo) (I.hok.write mu he k heo new)
theorem Inv.weak {σ' : List (Option V)} (I : Inv X pins σ H s) (hl : σ'.length = σ.length) (w : ∀ (i : Nat) v, σ'[i]? = some (some v) → σ[i]? = some (some v)) : Inv X pins σ' H s :=
  ⟨I.ok, I.os, I.bare, I.base, let ⟨m, hn, hl'⟩ := I.loc; ⟨m, hn, fun i x v e1 e2 e3 => hl' i x v e1 (w i v e2) e3⟩, I.cell, I.free, I.freeC, I.pin, I.hok, hl.trans I.len⟩
theorem Inv.pins_of {pins' : List (Addr × Obj)} (I : Inv X pins σ H s) (h : ∀ p ∈ pins', s.heap.get? p.1 = some p.2 ∧ H p.1 = none ∧ p.1 ≠ X.env.locals ∧ p.1 ∉ X.fs ∧ ∀ v, p.2.data ≠ .cell v) : Inv X pins' σ H s :=
  ⟨I.ok, I.os, I.bare, I.base, I.loc, I.cell, I.free, I.freeC, fun p hp => (List.mem_append.mp hp).elim (fun z => I.pin p (List.mem_append_left _ z)) (h p), I.hok, I.len⟩

theorem nodup_ix {N : List Str} (hN : N.Nodup) {i j : Nat} {x : Str} (a : N[i]? = some x) (b : N[j]? = some x) : i = j := by
  obtain ⟨h1, e1⟩ := List.getElem?_eq_some_iff.mp a
  obtain ⟨h2, e2⟩ := List.getElem?_eq_some_iff.mp b
  exact (List.getElem_inj hN).mp (e1.trans e2.symm)

theorem store_ok2 {M : Model} {A : Around} {E : Value → Shared → Prop} {i : Nat} {x : Str} {v : V} {u : Value} {Q : Unit → Shared → Prop} (I : Inv X pins σ H s) (hN : X.N.Nodup) (hi : X.N[i]? = some x) (hx : Loc X.env.scope x) (r : RelV v u)
    (h : ∀ s', Inv X pins (σ.set i (some v)) H s' → (∃ a, Heap.SameBut a s.heap s'.heap ∧ (a = X.env.locals ∨ X.env.cells.lookup x = some a)) → Q () s') (hf : X.fn x = true ∨ X.env.scope.names.lookup x = some .local := by first | exact .inl rfl | exact .inr rfl | assumption) : wpAny M A (storeName X.env x u) Q E s := by
  obtain ⟨m, hn, hl⟩ := id I.loc
  have hcls : (X.env.scope.kind == .class || (X.env.scope.kind == .module && X.env.locals != X.env.globals)) = false := by rw [I.ok.kind]; rfl
  have hiσ : i < σ.length := by rw [I.len]; exact (List.getElem?_eq_some_iff.mp hi).1
  have cne := I.cne
  have tracked : ∀ {a : Addr} {h' : Heap}, (∃ o, s.heap.get? a = some o ∧ H a = none) → Heap.SameBut a s.heap h' → HOk X.prog X.w H h' := fun {a h'} ha hs b ob e => by
    obtain ⟨_, _, hfree⟩ := ha
    refine (I.hok b ob e).stay (fun c w' hc q => (hs.2 c ?_).trans q) (fun _ q => q) fun _ _ q => q
    rintro rfl
    rcases hc with rfl | hc
    · rw [hfree] at e; cases e
    · rw [hfree] at hc; cases hc
  rcases hx with hk | hk
  · refine wpAny_storeName_local hk hn (fun h' hn' hs => ?_) hcls
    obtain ⟨oL, _, _, hoL, _⟩ := id hn
    refine h _ ⟨I.ok, I.os, I.bare, ⟨fun b o e n hb hx => ?_, fun b o e n hb hx => ?_, I.base.free, fun b o e hx => ?_, I.base.tups, I.base.frzs, I.base.tbls⟩, ⟨_, hn', fun j y v' e1 e2 e3 => ?_⟩, fun y c e => ?_, I.free, I.freeC, fun p hp => ?_, tracked ⟨oL, hoL, I.free⟩ hs, by simpa using I.len⟩ ⟨_, hs, .inl rfl⟩
    · exact (hs.2 b (Nat.ne_of_lt (Nat.lt_of_lt_of_le (Heap.lt_size e) I.ok.above))).trans (I.base.keep b o e n hb hx)
    · obtain ⟨sl, e1⟩ := I.base.slot b o e n hb hx
      exact ⟨sl, (hs.2 b (Nat.ne_of_lt (Nat.lt_of_lt_of_le (Heap.lt_size e) I.ok.above))).trans e1⟩
    · obtain ⟨o', e1⟩ := I.base.there b o e hx
      exact ⟨o', (hs.2 b (Nat.ne_of_lt (Nat.lt_of_lt_of_le (Heap.lt_size e) I.ok.above))).trans e1⟩
    · by_cases hj : j = i
      · subst hj
        rw [hi] at e1; cases e1
        rw [List.getElem?_set_self hiσ] at e2
        cases e2
        exact ⟨u, r, .inl ⟨hk, by simp⟩⟩
      · rw [List.getElem?_set_ne (Ne.symm hj)] at e2
        obtain ⟨u', r', q⟩ := hl j y v' e1 e2 e3
        refine ⟨u', r', ?_⟩
        rcases q with ⟨k, e⟩ | ⟨k, c, e, z⟩
        · refine .inl ⟨k, ?_⟩
          have : y ≠ x := fun e => hj (nodup_ix hN e1 (e ▸ hi))
          simp [this, e]
        · exact .inr ⟨k, c, e, z.sameBut hs (cne y c e)⟩
    · obtain ⟨w', z⟩ := I.cell y c e
      exact ⟨w', z.sameBut hs (cne y c e)⟩
    · obtain ⟨e, n, ne, nf, d⟩ := I.pin p hp
      exact ⟨(hs.2 p.1 ne).trans e, n, ne, nf, d⟩
  · have hfn : X.fn x = true := by
      rcases hf with z | z
      · exact z
      · rw [z] at hk; cases hk
    obtain ⟨c, hc⟩ := I.ok.has x (.inl hk)
    obtain ⟨w', z⟩ := I.cell x c hc
    refine wpAny_storeName_cell I.ok.kind hk hc z (fun h' hc' hs => ?_)
    obtain ⟨oc, hoc, hocd⟩ := id z
    refine h { s with heap := h' } ⟨I.ok, I.os, I.bare, ⟨fun b o e n hb hx => ?_, fun b o e n hb hx => ?_, I.base.free, fun b o e hx => ?_, I.base.tups, I.base.frzs, I.base.tbls⟩, ⟨m, hn.sameBut hs (Ne.symm (cne x c hc)), fun j y v' e1 e2 e3 => ?_⟩, fun y c' e => ?_, I.free, I.freeC, fun p hp => ?_, tracked ⟨oc, hoc, I.freeC x c hc⟩ hs, by simpa using I.len⟩ ⟨c, hs, .inr hc⟩
    · exact (hs.2 b (Nat.ne_of_lt (Nat.lt_of_lt_of_le (Heap.lt_size e) (I.ok.cab x c hfn hc)))).trans (I.base.keep b o e n hb hx)
    · obtain ⟨sl, e1⟩ := I.base.slot b o e n hb hx
      exact ⟨sl, (hs.2 b (Nat.ne_of_lt (Nat.lt_of_lt_of_le (Heap.lt_size e) (I.ok.cab x c hfn hc)))).trans e1⟩
    · obtain ⟨o', e1⟩ := I.base.there b o e hx
      exact ⟨o', (hs.2 b (Nat.ne_of_lt (Nat.lt_of_lt_of_le (Heap.lt_size e) (I.ok.cab x c hfn hc)))).trans e1⟩
    · by_cases hj : j = i
      · subst hj
        rw [hi] at e1; cases e1
        rw [List.getElem?_set_self hiσ] at e2
        cases e2
        exact ⟨u, r, .inr ⟨.inl hk, c, hc, hc'⟩⟩
      · rw [List.getElem?_set_ne (Ne.symm hj)] at e2
        obtain ⟨u', r', q⟩ := hl j y v' e1 e2 e3
        refine ⟨u', r', ?_⟩
        rcases q with q | ⟨k, c', e, z'⟩
        · exact .inl q
        · refine .inr ⟨k, c', e, z'.sameBut hs ?_⟩
          rintro rfl
          exact hj (nodup_ix hN e1 (I.ok.inj _ _ _ e hc ▸ hi))
    · by_cases hcc : c' = c
      · subst hcc; exact ⟨_, hc'⟩
      · obtain ⟨w2, z2⟩ := I.cell y c' e
        exact ⟨w2, z2.sameBut hs hcc⟩
    · obtain ⟨e, n, ne, nf, d⟩ := I.pin p hp
      refine ⟨(hs.2 p.1 ?_).trans e, n, ne, nf, d⟩
      intro q
      rw [q, hoc] at e
      have q' : oc = p.2 := Option.some.inj e
      exact d w' (by rw [← q']; exact hocd)
theorem store_ok {M : Model} {A : Around} {E : Value → Shared → Prop} {i : Nat} {x : Str} {v : V} {u : Value} {Q : Unit → Shared → Prop} (I : Inv X pins σ H s) (hN : X.N.Nodup) (hi : X.N[i]? = some x) (hx : Loc X.env.scope x) (r : RelV v u)
    (h : ∀ s', Inv X pins (σ.set i (some v)) H s' → Q () s') (hf : X.fn x = true ∨ X.env.scope.names.lookup x = some .local := by first | exact .inl rfl | exact .inr rfl | assumption) : wpAny M A (storeName X.env x u) Q E s :=
  store_ok2 I hN hi hx r (fun s' I' _ => h s' I') hf
theorem Inv.call' {s' : Shared} {ch : List Addr} (I : Inv X pins σ H s) (ho : s'.os = s.os) (u : Un (frs X.stack) ch H H' s.heap s'.heap) (hok : HOk X.prog X.w H' s'.heap) (hg : AllBare s'.gens)
    (hch : ∀ b ∈ ch, (b ∈ X.ex ∨ X.s_0.heap.objs.size ≤ b) ∧ b ≠ X.env.locals ∧ (∀ x c, X.env.cells.lookup x = some c → c ≠ b) ∧ ∀ p ∈ X.pn ++ pins, p.1 ≠ b) : Inv X pins σ H' s' := by
  obtain ⟨h', g', d', t', o'⟩ := s'
  have e : o' = s.os := ho
  subst e
  exact I.call (g' := g') (t' := t') (d' := d') u hok hg hch
end

abbrev XK := Value → Option Addr → Hp → Prop
abbrev St := List (Option V)
abbrev VK := V → Hp → Prop
abbrev TE := St → Hp → VK → Prop
abbrev TT := St → Hp → (Bool → Hp → Prop) → Prop
abbrev TA := St → Hp → (List V → Hp → Prop) → Prop
structure Ends where
  nx : St → Hp → Prop
  rt : VK
  bk : St → Hp → Prop := fun _ _ => False
  ct : St → Hp → Prop := fun _ _ => False
abbrev TS := Ends → St → Hp → Prop

def EP (X : Cx) (pins : List (Addr × Obj)) (σ : St) (Q : VK) (u : Value) (s' : Shared) : Prop := ∃ v H', Inv X pins σ H' s' ∧ RelV v u ∧ Q v H'
def TP (X : Cx) (pins : List (Addr × Obj)) (σ : St) (Q : Bool → Hp → Prop) (b : Bool) (s' : Shared) : Prop := ∃ H', Inv X pins σ H' s' ∧ Q b H'
def AP (X : Cx) (pins : List (Addr × Obj)) (σ : St) (Q : List V → Hp → Prop) (us : List Value) (s' : Shared) : Prop := ∃ vs H', Inv X pins σ H' s' ∧ Vals vs us ∧ Q vs H'
def SP (X : Cx) (pins : List (Addr × Obj)) (D : Ends) (f : Flow) (s' : Shared) : Prop :=
  match f with
  | .next => ∃ σ' H', Inv X pins σ' H' s' ∧ D.nx σ' H'
  | .brk => ∃ σ' H', Inv X pins σ' H' s' ∧ D.bk σ' H'
  | .cont => ∃ σ' H', Inv X pins σ' H' s' ∧ D.ct σ' H'
  | .ret u => ∃ v σ' H', Inv X pins σ' H' s' ∧ RelV v u ∧ D.rt v H'

def PE (X : Cx) (e : Expr) (t : TE) : Prop :=
  ∀ (pins : List (Addr × Obj)) (s : Shared) (σ : St) (H : Hp) (Q : VK), Inv X pins σ H s → t σ H Q → wpAny (model X.prog X.w) X.A (eval e X.env) (EP X pins σ Q) X.xe s
def PT (X : Cx) (e : Expr) (t : TT) : Prop :=
  ∀ (pins : List (Addr × Obj)) (s : Shared) (σ : St) (H : Hp) (Q : Bool → Hp → Prop), Inv X pins σ H s → t σ H Q → wpAny (model X.prog X.w) X.A (isTrue e X.env (eval e X.env)) (TP X pins σ Q) X.xe s
def PW (X : Cx) (e : Expr) (t : TT) : Prop :=
  ∀ (whole : Sem Value) (pins : List (Addr × Obj)) (s : Shared) (σ : St) (H : Hp) (Q : Bool → Hp → Prop), Inv X pins σ H s → t σ H Q → wpAny (model X.prog X.w) X.A (isTrue e X.env whole) (TP X pins σ Q) X.xe s
theorem PW.pt {X : Cx} {e : Expr} {t : TT} (h : PW X e t) : PT X e t := h _
def PA (X : Cx) (es : List Expr) (t : TA) : Prop :=
  ∀ (pos : Pos) (pins : List (Addr × Obj)) (s : Shared) (σ : St) (H : Hp) (Q : List V → Hp → Prop), Inv X pins σ H s → t σ H Q → wpAny (model X.prog X.w) X.A (spliced (backTo pos (starEach es X.env))) (AP X pins σ Q) X.xe s
def PS (X : Cx) (st : Stmt) (t : TS) : Prop :=
  ∀ (pins : List (Addr × Obj)) (s : Shared) (σ : St) (H : Hp) (D : Ends), Inv X pins σ H s → t D σ H → wpAny (model X.prog X.w) X.A (exec st X.env) (SP X pins D) X.xe s
def PSs (X : Cx) (st : List Stmt) (t : TS) : Prop :=
  ∀ (pins : List (Addr × Obj)) (s : Shared) (σ : St) (H : Hp) (D : Ends), Inv X pins σ H s → t D σ H → wpAny (model X.prog X.w) X.A (execs st X.env) (SP X pins D) X.xe s
theorem thn {α : Type} {t : Sem α} {Q Q' : α → Shared → Prop} {M : Model} {A : Around} {E : Value → Shared → Prop} {s : Shared} (h : wpAny M A t Q E s) (hQ : ∀ a s, Q a s → Q' a s) : wpAny M A t Q' E s := wpAny_mono h hQ fun _ _ x => x
end L2

namespace L2
open PySem PySem.Spec PyProof.Rows
section
variable {X : Cx}

def tVar (i : Nat) : TE := fun σ H Q => ∃ v, σ[i]? = some (some v) ∧ Q v H
def tC (v : V) : TE := fun _ H Q => Q v H
theorem pe_var {i : Nat} {x : Str} {pos : Pos} (hN : X.N[i]? = some x) (hv : Vis X.env.scope x) (hd : (x == ("__debug__" : Str)) = false := by decide) (hcd : (x == ("__classdict__" : Str)) = false := by decide) : PE X (.Name x pos) (tVar i) := by
  intro pins s σ H Q I h
  obtain ⟨v, e, h⟩ := h
  obtain ⟨m, hn, hl⟩ := I.loc
  obtain ⟨u, r, l⟩ := hl i x v hN e hv
  have fin : EP X pins σ Q u s := ⟨v, H, I, r, h⟩
  rcases l with ⟨hk, hm⟩ | ⟨hk, c, hc, hcell⟩
  · exact wpAny_Name (wpAny_loadName_local I.ok.kind hk hn hm fin) hd
  · rcases hk with hk | hk
    · exact wpAny_Name (wpAny_loadName_cell I.ok.kind hk hc hcell fin) hd
    · exact wpAny_Name (wpAny_loadName_free I.ok.kind hk hc hcell fin hcd) hd
theorem pe_int {i j pos} : PE X (.Constant (.int i) j pos) (tC (.int i)) := fun _ _ _ H _ I h => wpAny_Constant_int ⟨.int i, H, I.tok _, ⟨_, rfl⟩, h⟩
theorem pe_bl {b j pos} : PE X (.Constant (.bool b) j pos) (tC (.bl b)) := fun _ _ _ H _ I h => Constant_bool ⟨.bl b, H, I, rfl, h⟩
theorem pe_str {x j pos} : PE X (.Constant (.str x) j pos) (tC (.str x)) := fun _ _ _ H _ I h => Calls.Constant_str ⟨.str x, H, I.tok _, ⟨_, rfl⟩, h⟩

def Gl (X : Cx) (x : Str) : Prop := X.env.kindOf x = some .globalImplicit
theorem ld_glob {E : Value → Shared → Prop} {pins : List (Addr × Obj)} {s : Shared} {σ : St} {H : Hp} {x : Str} {u : Value} {pos : Pos} {Q : Value → Shared → Prop} (I : Inv X pins σ H s) (hg : Gl X x) (hm : X.mg x = some u) (h : Q u s)
    (hd : (x == ("__debug__" : Str)) = false := by decide) : wpAny (model X.prog X.w) X.A (eval (.Name x pos) X.env) Q E s :=
  Calls.Name_function_global I.ok.kind hg (Calls.loadGlobal_global (by rw [I.ok.glob]; exact I.mod.glob.keeps I.bk) hm h) hd
theorem ld_blt {E : Value → Shared → Prop} {pins : List (Addr × Obj)} {s : Shared} {σ : St} {H : Hp} {x : Str} {u : Value} {pos : Pos} {Q : Value → Shared → Prop} (I : Inv X pins σ H s) (hg : Gl X x) (hm : X.mg x = none) (hv : bootBuiltins x = some u) (h : Q u s)
    (hn : x ≠ "__name__" := by decide) (hd : (x == ("__debug__" : Str)) = false := by decide) : wpAny (model X.prog X.w) X.A (eval (.Name x pos) X.env) Q E s := by
  obtain ⟨mb, h1, h2⟩ := I.mod.blt
  exact Calls.Name_function_global I.ok.kind hg (Calls.loadGlobal_builtin (by rw [I.ok.glob]; exact I.mod.glob.keeps I.bk) hm (by rw [I.ok.blt]; exact h1.keeps I.bk) ((h2 x hn).trans hv) h) hd
theorem pe_glob {x : Str} {v : V} {u : Value} {pos : Pos} (hg : Gl X x) (hm : X.mg x = some u) (r : RelV v u) (hd : (x == ("__debug__" : Str)) = false := by decide) : PE X (.Name x pos) (tC v) :=
  fun _ _ _ H _ I h => ld_glob I hg hm ⟨v, H, I, r, h⟩ hd
variable {a b : Expr} {ta tb : TE} {pos : Pos}
def PC (X : Cx) (op : CmpOp) (a b : Expr) (t : TE) : Prop :=
  ∀ (pins : List (Addr × Obj)) (s : Shared) (σ : St) (H : Hp) (Q : VK), Inv X pins σ H s → t σ H Q →
    wpAny (model X.prog X.w) X.A (eval a X.env) (fun v s₁ => wpAny (model X.prog X.w) X.A (eval b X.env) (fun u s₂ => wpAny (model X.prog X.w) X.A (compareOp op v u) (EP X pins σ Q) X.xe s₂) X.xe s₁) X.xe s
theorem nobehind (b : Expr) {op : CmpOp} (h : op ≠ .In) (h2 : op ≠ .NotIn) : behindInMarks op b = false := by
  have e1 : (op == CmpOp.In) = false := by cases op <;> first | rfl | exact absurd rfl h
  have e2 : (op == CmpOp.NotIn) = false := by cases op <;> first | rfl | exact absurd rfl h2
  cases b <;> simp [behindInMarks, e1, e2]
def tB (t : TE) : TT := fun σ H Q => t σ H fun x H1 => ∃ c, x = .bl c ∧ Q c H1
theorem pe_cmp {op : CmpOp} {t : TE} (h : PC X op a b t) (h1 : behindInMarks op b = false := by first | exact nobehind _ (by decide) (by decide) | rfl) : PE X (.Compare a [op] [b] pos) t := fun pins s σ H Q I hw => wpAny_Compare1 (h pins s σ H Q I hw) h1
theorem pt_val {e : Expr} {t : TE} (h : PE X e t) (he : ∀ whole, isTrue e X.env whole = (do let v ← whole; standAt e.pos; holding [v] (truthy v)) := by intro _; rfl) : PT X e (tB t) := by
  intro pins s σ H Q I hw
  refine isTrue_plain (thn (h pins s σ H _ I hw) fun v s1 ⟨x, H1, I1, r1, q1⟩ => ?_) (he _)
  obtain ⟨d, rfl, q⟩ := q1
  cases r1
  exact wpAny_truthy_bool ⟨H1, I1, q⟩

variable {tA tB' : TT} {rest : List Expr}
def tAnd (t u : TT) : TT := fun σ H Q => t σ H fun c H1 => if c = true then u σ H1 Q else Q false H1
def tOr (t u : TT) : TT := fun σ H Q => t σ H fun c H1 => if c = true then Q true H1 else u σ H1 Q
def tNot (t : TT) : TT := fun σ H Q => t σ H fun c H1 => Q (!c) H1
theorem pw_and1 (ha : PT X a tA) : PW X (.BoolOp .And [a] pos) tA := by
  intro wh pins s σ H Q I h
  refine isTrue_and (thn (ha pins s σ H Q I h) fun c s1 e => ?_)
  cases c with
  | true => exact isTrue_and_nil e
  | false => exact e
theorem pw_or1 (ha : PT X a tA) : PW X (.BoolOp .Or [a] pos) tA := by
  intro wh pins s σ H Q I h
  refine isTrue_or (thn (ha pins s σ H Q I h) fun c s1 e => ?_)
  cases c with
  | false => exact isTrue_or_nil e
  | true => exact e
theorem pw_and (ha : PT X a tA) (hb : PW X (.BoolOp .And (b :: rest) pos) tB') : PW X (.BoolOp .And (a :: b :: rest) pos) (tAnd tA tB') := by
  intro wh pins s σ H Q I h
  refine isTrue_and (thn (ha pins s σ H _ I h) fun c s1 ⟨H1, I1, q1⟩ => ?_)
  cases c with
  | true => exact hb wh pins s1 σ H1 Q I1 q1
  | false => exact ⟨H1, I1, q1⟩
theorem pw_or (ha : PT X a tA) (hb : PW X (.BoolOp .Or (b :: rest) pos) tB') : PW X (.BoolOp .Or (a :: b :: rest) pos) (tOr tA tB') := by
  intro wh pins s σ H Q I h
  refine isTrue_or (thn (ha pins s σ H _ I h) fun c s1 ⟨H1, I1, q1⟩ => ?_)
  cases c with
  | true => exact ⟨H1, I1, q1⟩
  | false => exact hb wh pins s1 σ H1 Q I1 q1
theorem pt_not (ha : PT X a tA) : PT X (.UnaryOp .Not a pos) (tNot tA) := by
  intro pins s σ H Q I h
  exact isTrue_not (ha pins s σ H (fun c H1 => Q (!c) H1) I h)
def tAndV (ta tb : TE) : TE := fun σ H Q => ta σ H fun x H1 => ∃ c, x = .bl c ∧ if c = true then tb σ H1 Q else Q (.bl false) H1
def tOrV (ta tb : TE) : TE := fun σ H Q => ta σ H fun x H1 => ∃ c, x = .bl c ∧ if c = true then Q (.bl true) H1 else tb σ H1 Q
theorem pe_one {op} {t : TE} (h : PE X a t) : PE X (.BoolOp op [a] pos) t := fun pins s σ H Q I hw => BoolOp_one (h pins s σ H Q I hw)
theorem pe_and (ha : PE X a ta) (hb : PE X (.BoolOp .And (b :: rest) pos) tb) : PE X (.BoolOp .And (a :: b :: rest) pos) (tAndV ta tb) := by
  intro pins s σ H Q I h
  refine BoolOp_and (thn (ha pins s σ H _ I h) fun v s1 ⟨x, H1, I1, r1, q1⟩ => ?_)
  obtain ⟨c, rfl, q1⟩ := q1
  cases r1
  refine wpAny_truthy_bool ?_
  cases c with
  | true => exact hb pins s1 σ H1 Q I1 q1
  | false => exact ⟨.bl false, H1, I1, rfl, q1⟩
theorem pe_or (ha : PE X a ta) (hb : PE X (.BoolOp .Or (b :: rest) pos) tb) : PE X (.BoolOp .Or (a :: b :: rest) pos) (tOrV ta tb) := by
  intro pins s σ H Q I h
  refine BoolOp_or (thn (ha pins s σ H _ I h) fun v s1 ⟨x, H1, I1, r1, q1⟩ => ?_)
  obtain ⟨c, rfl, q1⟩ := q1
  cases r1
  refine wpAny_truthy_bool ?_
  cases c with
  | false => exact hb pins s1 σ H1 Q I1 q1
  | true => exact ⟨.bl true, H1, I1, rfl, q1⟩
def tIf (t : TT) (ta tb : TE) : TE := fun σ H Q => t σ H fun c H1 => if c = true then ta σ H1 Q else tb σ H1 Q
theorem pe_ifExp {c : Expr} (hc : PT X c tA) (ha : PE X a ta) (hb : PE X b tb) : PE X (.IfExp c a b pos) (tIf tA ta tb) := by
  intro pins s σ H Q I h
  refine wpAny_IfExp (thn (hc pins s σ H _ I h) fun d s1 ⟨H1, I1, q1⟩ => ?_)
  cases d with
  | true => exact ha pins s1 σ H1 Q I1 q1
  | false => exact hb pins s1 σ H1 Q I1 q1
end
end L2

namespace L2
open PySem PySem.Spec PyProof.Rows

def SqL (K : PySem.W.Frag) (H : Hp) (a : Addr) (xs : List V) : Prop :=
  Rd H a (.lst xs) ∨
    ∃ (o : Obj) (its : Array Value) (n : Nat), K.lookup a = some o ∧ o.cls = .type "list" ∧ o.dict = none ∧ o.data = .seq its n ∧ its.size ≤ sizeLine ∧ Vals xs its.toList
def SqT (K : PySem.W.Frag) (H : Hp) (a : Addr) (xs : List V) : Prop :=
  Rd H a (.tup xs) ∨
    ∃ (o : Obj) (its : Array Value) (n : Nat), K.lookup a = some o ∧ o.cls = .type "tuple" ∧ o.data = .seq its n ∧ its.size ≤ sizeLine ∧ Vals xs its.toList
def absV : Value → Option V
  | .none => some .non
  | .bool b => some (.bl b)
  | .int i _ => some (.int i)
  | .str x _ => some (.str x)
  | .bytes b _ => some (.byt b)
  | .float b _ => some (.flt b)
  | .ref a => some (.ref a)
  | .type n => some (.ty n)
  | _ => none
theorem RelV.abs {x : V} {u : Value} (r : RelV x u) : absV u = some x := by
  cases x with
  | non => cases r; rfl
  | bl _ => cases r; rfl
  | int _ => obtain ⟨t, rfl⟩ := r; rfl
  | str _ => obtain ⟨t, rfl⟩ := r; rfl
  | byt _ => obtain ⟨t, rfl⟩ := r; rfl
  | flt _ => obtain ⟨t, rfl⟩ := r; rfl
  | ref _ => cases r; rfl
  | ty _ => cases r; rfl
theorem RelV.inj {x y : V} {u : Value} (r : RelV x u) (q : RelV y u) : x = y := Option.some.inj (r.abs.symm.trans q.abs)
theorem Vals.inj : ∀ {xs ys : List V} {us : List Value}, Vals xs us → Vals ys us → xs = ys
  | _, _, _, .nil, .nil => rfl
  | _, _, _, .cons r t, .cons r' t' => by rw [r.inj r', Vals.inj t t']
section
variable {X : Cx} {pins : List (Addr × Obj)} {σ : St} {H : Hp} {s : Shared} {a : Addr} {xs ys : List V}
theorem SqL.of {K : PySem.W.Frag} (h : H a = some (.lst xs)) : SqL K H a xs := .inl (.inl h)
theorem SqT.of {K : PySem.W.Frag} (h : H a = some (.tup xs)) : SqT K H a xs := .inl (.inl h)
theorem Inv.list (I : Inv X pins σ H s) (h : SqL X.K H a xs) : ∃ its : List Value, Vals xs its ∧ PlainL s.heap a its.toArray ∧ xs.length ≤ sizeLine := by
  rcases h with h | ⟨o, its, n, hk, hc, hd, hs, hz, r⟩
  · obtain ⟨z, its, n, r, e⟩ := h.ok I.hok
    exact ⟨its, r, ⟨_, n, e, rfl, rfl, rfl⟩, z⟩
  · refine ⟨its.toList, r, ⟨o, n, I.kIn a o hk, hc, hd, by simpa using hs⟩, ?_⟩
    have e := r.length
    simp only [Array.length_toList] at e
    omega
theorem Inv.tuple (I : Inv X pins σ H s) (h : SqT X.K H a xs) : ∃ its : List Value, Vals xs its ∧ IsTup s.heap a its.toArray ∧ xs.length ≤ sizeLine := by
  rcases h with h | ⟨o, its, n, hk, hc, hs, hz, r⟩
  · obtain ⟨z, its, r, p⟩ := h.ok I.hok
    exact ⟨its, r, p, z⟩
  · refine ⟨its.toList, r, ⟨o, I.kIn a o hk, hc, n, by simpa using hs⟩, ?_⟩
    have e := r.length
    simp only [Array.length_toList] at e
    omega
theorem Inv.list_inj (I : Inv X pins σ H s) (h : SqL X.K H a xs) (h' : SqL X.K H a ys) : xs = ys := by
  obtain ⟨its, r, ⟨o, n, e, _, _, d⟩, _⟩ := I.list h
  obtain ⟨its', r', ⟨o', n', e', _, _, d'⟩, _⟩ := I.list h'
  rw [e] at e'; cases e'
  rw [d] at d'
  injection d' with d1 _
  have : its = its' := by simpa using congrArg Array.toList d1
  subst this
  exact r.inj r'
end

abbrev Cx.wish (X : Cx) (E : Value → Shared → Prop) : Cx := { X with xe := E }
abbrev Cx.nox (X : Cx) : Cx := X.wish fun _ _ => False
theorem Cx.Ok.wish {X : Cx} (ok : X.Ok) (E : Value → Shared → Prop) : (X.wish E).Ok :=
  ⟨ok.mod, ok.kind, ok.glob, ok.blt, ok.above, ok.inj, ok.has, ok.cab, ok.hd, ok.frames, ok.stk, ok.exf, ok.bs, ok.bsz, ok.noex, ok.exfs, ok.funs, ok.frf⟩
theorem Cx.Ok.unwish {X : Cx} {E : Value → Shared → Prop} (ok : (X.wish E).Ok) : X.Ok :=
  ⟨ok.mod, ok.kind, ok.glob, ok.blt, ok.above, ok.inj, ok.has, ok.cab, ok.hd, ok.frames, ok.stk, ok.exf, ok.bs, ok.bsz, ok.noex, ok.exfs, ok.funs, ok.frf⟩
section
variable {X : Cx} {pins : List (Addr × Obj)} {σ : St} {H : Hp} {s : Shared} {E : Value → Shared → Prop}
theorem Inv.wish (I : Inv X pins σ H s) (E : Value → Shared → Prop) : Inv (X.wish E) pins σ H s := ⟨I.ok.wish E, I.os, I.bare, I.base, I.loc, I.cell, I.free, I.freeC, I.pin, I.hok, I.len⟩
theorem Inv.unwish (I : Inv (X.wish E) pins σ H s) : Inv X pins σ H s := ⟨I.ok.unwish, I.os, I.bare, I.base, I.loc, I.cell, I.free, I.freeC, I.pin, I.hok, I.len⟩
theorem SP.unwish {D : Ends} {f : Flow} {s' : Shared} (h : SP (X.wish E) pins D f s') : SP X pins D f s' := by
  cases f with
  | next => obtain ⟨σ', H', I, q⟩ := h; exact ⟨σ', H', I.unwish, q⟩
  | brk => obtain ⟨σ', H', I, q⟩ := h; exact ⟨σ', H', I.unwish, q⟩
  | cont => obtain ⟨σ', H', I, q⟩ := h; exact ⟨σ', H', I.unwish, q⟩
  | ret u => obtain ⟨v, σ', H', I, r, q⟩ := h; exact ⟨v, σ', H', I.unwish, r, q⟩
theorem PE.nox {e : Expr} {t : TE} (h : PE X.nox e t) : PE X e t := fun pins s σ H Q I hw =>
  wpAny_mono (h pins s σ H Q (I.wish _) hw) (fun _ _ ⟨v, H', I', r, q⟩ => ⟨v, H', I'.unwish, r, q⟩) fun _ _ z => False.elim z
theorem PT.nox {e : Expr} {t : TT} (h : PT X.nox e t) : PT X e t := fun pins s σ H Q I hw =>
  wpAny_mono (h pins s σ H Q (I.wish _) hw) (fun _ _ ⟨H', I', q⟩ => ⟨H', I'.unwish, q⟩) fun _ _ z => False.elim z
theorem PSs.nox {st : List Stmt} {t : TS} (h : PSs X.nox st t) : PSs X st t := fun pins s σ H D I hw =>
  wpAny_mono (h pins s σ H D (I.wish _) hw) (fun _ _ q => q.unwish) fun _ _ z => False.elim z
end

section
variable {X : Cx} {st : Stmt} {rest : List Stmt} {t u : TS} {e : Expr} {te : TE} {pos : Pos}
def tNext : TS := fun D σ H => D.nx σ H
def tSeq (t u : TS) : TS := fun D σ H => t { D with nx := u D } σ H
theorem pss_nil : PSs X [] tNext := fun _ _ σ H _ I h => wpAny_execs_nil ⟨σ, H, I, h⟩
theorem pss_cons (h1 : PS X st t) (h2 : PSs X rest u) : PSs X (st :: rest) (tSeq t u) := by
  intro pins s σ H D I h
  refine wpAny_execs_cons (thn (h1 pins s σ H { D with nx := u D } I h) fun f s1 q => ?_)
  cases f with
  | next =>
    obtain ⟨σ', H', I', q⟩ := q
    exact h2 pins s1 σ' H' D I' q
  | ret v => exact q
  | brk => exact q
  | cont => exact q
theorem pss_one (h1 : PS X st t) : PSs X [st] t := by
  intro pins s σ H D I h
  refine wpAny_execs_cons (thn (h1 pins s σ H D I h) fun f s1 q => ?_)
  cases f with
  | next => exact wpAny_execs_nil q
  | ret v => exact q
  | brk => exact q
  | cont => exact q
theorem Inv.quiet {pins : List (Addr × Obj)} {σ : St} {H : Hp} {s : Shared} (I : Inv X pins σ H s) : interactive X.env = false := by simp [interactive, I.ok.kind]
def tDrop (te : TE) : TS := fun D σ H => te σ H fun _ H1 => D.nx σ H1
theorem ps_expr (he : PE X e te) (hs : swapsWith e none pos.line X.env = pure false := by rfl) : PS X (.Expr e pos) (tDrop te) := by
  intro pins s σ H D I h
  exact wpAny_Expr_any (thn (he pins s σ H _ I h) fun v s1 ⟨x, H1, I1, r1, q1⟩ => ⟨σ, H1, I1, q1⟩) I.quiet hs
def tRet (te : TE) : TS := fun D σ H => te σ H D.rt
theorem ps_ret (he : PE X e te) : PS X (.Return (some e) pos) (tRet te) := by
  intro pins s σ H D I h
  exact wpAny_Return_some (thn (he pins s σ H _ I h) fun v s1 ⟨x, H1, I1, r1, q1⟩ => ⟨x, σ, H1, I1, r1, q1⟩)
def tIfS (c : TT) (t u : TS) : TS := fun D σ H => c σ H fun b H1 => if b = true then t D σ H1 else u D σ H1
theorem ps_if {c : Expr} {a b : List Stmt} {tc : TT} (hc : PT X c tc) (ha : PSs X a t) (hb : PSs X b u) : PS X (.If c a b pos) (tIfS tc t u) := by
  intro pins s σ H D I h
  refine wpAny_If (thn (hc pins s σ H _ I h) fun d s1 ⟨H1, I1, q1⟩ => ?_)
  cases d with
  | true => exact ha pins s1 σ H1 D I1 q1
  | false => exact hb pins s1 σ H1 D I1 q1
end

abbrev TG := V → St → Hp → (St → Hp → Prop) → Prop
abbrev TGs := List V → St → Hp → (St → Hp → Prop) → Prop
def PG (X : Cx) (target : Expr) (t : TG) : Prop :=
  ∀ (pins : List (Addr × Obj)) (s : Shared) (σ : St) (H : Hp) (v : V) (u : Value) (Q : St → Hp → Prop), Inv X pins σ H s → RelV v u → t v σ H Q →
    wpAny (model X.prog X.w) X.A (assign target X.env u) (fun _ s' => ∃ σ' H', Inv X pins σ' H' s' ∧ Q σ' H') X.xe s
def PGs (X : Cx) (ts : List Expr) (t : TGs) : Prop :=
  ∀ (pins : List (Addr × Obj)) (s : Shared) (σ : St) (H : Hp) (vs : List V) (us : List Value) (Q : St → Hp → Prop), Inv X pins σ H s → Vals vs us → t vs σ H Q →
    wpAny (model X.prog X.w) X.A (assignInOrder ((assignEach ts X.env).map (·.2)) us) (fun _ s' => ∃ σ' H', Inv X pins σ' H' s' ∧ Q σ' H') X.xe s
section
variable {X : Cx} {pos : Pos}
def gName (i : Nat) : TG := fun v σ H Q => Q (σ.set i (some v)) H
theorem pg_name {i : Nat} {x : Str} (hN : X.N.Nodup) (hi : X.N[i]? = some x) (hx : Loc X.env.scope x) (hf : X.fn x = true ∨ X.env.scope.names.lookup x = some .local := by first | exact .inl rfl | exact .inr rfl | assumption) : PG X (.Name x pos) (gName i) := by
  intro pins s σ H v u Q I r h
  exact wpAny_assign_Name (store_ok I hN hi hx r (fun s' I' => ⟨_, H, I', h⟩) hf)
def gNil : TGs := fun vs σ H Q => vs = [] ∧ Q σ H
def gCons (t : TG) (u : TGs) : TGs := fun vs σ H Q => ∃ v r, vs = v :: r ∧ t v σ H fun σ' H' => u r σ' H' Q
theorem pgs_nil : PGs X [] gNil := by
  intro pins s σ H vs us Q I r h
  obtain ⟨e, h⟩ := h
  subst e
  cases r
  exact assignInOrder_nil ⟨σ, H, I, h⟩
theorem pgs_cons {e : Expr} {es : List Expr} {t : TG} {u : TGs} (h1 : PG X e t) (h2 : PGs X es u)
    (hs : (assignEach (e :: es) X.env).map (·.2) = assign e X.env :: (assignEach es X.env).map (·.2) := by rfl) : PGs X (e :: es) (gCons t u) := by
  intro pins s σ H vs us Q I r h
  obtain ⟨v, vr, e1, h⟩ := h
  subst e1
  cases r with
  | cons r rr =>
    rw [hs]
    refine assignInOrder_cons (thn (h1 pins s σ H _ _ _ I r h) fun _ s1 ⟨σ1, H1, I1, q1⟩ => ?_)
    exact h2 pins s1 σ1 H1 _ _ Q I1 rr q1
def gTup (K : PySem.W.Frag) (n : Nat) (t : TGs) : TG := fun v σ H Q => ∃ a xs, v = .ref a ∧ SqT K H a xs ∧ xs.length = n ∧ t xs σ H Q
theorem pg_tup {es : List Expr} {k : Nat} {t : TGs} {n : Nat} (hc : X.calm = true) (h : PGs X es t)
    (hn : (assignEach es X.env).length = n := by rfl) (hst : (assignEach es X.env).findIdx? (·.1) = none := by rfl) : PG X (.Tuple es k pos) (gTup X.K n t) := by
  intro pins s σ H v u Q I r hw
  obtain ⟨a, xs, e1, hq, hl, hw⟩ := hw
  subst e1
  cases r
  obtain ⟨its, rv, ht, hz⟩ := I.tuple hq
  refine assign_Tuple_tuple (I.ok.hd hc) ht (by simp [hn, ← hl, rv.length]) hst fun h' hx => ?_
  have I1 : Inv X pins σ H { s with heap := h' } := I.kept (t' := s.toks) fun b o e => hx b o (Nat.ne_of_lt (Heap.lt_size e)) e
  exact h pins _ σ H xs _ Q I1 (by simpa using rv) hw
def tAsg (te : TE) (g : TG) : TS := fun D σ H => te σ H fun x H1 => g x σ H1 D.nx
theorem ps_set {i : Nat} {x : Str} {e : Expr} {te : TE} {pos' : Pos} (hN : X.N.Nodup) (hi : X.N[i]? = some x) (hx : Loc X.env.scope x) (he : PE X e te) (hs : swapsWith e (some (.Name x pos')) pos.line X.env = pure false := by rfl) (hf : X.fn x = true ∨ X.env.scope.names.lookup x = some .local := by first | exact .inl rfl | exact .inr rfl | assumption) :
    PS X (.Assign [.Name x pos'] e pos) (tAsg te (gName i)) := by
  intro pins s σ H D I h
  refine wpAny_Assign_Name (thn (he pins s σ H _ I h) fun v s1 ⟨y, H1, I1, r1, q1⟩ => ?_) hs
  exact store_ok I1 hN hi hx r1 (fun s2 I2 => ⟨_, H1, I2, q1⟩) hf
end

section
variable {X : Cx} {pos : Pos}
def tWhile (c : TT) (tb : TS) : TS := fun D σ H => ∃ W : Nat → St → Hp → Prop, (∃ m, W m σ H) ∧ ∀ m σ H, W m σ H →
  c σ H fun b H1 => if b = true then ∃ N : St → Hp → Prop, (∀ σ' H', N σ' H' → ∃ m', m' < m ∧ W m' σ' H') ∧ tb { D with nx := N, ct := N, bk := D.nx } σ H1 else D.nx σ H1
theorem ps_while {c : Expr} {body : List Stmt} {tc : TT} {tb : TS} (hp : PassesOwn (model X.prog X.w) X.A X.env X.xe) (hc : PT X c tc) (hb : PSs X body tb) : PS X (.While c body [] pos) (tWhile tc tb) := by
  intro pins s σ H D I h
  obtain ⟨W, ⟨m0, w0⟩, turn⟩ := h
  refine wpAny_While (codeAny_whileLoop (fun n s' => ∃ σ' H', Inv X pins σ' H' s' ∧ W n σ' H') ?_ m0 ⟨σ, H, I, w0⟩)
  rintro n s1 ⟨σ1, H1, I1, w1⟩
  refine wpAny_passesOwn hp (thn (hc pins s1 σ1 H1 _ I1 (turn n σ1 H1 w1)) fun b s2 ⟨H2, I2, q2⟩ => ?_)
  cases b with
  | true =>
    obtain ⟨N, hN, q2⟩ := q2
    rw [if_pos rfl]
    refine wpAny_passesOwn hp (thn (hb pins s2 σ1 H2 _ I2 q2) fun f s3 q3 => ?_)
    cases f with
    | next =>
      obtain ⟨σ3, H3, I3, n3⟩ := q3
      obtain ⟨m', hm, w3⟩ := hN σ3 H3 n3
      exact ⟨m', hm, σ3, H3, I3, w3⟩
    | cont =>
      obtain ⟨σ3, H3, I3, n3⟩ := q3
      obtain ⟨m', hm, w3⟩ := hN σ3 H3 n3
      exact ⟨m', hm, σ3, H3, I3, w3⟩
    | brk => exact q3
    | ret v => exact q3
  | false =>
    rw [if_neg Bool.false_ne_true]
    exact wpAny_execs_nil ⟨σ1, H2, I2, q2⟩
end

structure It where
  go : Nat → Hp → Prop
  yld : Nat → Hp → V → Hp → Prop
  stop : Nat → Hp → Prop
def FpOk (X : Cx) (pins : List (Addr × Obj)) (H : Hp) (b : Addr) : Prop :=
  H b = none ∧ b ≠ X.env.locals ∧ b ∉ X.fs ∧ (b ∈ X.ex ∨ X.s_0.heap.objs.size ≤ b) ∧ (∀ x c, X.env.cells.lookup x = some c → c ≠ b) ∧ ∀ p ∈ X.pn ++ pins, p.1 ≠ b
theorem Inv.fpOk {X : Cx} {pins : List (Addr × Obj)} {σ : St} {H H' : Hp} {s : Shared} {b : Addr} (I : Inv X pins σ H s) (hb : s.heap.objs.size ≤ b) (hn : H' b = none) : FpOk X pins H' b := by
  refine ⟨hn, Nat.ne_of_gt (Nat.lt_of_lt_of_le I.lt hb), I.nofs hb, .inr (Nat.le_trans I.sz hb), fun x c e z => ?_, fun p hp z => ?_⟩
  · obtain ⟨v, q⟩ := I.cell x c e
    exact absurd (Nat.lt_of_lt_of_le q.lt (by rw [z]; exact hb)) (Nat.lt_irrefl _)
  · exact absurd (Nat.lt_of_lt_of_le (Heap.lt_size (I.pin p hp).1) (by rw [z]; exact hb)) (Nat.lt_irrefl _)
structure Turn (P : Program) (w : World) (K : PySem.W.Frag) (tg : Expr) (J : It) (fp : List Addr) (it : Addr) (tn : Nat → Heap → Prop) : Prop where
  mem : it ∈ fp
  obj : ∀ i h, tn i h → ∀ b ∈ fp, ∃ o, h.get? b = some o ∧ ∀ v, o.data ≠ .cell v
  keep : ∀ i h h', tn i h → (∀ b ∈ fp, ∀ o, h.get? b = some o → h'.get? b = some o) → tn i h'
  item : ∀ (X : Cx), X.prog = P → X.w = w → X.K = K → X.calm = true → ∀ (i : Nat) (pins : List (Addr × Obj)) (s : Shared) (σ : St) (H : Hp) (E : Value → Shared → Prop), Inv X pins σ H s → (∀ b ∈ fp, FpOk X pins H b) → tn i s.heap → J.go i H →
    wpAny (model P w) X.A (pyNext (.ref it)) (fun r s1 => ∃ u, r = some u ∧
      wpAny (model P w) X.A (letOwnedTupleGo tg (.ref it) u) (fun _ s2 => ∃ x H', Inv X pins σ H' s2 ∧ RelV x u ∧ J.yld i H x H' ∧ tn (i + 1) s2.heap ∧ ∀ b ∈ fp, H' b = none) E s1) E s
  done : ∀ (X : Cx), X.prog = P → X.w = w → X.K = K → X.calm = true → ∀ (i : Nat) (pins : List (Addr × Obj)) (s : Shared) (σ : St) (H : Hp) (E : Value → Shared → Prop), Inv X pins σ H s → (∀ b ∈ fp, FpOk X pins H b) → tn i s.heap → J.stop i H →
    wpAny (model P w) X.A (pyNext (.ref it)) (fun r s1 => r = none ∧ Inv X pins σ H s1) E s
  self : ∀ (A : Around) (i : Nat) (s : Shared) (Q : Value → Shared → Prop) (E : Value → Shared → Prop), tn i s.heap → Q (.ref it) s → wpAny (model P w) A (pyIter (.ref it)) Q E s
abbrev TI := St → Hp → (It → Hp → Prop) → Prop
def PIE (X : Cx) (pins : List (Addr × Obj)) (σ : St) (tg : Expr) (R : It → Hp → Prop) (itv : Value) (s2 : Shared) : Prop :=
  ∃ (it : Addr) (fp : List Addr) (tn : Nat → Heap → Prop) (J : It) (H' : Hp), itv = .ref it ∧ Inv X pins σ H' s2 ∧ Turn X.prog X.w X.K tg J fp it tn ∧ tn 0 s2.heap ∧ (∀ b ∈ fp, FpOk X pins H' b) ∧ R J H'
def PI (X : Cx) (tg iter : Expr) (wi : TI) : Prop :=
  ∀ (pins : List (Addr × Obj)) (s : Shared) (σ : St) (H : Hp) (R : It → Hp → Prop), Inv X pins σ H s → wi σ H R →
    wpAny (model X.prog X.w) X.A (eval iter X.env) (fun v s1 => wpAny (model X.prog X.w) X.A (pyIter v) (PIE X pins σ tg R) X.xe s1) X.xe s

theorem go_of {M : Model} {A : Around} {E : Value → Shared → Prop} {s : Shared} {tg : Expr} {it : Addr} {u : Value} {o : Obj} {n : String} {vs : Array Value} {Q : Unit → Shared → Prop} (ho : s.heap.get? it = some o) (hc : o.cls = .type n) (hd : o.data = .fields vs)
    (hn : ["enumerate", "zip", "dict_itemiterator", "dict_reverseitemiterator", "odict_iterator", "itertools.zip_longest", "itertools.pairwise"].contains n = false) (hQ : Q () s) : wpAny M A (letOwnedTupleGo tg (.ref it) u) Q E s := by
  unfold letOwnedTupleGo
  cases tg <;> first
    | exact wpAny_pure hQ
    | (cases u <;> first
        | exact wpAny_pure hQ
        | (refine wpAny_bind (wpAny_load ho ?_)
           rw [hc, hd]
           show wpAny M A (if (["enumerate", "zip", "dict_itemiterator", "dict_reverseitemiterator", "odict_iterator", "itertools.zip_longest", "itertools.pairwise"].contains n && vs[0]? == some (rawInt _)) = true then _ else _) Q E s
           rw [if_neg (by intro h; rw [hn, Bool.false_and] at h; cases h)]
           exact wpAny_pure hQ))

def Itl (K : PySem.W.Frag) (a : Addr) : It :=
  ⟨fun i H => ∃ xs x, SqL K H a xs ∧ xs[i]? = some x, fun i H x H' => H' = H ∧ ∀ xs, SqL K H a xs → xs[i]? = some x, fun i H => ∃ xs, SqL K H a xs ∧ xs.length ≤ i⟩
def Itr (lo : Int) (n : Nat) : It := ⟨fun i _ => i < n, fun i H x H' => H' = H ∧ x = .int (lo + i), fun i _ => n ≤ i⟩
theorem turn_list {P : Program} {w : World} {K : PySem.W.Frag} {tg : Expr} (a it : Addr) : Turn P w K tg (Itl K a) [it] it (fun i h => h.IsListIter it a i) where
  mem := by simp
  obj := fun i h st b hb => by
    have e : b = it := by simpa using hb
    subst e
    obtain ⟨o, e, c, d⟩ := st
    exact ⟨o, e, fun v z => by rw [d] at z; cases z⟩
  keep := fun i h h' st k => st.at fun o e => k it (by simp) o e
  item := by
    intro X hP hw hK hc i pins s σ H E I hf st hg
    subst hP hw hK
    obtain ⟨xs, x, hq, hx⟩ := hg
    obtain ⟨its, rv, p, hz⟩ := I.list hq
    obtain ⟨u, hu, ru⟩ := rv.get hx
    obtain ⟨f0, f1, f2, f3, f4, f5⟩ := hf it (by simp)
    refine wpAny_pyNext_list_item st p.isList (x := u) (by simpa using hu) fun h' st' sb => ?_
    have I1 : Inv X pins σ H { s with heap := h' } := I.turned (t' := s.toks) (fun b o hb e => (sb.2 b hb).trans e) f0 f1 f3 f4 f5
    obtain ⟨o, e, c, d⟩ := id st'
    exact ⟨u, rfl, go_of (s := { s with heap := h' }) e c d (by decide) ⟨x, H, I1, ru, ⟨rfl, fun ys hy => by rw [I.list_inj hy hq]; exact hx⟩, st', fun b hb => (hf b hb).1⟩⟩
  done := by
    intro X hP hw hK hc i pins s σ H E I hf st hg
    subst hP hw hK
    obtain ⟨xs, hq, hx⟩ := hg
    obtain ⟨its, rv, p, hz⟩ := I.list hq
    obtain ⟨f0, f1, f2, f3, f4, f5⟩ := hf it (by simp)
    have hl := rv.length
    exact wpAny_pyNext_list_end (I.ok.hd hc) st p.isList (by simp; omega) fun h' eb => ⟨rfl, I.turned (t' := s.toks) (fun b o hb e => eb b o hb e) f0 f1 f3 f4 f5⟩
  self := fun _ _ _ _ _ st h => wpAny_pyIter_listiter st h
theorem turn_range {P : Program} {w : World} {K : PySem.W.Frag} {tg : Expr} (it : Addr) (lo : Int) (n : Nat) : Turn P w K tg (Itr lo n) [it] it (fun i h => IsRangeIter h it (lo + (i : Nat) * 1) ((n : Int) - (i : Nat)) 1) where
  mem := by simp
  obj := fun i h st b hb => by
    have e : b = it := by simpa using hb
    subst e
    exact ⟨_, st, fun v z => by
      have z' : Data.fields _ = Data.cell v := z
      cases z'⟩
  keep := fun i h h' st k => k it (by simp) _ st
  item := by
    intro X hP hw hK hc i pins s σ H E I hf st hg
    subst hP hw hK
    obtain ⟨f0, f1, f2, f3, f4, f5⟩ := hf it (by simp)
    have W := Walks.range (prog := X.prog) (w := X.w) (I.ok.hd hc) it lo 1 n
    refine W.item i s _ _ hg st fun v h' tk hv st' kk => ?_
    obtain ⟨t, rfl⟩ := hv
    have I1 : Inv X pins σ H { s with heap := h', toks := tk } := I.turned (fun b o hb e => kk b o (by simpa using hb) e) f0 f1 f3 f4 f5
    refine ⟨_, rfl, go_of (s := { s with heap := h', toks := tk }) (n := "range_iterator") st' rfl rfl (by decide) ⟨.int (lo + i), H, I1, ⟨t, ?_⟩, ⟨rfl, rfl⟩, st', fun b hb => (hf b hb).1⟩⟩
    rw [Int.mul_one]
  done := by
    intro X hP hw hK hc i pins s σ H E I hf st hg
    subst hP hw hK
    obtain ⟨f0, f1, f2, f3, f4, f5⟩ := hf it (by simp)
    exact wpAny_pyNext_range_end (I.ok.hd hc) st (by have : n ≤ i := hg; omega) fun h' eb => ⟨rfl, I.turned (t' := s.toks) (fun b o hb e => eb b o hb e) f0 f1 f3 f4 f5⟩
  self := fun _ _ _ _ _ st h => wpAny_pyIter_rangeiter st h
end L2

namespace L2
open PySem PySem.Spec PyProof.Rows
section
variable {X : Cx} {tg : Expr}
def iList (K : PySem.W.Frag) (tl : TE) : TI := fun σ H R => tl σ H fun x H1 => ∃ a, x = .ref a ∧ (∃ xs, SqL K H1 a xs) ∧ R (Itl K a) H1
theorem pi_list {l : Expr} {tl : TE} (hl : PE X l tl) : PI X tg l (iList X.K tl) := by
  intro pins s σ H R I h
  refine thn (hl pins s σ H _ I h) fun v s1 ⟨x, H1, I1, r1, q1⟩ => ?_
  obtain ⟨a, e, ⟨xs, hq⟩, q⟩ := q1
  subst e
  cases r1
  obtain ⟨its, rv, p, hz⟩ := I1.list hq
  refine wpAny_pyIter_list p.isList ?_
  refine ⟨s1.heap.objs.size, [s1.heap.objs.size], _, _, H1, rfl, I1.kept (t' := s1.toks) fun b o e => Heap.get?_push_of_some _ e, turn_list a _, ⟨_, Heap.get?_push_size _ rfl, rfl, rfl⟩, fun b hb => ?_, q⟩
  have e : b = s1.heap.objs.size := by simpa using hb
  subst e
  exact I1.fpOk (Nat.le_refl _) (I1.hok.fresh (Nat.le_refl _))
theorem range_it {pins : List (Addr × Obj)} {σ : St} {H : Hp} {s : Shared} {R : It → Hp → Prop} {E : Value → Shared → Prop} {lo hi : Int} {t u v : Tok} {tk : Nat} (I : Inv X pins σ H s) (h1 : -(2 ^ 62) ≤ lo) (h2 : lo < 2 ^ 62) (h3 : -(2 ^ 62) ≤ hi) (h4 : hi < 2 ^ 62)
    (q : R (Itr lo (hi - lo).toNat) H) : wpAny (model X.prog X.w) X.A (pyIter (.ref s.heap.objs.size)) (PIE X pins σ tg R) E { s with heap := s.heap.push { cls := .type "range", data := .fields #[.int lo t, .int hi u, .int 1 v] }, toks := tk } := by
  refine wpAny_pyIter_range (IsRange.new ..) (small_one h1 h2 h3 h4) ?_
  have I1 : Inv X pins σ H { s with heap := s.heap.push { cls := .type "range", data := .fields #[.int lo t, .int hi u, .int 1 v] }, toks := tk } := I.kept fun b o e => Heap.get?_push_of_some _ e
  refine ⟨(s.heap.push { cls := .type "range", data := .fields #[.int lo t, .int hi u, .int 1 v] }).objs.size, [(s.heap.push { cls := .type "range", data := .fields #[.int lo t, .int hi u, .int 1 v] }).objs.size], _, _, H, rfl,
    I1.kept (t' := tk) fun b o e => Heap.get?_push_of_some _ e, turn_range _ lo (hi - lo).toNat, ?_, fun b hb => ?_, q⟩
  · have e1 : lo + ((0 : Nat) : Int) * 1 = lo := by simp
    have e2 : (((hi - lo).toNat : Nat) : Int) - ((0 : Nat) : Int) = Builtin.Range.rangeSize lo hi 1 := by rw [rangeSize_one]; split <;> omega
    show IsRangeIter _ _ (lo + ((0 : Nat) : Int) * 1) ((((hi - lo).toNat : Nat) : Int) - ((0 : Nat) : Int)) 1
    rw [e1, e2]
    exact Heap.get?_push_size _ rfl
  · have e : b = (s.heap.push { cls := .type "range", data := .fields #[.int lo t, .int hi u, .int 1 v] }).objs.size := by simpa using hb
    subst e
    exact I1.fpOk (Nat.le_refl _) (I1.hok.fresh (Nat.le_refl _))
def iRng1 (ta : TA) : TI := fun σ H R => ta σ H fun vs H1 => ∃ j : Int, vs = [.int j] ∧ -(2 ^ 62) ≤ j ∧ j < 2 ^ 62 ∧ R (Itr 0 j.toNat) H1
def iRng2 (ta : TA) : TI := fun σ H R => ta σ H fun vs H1 => ∃ i j : Int, vs = [.int i, .int j] ∧ (-(2 ^ 62) ≤ i ∧ i < 2 ^ 62 ∧ -(2 ^ 62) ≤ j ∧ j < 2 ^ 62) ∧ R (Itr i (j - i).toNat) H1
theorem pi_range1 {a : Expr} {ta : TA} {p pos : Pos} (hg : Gl X "range") (hm : X.mg "range" = none) (ha : PA X [a] ta) (hs : starEach [a] X.env = [(false, eval a X.env)] := by rfl) : PI X tg (.Call (.Name "range" p) [a] [] pos) (iRng1 ta) := by
  intro pins s σ H R I h
  refine Call_ (ld_blt I hg hm boot_range (PyProof.Rows.callWith_type1 (thn (ha pos pins s σ H _ I h) fun us s1 ⟨vs, H1, I1, r1, q1⟩ => ?_) hs rfl))
  obtain ⟨j, e, q1, q2, q⟩ := q1
  subst e
  cases r1 with
  | cons r rr =>
    cases rr
    obtain ⟨t, rfl⟩ := r
    exact call_range_1 (range_it I1 (by omega) (by omega) q1 q2 (by simpa using q))
theorem pi_range2 {a b : Expr} {ta : TA} {p pos : Pos} (hg : Gl X "range") (hm : X.mg "range" = none) (ha : PA X [a, b] ta) (hs : starEach [a, b] X.env = [(false, eval a X.env), (false, eval b X.env)] := by rfl) (hs2 : starEach [b] X.env = [(false, eval b X.env)] := by rfl) :
    PI X tg (.Call (.Name "range" p) [a, b] [] pos) (iRng2 ta) := by
  intro pins s σ H R I h
  refine Call_ (ld_blt I hg hm boot_range (PyProof.Rows.callWith_type1 (thn (ha pos pins s σ H _ I h) fun us s1 ⟨vs, H1, I1, r1, q1⟩ => ?_) (by rw [hs, hs2]) (by rw [hs2]; rfl)))
  obtain ⟨i, j, e, ⟨q1, q2, q3, q4⟩, q⟩ := q1
  subst e
  cases r1 with
  | cons r rr =>
    cases rr with
    | cons r' rr =>
      cases rr
      obtain ⟨t, rfl⟩ := r
      obtain ⟨t', rfl⟩ := r'
      exact call_range_2 (range_it I1 q1 q2 q3 q4 q)

def tFor (wi : TI) (g : TG) (tb : TS) : TS := fun D σ H => wi σ H fun J H1 => ∃ W : Nat → Nat → St → Hp → Prop, (∃ m, W 0 m σ H1) ∧ ∀ i m σ H, W i m σ H →
  (J.stop i H ∧ D.nx σ H) ∨ (J.go i H ∧ ∃ N : St → Hp → Prop, (∀ σ' H', N σ' H' → ∃ m', m' < m ∧ W (i + 1) m' σ' H') ∧ ∀ x H', J.yld i H x H' → g x σ H' fun σ2 H2 => tb { D with nx := N, ct := N, bk := D.nx } σ2 H2)
def pinsAt (fp : List Addr) (h : Heap) : List (Addr × Obj) := fp.filterMap fun b => (h.get? b).map fun o => (b, o)
theorem mem_pinsAt {fp : List Addr} {h : Heap} {b : Addr} {o : Obj} (hb : b ∈ fp) (e : h.get? b = some o) : (b, o) ∈ pinsAt fp h := List.mem_filterMap.mpr ⟨b, hb, by rw [e]; rfl⟩
theorem of_pinsAt {fp : List Addr} {h : Heap} {p : Addr × Obj} (hp : p ∈ pinsAt fp h) : p.1 ∈ fp ∧ h.get? p.1 = some p.2 := by
  obtain ⟨b, hb, e⟩ := List.mem_filterMap.mp hp
  cases q : h.get? b with
  | none => rw [q] at e; cases e
  | some o =>
    rw [q] at e
    have e' : (b, o) = p := Option.some.inj e
    subst e'
    exact ⟨hb, q⟩
theorem Inv.pinned {pins : List (Addr × Obj)} {σ : St} {H : Hp} {s : Shared} {fp : List Addr} (I : Inv X pins σ H s) (hf : ∀ b ∈ fp, FpOk X pins H b) (ho : ∀ b ∈ fp, ∃ o, s.heap.get? b = some o ∧ ∀ v, o.data ≠ .cell v) : Inv X (pins ++ pinsAt fp s.heap) σ H s :=
  I.pins_of fun p hp => (List.mem_append.mp hp).elim (fun z => I.pin p (List.mem_append_right _ z)) fun z => by
    obtain ⟨hb, e⟩ := of_pinsAt z
    obtain ⟨f0, f1, f2, _⟩ := hf p.1 hb
    obtain ⟨o, e', d⟩ := ho p.1 hb
    rw [e] at e'; cases e'
    exact ⟨e, f0, f1, f2, d⟩
theorem Inv.unpinned {pins pl : List (Addr × Obj)} {σ : St} {H : Hp} {s : Shared} (I : Inv X (pins ++ pl) σ H s) : Inv X pins σ H s := I.pins_of fun p hp => I.pin p (List.mem_append_right _ (List.mem_append_left _ hp))
theorem ps_for {iter : Expr} {body : List Stmt} {wi : TI} {g : TG} {tb : TS} {pos : Pos} (hp : PassesOwn (model X.prog X.w) X.A X.env X.xe) (hc : X.calm = true) (hi : PI X tg iter wi) (hg : PG X tg g) (hb : PSs X body tb)
    (hs : ∀ x, foldedSetIterable iter X.env x = pure x := by intro _; rfl) : PS X (.For tg iter body [] pos) (tFor wi g tb) := by
  intro pins s σ H D I h
  refine wpAny_For (thn (hi pins s σ H _ I h) fun v s1 h1 => thn h1 fun itv s2 h2 => ?_) hs
  obtain ⟨it, fp, tn, J, H2, e, I2, T, st2, f2, W, ⟨m0, w0⟩, turn⟩ := h2
  subst e
  -- what stays true of the iterator's objects through the loop
  have stat : ∀ {H' : Hp}, (∀ b ∈ fp, H' b = none) → ∀ b ∈ fp, FpOk X pins H' b := fun hn b hb => ⟨hn b hb, (f2 b hb).2⟩
  refine codeAny_forLoop_any (fun n s' => ∃ i σ' H', Inv X pins σ' H' s' ∧ tn i s'.heap ∧ (∀ b ∈ fp, H' b = none) ∧ W i n σ' H') ?_ m0 ⟨0, σ, H2, I2, st2, fun b hb => (f2 b hb).1, w0⟩
  rintro n s3 ⟨i, σ3, H3, I3, st3, fr3, w3⟩
  rcases turn i n σ3 H3 w3 with ⟨stop, qn⟩ | ⟨go, N, hN, step⟩
  · refine wpAny_passesOwn hp (thn (T.done X rfl rfl rfl hc i pins s3 σ3 H3 X.xe I3 (stat fr3) st3 stop) fun r s4 ⟨hr, I4⟩ => ?_)
    subst hr
    exact wpAny_execs_nil ⟨σ3, H3, I4, qn⟩
  · refine wpAny_passesOwn hp (thn (T.item X rfl rfl rfl hc i pins s3 σ3 H3 X.xe I3 (stat fr3) st3 go) fun r s4 ⟨u, hr, h4⟩ => ?_)
    subst hr
    refine wpAny_passesOwn hp (thn h4 fun _ s5 ⟨x, H5, I5, r5, y5, st5, fr5⟩ => ?_)
    have I5' := I5.pinned (stat fr5) (T.obj _ _ st5)
    refine wpAny_passesOwn hp (thn (hg _ s5 σ3 H5 x u _ I5' r5 (step x H5 y5)) fun _ s6 ⟨σ6, H6, I6, q6⟩ => ?_)
    refine wpAny_passesOwn hp (thn (hb _ s6 σ6 H6 _ I6 q6) fun f s7 q7 => ?_)
    have again : ∀ {σ7 : St} {H7 : Hp}, Inv X (pins ++ pinsAt fp s5.heap) σ7 H7 s7 → N σ7 H7 → ∃ m, m < n ∧ ∃ i σ' H', Inv X pins σ' H' s7 ∧ tn i s7.heap ∧ (∀ b ∈ fp, H' b = none) ∧ W i m σ' H' := fun {σ7 H7} I7 n7 => by
      obtain ⟨m', hm, w7⟩ := hN σ7 H7 n7
      refine ⟨m', hm, i + 1, σ7, H7, I7.unpinned, T.keep _ _ _ st5 fun b hb o e => (I7.pin (b, o) (List.mem_append_right _ (List.mem_append_right _ (mem_pinsAt hb e)))).1, fun b hb => ?_, w7⟩
      obtain ⟨o, e, d⟩ := T.obj _ _ st5 b hb
      exact (I7.pin (b, o) (List.mem_append_right _ (List.mem_append_right _ (mem_pinsAt hb e)))).2.1
    cases f with
    | next => obtain ⟨σ7, H7, I7, n7⟩ := q7; exact again I7 n7
    | cont => obtain ⟨σ7, H7, I7, n7⟩ := q7; exact again I7 n7
    | brk => obtain ⟨σ7, H7, I7, q7⟩ := q7; exact ⟨σ7, H7, I7.unpinned, q7⟩
    | ret v => obtain ⟨x7, σ7, H7, I7, r7, q7⟩ := q7; exact ⟨x7, σ7, H7, I7.unpinned, r7, q7⟩
end

theorem for_list {K : PySem.W.Frag} {a : Addr} {xs : List V} {g : TG} {tb : TS} {D : Ends} {σ : St} {H : Hp} (Pv : Nat → St → Hp → Prop) (h0 : Pv 0 σ H) (hl : ∀ i σ H, i ≤ xs.length → Pv i σ H → SqL K H a xs)
    (hs : ∀ i x σ H, xs[i]? = some x → Pv i σ H → g x σ H fun σ2 H2 => tb { D with nx := Pv (i + 1), ct := Pv (i + 1), bk := D.nx } σ2 H2) (hd : ∀ σ H, Pv xs.length σ H → D.nx σ H) :
    ∃ W : Nat → Nat → St → Hp → Prop, (∃ m, W 0 m σ H) ∧ ∀ i m σ H, W i m σ H →
      ((Itl K a).stop i H ∧ D.nx σ H) ∨ ((Itl K a).go i H ∧ ∃ N : St → Hp → Prop, (∀ σ' H', N σ' H' → ∃ m', m' < m ∧ W (i + 1) m' σ' H') ∧ ∀ x H', (Itl K a).yld i H x H' → g x σ H' fun σ2 H2 => tb { D with nx := N, ct := N, bk := D.nx } σ2 H2) := by
  refine ⟨fun i m σ H => m = xs.length - i ∧ i ≤ xs.length ∧ Pv i σ H, ⟨xs.length, by simp, Nat.zero_le _, h0⟩, ?_⟩
  rintro i m σ H ⟨rfl, hi, p⟩
  have q := hl i σ H hi p
  by_cases hlt : i < xs.length
  · refine .inr ⟨⟨xs, xs[i], q, by simp [hlt]⟩, Pv (i + 1), fun σ' H' p' => ⟨xs.length - (i + 1), by omega, rfl, hlt, p'⟩, fun x H' y => ?_⟩
    obtain ⟨e, y⟩ := y
    subst e
    exact hs i x σ _ (y xs q) p
  · have e : i = xs.length := by omega
    subst e
    exact .inl ⟨⟨xs, q, Nat.le_refl _⟩, hd σ H p⟩
theorem for_range {lo : Int} {n : Nat} {g : TG} {tb : TS} {D : Ends} {σ : St} {H : Hp} (Pv : Nat → St → Hp → Prop) (h0 : Pv 0 σ H)
    (hs : ∀ i σ H, i < n → Pv i σ H → g (.int (lo + i)) σ H fun σ2 H2 => tb { D with nx := Pv (i + 1), ct := Pv (i + 1), bk := D.nx } σ2 H2) (hd : ∀ σ H, Pv n σ H → D.nx σ H) :
    ∃ W : Nat → Nat → St → Hp → Prop, (∃ m, W 0 m σ H) ∧ ∀ i m σ H, W i m σ H →
      ((Itr lo n).stop i H ∧ D.nx σ H) ∨ ((Itr lo n).go i H ∧ ∃ N : St → Hp → Prop, (∀ σ' H', N σ' H' → ∃ m', m' < m ∧ W (i + 1) m' σ' H') ∧ ∀ x H', (Itr lo n).yld i H x H' → g x σ H' fun σ2 H2 => tb { D with nx := N, ct := N, bk := D.nx } σ2 H2) := by
  refine ⟨fun i m σ H => m = n - i ∧ i ≤ n ∧ Pv i σ H, ⟨n, by simp, Nat.zero_le _, h0⟩, ?_⟩
  rintro i m σ H ⟨rfl, hi, p⟩
  by_cases hlt : i < n
  · refine .inr ⟨hlt, Pv (i + 1), fun σ' H' p' => ⟨n - (i + 1), by omega, rfl, hlt, p'⟩, fun x H' y => ?_⟩
    obtain ⟨e, y⟩ := y
    subst e y
    exact hs i σ _ hlt p
  · have e : i = n := by omega
    subst e
    exact .inl ⟨Nat.le_refl _, hd σ H p⟩
theorem while_by {c : TT} {tb : TS} {D : Ends} {σ : St} {H : Hp} (Pv : St → Hp → Prop) (μ : St → Hp → Nat) (h0 : Pv σ H)
    (hs : ∀ σ H, Pv σ H → c σ H fun b H1 => if b = true then tb { D with nx := fun σ' H' => Pv σ' H' ∧ μ σ' H' < μ σ H, ct := fun σ' H' => Pv σ' H' ∧ μ σ' H' < μ σ H, bk := D.nx } σ H1 else D.nx σ H1)
    (mono : ∀ σ H Q Q', (∀ b H1, Q b H1 → Q' b H1) → c σ H Q → c σ H Q') : tWhile c tb D σ H := by
  refine ⟨fun m σ H => m = μ σ H ∧ Pv σ H, ⟨_, rfl, h0⟩, ?_⟩
  rintro m σ H ⟨rfl, p⟩
  refine mono σ H _ _ (fun b H1 q => ?_) (hs σ H p)
  cases b with
  | true => exact ⟨_, fun σ' H' ⟨p', l⟩ => ⟨_, l, rfl, p'⟩, q⟩
  | false => exact q
end L2

namespace L2
open PySem PySem.Spec PyProof.Rows

abbrev R2 := V → V → Hp → VK → Prop
def OpR (X : Cx) (f : Value → Value → Sem Value) (r : R2) : Prop :=
  ∀ (pins : List (Addr × Obj)) (s : Shared) (σ : St) (H : Hp) (x y : V) (v u : Value) (Q : VK), Inv X pins σ H s → RelV x v → RelV y u → r x y H Q →
    wpAny (model X.prog X.w) X.A (f v u) (EP X pins σ Q) X.xe s
def CallR (X : Cx) (f : Value) (r : List V → Hp → VK → Prop) : Prop :=
  ∀ (pins : List (Addr × Obj)) (s : Shared) (σ : St) (H : Hp) (xs : List V) (us : List Value) (Q : VK), Inv X pins σ H s → Vals xs us → r xs H Q →
    wpAny (model X.prog X.w) X.A (call f us) (EP X pins σ Q) X.xe s
def tOp (r : R2) (ta tb : TE) : TE := fun σ H Q => ta σ H fun x H1 => tb σ H1 fun y H2 => r x y H2 Q
def rI (C : Int → Int → Prop) (g : Int → Int → V) : R2 := fun x y H Q => ∃ i j, x = .int i ∧ y = .int j ∧ C i j ∧ Q (g i j) H
def rI0 (g : Int → Int → V) : R2 := fun x y H Q => ∃ i j, x = .int i ∧ y = .int j ∧ Q (g i j) H
section
variable {X : Cx} {a b c : Expr} {ta tb tc : TE} {pos : Pos}

theorem binT (ha : PE X a ta) (hb : PE X b tb) {pins : List (Addr × Obj)} {s : Shared} {σ : St} {H : Hp} {R : V → V → Hp → Prop} (I : Inv X pins σ H s)
    (h : ta σ H fun x H1 => tb σ H1 fun y H2 => R x y H2) {Q : Value → Shared → Prop} {f : Value → Value → Sem Value}
    (hf : ∀ v u s2 x y H2, Inv X pins σ H2 s2 → RelV x v → RelV y u → R x y H2 → wpAny (model X.prog X.w) X.A (f v u) Q X.xe s2) :
    wpAny (model X.prog X.w) X.A (eval a X.env) (fun v s₁ => wpAny (model X.prog X.w) X.A (eval b X.env) (fun u s₂ => wpAny (model X.prog X.w) X.A (f v u) Q X.xe s₂) X.xe s₁) X.xe s := by
  refine thn (ha pins s σ H _ I h) fun v s1 ⟨x, H1, I1, r1, q1⟩ => ?_
  refine thn (hb pins s1 σ H1 _ I1 q1) fun u s2 ⟨y, H2, I2, r2, q2⟩ => ?_
  exact hf v u s2 x y H2 I2 r1 r2 q2

theorem pe_op {op : Operator} {r : R2} (ho : OpR X (binaryOp op) r) (ha : PE X a ta) (hb : PE X b tb) : PE X (.BinOp a op b pos) (tOp r ta tb) := by
  intro pins s σ H Q I h
  exact wpAny_BinOp (binT ha hb I h fun v u s2 x y H2 I2 rx ry q => ho pins s2 σ H2 x y v u Q I2 rx ry q)
theorem opI {f : Value → Value → Sem Value} {C : Int → Int → Prop} {g : Int → Int → Int}
    (rule : ∀ (i j : Int) (t u : Tok) (s : Shared) (Q : Value → Shared → Prop) (E : Value → Shared → Prop), C i j → Q (.int (g i j) s.toks) { s with toks := s.toks + 1 } → wpAny (model X.prog X.w) X.A (f (.int i t) (.int j u)) Q E s) :
    OpR X f (rI C fun i j => .int (g i j)) := by
  intro pins s σ H x y v u Q I rx ry h
  obtain ⟨i, j, rfl, rfl, hc, q⟩ := h
  obtain ⟨t, rfl⟩ := rx
  obtain ⟨t', rfl⟩ := ry
  exact rule i j t t' s _ _ hc ⟨.int (g i j), H, I.tok _, ⟨_, rfl⟩, q⟩
theorem opI0 {f : Value → Value → Sem Value} {g : Int → Int → Int}
    (rule : ∀ (i j : Int) (t u : Tok) (s : Shared) (Q : Value → Shared → Prop) (E : Value → Shared → Prop), Q (.int (g i j) s.toks) { s with toks := s.toks + 1 } → wpAny (model X.prog X.w) X.A (f (.int i t) (.int j u)) Q E s) :
    OpR X f (rI0 fun i j => .int (g i j)) := by
  intro pins s σ H x y v u Q I rx ry h
  obtain ⟨i, j, rfl, rfl, q⟩ := h
  obtain ⟨t, rfl⟩ := rx
  obtain ⟨t', rfl⟩ := ry
  exact rule i j t t' s _ _ ⟨.int (g i j), H, I.tok _, ⟨_, rfl⟩, q⟩
theorem opB0 {f : Value → Value → Sem Value} {g : Int → Int → Bool}
    (rule : ∀ (i j : Int) (t u : Tok) (s : Shared) (Q : Value → Shared → Prop) (E : Value → Shared → Prop), Q (.bool (g i j)) s → wpAny (model X.prog X.w) X.A (f (.int i t) (.int j u)) Q E s) :
    OpR X f (rI0 fun i j => .bl (g i j)) := by
  intro pins s σ H x y v u Q I rx ry h
  obtain ⟨i, j, rfl, rfl, q⟩ := h
  obtain ⟨t, rfl⟩ := rx
  obtain ⟨t', rfl⟩ := ry
  exact rule i j t t' s _ _ ⟨.bl (g i j), H, I, rfl, q⟩

def CDiv (i j : Int) : Prop := 0 < j ∧ j < 1073741824
def CPow (i j : Int) : Prop := 0 ≤ j ∧ j ≤ 1000000 ∧ i.natAbs < 2 ^ 64
def CMul (i j : Int) : Prop := (-(2 ^ 64) < i ∧ i < 2 ^ 64) ∨ (-(2 ^ 64) < j ∧ j < 2 ^ 64)
theorem CMul.ok {i j : Int} (h : CMul i j) : IntMulOk i j := by
  rcases h with ⟨h1, h2⟩ | ⟨h1, h2⟩
  · exact .of_left (intBits_le_64 h1 h2)
  · exact .of_right (intBits_le_64 h1 h2)
theorem op_add : OpR X (binaryOp .Add) (rI0 fun i j => .int (i + j)) := opI0 fun _ _ _ _ _ _ _ q => add_int q
theorem op_sub : OpR X (binaryOp .Sub) (rI0 fun i j => .int (i - j)) := opI0 fun _ _ _ _ _ _ _ q => sub_int q
theorem op_mul : OpR X (binaryOp .Mult) (rI CMul fun i j => .int (i * j)) := opI fun _ _ _ _ _ _ _ hc q => mul_int q hc.ok
theorem op_fdiv : OpR X (binaryOp .FloorDiv) (rI CDiv fun i j => .int (i / j)) := opI fun i j _ _ _ _ _ hc q => by
  have h1 : (0 : Int) < j := hc.1
  have h2 : j < 1073741824 := hc.2
  exact floordiv_int (by omega) (by rw [Int.fdiv_eq_ediv_of_nonneg i (by omega)]; exact q) (.inl (PyProof.noPylong_small (by omega)))
theorem op_mod : OpR X (binaryOp .Mod) (rI (fun _ j => 0 < j) fun i j => .int (i % j)) := opI fun i j _ _ _ _ _ hc q => by
  have h1 : (0 : Int) < j := hc
  exact mod_int' (by omega) (by rw [Int.fmod_eq_emod_of_nonneg i (by omega)]; exact q)
theorem op_pow : OpR X (binaryOp .Pow) (rI CPow fun i j => .int (i ^ j.toNat)) := opI fun _ _ _ _ _ _ _ hc q => pow_int_small hc.1 hc.2.1 hc.2.2 q
end

def scal : V → V → Bool
  | .non, .non => true | .non, .int _ => true | .int _, .non => true | .non, .bl _ => true | .bl _, .non => true | .non, .str _ => true | .str _, .non => true
  | .int _, .int _ => true | .bl _, .bl _ => true | .str _, .str _ => true | .byt _, .byt _ => true
  | .int _, .str _ => true | .str _, .int _ => true | .bl _, .str _ => true | .str _, .bl _ => true
  | _, _ => false
def rEq : R2 := fun x y H Q => scal x y = true ∧ Q (.bl (decide (x = y))) H
def rNe : R2 := fun x y H Q => scal x y = true ∧ Q (.bl (!decide (x = y))) H

theorem dec_int {i j : Int} : decide (V.int i = V.int j) = (i == j) := by
  rw [Bool.eq_iff_iff]
  simp
theorem dec_bl {i j : Bool} : decide (V.bl i = V.bl j) = (i == j) := by
  rw [Bool.eq_iff_iff]
  simp
theorem dec_str {i j : Str} : decide (V.str i = V.str j) = (i == j) := by
  rw [Bool.eq_iff_iff]
  simp
theorem dec_byt {i j : Array UInt8} : decide (V.byt i = V.byt j) = (i.toList == j.toList) := by
  rw [Bool.eq_iff_iff]
  cases i
  cases j
  simp

section
variable {X : Cx} {a b c : Expr} {ta tb tc : TE} {pos : Pos}
theorem fin_bl {pins : List (Addr × Obj)} {σ : St} {H : Hp} {s : Shared} {Q : VK} {k k' : Bool} (I : Inv X pins σ H s) (q : Q (.bl k) H) (e : k = k') : EP X pins σ Q (.bool k') s := by
  subst e
  exact ⟨.bl k, H, I, rfl, q⟩
theorem op_eq : OpR X (compareOp .Eq) rEq := by
  intro pins s σ H x y v u Q I rx ry h
  obtain ⟨hs, q⟩ := h
  cases x with
  | non =>
    cases rx
    cases y with
    | non => cases ry; exact PySem.EqNone.eq_none_none (fin_bl I q (by simp))
    | bl j => cases ry; exact PySem.EqNone.eq_none_bool (fin_bl I q (by simp))
    | int j => obtain ⟨t', rfl⟩ := ry; exact PySem.EqNone.eq_none_int (fin_bl I q (by simp))
    | str j => obtain ⟨t', rfl⟩ := ry; exact PySem.EqNone.eq_none_str (fin_bl I q (by simp))
    | _ => exact absurd (show false = true from hs) Bool.false_ne_true
  | bl i =>
    cases rx
    cases y with
    | non => cases ry; exact PySem.EqNone.eq_bool_none (fin_bl I q (by simp))
    | bl j => cases ry; exact eq_bool (fin_bl I q dec_bl)
    | str j => obtain ⟨t', rfl⟩ := ry; exact PySem.EqMixed.eq_bool_str (fin_bl I q (by simp))
    | _ => exact absurd (show false = true from hs) Bool.false_ne_true
  | int i =>
    obtain ⟨t, rfl⟩ := rx
    cases y with
    | non => cases ry; exact PySem.EqNone.eq_int_none (fin_bl I q (by simp))
    | int j => obtain ⟨t', rfl⟩ := ry; exact eq_int (fin_bl I q dec_int)
    | str j => obtain ⟨t', rfl⟩ := ry; exact PySem.EqMixed.eq_int_str (fin_bl I q (by simp))
    | _ => exact absurd (show false = true from hs) Bool.false_ne_true
  | str i =>
    obtain ⟨t, rfl⟩ := rx
    cases y with
    | non => cases ry; exact PySem.EqNone.eq_str_none (fin_bl I q (by simp))
    | bl j => cases ry; exact PySem.EqMixed.eq_str_bool (fin_bl I q (by simp))
    | int j => obtain ⟨t', rfl⟩ := ry; exact PySem.EqMixed.eq_str_int (fin_bl I q (by simp))
    | str j => obtain ⟨t', rfl⟩ := ry; exact eq_str (fin_bl I q dec_str)
    | _ => exact absurd (show false = true from hs) Bool.false_ne_true
  | byt i =>
    obtain ⟨t, rfl⟩ := rx
    cases y with
    | byt j => obtain ⟨t', rfl⟩ := ry; exact PySem.W.eq_bytes (fin_bl I q dec_byt)
    | _ => exact absurd (show false = true from hs) Bool.false_ne_true
  | _ => cases y <;> exact absurd (show false = true from hs) Bool.false_ne_true
theorem op_ne : OpR X (compareOp .NotEq) rNe := by
  intro pins s σ H x y v u Q I rx ry h
  obtain ⟨hs, q⟩ := h
  cases x with
  | non =>
    cases rx
    cases y with
    | non => cases ry; exact PySem.EqNone.ne_none_none (fin_bl I q (by simp))
    | bl j => cases ry; exact PySem.EqNone.ne_none_bool (fin_bl I q (by simp))
    | int j => obtain ⟨t', rfl⟩ := ry; exact PySem.EqNone.ne_none_int (fin_bl I q (by simp))
    | str j => obtain ⟨t', rfl⟩ := ry; exact PySem.EqNone.ne_none_str (fin_bl I q (by simp))
    | _ => exact absurd (show false = true from hs) Bool.false_ne_true
  | bl i =>
    cases rx
    cases y with
    | non => cases ry; exact PySem.EqNone.ne_bool_none (fin_bl I q (by simp))
    | bl j => cases ry; exact ne_bool (fin_bl I q (congrArg not dec_bl))
    | str j => obtain ⟨t', rfl⟩ := ry; exact PySem.EqMixed.ne_bool_str (fin_bl I q (by simp))
    | _ => exact absurd (show false = true from hs) Bool.false_ne_true
  | int i =>
    obtain ⟨t, rfl⟩ := rx
    cases y with
    | non => cases ry; exact PySem.EqNone.ne_int_none (fin_bl I q (by simp))
    | int j => obtain ⟨t', rfl⟩ := ry; exact ne_int (fin_bl I q (congrArg not dec_int))
    | str j => obtain ⟨t', rfl⟩ := ry; exact PySem.EqMixed.ne_int_str (fin_bl I q (by simp))
    | _ => exact absurd (show false = true from hs) Bool.false_ne_true
  | str i =>
    obtain ⟨t, rfl⟩ := rx
    cases y with
    | non => cases ry; exact PySem.EqNone.ne_str_none (fin_bl I q (by simp))
    | bl j => cases ry; exact PySem.EqMixed.ne_str_bool (fin_bl I q (by simp))
    | int j => obtain ⟨t', rfl⟩ := ry; exact PySem.EqMixed.ne_str_int (fin_bl I q (by simp))
    | str j => obtain ⟨t', rfl⟩ := ry; exact ne_str (fin_bl I q (congrArg not dec_str))
    | _ => exact absurd (show false = true from hs) Bool.false_ne_true
  | byt i =>
    obtain ⟨t, rfl⟩ := rx
    cases y with
    | byt j => obtain ⟨t', rfl⟩ := ry; exact PySem.W.ne_bytes (fin_bl I q (congrArg not dec_byt))
    | _ => exact absurd (show false = true from hs) Bool.false_ne_true
  | _ => cases y <;> exact absurd (show false = true from hs) Bool.false_ne_true

theorem op_lt : OpR X (compareOp .Lt) (rI0 fun i j => .bl (decide (i < j))) := opB0 fun _ _ _ _ _ _ _ q => lt_int q
theorem op_le : OpR X (compareOp .LtE) (rI0 fun i j => .bl (decide (i ≤ j))) := opB0 fun _ _ _ _ _ _ _ q => le_int q
theorem op_gt : OpR X (compareOp .Gt) (rI0 fun i j => .bl (decide (j < i))) := opB0 fun _ _ _ _ _ _ _ q => gt_int q
theorem op_ge : OpR X (compareOp .GtE) (rI0 fun i j => .bl (decide (j ≤ i))) := opB0 fun _ _ _ _ _ _ _ q => ge_int q
theorem OpR.or {f : Value → Value → Sem Value} {r r' : R2} (h : OpR X f r) (h' : OpR X f r') : OpR X f (fun x y H Q => r x y H Q ∨ r' x y H Q) := by
  intro pins s σ H x y v u Q I rx ry q
  rcases q with q | q
  · exact h pins s σ H x y v u Q I rx ry q
  · exact h' pins s σ H x y v u Q I rx ry q

theorem nomark (b : Expr) {op : CmpOp} (h : op ≠ .In := by decide) (h2 : op ≠ .NotIn := by decide) : behindInMarks op b = false := by
  have e1 : (op == CmpOp.In) = false := by cases op <;> first | rfl | exact absurd rfl h
  have e2 : (op == CmpOp.NotIn) = false := by cases op <;> first | rfl | exact absurd rfl h2
  cases b <;> simp [behindInMarks, e1, e2]
theorem pe_cmpR {op : CmpOp} {r : R2} (ho : OpR X (compareOp op) r) (ha : PE X a ta) (hb : PE X b tb) (hm : behindInMarks op b = false) : PE X (.Compare a [op] [b] pos) (tOp r ta tb) := by
  intro pins s σ H Q I h
  exact wpAny_Compare1 (binT ha hb I h fun v u s2 x y H2 I2 rx ry q => ho pins s2 σ H2 x y v u Q I2 rx ry q) hm
def tTest (t : TE) : TT := fun σ H Q => t σ H fun x H' => ∃ k, x = .bl k ∧ Q k H'
theorem pt_cmpR {op : CmpOp} {r : R2} (ho : OpR X (compareOp op) r) (ha : PE X a ta) (hb : PE X b tb) (hm : behindInMarks op b = false) : PT X (.Compare a [op] [b] pos) (tTest (tOp r ta tb)) := by
  intro pins s σ H Q I h
  refine wpAny_isTrue_Compare1 (thn (ha pins s σ H _ I h) fun v s1 ⟨x, H1, I1, r1, q1⟩ => thn (hb pins s1 σ H1 _ I1 q1) fun u s2 ⟨y, H2, I2, r2, q2⟩ =>
    thn (ho pins s2 σ H2 x y v u _ I2 r1 r2 q2) fun c s3 ⟨z, H3, I3, r3, k, e, q3⟩ => ?_) hm
  subst e
  cases r3
  exact wpAny_truthy_bool ⟨H3, I3, q3⟩
theorem line63 : (sizeLine : Nat) < 2 ^ 63 := by rw [sizeLine_eq]; decide
theorem vals1 {x : V} {us : List Value} (r : Vals [x] us) : ∃ u, us = [u] ∧ RelV x u := by
  cases r with
  | cons r1 r2 => cases r2; exact ⟨_, rfl, r1⟩
theorem call_abs : CallR X (.builtin "abs") (fun xs H Q => ∃ i, xs = [.int i] ∧ Q (.int (if i < 0 then -i else i)) H) := by
  intro pins s σ H xs us Q I r h
  obtain ⟨i, rfl, q⟩ := h
  obtain ⟨u, rfl, t, rfl⟩ := vals1 r
  exact call_abs_int fun u tk => ⟨.int (if i < 0 then -i else i), H, I.tok _, ⟨_, rfl⟩, q⟩
end
end L2

namespace L2
open PySem PySem.Spec PyProof.Rows

structure ObjM (h : Heap) (x dx C : Addr) (mA : Str → Option Value) : Prop where
  obj : h.get? x = some (PySem.W.instObj C dx)
  ns : h.Ns1 dx mA
  ne : dx ≠ x

theorem lookIn_ns {h : Heap} {dx : Addr} {mA : Str → Option Value} (n : h.Ns1 dx mA) : ∃ od, h.get? dx = some od ∧ ∀ name, PySem.W.lookIn name od = some (mA name) := by
  obtain ⟨o, es, ep, ho, hd, hk, _, hm⟩ := n
  refine ⟨o, ho, fun name => ?_⟩
  have e := hm name
  unfold nsFind findBy at e
  rw [← Array.find?_toList] at e
  unfold PySem.W.lookIn
  rw [hd]
  dsimp only
  split
  · rename_i y q
    rw [q] at e
    exact congrArg some e
  · rename_i q
    rw [q] at e
    have a : es.toList.any (·.refKey) = false := by
      rw [List.any_eq_false]
      intro y hy
      obtain ⟨z, t, hkey⟩ := hk y (Array.mem_toList_iff.mp hy)
      simp [DictEntry.refKey, hkey]
    have a' : ¬ es.toList.any (·.refKey) = true := by rw [a]; exact Bool.false_ne_true
    rw [if_neg a']
    exact congrArg some e

theorem ObjM.look {h : Heap} {x dx C : Addr} {mA : Str → Option Value} (I : ObjM h x dx C mA) : ∃ od, PySem.W.InstAt h x (PySem.W.instObj C dx) C (some od) ∧ ∀ name, PySem.W.lookIn name od = some (mA name) :=
  let ⟨od, ho, hl⟩ := lookIn_ns I.ns
  ⟨od, ⟨I.obj, rfl, rfl, ho⟩, hl⟩

section
variable {prog : Program} {w : World} {A : Around} {E : Value → Shared → Prop} {s : Shared} {K : PySem.W.Frag} {x dx C f : Addr} {mA : Str → Option Value} {name : Str} {v : Value}

theorem get_map {expr : Bool} {Q : Value → Shared → Prop} (X : K.In s.heap) (I : ObjM s.heap x dx C mA) (hg : PySem.W.plainGet K C name = true) (hh : PySem.W.hasDictIn K C = true)
    (ha : PySem.W.findIn K (.ref C) name = some none) (hv : mA name = some v) (hv' : PySem.W.handedIn v = true) (h : Q v { s with toks := s.toks + 1 }) :
    wpAny (model prog w) A (getAttr (.ref x) name expr) Q E s := by
  obtain ⟨od, J, hl⟩ := I.look
  exact PySem.W.get_value X J (PySem.W.plainGet_of hg).1 (PySem.W.findObj_own hh ha rfl (by rw [hl, hv])) hv' h

theorem get_meth {pl : Sem Bool} {Q : Value × List Value → Shared → Prop} (X : K.In s.heap) (I : ObjM s.heap x dx C mA) (hg : PySem.W.plainGet K C name = true)
    (hf : PySem.W.findIn K (.ref C) name = some (some (.ref f))) (ht : PySem.W.isFn K (.ref f) = true) (hv : mA name = none) (h : Q (.ref f, [.ref x]) s) :
    wpAny (model prog w) A (getMethod (.ref x) name pl) Q E s := by
  obtain ⟨od, J, hl⟩ := I.look
  exact PySem.W.method_fn X J (PySem.W.plainGet_of hg).1 (PySem.W.plainGet_of hg).2 hf (beq_iff_eq.mp ht) (by show (PySem.W.lookIn name od).map (·.isSome) = some false; rw [hl, hv]; rfl) h

theorem set_map {ns : List Str} {Q : Unit → Shared → Prop} (X : K.In s.heap) (I : ObjM s.heap x dx C mA)
    (hs : PySem.W.findIn K (.ref C) "__setattr__" = some (some (.builtin "object.__setattr__"))) (hp : PySem.W.plainOver K C = true) (ht : PySem.W.takerIn K C name = some none) (hh : PySem.W.hasDictIn K C = true)
    (hw : PySem.Within mA ns) (hsz : ns.length ≤ sizeLine)
    (h : ∀ h', ObjM h' x dx C (fun y => if y = name then some v else mA y) → Heap.SameBut dx s.heap h' → Q () { s with heap := h', toks := s.toks + 2 }) :
    wpAny (model prog w) A (setAttr (.ref x) name v) Q E s := by
  obtain ⟨od, J, hl⟩ := I.look
  refine PySem.W.set_plain X J hs (PySem.W.osa_open (s := { s with toks := s.toks + 1 }) (r := none) X J hp ht fun b => ?_)
  obtain ⟨cd, hc, hd'⟩ := PySem.W.any_some hh
  have hx : s.heap.get? x = some ⟨.ref C, some dx, .plain, #[]⟩ := I.obj
  refine wpAny_bind (wpAny_pure (wpAny_bind (wpAny_bind (wpAny_loadPart hx (wpAny_bind (PySem.W.Looks.here (s := { s with toks := s.toks + 1 }) (PySem.W.looks_clsIn X hc) ?_))))))
  rw [hd']
  refine wpAny_pure (a := some dx) (wpAny_bind (wpAny_pure (wpAny_bind ?_)))
  refine wpAny_nsSet1 (s := { s with toks := s.toks + 1 }) I.ns fun h' hn2 hs2 => ?_
  obtain ⟨oD, esD, epD, hoD, hdD, hcD⟩ := hn2.count (PySem.Within.cons name v hw)
  refine wpAny_bind (wpAny_lookBehind hoD (by rw [hdD]; exact pastItsLine_dict (Nat.le_trans hcD (by rw [List.length_cons]; omega))) ?_)
  exact wpAny_pure (h _ ⟨(hs2.2 _ (Ne.symm I.ne)).trans I.obj, hn2, I.ne⟩ hs2)

theorem make_map {R : Result → Shared → Prop} {vs : List Value} {kw : List (Str × Value)} (X : K.In s.heap) (hm : PySem.W.makesIn K C = true)
    (hi : PySem.W.findIn K (.ref C) "__init__" = some (some (.ref f))) (hf : PySem.W.typeIn K (.ref f) = some (.type "function"))
    (h : codeAny (model prog w) (A.under (.builtin "type.__call__" ⟨.ref C :: vs, kw⟩)) (.call (.ref f) ⟨.ref (s.heap.objs.size + 1) :: vs, kw⟩) (PySem.W.InitBack (s.heap.objs.size + 1) R)
      { s with heap := (s.heap.push PySem.W.emptyDict).push (PySem.W.instObj C s.heap.objs.size) }) :
    codeAny (model prog w) A (.call (.ref C) ⟨vs, kw⟩) R s := by
  obtain ⟨hh, g, d, t, os⟩ := s
  exact PySem.W.make_core (PySem.W.makes_of X hm) (PySem.W.looks_findIn X hi) (fun self => PySem.W.bind_fn X self hf) (.inl rfl) h
end

def putF (f : Str) (v : V) : List (Str × V) → List (Str × V)
  | [] => [(f, v)]
  | (g, x) :: r => if g = f then (g, v) :: r else (g, x) :: putF f v r
theorem lookup_putF (f g : Str) (v : V) : ∀ fs : List (Str × V), (putF f v fs).lookup g = if g = f then some v else fs.lookup g
  | [] => by
    show List.lookup g [(f, v)] = _
    by_cases h : g = f
    · have hb : (g == f) = true := beq_iff_eq.mpr h
      simp only [List.lookup, hb, if_pos h]
    · have hb : (g == f) = false := beq_eq_false_iff_ne.mpr h
      simp only [List.lookup, hb, if_neg h]
  | (k, x) :: r => by
    have ih := lookup_putF f g v r
    rw [show putF f v ((k, x) :: r) = (if k = f then (k, v) :: r else (k, x) :: putF f v r) from rfl]
    by_cases hk : k = f
    · rw [if_pos hk]
      by_cases h : g = k
      · have hb : (g == k) = true := beq_iff_eq.mpr h
        simp only [List.lookup, hb, if_pos (h.trans hk)]
      · have hb : (g == k) = false := beq_eq_false_iff_ne.mpr h
        simp only [List.lookup, hb, if_neg (fun e : g = f => h (e.trans hk.symm))]
    · rw [if_neg hk]
      by_cases h : g = k
      · have hb : (g == k) = true := beq_iff_eq.mpr h
        simp only [List.lookup, hb, if_neg (fun e : g = f => hk (h.symm.trans e))]
      · have hb : (g == k) = false := beq_eq_false_iff_ne.mpr h
        simp only [List.lookup, hb]
        exact ih
theorem keys_putF (f : Str) (v : V) : ∀ fs : List (Str × V), f ∈ (putF f v fs).map (·.1) ∧ ∀ g, g ∈ fs.map (·.1) → g ∈ (putF f v fs).map (·.1)
  | [] => ⟨by simp [putF], fun g h => by simp at h⟩
  | (k, x) :: r => by
    obtain ⟨i1, i2⟩ := keys_putF f v r
    rw [show putF f v ((k, x) :: r) = (if k = f then (k, v) :: r else (k, x) :: putF f v r) from rfl]
    by_cases hk : k = f
    · rw [if_pos hk]
      subst hk
      exact ⟨by simp, fun g h => by simpa using h⟩
    · rw [if_neg hk]
      refine ⟨?_, fun g h => ?_⟩
      · rw [List.map_cons]
        exact List.mem_cons_of_mem _ i1
      · rw [List.map_cons] at h ⊢
        rcases List.mem_cons.mp h with e | e
        · exact List.mem_cons.mpr (.inl e)
        · exact List.mem_cons_of_mem _ (i2 g e)
theorem length_putF (f : Str) (v : V) : ∀ fs : List (Str × V), (putF f v fs).length ≤ fs.length + 1
  | [] => by simp [putF]
  | (k, x) :: r => by
    have ih := length_putF f v r
    rw [show putF f v ((k, x) :: r) = (if k = f then (k, v) :: r else (k, x) :: putF f v r) from rfl]
    by_cases hk : k = f
    · rw [if_pos hk, List.length_cons, List.length_cons]; omega
    · rw [if_neg hk, List.length_cons, List.length_cons]; omega

theorem RelO.some_of {v : V} {o : Option Value} (r : RelO (some v) o) : ∃ u, o = some u ∧ RelV v u := by
  cases o with
  | none => exact (show False from r).elim
  | some u => exact ⟨u, rfl, r⟩
theorem RelO.none_of {o : Option Value} (r : RelO none o) : o = none := by
  cases o with
  | none => rfl
  | some u => exact (show False from r).elim
theorem handed_of {v : V} {u : Value} (r : RelV v u) : PySem.W.handedIn u = true := by
  cases v with
  | non => cases (show u = Value.none from r); rfl
  | bl b => cases (show u = Value.bool b from r); rfl
  | int i => obtain ⟨t, e⟩ := (show ∃ t, u = Value.int i t from r); cases e; rfl
  | str x => obtain ⟨t, e⟩ := (show ∃ t, u = Value.str x t from r); cases e; rfl
  | byt b => obtain ⟨t, e⟩ := (show ∃ t, u = Value.bytes b t from r); cases e; rfl
  | flt b => obtain ⟨t, e⟩ := (show ∃ t, u = Value.float b t from r); cases e; rfl
  | ref a => cases (show u = Value.ref a from r); rfl
  | ty n => cases (show u = Value.type n from r); rfl

section
variable {P : Program} {w : World} {H H' : Hp} {h h' : Heap} {a C dx : Addr} {fs fs' : List (Str × V)}
theorem ins_get (hok : HOk P w H h) (e : H a = some (.ins C dx fs)) : ∃ mA, ObjM h a dx C mA ∧ (∀ f, RelO (fs.lookup f) (mA f)) ∧ PySem.Within mA (fs.map (·.1)) ∧ fs.length ≤ 1000 ∧ H dx = some (.own a) := by
  obtain ⟨d, z, ne, ob, mA, n, r, q⟩ := (show ObjOk P w H h a (.ins C dx fs) from hok a _ e)
  exact ⟨mA, ⟨ob, n, ne⟩, r, q, z, d⟩
end

structure Cls (K : PySem.W.Frag) (C : Addr) : Prop where
  pg : PySem.W.plainGet K C Str.empty = true
  hd : PySem.W.hasDictIn K C = true
  po : PySem.W.plainOver K C = true
  sa : PySem.W.findIn K (.ref C) "__setattr__" = some (some (.builtin "object.__setattr__"))
theorem Cls.get {K : PySem.W.Frag} {C : Addr} (c : Cls K C) (f : Str) : PySem.W.plainGet K C f = true := c.pg
def NoAttr (K : PySem.W.Frag) (C : Addr) (f : Str) : Prop := PySem.W.findIn K (.ref C) f = some none
theorem NoAttr.taker {K : PySem.W.Frag} {C : Addr} {f : Str} (n : NoAttr K C f) : PySem.W.takerIn K C f = some none := by
  unfold PySem.W.takerIn
  rw [show PySem.W.findIn K (.ref C) f = some none from n]
  rfl
structure Meth (K : PySem.W.Frag) (C : Addr) (m : Str) (f : Addr) : Prop where
  at_ : PySem.W.findIn K (.ref C) m = some (some (.ref f))
  fn : PySem.W.isFn K (.ref f) = true
  kp : PySem.W.keepIn K (.ref f) = true

section
variable {X : Cx} {pins : List (Addr × Obj)} {σ : St} {H : Hp} {s : Shared} {a C dx : Addr} {fs : List (Str × V)} {f : Str} {v : V} {A : Around} {E : Value → Shared → Prop}

theorem getattr_ok {b : Bool} {Q : Value → Shared → Prop} (I : Inv X pins σ H s) (e : H a = some (.ins C dx fs)) (c : Cls X.K C) (n : NoAttr X.K C f) (l : fs.lookup f = some v)
    (h : ∀ u s', Inv X pins σ H s' → RelV v u → Q u s') : wpAny (model X.prog X.w) A (getAttr (.ref a) f b) Q E s := by
  obtain ⟨mA, O, r, _, _, _⟩ := ins_get I.hok e
  obtain ⟨u, hu, ru⟩ := RelO.some_of (v := v) (o := mA f) (by rw [← l]; exact r f)
  exact get_map I.kIn O (c.get f) c.hd n hu (handed_of ru) (h u _ (I.tok _) ru)

theorem getmeth_ok {m : Str} {g : Addr} {pl : Sem Bool} {Q : Value × List Value → Shared → Prop} (I : Inv X pins σ H s) (e : H a = some (.ins C dx fs)) (c : Cls X.K C) (k : Meth X.K C m g) (l : fs.lookup m = none)
    (h : Q (.ref g, [.ref a]) s) : wpAny (model X.prog X.w) A (getMethod (.ref a) m pl) Q E s := by
  obtain ⟨mA, O, r, _, _, _⟩ := ins_get I.hok e
  have hn : mA m = none := RelO.none_of (by rw [← l]; exact r m)
  exact get_meth I.kIn O (c.get m) k.at_ k.fn hn h

theorem setattr_ok {y : V} {u : Value} {Q : Unit → Shared → Prop} (I : Inv X pins σ H s) (e : H a = some (.ins C dx fs)) (c : Cls X.K C) (n : NoAttr X.K C f) (hl : fs.length < 1000) (ry : RelV y u)
    (h : ∀ s', Inv X pins σ (upd H a (.ins C dx (putF f y fs))) s' → Q () s') : wpAny (model X.prog X.w) A (setAttr (.ref a) f u) Q E s := by
  obtain ⟨mA, O, r, wi, _, ho⟩ := ins_get I.hok e
  have hz : (fs.map (·.1)).length ≤ sizeLine := by rw [List.length_map, sizeLine_eq]; omega
  refine set_map I.kIn O c.sa c.po n.taker c.hd wi hz fun h' O' sb => h _ ?_
  have hd : ∃ o, h'.get? dx = some o := let ⟨o, _, _, e', _⟩ := O'.ns; ⟨o, e'⟩
  refine I.write (x := a) (e := dx) (by rw [e]; exact True.intro) (.inr ho) (fun b q hb z => (sb.2 b hb).trans z) hd ?_
  refine ⟨by rw [upd_ne O.ne]; exact ho, ?_, O.ne, O'.obj, _, O'.ns, fun g => ?_, fun g hg => ?_⟩
  · have := length_putF f y fs; omega
  · show RelO ((putF f y fs).lookup g) (if g = f then some u else mA g)
    rw [lookup_putF]
    by_cases q : g = f
    · rw [if_pos q, if_pos q]; exact ry
    · rw [if_neg q, if_neg q]; exact r g
  · by_cases q : g = f
    · rw [q]; exact (keys_putF f y fs).1
    · refine (keys_putF f y fs).2 g (wi g fun z => hg ?_)
      show (if g = f then some u else mA g) = none
      rw [if_neg q]; exact z

theorem Inv.made (I : Inv X pins σ H s) : Inv X pins σ (upd (upd H s.heap.objs.size (.own (s.heap.objs.size + 1))) (s.heap.objs.size + 1) (.ins C s.heap.objs.size []))
    { s with heap := (s.heap.push PySem.W.emptyDict).push (PySem.W.instObj C s.heap.objs.size) } := by
  have e1 : (s.heap.push PySem.W.emptyDict).get? s.heap.objs.size = some PySem.W.emptyDict := Heap.get?_push_size s.heap rfl
  have e2 : ((s.heap.push PySem.W.emptyDict).push (PySem.W.instObj C s.heap.objs.size)).get? (s.heap.objs.size + 1) = some (PySem.W.instObj C s.heap.objs.size) := by
    have := Heap.get?_push_size (s.heap.push PySem.W.emptyDict) (o := PySem.W.instObj C s.heap.objs.size) rfl
    rwa [Heap.size_push] at this
  have e3 : (s.heap.push PySem.W.emptyDict).Ns s.heap.objs.size (fun _ => none) := ⟨PySem.W.emptyDict, #[], _, e1, rfl, (fun e he => absurd he (by simp)), fun _ => rfl⟩
  have I1 := I.laid (a := s.heap.objs.size) (o := .own (s.heap.objs.size + 1)) (h' := s.heap.push PySem.W.emptyDict) (t' := s.toks) (fun b u q => Heap.get?_push_of_some _ q) (Nat.le_refl _) ⟨_, e1⟩
  refine I1.laid (a := s.heap.objs.size + 1) (o := .ins C s.heap.objs.size []) (t' := s.toks) (fun b u q => Heap.get?_push_of_some _ q) (Nat.le_of_eq (Heap.size_push _ _)) ?_
  have ne : s.heap.objs.size ≠ s.heap.objs.size + 1 := Nat.ne_of_lt (Nat.lt_succ_self _)
  refine ⟨by rw [upd_ne ne, upd_same], Nat.zero_le _, ne, e2, fun _ => none, (Heap.Ns1.of_empty e3).at fun o q => Heap.get?_push_of_some _ q, fun _ => True.intro, fun y hy => absurd rfl hy⟩

theorem attr_of {prog : Program} {w : World} {env : Env} {e : Expr} {f : Str} {pos : Pos} {s : Shared} {Q : Value → Shared → Prop} (hb : attributeBase e f env (eval e env) = eval e env)
    (h : wpAny (model prog w) A (eval e env) (fun o s₁ => wpAny (model prog w) A (getAttr o f true) Q E s₁) E s) : wpAny (model prog w) A (eval (.Attribute e f pos) env) Q E s :=
  Attribute_any_ h (by rw [arm_eval_Attribute, hb])
end

def tFld (K : PySem.W.Frag) (ta : TE) (f : Str) : TE := fun σ H Q => ta σ H fun x H1 => ∃ a C dx fs v, x = .ref a ∧ H1 a = some (.ins C dx fs) ∧ Cls K C ∧ NoAttr K C f ∧ fs.lookup f = some v ∧ Q v H1
def sFld (K : PySem.W.Frag) (ta tv : TE) (f : Str) : TS := fun D σ H => tv σ H fun y H1 => ta σ H1 fun x H2 => ∃ a C dx fs, x = .ref a ∧ H2 a = some (.ins C dx fs) ∧ Cls K C ∧ NoAttr K C f ∧ fs.length < 1000 ∧
  D.nx σ (upd H2 a (.ins C dx (putF f y fs)))
section
variable {X : Cx} {o e value : Expr} {f : Str} {pos pos' tpos : Pos} {ta tv : TE}
theorem pe_fld (he : PE X e ta) (hb : attributeBase e f X.env (eval e X.env) = eval e X.env) : PE X (.Attribute e f pos) (tFld X.K ta f) := by
  intro pins s σ H Q I h
  refine attr_of hb (thn (he pins s σ H _ I h) fun u s1 ⟨x, H1, I1, rx, a, C, dx, fs, v, ex, ea, c, n, l, q⟩ => ?_)
  subst ex
  obtain rfl : u = Value.ref a := rx
  exact getattr_ok I1 ea c n l fun u' s2 I2 ru => ⟨v, H1, I2, ru, q⟩
theorem ps_fld (ha : PE X o ta) (hv : PE X value tv) (hs : swapsWith value (some (.Attribute o f pos')) pos.line X.env = pure false) : PS X (.Assign [.Attribute o f pos'] value pos) (sFld X.K ta tv f) := by
  intro pins s σ H D I h
  refine plainObj_wpAny_Assign_Attribute (thn (hv pins s σ H _ I h) fun u s1 ⟨y, H1, I1, ry, q⟩ => thn (ha pins s1 σ H1 _ I1 q) fun ov s2 ⟨x, H2, I2, rx, a, C, dx, fs, ex, ea, c, n, l, q2⟩ => ?_) hs
  subst ex
  obtain rfl : ov = Value.ref a := rx
  exact setattr_ok I2 ea c n l ry fun s3 I3 => ⟨σ, _, I3, q2⟩
end

section
variable {X : Cx} {pins : List (Addr × Obj)} {σ : St} {H : Hp} {s : Shared} {A : Around} {E : Value → Shared → Prop} {Q : Value → Shared → Prop} {c : Value} {b : Bool}
end
end L2

namespace L2
open PySem PySem.Spec PyProof.Rows

structure Room (k : Nat) (A : Around) : Prop where
  hd : A.handled = none
  dp : A.depth + 3 * k + 5 < recursionLimit
  un : A.units + 16 * k + 200 < cLine
theorem Room.mono {j k : Nat} {A : Around} (r : Room k A) (h : j ≤ k) : Room j A := ⟨r.hd, by have := r.dp; omega, by have := r.un; omega⟩
theorem Room.deeper {k : Nat} {A : Around} (r : Room (k + 1) A) (env : Env) : Room k (A.deeper env) :=
  ⟨r.hd, by have := r.dp; show A.depth + 1 + 3 * k + 5 < _; omega, by have := r.un; show A.units + 3 + 16 * k + 200 < _; omega⟩
theorem Room.in1 {k : Nat} {A : Around} (r : Room (k + 1) A) : Room k A.in1 :=
  ⟨r.hd, by have := r.dp; show A.depth + 3 * k + 5 < _; omega, by have := r.un; show A.units + 1 + 16 * k + 200 < _; omega⟩
theorem make_depth {A : Around} {C : Addr} {us : List Value} {kw : List (Str × Value)} : (A.under (.builtin "type.__call__" ⟨.ref C :: us, kw⟩)).depth = A.depth + 1 := by
  first | rfl | simp [Around.under, Code.weight, Code.isCreation, Code.isGuard, Code.isCaller, Code.frames, Code.isFrame, guardIds]
theorem make_units {A : Around} {C : Addr} {us : List Value} {kw : List (Str × Value)} : (A.under (.builtin "type.__call__" ⟨.ref C :: us, kw⟩)).units = A.units + 1 := by
  first | rfl | simp [Around.under, Code.cUnits, Code.frames, Code.isFrame]
theorem Room.make {k : Nat} {A : Around} (r : Room (k + 1) A) (C : Addr) (us : List Value) (kw : List (Str × Value)) : Room k (A.under (.builtin "type.__call__" ⟨.ref C :: us, kw⟩)) :=
  ⟨r.hd, by have := r.dp; rw [make_depth]; omega, by have := r.un; rw [make_units]; omega⟩
theorem Room.depth {k : Nat} {A : Around} (r : Room k A) : A.depth < recursionLimit := by have := r.dp; omega
theorem Room.units {k : Nat} {A : Around} (r : Room k A) : A.units + 64 < cLine := by have := r.un; omega
def tNil : TA := fun _ H Q => Q [] H
def tCons (ta : TE) (tr : TA) : TA := fun σ H Q => ta σ H fun x H1 => tr σ H1 fun xs H2 => Q (x :: xs) H2
section
variable {X : Cx} {e : Expr} {es : List Expr} {te : TE} {t : TA} {pos : Pos}
theorem pa_nil : PA X [] tNil := fun _ _ _ _ H Q I h => Calls.spliced_nil ⟨[], H, I, .nil, h⟩
theorem pa_cons (ha : PE X e te) (hr : PA X es t) (hs : starEach (e :: es) X.env = (false, eval e X.env) :: starEach es X.env := by rfl) : PA X (e :: es) (tCons te t) := by
  intro pos pins s σ H Q I h
  rw [hs]
  show wpAny _ _ (spliced ((false, eval e X.env) :: backTo pos (starEach es X.env))) _ _ s
  refine Calls.spliced_cons (thn (ha pins s σ H _ I h) fun u s1 ⟨x, H1, I1, r1, q1⟩ => ?_)
  exact thn (hr pos pins s1 σ H1 _ I1 q1) fun us s2 ⟨xs, H2, I2, r2, q2⟩ => ⟨x :: xs, H2, I2, .cons r1 r2, q2⟩

def tTup (t : TA) : TE := fun σ H Q => t σ H fun xs H1 => xs.length ≤ sizeLine ∧ ∀ p, H1 p = none → Q (.ref p) (upd H1 p (.tup xs))
def tLst (t : TA) : TE := fun σ H Q => t σ H fun xs H1 => xs.length ≤ sizeLine ∧ ∀ p, H1 p = none → Q (.ref p) (upd H1 p (.lst xs))
theorem pe_tup {x1} (h : PA X es t) : PE X (.Tuple es x1 pos) (tTup t) := by
  intro pins s σ H Q I hq
  refine wpAny_Tuple_spliced (thn (h pos pins s σ H _ I hq) fun us s1 ⟨xs, H1, I1, r, z, q⟩ => ⟨by rw [← r.length]; exact z, ?_⟩)
  have hf : H1 s1.heap.objs.size = none := I1.hok.fresh (Nat.le_refl _)
  refine ⟨.ref s1.heap.objs.size, upd H1 s1.heap.objs.size (.tup xs), I1.laid (t' := s1.toks) (fun b u e => Heap.get?_push_of_some _ e) (Nat.le_refl _) ?_, rfl, q _ hf⟩
  exact ⟨z, us, r, ⟨_, Heap.get?_push_size _ rfl, rfl, _, rfl⟩⟩
theorem pe_lst (h : PA X es t) : PE X (.List es pos) (tLst t) := by
  intro pins s σ H Q I hq
  refine wpAny_List_spliced (thn (h pos pins s σ H _ I hq) fun us s1 ⟨xs, H1, I1, r, z, q⟩ => ⟨by rw [← r.length]; exact z, ?_⟩)
  have hf : H1 s1.heap.objs.size = none := I1.hok.fresh (Nat.le_refl _)
  refine ⟨.ref s1.heap.objs.size, upd H1 s1.heap.objs.size (.lst xs), I1.laid (t' := s1.toks) (fun b u e => Heap.get?_push_of_some _ e) (Nat.le_refl _) ?_, rfl, q _ hf⟩
  exact ⟨z, us, 0, r, Heap.get?_push_size _ rfl⟩
end

abbrev Sp := List V → Hp → VK → XK → Prop
abbrev CXT := List Env → Hp → Shared → XK → Value → Shared → Prop

structure Env0 (P : Program) (w : World) (K : PySem.W.Frag) (mg : Str → Option Value) (base : Heap) (A : Around) (outer : List Env) (s : Shared) (H : Hp) : Prop where
  frames : A.frames = some outer
  mod : Mod K mg base
  bs : ∀ b o, base.get? b = some o → s.heap.get? b = some o ∧ H b = none
  bsz : base.objs.size ≤ s.heap.objs.size
  funs : s.heap.FunFrames base outer
  frf : ∀ b ∈ frs outer, H b = none
  hok : HOk P w H s.heap
  bare : AllBare s.gens
def CE (outer : List Env) (P : Program) (w : World) (H : Hp) (s : Shared) (Q : VK) (u : Value) (s' : Shared) : Prop :=
  ∃ v H', s'.os = s.os ∧ AllBare s'.gens ∧ Un (frs outer) [] H H' s.heap s'.heap ∧ HOk P w H' s'.heap ∧ RelV v u ∧ Q v H'
def CR (CX : CXT) (outer : List Env) (P : Program) (w : World) (H : Hp) (s : Shared) (Q : VK) (E : XK) (r : Result) (s' : Shared) : Prop :=
  match r with
  | .ok (.ret u) => CE outer P w H s Q u s'
  | .ok _ => False
  | .error e => CX outer H s E e s'
structure FnOk (P : Program) (w : World) (K : PySem.W.Frag) (mg : Str → Option Value) (base : Heap) (CX : CXT) (k : Nat) (f : Addr) (fd : FuncData) (ps : List Str) (sp : Sp) : Prop where
  len : ∀ vs H Q E, sp vs H Q E → vs.length = ps.length
  run : ∀ (A : Around) (outer : List Env) (s : Shared) (H : Hp) (args : Args) (us : List Value) (vs : List V) (Q : VK) (E : XK), Room k A → Env0 P w K mg base A outer s H → BindsTo s fd args (ps.zip us) → Vals vs us → sp vs H Q E →
    codeAny (model P w) A (.call (.ref f) args) (CR CX outer P w H s Q E) s
theorem FnOk.mono {P : Program} {w : World} {K : PySem.W.Frag} {mg : Str → Option Value} {base : Heap} {CX : CXT} {j k : Nat} {f : Addr} {fd : FuncData} {ps : List Str} {sp : Sp} (F : FnOk P w K mg base CX j f fd ps sp) (h : j ≤ k) :
    FnOk P w K mg base CX k f fd ps sp := ⟨F.len, fun A outer s H args us vs Q E hr => F.run A outer s H args us vs Q E (hr.mono h)⟩
theorem FnOk.imp {P : Program} {w : World} {K : PySem.W.Frag} {mg : Str → Option Value} {base : Heap} {CX : CXT} {k : Nat} {f : Addr} {fd : FuncData} {ps : List Str} {sp sp' : Sp} (F : FnOk P w K mg base CX k f fd ps sp)
    (h : ∀ vs H Q E, sp' vs H Q E → sp vs H Q E) : FnOk P w K mg base CX k f fd ps sp' :=
  ⟨fun vs H Q E q => F.len vs H Q E (h _ _ _ _ q), fun A outer s H args us vs Q E hr he hb hv hs => F.run A outer s H args us vs Q E hr he hb hv (h _ _ _ _ hs)⟩

theorem Env0.make {P : Program} {w : World} {K : PySem.W.Frag} {mg : Str → Option Value} {base : Heap} {A : Around} {outer : List Env} {s : Shared} {H : Hp} (e : Env0 P w K mg base A outer s H) (C : Addr) (us : List Value) (kw : List (Str × Value)) :
    Env0 P w K mg base (A.under (.builtin "type.__call__" ⟨.ref C :: us, kw⟩)) outer s H := ⟨by first | exact e.frames | (simpa [Around.under, Code.envs, Code.isFrame, pushEnvs] using e.frames), e.mod, e.bs, e.bsz, e.funs, e.frf, e.hok, e.bare⟩
theorem Env0.in1 {P : Program} {w : World} {K : PySem.W.Frag} {mg : Str → Option Value} {base : Heap} {A : Around} {outer : List Env} {s : Shared} {H : Hp} (e : Env0 P w K mg base A outer s H) :
    Env0 P w K mg base A.in1 outer s H := ⟨e.frames, e.mod, e.bs, e.bsz, e.funs, e.frf, e.hok, e.bare⟩

section
variable {X : Cx} {pins : List (Addr × Obj)} {σ : St} {H : Hp} {s s' : Shared}
theorem Inv.env0 (I : Inv X pins σ H s) : Env0 X.prog X.w X.K X.mg X.base X.A X.stack s H :=
  ⟨I.ok.frames, I.ok.mod, I.bs, Nat.le_trans I.ok.bsz I.sz, I.stack, I.stkFree, I.hok, I.bare⟩
theorem Inv.after {Q : VK} {u : Value} (I : Inv X pins σ H s) (h : CE X.stack X.prog X.w H s Q u s') : EP X pins σ Q u s' := by
  obtain ⟨v, H', os, bare, un, hok, r, q⟩ := h
  obtain ⟨hh, g, d, t, os'⟩ := s'
  obtain rfl : os' = s.os := os
  exact ⟨v, H', I.call (h' := hh) (g' := g) (d' := d) (t' := t) (ch := []) un hok bare (fun b z => absurd z (by simp)), r, q⟩
end

def tCall (sp : Sp) (dvs : List V) (E : XK) (t : TA) : TE := fun σ H Q => t σ H fun vs H1 => sp (vs ++ dvs) H1 Q E
def tMeth (C : Addr) (m : Str) (sp : Sp) (dvs : List V) (E : XK) (ta : TE) (t : TA) : TE := fun σ H Q => ta σ H fun x H1 => ∃ a dx fs, x = .ref a ∧ H1 a = some (.ins C dx fs) ∧ fs.lookup m = none ∧
  t σ H1 fun vs H2 => sp (x :: (vs ++ dvs)) H2 Q E
def tMake (C : Addr) (sp : Sp) (dvs : List V) (E : XK) (t : TA) : TE := fun σ H Q => t σ H fun vs H1 => ∀ x dx, H1 x = none → H1 dx = none → dx ≠ x →
  sp (.ref x :: (vs ++ dvs)) (upd (upd H1 dx (.own x)) x (.ins C dx [])) (fun v H2 => v = .non ∧ Q (.ref x) H2) E

def Binds (K : PySem.W.Frag) (fd : FuncData) (ps : List Str) (ds : List Value) : Prop :=
  ∀ (s : Shared) (us : List Value), K.In s.heap → (us ++ ds).length = ps.length → BindsTo s fd ⟨us, []⟩ (ps.zip (us ++ ds))
theorem Binds.all {K : PySem.W.Frag} {fd : FuncData} {ps : List Str} (h : ∀ us : List Value, us.length = ps.length → bindArgs fd ⟨us, []⟩ = pure (ps.zip us)) : Binds K fd ps [] := fun s us _ hl => by
  rw [List.append_nil] at hl ⊢
  exact .of_eq (h us hl)

def Passes (CX : CXT) (X : Cx) (E : XK) : Prop := ∀ (pins : List (Addr × Obj)) (σ : St) (H : Hp) (s : Shared) (e : Value) (s' : Shared), Inv X pins σ H s → CX X.stack H s E e s' → X.xe e s'

section
variable {X : Cx} {CX : CXT} {k : Nat} {f C : Addr} {fd : FuncData} {ps : List Str} {sp : Sp} {dvs : List V} {ds : List Value} {E : XK} {x m : Str} {p pos apos : Pos} {e o : Expr} {es : List Expr} {ta : TE} {t : TA}

theorem run_fn {pins : List (Addr × Obj)} {σ : St} {H : Hp} {s : Shared} {Q : VK} {us : List Value} {vs : List V} (F : FnOk X.prog X.w X.K X.mg X.base CX k f fd ps sp) (hr : Room k X.A) (hb : Binds X.K fd ps ds) (hd : Vals dvs ds) (hx : Passes CX X E)
    (I : Inv X pins σ H s) (r : Vals vs us) (h : sp (vs ++ dvs) H Q E) : wpAny (model X.prog X.w) X.A (call (.ref f) us) (EP X pins σ Q) X.xe s := by
  have r2 : Vals (vs ++ dvs) (us ++ ds) := r.append hd
  have hl : (us ++ ds).length = ps.length := by rw [← r2.length]; exact F.len _ _ _ _ h
  refine wpAny_call (codeAny_mono (F.run X.A X.stack s H ⟨us, []⟩ (us ++ ds) (vs ++ dvs) Q E hr I.env0 (hb s us I.kIn hl) r2 h) fun r s' hq => ?_)
  cases r with
  | error e => exact hx pins σ H s e s' I hq
  | ok fl =>
    cases fl with
    | ret u => exact I.after hq
    | next => exact False.elim hq
    | brk => exact False.elim hq
    | cont => exact False.elim hq

theorem pe_call (F : FnOk X.prog X.w X.K X.mg X.base CX k f fd ps sp) (hr : Room k X.A) (hg : Gl X x) (hm : X.mg x = some (.ref f)) (hk : PySem.W.keepIn X.K (.ref f) = true) (hb : Binds X.K fd ps ds) (hd : Vals dvs ds) (hx : Passes CX X E)
    (ha : PA X (e :: es) t) (hdb : (x == ("__debug__" : Str)) = false := by decide) (he : starEach (e :: es) X.env = (false, eval e X.env) :: starEach es X.env := by rfl) (hpl : (backTo pos (starEach es X.env)).any (·.1) = false := by rfl) :
    PE X (.Call (.Name x p) (e :: es) [] pos) (tCall sp dvs E t) := by
  intro pins s σ H Q I h
  refine wpAny_Call_Name_kw (ld_glob I hg hm ?_ hdb)
  refine PySem.W.callWith_K (h₀ := X.base) I.ok.mod.kin hk (thn (ha pos pins s σ H _ I h) fun us s1 ⟨vs, H1, I1, r, q⟩ => ⟨I1.kIn, ?_⟩) he hpl
  exact run_fn F hr hb hd hx I1 r q
theorem pe_meth0 {pl : Sem Bool} (he : PE X o ta) (c : Cls X.K C) (hm : Meth X.K C m f) (F : FnOk X.prog X.w X.K X.mg X.base CX k f fd ps sp) (hr : Room k X.A) (hb : Binds X.K fd ps ds) (hd : Vals dvs ds) (hx : Passes CX X E)
    (ht : eval (.Call (.Attribute o m apos) [] [] pos) X.env = (do
      let ov ← eval o X.env
      standAt apos.atName
      let (f, first) ← holding [ov] (getMethod ov m pl)
      callWith pos f first (backTo pos (starEach [] X.env)) (backToKw pos (keywordEach [] X.env))) := by rfl) :
    PE X (.Call (.Attribute o m apos) [] [] pos) (tMeth C m sp dvs E ta tNil) := by
  intro pins s σ H Q I h
  refine PySem.W.methodCall_KW (pl := pl) (thn (he pins s σ H _ I h) fun u s1 ⟨x, H1, I1, rx, a, dx, fs, ex, ea, l, q⟩ => ?_) ht
  subst ex
  obtain rfl : u = Value.ref a := rx
  refine getmeth_ok I1 ea c hm l ?_
  exact PySem.W.callWith_K0 (first := [.ref a]) I1.kIn hm.kp (run_fn (us := [.ref a]) (vs := [.ref a]) F hr hb hd hx I1 (.cons rfl .nil) q)

structure Mk (K : PySem.W.Frag) (C f : Addr) : Prop where
  makes : PySem.W.makesIn K C = true
  init : PySem.W.findIn K (.ref C) "__init__" = some (some (.ref f))
  fn : PySem.W.isFn K (.ref f) = true
  kp : PySem.W.keepIn K (.ref C) = true

theorem run_make {pins : List (Addr × Obj)} {σ : St} {H : Hp} {s : Shared} {Q : VK} {us : List Value} {vs : List V} (M : Mk X.K C f) (F : FnOk X.prog X.w X.K X.mg X.base CX k f fd ps sp) (hr : Room (k + 1) X.A) (hb : Binds X.K fd ps ds) (hd : Vals dvs ds)
    (hx : Passes CX X E) (I : Inv X pins σ H s) (r : Vals vs us)
    (h : ∀ x dx, H x = none → H dx = none → dx ≠ x → sp (.ref x :: (vs ++ dvs)) (upd (upd H dx (.own x)) x (.ins C dx [])) (fun v H2 => v = .non ∧ Q (.ref x) H2) E) :
    wpAny (model X.prog X.w) X.A (call (.ref C) us) (EP X pins σ Q) X.xe s := by
  have hq := h (s.heap.objs.size + 1) s.heap.objs.size (I.hok.fresh (Nat.le_succ _)) (I.hok.fresh (Nat.le_refl _)) (Nat.ne_of_lt (Nat.lt_succ_self _))
  have I2 := Inv.made (C := C) I
  have r2 : Vals (V.ref (s.heap.objs.size + 1) :: (vs ++ dvs)) (Value.ref (s.heap.objs.size + 1) :: (us ++ ds)) := .cons rfl (r.append hd)
  have hl : (Value.ref (s.heap.objs.size + 1) :: us ++ ds).length = ps.length := by
    have e := r2.length
    rw [F.len _ _ _ _ hq] at e
    exact e.symm
  refine wpAny_call (make_map (f := f) I.kIn M.makes M.init (beq_iff_eq.mp M.fn) (codeAny_mono (F.run _ X.stack _ _ ⟨Value.ref (s.heap.objs.size + 1) :: us, []⟩ (Value.ref (s.heap.objs.size + 1) :: (us ++ ds)) _ _ E (hr.make C us [])
    (I2.env0.make C us []) (hb _ (Value.ref (s.heap.objs.size + 1) :: us) I2.kIn hl) r2 hq) fun r s' hq' => ?_))
  cases r with
  | error e => exact hx pins σ _ _ e s' I2 hq'
  | ok fl =>
    cases fl with
    | ret u =>
      obtain ⟨v, H', I3, rv, ev, q3⟩ := I2.after hq'
      subst ev
      exact ⟨rv, ⟨V.ref (s.heap.objs.size + 1), H', I3, rfl, q3⟩⟩
    | next => exact False.elim hq'
    | brk => exact False.elim hq'
    | cont => exact False.elim hq'
theorem pe_make (M : Mk X.K C f) (F : FnOk X.prog X.w X.K X.mg X.base CX k f fd ps sp) (hr : Room (k + 1) X.A) (hg : Gl X x) (hm : X.mg x = some (.ref C)) (hb : Binds X.K fd ps ds) (hd : Vals dvs ds) (hx : Passes CX X E)
    (ha : PA X (e :: es) t) (hdb : (x == ("__debug__" : Str)) = false := by decide) (he : starEach (e :: es) X.env = (false, eval e X.env) :: starEach es X.env := by rfl) (hpl : (backTo pos (starEach es X.env)).any (·.1) = false := by rfl) :
    PE X (.Call (.Name x p) (e :: es) [] pos) (tMake C sp dvs E t) := by
  intro pins s σ H Q I h
  refine wpAny_Call_Name_kw (ld_glob I hg hm ?_ hdb)
  refine PySem.W.callWith_K (h₀ := X.base) I.ok.mod.kin M.kp (thn (ha pos pins s σ H _ I h) fun us s1 ⟨vs, H1, I1, r, q⟩ => ⟨I1.kIn, ?_⟩) he hpl
  exact run_make M F hr hb hd hx I1 r q
theorem pe_make0 (M : Mk X.K C f) (F : FnOk X.prog X.w X.K X.mg X.base CX k f fd ps sp) (hr : Room (k + 1) X.A) (hg : Gl X x) (hm : X.mg x = some (.ref C)) (hb : Binds X.K fd ps ds) (hd : Vals dvs ds) (hx : Passes CX X E)
    (hdb : (x == ("__debug__" : Str)) = false := by decide) : PE X (.Call (.Name x p) [] [] pos) (tMake C sp dvs E tNil) := by
  intro pins s σ H Q I h
  refine wpAny_Call_Name_kw (ld_glob I hg hm ?_ hdb)
  exact PySem.W.callWith_K0 I.kIn M.kp (run_make (us := []) M F hr hb hd hx I .nil h)
end

section
variable {X : Cx} {CX : CXT} {k : Nat} {f C : Addr} {fd : FuncData} {ps ks : List Str} {sp : Sp} {E : XK} {x m : Str} {p pos apos kpos : Pos} {e o : Expr} {es : List Expr} {kws : List Keyword} {te ta : TE} {t tk : TA} {nm : Option Str}
variable {g : List Value → List Value → List Value} {gV : List V → List V → List V}
end

structure FnScope (N P : List Str) (sc : Scope) : Prop where
  kind : sc.kind = .function
  co : sc.isCoroutine = false
  gen : sc.isGenerator = false
  nd : N.Nodup
  pre : N.take P.length = P
  par : ∀ x ∈ P, sc.names.lookup x = some .local ∨ sc.names.lookup x = some .cell
  nofree : ∀ y ∈ sc.names, y.2 ≠ .free

theorem bindL_out {kindOf : Str → Option NameKind} {x : Str} : ∀ {binds : List (Str × Value)} {m : Str → Option Value}, (∀ v, (x, v) ∉ binds) → bindL kindOf binds m x = m x
  | [], _, _ => rfl
  | (n, v) :: r, m, h => by
    unfold bindL
    rw [bindL_out fun w hw => h w (List.mem_cons_of_mem _ hw)]
    split
    · have : x ≠ n := by rintro rfl; exact h v List.mem_cons_self
      simp [this]
    · rfl
theorem bindC_out {kindOf : Str → Option NameKind} {x : Str} : ∀ {binds : List (Str × Value)} {m : Str → Option Value}, (∀ v, (x, v) ∉ binds) → bindC kindOf binds m x = m x
  | [], _, _ => rfl
  | (n, v) :: r, m, h => by
    unfold bindC
    rw [bindC_out fun w hw => h w (List.mem_cons_of_mem _ hw)]
    split
    · rfl
    · have : x ≠ n := by rintro rfl; exact h v List.mem_cons_self
      simp [this]
theorem bindL_get {kindOf : Str → Option NameKind} {x : Str} {v : Value} : ∀ {P : List Str} {vs : List Value} {i : Nat} {m : Str → Option Value}, P.Nodup → P[i]? = some x → vs[i]? = some v → kindOf x = some .local →
    bindL kindOf (P.zip vs) m x = some v
  | [], _, _, _, _, h, _, _ => by simp at h
  | _ :: _, [], _, _, _, _, h, _ => by simp at h
  | p :: P, w :: vs, 0, m, nd, h1, h2, hk => by
    simp at h1 h2; subst h1; subst h2
    show bindL kindOf ((p, w) :: P.zip vs) m p = _
    unfold bindL
    rw [bindL_out fun v hv => (List.nodup_cons.mp nd).1 (List.of_mem_zip hv).1, if_pos hk]
    simp
  | p :: P, w :: vs, i + 1, m, nd, h1, h2, hk => by
    show bindL kindOf ((p, w) :: P.zip vs) m x = _
    unfold bindL
    exact bindL_get (i := i) (List.nodup_cons.mp nd).2 (by simpa using h1) (by simpa using h2) hk
theorem bindC_get {kindOf : Str → Option NameKind} {x : Str} {v : Value} : ∀ {P : List Str} {vs : List Value} {i : Nat} {m : Str → Option Value}, P.Nodup → P[i]? = some x → vs[i]? = some v → kindOf x ≠ some .local →
    bindC kindOf (P.zip vs) m x = some v
  | [], _, _, _, _, h, _, _ => by simp at h
  | _ :: _, [], _, _, _, _, h, _ => by simp at h
  | p :: P, w :: vs, 0, m, nd, h1, h2, hk => by
    simp at h1 h2; subst h1; subst h2
    show bindC kindOf ((p, w) :: P.zip vs) m p = _
    unfold bindC
    rw [bindC_out fun v hv => (List.nodup_cons.mp nd).1 (List.of_mem_zip hv).1, if_neg hk]
    simp
  | p :: P, w :: vs, i + 1, m, nd, h1, h2, hk => by
    show bindC kindOf ((p, w) :: P.zip vs) m x = _
    unfold bindC
    exact bindC_get (i := i) (List.nodup_cons.mp nd).2 (by simpa using h1) (by simpa using h2) hk

def start (N : List Str) (vs : List V) : St := vs.map some ++ List.replicate (N.length - vs.length) none

def cxOf (CX : CXT) (P : Program) (w : World) (K : PySem.W.Frag) (mg : Str → Option Value) (base : Heap) (N : List Str) (qual : Str) (scope : Scope) (f : Addr) (cd : Value) (A : Around) (outer : List Env) (s : Shared) (H : Hp) (E : XK) : Cx where
  prog := P
  w := w
  K := K
  mg := mg
  base := base
  A := A.deeper (envOfC qual scope s.heap.objs.size f cd)
  N := N
  s_0 := s
  H_0 := H
  env := envOfC qual scope s.heap.objs.size f cd
  outer := outer
  stack := envOfC qual scope s.heap.objs.size f cd :: outer
  ex := []
  calm := true
  fn := fun _ => true
  pn := []
  xe := fun e s' => wpAny (model P w) (A.deeper (envOfC qual scope s.heap.objs.size f cd)) (leaving (envOfC qual scope s.heap.objs.size f cd) e) (fun _ s'' => CX outer H s E e s'') (fun e' s'' => CX outer H s E e' s'') s'

theorem cell_has {sc : Scope} {n : Nat} {x : Str} (h : sc.names.lookup x = some .cell) : ∃ c, (cellsFrom n sc.names []).lookup x = some c := by
  have q := PySem.W.cellsFrom_some sc.names n [] (.inl h)
  exact Option.isSome_iff_exists.mp q

theorem inv_start {CX : CXT} {P : Program} {w : World} {K : PySem.W.Frag} {mg : Str → Option Value} {base : Heap} {N ps : List Str} {qual : Str} {scope : Scope} {f : Addr} {cd : Value} {A : Around} {outer : List Env} {s s1 : Shared} {H : Hp} {E : XK} {us : List Value} {vs : List V}
    (S : FnScope N ps scope) (hd : A.handled = none) (e0 : Env0 P w K mg base A outer s H) (hl : vs.length = ps.length) (r : Vals vs us)
    (x : InCallC s s.heap.objs.size (bindL (envOfC qual scope s.heap.objs.size f cd).kindOf (ps.zip us) fun _ => none) (cellsFrom (s.heap.objs.size + 1) scope.names []) (bindC (envOfC qual scope s.heap.objs.size f cd).kindOf (ps.zip us) fun _ => none) s1) :
    Inv (cxOf CX P w K mg base N qual scope f cd A outer s H E) [] (start N vs) H s1 := by
  have hpl : ps.length ≤ N.length := by have := congrArg List.length S.pre; rw [List.length_take] at this; omega
  obtain ⟨h1, tk, rfl, hk⟩ := x.done
  have noA : ∀ b : Addr, b ∉ (cxOf CX P w K mg base N qual scope f cd A outer s H E).ex := fun b z => absurd (show b ∈ ([] : List Addr) from z) (by simp)
  refine ⟨⟨e0.mod, S.kind, rfl, rfl, Nat.le_refl _, fun y z c h1 h2 => ?_, fun y hy => ?_, fun y c _ h => ?_, fun _ => hd, Around.frames_deeper e0.frames, .inr ⟨rfl, rfl⟩, fun b z => absurd z (noA b), e0.bs, e0.bsz, fun b _ _ => noA b, fun b z => absurd z (noA b), e0.funs, e0.frf⟩,
    rfl, e0.bare, Un.kept hk, ⟨_, x.toInCall.ns, fun i y v h1 h2 h3 => ?_⟩, fun y c h => ⟨_, x.cell y c h⟩, e0.hok.fresh (Nat.le_refl _), fun y c h => ?_, fun p hp => absurd (show p ∈ ([] : List (Addr × Obj)) from hp) (by simp), e0.hok.kept hk, ?_⟩
  · exact name_of_addr x.apart (PySem.mem_of_lookup h1) (PySem.mem_of_lookup h2)
  · have hy : scope.names.lookup y = some .cell ∨ scope.names.lookup y = some .free := hy
    rcases hy with hy | hy
    · exact cell_has hy
    · exact absurd rfl (S.nofree _ (PySem.mem_of_lookup hy))
  · exact Nat.le_of_lt (x.above y c (PySem.mem_of_lookup h))
  · have hi : i < vs.length := by
      unfold start at h2
      by_cases hi : i < vs.length
      · exact hi
      · rw [List.getElem?_append_right (by simpa using hi)] at h2
        rw [List.getElem?_replicate] at h2
        split at h2 <;> cases h2
    have ha : vs[i]? = some v := by
      unfold start at h2
      rw [List.getElem?_append_left (by simpa using hi), List.getElem?_map] at h2
      cases e : vs[i]? with
      | none => rw [e] at h2; cases h2
      | some a => rw [e] at h2; cases h2; rfl
    obtain ⟨u, hu, rv⟩ := r.get ha
    have hp : ps[i]? = some y := by
      rw [← S.pre, List.getElem?_take_of_lt (by omega)]; exact h1
    have ndP : ps.Nodup := by rw [← S.pre]; exact S.nd.sublist (List.take_sublist _ _)
    refine ⟨u, rv, ?_⟩
    rcases S.par y (List.mem_of_getElem? hp) with k | k
    · exact .inl ⟨k, bindL_get ndP hp hu k⟩
    · obtain ⟨c, e⟩ := cell_has (n := s.heap.objs.size + 1) k
      refine .inr ⟨.inl k, c, e, ?_⟩
      have q := x.cell y c e
      rw [bindC_get ndP hp hu (by show scope.names.lookup y ≠ _; rw [k]; decide)] at q
      exact q
  · exact e0.hok.fresh (Nat.le_of_lt (x.above y c (PySem.mem_of_lookup h)))
  · unfold start
    show _ = N.length
    rw [List.length_append, List.length_map, List.length_replicate]
    omega

theorem fn_of {CX : CXT} {P : Program} {w : World} {K : PySem.W.Frag} {mg : Str → Option Value} {base : Heap} {k : Nat} {f : Addr} {name qual : Str} {params : Arguments} {body : List Stmt} {scope : Scope} {dV kV doc pm cdv ct oc : Value} {an od : Option Addr}
    {osl : Array (Option Value)} {N ps : List Str} {sp : Sp} (lk : K.lookup f = some ⟨oc, od, .func (PySem.W.fnOf name qual params body scope dV kV doc pm an cdv ct), osl⟩) (hcd : PySem.W.codeIn K cdv qual = true) (S : FnScope N ps scope)
    (len : ∀ vs H Q E, sp vs H Q E → vs.length = ps.length)
    (hbody : ∀ (A : Around) (outer : List Env) (s : Shared) (H : Hp) (vs : List V) (Q : VK) (E : XK), Room k (A.deeper (envOfC qual scope s.heap.objs.size f cdv)) → sp vs H Q E →
      ∃ t, PSs (cxOf CX P w K mg base N qual scope f cdv A outer s H E) body t ∧ t { nx := fun _ H' => Q .non H', rt := Q } (start N vs) H) :
    FnOk P w K mg base CX (k + 1) f (PySem.W.fnOf name qual params body scope dV kV doc pm an cdv ct) ps sp := by
  refine ⟨len, fun A outer s H args us vs Q E hr e0 hb r hsp => ?_⟩
  have hl := len _ _ _ _ hsp
  have KX : K.In s.heap := e0.mod.kin.keeps fun b o e => (e0.bs b o e).1
  have lim : s.heap.NoLimit := e0.mod.nolimit.keeps fun b o e => (e0.bs b o e).1
  have hkind : ∀ y ∈ ps.zip us, scope.names.lookup y.1 = some .local ∨ (scope.names.lookup y.1 = some .cell ∧ ((cellsFrom (s.heap.objs.size + 1) scope.names []).lookup y.1).isSome = true) := fun ⟨n, v⟩ hy => by
    rcases S.par n (List.of_mem_zip hy).1 with q | q
    · exact .inl q
    · exact .inr ⟨q, PySem.W.cellsFrom_some _ _ _ (.inl q)⟩
  refine codeAny_call_function hr.depth (KX _ _ lk) rfl S.co S.gen rfl (PySem.W.codeRec_of KX hcd) (hb _ _ _ _ ?_)
  refine wpAny_newFunctionEnv_cells S.kind hkind fun env he s1 x => ?_
  subst he
  refine ⟨lim.keeps x.toInCall.keep, codeAny_func ?_⟩
  obtain ⟨t, ht, hq⟩ := hbody A outer s H vs Q E (hr.deeper _) hsp
  have I : Inv (cxOf CX P w K mg base N qual scope f cdv A outer s H E) [] (start N vs) H s1 := inv_start S hr.hd e0 hl r x
  refine wpAny_mono (ht [] s1 (start N vs) H _ I hq) (fun fl s' hs => ?_) fun e s' hs => hs
  have fin : ∀ {σ' : St} {H' : Hp} {v : V} {u : Value}, Inv (cxOf CX P w K mg base N qual scope f cdv A outer s H E) [] σ' H' s' → RelV v u → Q v H' → CE outer P w H s Q u s' :=
    fun {σ' H' v u} J rv q => ⟨v, H', J.os, J.bare, J.base, J.hok, rv, q⟩
  cases fl with
  | ret u =>
    obtain ⟨v, σ', H', J, rv, q⟩ := hs
    exact fin J rv q
  | next =>
    obtain ⟨σ', H', J, q⟩ := hs
    exact fin (v := V.non) (u := Value.none) J rfl q
  | brk =>
    obtain ⟨_, _, _, q⟩ := hs
    exact False.elim q
  | cont =>
    obtain ⟨_, _, _, q⟩ := hs
    exact False.elim q
end L2

namespace L2
open PySem PySem.Spec PyProof.Rows
section
variable {X : Cx} {x : Str} {p pos : Pos} {e : Expr} {es : List Expr} {t : TA} {id T : String} {r : List V → Hp → VK → Prop}

def tCB (r : List V → Hp → VK → Prop) (t : TA) : TE := fun σ H Q => t σ H fun vs H1 => r vs H1 Q
theorem pe_callB (hc : CallR X (.builtin id) r) (hg : Gl X x) (hm : X.mg x = none) (hv : bootBuiltins x = some (.builtin id)) (ha : PA X (e :: es) t) (hn : x ≠ "__name__" := by decide) (hdb : (x == ("__debug__" : Str)) = false := by decide)
    (he : starEach (e :: es) X.env = (false, eval e X.env) :: starEach es X.env := by rfl) (hpl : (backTo pos (starEach es X.env)).any (·.1) = false := by rfl) : PE X (.Call (.Name x p) (e :: es) [] pos) (tCB r t) := by
  intro pins s σ H Q I h
  refine wpAny_Call_Name_kw (ld_blt I hg hm hv ?_ hn hdb)
  exact PyProof.Rows.callWith_builtin1 (thn (ha pos pins s σ H _ I h) fun us s1 ⟨vs, H1, I1, r1, q1⟩ => hc pins s1 σ H1 vs us Q I1 r1 q1) he hpl
theorem pe_callTy (hc : CallR X (.type T) r) (hg : Gl X x) (hm : X.mg x = none) (hv : bootBuiltins x = some (.type T)) (ha : PA X (e :: es) t) (hn : x ≠ "__name__" := by decide) (hdb : (x == ("__debug__" : Str)) = false := by decide)
    (he : starEach (e :: es) X.env = (false, eval e X.env) :: starEach es X.env := by rfl) (hpl : (backTo pos (starEach es X.env)).any (·.1) = false := by rfl) : PE X (.Call (.Name x p) (e :: es) [] pos) (tCB r t) := by
  intro pins s σ H Q I h
  refine wpAny_Call_Name_kw (ld_blt I hg hm hv ?_ hn hdb)
  exact PyProof.Rows.callWith_type1 (thn (ha pos pins s σ H _ I h) fun us s1 ⟨vs, H1, I1, r1, q1⟩ => hc pins s1 σ H1 vs us Q I1 r1 q1) he hpl
end
end L2

namespace HT
open PySem PyProof.Rows

section
open PySem.SeqAt
open PySem.AutoSeq1 (wpAny_loadPart')
open PySem.MeetsSeq PySem.MeetsSeq2 PySem.MeetsSeq3

end

section
variable {prog : Program} {w : World} {A : Around} {E : Value → Shared → Prop} {s : Shared}

def sIx (n d : Nat) : Option Int → Nat
  | none => d
  | some v => if v < 0 then (v + (n : Int)).toNat else min v.toNat n
theorem sIx_none (n d : Nat) : sIx n d none = d := rfl
theorem sIx_nat (n d k : Nat) : sIx n d (some (k : Int)) = min k n := by
  show (if (k : Int) < 0 then ((k : Int) + (n : Int)).toNat else min (k : Int).toNat n) = min k n
  rw [if_neg (by omega), Int.toNat_natCast]
end
end HT

namespace L2
open PySem PySem.Spec PyProof.Rows

abbrev TO := St → Hp → (Option Int → Hp → Prop) → Prop
def PO (X : Cx) (e : Option Expr) (t : TO) : Prop :=
  ∀ (pins : List (Addr × Obj)) (s : Shared) (σ : St) (H : Hp) (Q : Option Int → Hp → Prop), Inv X pins σ H s → t σ H Q →
    wpAny (model X.prog X.w) X.A (evalPart e X.env) (fun u s' => ∃ o H', Inv X pins σ H' s' ∧ IsPart u o ∧ Q o H') X.xe s
def tNoPart : TO := fun _ H Q => Q none H
def tPart (t : TE) : TO := fun σ H Q => t σ H fun x H1 => ∃ i, x = .int i ∧ Q (some i) H1

section
variable {X : Cx} {e : Expr} {te : TE} {lo hi : Option Expr} {tl th : TO} {pos p2 : Pos}

theorem po_none : PO X none tNoPart := by
  intro pins s σ H Q I h
  rw [evalPart_none]
  exact wpAny_pure ⟨none, H, I, .none, h⟩
theorem po_some (h : PE X e te) : PO X (some e) (tPart te) := by
  intro pins s σ H Q I hw
  rw [evalPart_some]
  refine thn (h pins s σ H _ I hw) fun u s1 ⟨x, H1, I1, r1, q1⟩ => ?_
  obtain ⟨i, rfl, q⟩ := q1
  obtain ⟨t, rfl⟩ := r1
  exact ⟨some i, H1, I1, .int i t, q⟩

def SlR (X : Cx) (r : V → Option Int → Option Int → Hp → VK → Prop) : Prop :=
  ∀ (pins : List (Addr × Obj)) (s : Shared) (σ : St) (H : Hp) (x : V) (v vl vu : Value) (lo hi : Option Int) (sl : Addr) (Q : VK), Inv X pins σ H s → RelV x v → s.heap.IsSliceOf sl vl vu .none → IsPart vl lo → IsPart vu hi → r x lo hi H Q →
    ∃ T id, typeLookup (.type T) "__getitem__" = pure (some (.builtin id)) ∧ s.TypeIs v T ∧ wpAny (model X.prog X.w) X.A (getItem v (.ref sl)) (EP X pins σ Q) X.xe s
theorem SlR.or {r r' : V → Option Int → Option Int → Hp → VK → Prop} (h : SlR X r) (h' : SlR X r') : SlR X (fun x lo hi H Q => r x lo hi H Q ∨ r' x lo hi H Q) := by
  intro pins s σ H x v vl vu lo hi sl Q I rx hs pl pu q
  rcases q with q | q
  · exact h pins s σ H x v vl vu lo hi sl Q I rx hs pl pu q
  · exact h' pins s σ H x v vl vu lo hi sl Q I rx hs pl pu q
def tSl (r : V → Option Int → Option Int → Hp → VK → Prop) (te : TE) (tl th : TO) : TE := fun σ H Q => te σ H fun x H1 => tl σ H1 fun l H2 => th σ H2 fun u H3 => r x l u H3 Q
theorem pe_slice {r : V → Option Int → Option Int → Hp → VK → Prop} (hr : SlR X r) (he : PE X e te) (hl : PO X lo tl) (hu : PO X hi th) : PE X (.Subscript e (.Slice lo hi none p2) pos) (tSl r te tl th) := by
  intro pins s σ H Q I h
  refine Subscript_ (thn (he pins s σ H _ I h) fun v s1 ⟨x, H1, I1, r1, q1⟩ => ?_)
  refine wpAny_Slice (thn (hl pins s1 σ H1 _ I1 q1) fun vl s2 ⟨l, H2, I2, pl, q2⟩ => thn (hu pins s2 σ H2 _ I2 q2) fun vu s3 ⟨u, H3, I3, pu, q3⟩ => ?_)
  rw [evalPart_none]
  refine wpAny_pure ?_
  have I4 : Inv X pins σ H3 { s3 with heap := s3.heap.push { cls := .type "slice", data := .fields #[vl, vu, .none] } } := I3.kept (t' := s3.toks) fun b ob q => Heap.get?_push_of_some _ q
  obtain ⟨T, id, hT, ht, hg⟩ := hr pins { s3 with heap := s3.heap.push { cls := .type "slice", data := .fields #[vl, vu, .none] } } σ H3 x v vl vu l u s3.heap.objs.size Q I4 r1 (Heap.IsSliceOf.new ..) pl pu q3
  show wpAny (model X.prog X.w) X.A (subscriptTail e (.Slice lo hi none p2) v (.ref s3.heap.objs.size)) (EP X pins σ Q) X.xe { s3 with heap := s3.heap.push { cls := .type "slice", data := .fields #[vl, vu, .none] } }
  exact tail_any (ops := [.ref s3.heap.objs.size, v]) ht hT hg (by with_unfolding_all rfl)

def cutV (xs : List V) (lo hi : Option Int) : List V := (xs.drop (HT.sIx xs.length 0 lo)).take (HT.sIx xs.length xs.length hi - HT.sIx xs.length 0 lo)
theorem cutV_length (xs : List V) (lo hi : Option Int) : (cutV xs lo hi).length ≤ xs.length := by
  unfold cutV
  rw [List.length_take, List.length_drop]
  omega
end
end L2

namespace L2
open PySem PySem.Spec PyProof.Rows

def ixN (n : Nat) (i : Int) : Option Nat := if 0 ≤ i then (if i < n then some i.toNat else none) else if -(n : Int) ≤ i then some (i + n).toNat else none
def atI {α : Type} (xs : List α) (i : Int) : Option α := (ixN xs.length i).bind fun j => xs[j]?
theorem ixN_seq {n : Nat} {i : Int} {j : Nat} (h : ixN n i = some j) : seqIndex? i n = some j ∧ j < n ∧ -(n : Int) ≤ i ∧ i < n := by
  unfold ixN at h
  by_cases h0 : 0 ≤ i
  · rw [if_pos h0] at h
    by_cases h1 : i < n
    · rw [if_pos h1] at h
      have e : i.toNat = j := Option.some.inj h
      exact ⟨by rw [seqIndex_of h0 h1, e], by omega, by omega, h1⟩
    · rw [if_neg h1] at h; cases h
  · rw [if_neg h0] at h
    by_cases h1 : -(n : Int) ≤ i
    · rw [if_pos h1] at h
      have e : (i + n).toNat = j := Option.some.inj h
      exact ⟨by rw [seqIndex_neg (by omega) h1, e], by omega, h1, by omega⟩
    · rw [if_neg h1] at h; cases h
theorem atI_get {α : Type} {xs : List α} {i : Int} {v : α} (h : atI xs i = some v) : ∃ j, seqIndex? i xs.length = some j ∧ xs[j]? = some v ∧ j < xs.length ∧ -(xs.length : Int) ≤ i ∧ i < xs.length := by
  unfold atI at h
  cases e : ixN xs.length i with
  | none => rw [e] at h; cases h
  | some j =>
    rw [e] at h
    obtain ⟨h1, h2, h3, h4⟩ := ixN_seq e
    exact ⟨j, h1, h, h2, h3, h4⟩
theorem atI_nat {α : Type} {xs : List α} {j : Nat} {v : α} (h : xs[j]? = some v) : atI xs (j : Int) = some v := by
  have hj : j < xs.length := (List.getElem?_eq_some_iff.mp h).1
  have e : ixN xs.length (j : Int) = some j := by
    unfold ixN
    rw [if_pos (by omega), if_pos (by omega)]; simp
  unfold atI; rw [e]; exact h
def PlainIx (b : Expr) : Prop := ∀ o i, subscripted b false o i = operate [o, i] (getItem o i)
def IxR (X : Cx) (r : R2) : Prop :=
  ∀ (value slice : Expr) (pins : List (Addr × Obj)) (s : Shared) (σ : St) (H : Hp) (x y : V) (v u : Value) (Q : VK), Inv X pins σ H s → RelV x v → RelV y u → r x y H Q →
    subscripted slice false v u = operate [v, u] (getItem v u) → wpAny (model X.prog X.w) X.A (subscriptTail value slice v u) (EP X pins σ Q) X.xe s
def MtR (X : Cx) (id : String) (r : V → List V → Hp → VK → Prop) : Prop :=
  ∀ (pins : List (Addr × Obj)) (s : Shared) (σ : St) (H : Hp) (x : V) (xs : List V) (v : Value) (us : List Value) (Q : VK), Inv X pins σ H s → RelV x v → Vals xs us → r x xs H Q →
    wpAny (model X.prog X.w) X.A (call (.builtin id) (v :: us)) (EP X pins σ Q) X.xe s
section
variable {X : Cx} {a b : Expr} {ta tb : TE} {pos : Pos}
theorem IxR.or {r r' : R2} (h : IxR X r) (h' : IxR X r') : IxR X (fun x y H Q => r x y H Q ∨ r' x y H Q) := by
  intro value slice pins s σ H x y v u Q I rx ry q hs
  rcases q with q | q
  · exact h value slice pins s σ H x y v u Q I rx ry q hs
  · exact h' value slice pins s σ H x y v u Q I rx ry q hs
theorem MtR.or {id : String} {r r' : V → List V → Hp → VK → Prop} (h : MtR X id r) (h' : MtR X id r') : MtR X id (fun x xs H Q => r x xs H Q ∨ r' x xs H Q) := by
  intro pins s σ H x xs v us Q I rx rs q
  rcases q with q | q
  · exact h pins s σ H x xs v us Q I rx rs q
  · exact h' pins s σ H x xs v us Q I rx rs q
theorem pe_ix {r : R2} (hr : IxR X r) (ha : PE X a ta) (hb : PE X b tb) (hs : PlainIx b) : PE X (.Subscript a b pos) (tOp r ta tb) := by
  intro pins s σ H Q I h
  exact Subscript_ (binT ha hb I h fun v u s2 x y H2 I2 rx ry q => hr a b pins s2 σ H2 x y v u Q I2 rx ry q (hs _ _))

def rIxL (K : PySem.W.Frag) : R2 := fun x y H Q => ∃ p xs i v, x = .ref p ∧ y = .int i ∧ SqL K H p xs ∧ atI xs i = some v ∧ Q v H
def rIxT (K : PySem.W.Frag) : R2 := fun x y H Q => ∃ p xs i v, x = .ref p ∧ y = .int i ∧ SqT K H p xs ∧ atI xs i = some v ∧ Q v H
theorem ix_list : IxR X (rIxL X.K) := by
  intro value slice pins s σ H x y v u Q I rx ry h hs
  obtain ⟨p, xs, i, z, rfl, rfl, hq, he, q⟩ := h
  cases rx
  obtain ⟨t, rfl⟩ := ry
  obtain ⟨its, r, pl, hz⟩ := I.list hq
  obtain ⟨j, h1, h2, h3, h4, h5⟩ := atI_get he
  obtain ⟨w, ew, rw'⟩ := r.get h2
  have hl := r.length
  have hn := line63
  have fin : EP X pins σ Q w s := ⟨z, H, I, rw', q⟩
  by_cases h0 : 0 ≤ i
  · have hj : i.toNat = j := by
      rw [seqIndex_of h0 h5] at h1
      exact Option.some.inj h1
    exact item_listR pl.isList h0 (by omega) (by rw [hj]; simpa using ew) fin hs
  · have hj : (i + (its.toArray.size : Int)).toNat = j := by
      rw [seqIndex_neg (by omega) h4] at h1
      rw [List.size_toArray, ← hl]
      exact Option.some.inj h1
    exact subscriptTail_builtinR (x := w) pl.isList.typeIs slot_list_getitem.lookup
      (wpAny_getItem_list_neg (Q := fun r s' => r = w ∧ EP X pins σ Q r s') pl.isList (by omega) (by rw [List.size_toArray] <;> omega) (by omega) (by rw [hj]; simpa using ew) ⟨rfl, fin⟩) hs
theorem ix_tup : IxR X (rIxT X.K) := by
  intro value slice pins s σ H x y v u Q I rx ry h hs
  obtain ⟨p, xs, i, z, rfl, rfl, hq, he, q⟩ := h
  cases rx
  obtain ⟨t, rfl⟩ := ry
  obtain ⟨its, r, pl, hz⟩ := I.tuple hq
  obtain ⟨j, h1, h2, h3, h4, h5⟩ := atI_get he
  obtain ⟨w, ew, rw'⟩ := r.get h2
  have hl := r.length
  have hn := line63
  have fin : EP X pins σ Q w s := ⟨z, H, I, rw', q⟩
  exact subscriptTail_builtinR (x := w) pl.typeIs slot_tuple_getitem.lookup
    (getItem_tuple (j := j) (Q := fun r s' => r = w ∧ EP X pins σ Q r s') pl (by omega) (by omega) (by rw [List.size_toArray, ← hl]; exact h1) (by simpa using ew) ⟨rfl, fin⟩) hs
theorem Inv.lst {pins : List (Addr × Obj)} {σ : St} {H : Hp} {s : Shared} {p : Addr} {xs : List V} (I : Inv X pins σ H s) (h : H p = some (.lst xs)) :
    ∃ (its : List Value) (n : Nat), Vals xs its ∧ s.heap.get? p = some { cls := .type "list", data := .seq its.toArray n } ∧ xs.length ≤ sizeLine := by
  obtain ⟨z, its, n, r, e⟩ := I.hok p _ h
  exact ⟨its, n, r, e, z⟩
theorem slice_bounds (lo hi : Option Int) (n : Nat) : (sliceBounds lo hi none n).1 = ((HT.sIx n 0 lo : Nat) : Int) ∧ (sliceBounds lo hi none n).2.1 = ((HT.sIx n n hi : Nat) : Int) ∧ (sliceBounds lo hi none n).2.2 = 1 := by
  refine ⟨?_, ?_, rfl⟩
  · cases lo with
    | none => simp [sliceBounds, HT.sIx]
    | some i =>
      simp only [sliceBounds, HT.sIx, Option.getD_none, show (1 : Int) > 0 by decide, if_true]
      by_cases h : i < 0
      · simp only [h, if_true] <;> omega
      · simp only [h, if_false] <;> omega
  · cases hi with
    | none => simp [sliceBounds, HT.sIx]
    | some i =>
      simp only [sliceBounds, HT.sIx, Option.getD_none, show (1 : Int) > 0 by decide, if_true]
      by_cases h : i < 0
      · simp only [h, if_true] <;> omega
      · simp only [h, if_false] <;> omega
theorem slicePick_cut (its : List Value) (lo hi : Option Int) : slicePick its.toArray lo hi none = ((its.drop (HT.sIx its.length 0 lo)).take (HT.sIx its.length its.length hi - HT.sIx its.length 0 lo)).toArray := by
  obtain ⟨h1, h2, h3⟩ := slice_bounds lo hi its.toArray.size
  unfold slicePick
  rw [h1, h2, h3]
  simp only [sliceRange_one, pick_run, List.size_toArray] <;> rfl
def rSlL (K : PySem.W.Frag) : V → Option Int → Option Int → Hp → VK → Prop := fun x lo hi H Q => ∃ a xs, x = .ref a ∧ SqL K H a xs ∧ ∀ p, H p = none → Q (.ref p) (upd H p (.lst (cutV xs lo hi)))
theorem sl_list : SlR X (rSlL X.K) := by
  intro pins s σ H x v vl vu lo hi sl Q I rx hs pl pu h
  obtain ⟨a, xs, rfl, hx, q⟩ := h
  cases rx
  obtain ⟨its, r, ht, hz⟩ := I.list hx
  have hlen := r.length
  refine ⟨"list", _, slot_list_getitem.lookup, ht.isList.typeIs, ?_⟩
  refine wpAny_getItem_list_slice ht.isList hs pl pu .none (by simp) ?_ (by rw [List.size_toArray] <;> omega)
  rw [slicePick_cut, ← hlen]
  refine ⟨.ref s.heap.objs.size, _, I.laid (t' := s.toks) (o := .lst (cutV xs lo hi)) (fun b ob q => Heap.get?_push_of_some _ q) (Nat.le_refl _) ?_, rfl, q _ (I.hok.fresh (Nat.le_refl _))⟩
  exact ⟨Nat.le_trans (cutV_length xs lo hi) hz, _, 0, (r.drop (HT.sIx xs.length 0 lo)).take (HT.sIx xs.length xs.length hi - HT.sIx xs.length 0 lo), Heap.get?_push_size _ rfl⟩

def flatV : V → Bool
  | .non => true
  | .bl _ => true
  | .int _ => true
  | .str _ => true
  | _ => false
def eqV : V → V → Bool
  | .non, .non => true
  | .bl a, .bl b => a == b
  | .bl a, .int b => (if a then 1 else 0) == b
  | .int a, .bl b => a == (if b then 1 else 0)
  | .int a, .int b => a == b
  | .str a, .str b => a == b
  | _, _ => false
theorem eqAt_V {A : Around} {s : Shared} {y x : V} {u v : Value} (ry : RelV y u) (rx : RelV x v) (fy : flatV y = true) (fx : flatV x = true) : SeqAt.EqAt A s u v (eqV y x) := by
  cases y with
  | non =>
    cases ry
    cases x with
    | non => cases rx; exact SeqAt.EqAt.same _
    | bl b => cases rx; exact SeqAt.EqAt.none_bool b
    | int b => obtain ⟨t, rfl⟩ := rx; exact SeqAt.EqAt.none_int b t
    | str b => obtain ⟨t, rfl⟩ := rx; exact SeqAt.EqAt.none_str b t
    | _ => exact absurd (show false = true from fx) Bool.false_ne_true
  | bl a =>
    cases ry
    cases x with
    | non => cases rx; exact SeqAt.EqAt.bool_none a
    | bl b => cases rx; exact SeqAt.EqAt.bool_bool a b
    | int b => obtain ⟨t, rfl⟩ := rx; exact SeqAt.EqAt.bool_int a b t
    | str b => obtain ⟨t, rfl⟩ := rx; exact SeqAt.EqAt.bool_str a b t
    | _ => exact absurd (show false = true from fx) Bool.false_ne_true
  | int a =>
    obtain ⟨t', rfl⟩ := ry
    cases x with
    | non => cases rx; exact SeqAt.EqAt.int_none a t'
    | bl b => cases rx; exact SeqAt.EqAt.int_bool a t' b
    | int b => obtain ⟨t, rfl⟩ := rx; exact SeqAt.EqAt.int_int a t' b t
    | str b => obtain ⟨t, rfl⟩ := rx; exact SeqAt.EqAt.int_str a t' b t
    | _ => exact absurd (show false = true from fx) Bool.false_ne_true
  | str a =>
    obtain ⟨t', rfl⟩ := ry
    cases x with
    | non => cases rx; exact SeqAt.EqAt.str_none a t'
    | bl b => cases rx; exact SeqAt.EqAt.str_bool a t' b
    | int b => obtain ⟨t, rfl⟩ := rx; exact SeqAt.EqAt.str_int a t' b t
    | str b => obtain ⟨t, rfl⟩ := rx; exact SeqAt.EqAt.str_str a t' b t
    | _ => exact absurd (show false = true from fx) Bool.false_ne_true
  | _ => exact absurd (show false = true from fy) Bool.false_ne_true
def eqU (x : V) (u : Value) : Bool := match u with
  | .none => eqV .non x
  | .bool b => eqV (.bl b) x
  | .int i _ => eqV (.int i) x
  | .str z _ => eqV (.str z) x
  | _ => false
theorem eqU_of {x y : V} {u : Value} (r : RelV y u) (f : flatV y = true) : eqU x u = eqV y x := by
  cases y with
  | non => cases r; rfl
  | bl b => cases r; rfl
  | int i => obtain ⟨t, rfl⟩ := r; rfl
  | str z => obtain ⟨t, rfl⟩ := r; rfl
  | _ => exact absurd (show false = true from f) Bool.false_ne_true
theorem any_eqU {x : V} : ∀ {xs : List V} {us : List Value}, Vals xs us → xs.all flatV = true → us.any (eqU x) = xs.any fun y => eqV y x
  | _, _, .nil, _ => rfl
  | y :: xs, u :: us, .cons r t, f => by
    rw [List.all_cons, Bool.and_eq_true] at f
    rw [List.any_cons, List.any_cons, eqU_of r f.1, any_eqU t f.2]
theorem mem_eqAt {A : Around} {s : Shared} {x : V} {v : Value} (rx : RelV x v) (fx : flatV x = true) : ∀ {xs : List V} {us : List Value}, Vals xs us → xs.all flatV = true → ∀ u ∈ us, SeqAt.EqAt A s u v (eqU x u)
  | _, _, .nil, _ => fun u hu => by cases hu
  | y :: xs, u :: us, .cons r t, f => fun u' hu => by
    rw [List.all_cons, Bool.and_eq_true] at f
    rcases List.mem_cons.mp hu with rfl | hu
    · rw [eqU_of r f.1]; exact eqAt_V r rx f.1 fx
    · exact mem_eqAt rx fx t f.2 u' hu
def inV (x : V) (xs : List V) : Bool := xs.any fun y => eqV y x
def rIn (K : PySem.W.Frag) (neg : Bool) : R2 := fun x y H Q => ∃ p xs, y = .ref p ∧ (SqL K H p xs ∨ SqT K H p xs) ∧ flatV x = true ∧ xs.all flatV = true ∧ Q (.bl (if neg then !inV x xs else inV x xs)) H
theorem op_in_seq : OpR X (compareOp .In) (rIn X.K false) := by
  intro pins s σ H x y v u Q I rx ry h
  obtain ⟨p, xs, rfl, hq, fx, fs, q⟩ := h
  cases ry
  rcases hq with hq | hq
  · obtain ⟨its, r, pl, hz⟩ := I.list hq
    refine SeqAt.in_listAt (eqU x) pl.isList (fun w hw => mem_eqAt rx fx r fs w (by simpa using hw)) ⟨.bl _, H, I, rfl, ?_⟩
    rw [show its.toArray.any (eqU x) = its.any (eqU x) by simp, any_eqU r fs]
    exact q
  · obtain ⟨its, r, pl, hz⟩ := I.tuple hq
    refine SeqAt.in_tupleAt (eqU x) pl (fun w hw => mem_eqAt rx fx r fs w (by simpa using hw)) ⟨.bl _, H, I, rfl, ?_⟩
    rw [show its.toArray.any (eqU x) = its.any (eqU x) by simp, any_eqU r fs]
    exact q
theorem op_notIn_seq : OpR X (compareOp .NotIn) (rIn X.K true) := by
  intro pins s σ H x y v u Q I rx ry h
  obtain ⟨p, xs, rfl, hq, fx, fs, q⟩ := h
  cases ry
  rcases hq with hq | hq
  · obtain ⟨its, r, pl, hz⟩ := I.list hq
    refine SeqAt.notIn_listAt (eqU x) pl.isList (fun w hw => mem_eqAt rx fx r fs w (by simpa using hw)) ⟨.bl _, H, I, rfl, ?_⟩
    rw [show its.toArray.any (eqU x) = its.any (eqU x) by simp, any_eqU r fs]
    exact q
  · obtain ⟨its, r, pl, hz⟩ := I.tuple hq
    refine SeqAt.notIn_tupleAt (eqU x) pl (fun w hw => mem_eqAt rx fx r fs w (by simpa using hw)) ⟨.bl _, H, I, rfl, ?_⟩
    rw [show its.toArray.any (eqU x) = its.any (eqU x) by simp, any_eqU r fs]
    exact q
theorem call_len_seq : CallR X (.builtin "len") (fun xs H Q => ∃ p ys, xs = [.ref p] ∧ (SqL X.K H p ys ∨ SqT X.K H p ys) ∧ Q (.int ys.length) H) := by
  intro pins s σ H xs us Q I r h
  obtain ⟨p, ys, rfl, hq, q⟩ := h
  obtain ⟨u, rfl, rx⟩ := vals1 r
  cases rx
  have hn := line63
  rcases hq with hq | hq
  · obtain ⟨its, r', pl, hz⟩ := I.list hq
    have hlen := r'.length
    exact Calls.call_len_list pl.isList (by simp only [List.size_toArray] <;> omega) ⟨.int ys.length, H, I.tok _, ⟨s.toks + 1, by rw [List.size_toArray, hlen]⟩, q⟩
  · obtain ⟨its, r', pl, hz⟩ := I.tuple hq
    have hlen := r'.length
    exact len_tuple pl (by simp only [List.size_toArray] <;> omega) ⟨.int ys.length, H, I.tok _, ⟨s.toks + 1, by rw [List.size_toArray, hlen]⟩, q⟩
theorem call_len_str : CallR X (.builtin "len") (fun xs H Q => ∃ z, xs = [.str z] ∧ z.length ≤ sizeLine ∧ Q (.int z.length) H) := by
  intro pins s σ H xs us Q I r h
  obtain ⟨z, rfl, hz, q⟩ := h
  obtain ⟨u, rfl, t, rfl⟩ := vals1 r
  have hn := line63
  exact len_str (by omega) ⟨.int z.length, H, I.tok _, ⟨_, rfl⟩, q⟩
theorem CallR.or {f : Value} {r r' : List V → Hp → VK → Prop} (h : CallR X f r) (h' : CallR X f r') : CallR X f (fun xs H Q => r xs H Q ∨ r' xs H Q) := by
  intro pins s σ H xs us Q I rs q
  rcases q with q | q
  · exact h pins s σ H xs us Q I rs q
  · exact h' pins s σ H xs us Q I rs q
theorem call_list_of : CallR X (.type "list") (fun xs H Q => ∃ p ys, xs = [.ref p] ∧ (SqL X.K H p ys ∨ SqT X.K H p ys) ∧ ∀ l, H l = none → Q (.ref l) (upd H l (.lst ys))) := by
  intro pins s σ H xs us Q I r h
  obtain ⟨p, ys, rfl, hq, q⟩ := h
  obtain ⟨u, rfl, rx⟩ := vals1 r
  cases rx
  have fin : ∀ (its : List Value), Vals ys its → ys.length ≤ sizeLine → ∀ (h' : Heap) (c' : Nat), (∀ b o', s.heap.get? b = some o' → h'.get? b = some o') →
      h'.get? s.heap.objs.size = some { cls := .type "list", dict := none, data := .seq its.toArray c', slots := #[] } → EP X pins σ Q (.ref s.heap.objs.size) { s with heap := h' } := fun its r' hz h' c' kp e =>
    ⟨.ref s.heap.objs.size, _, I.laid (t' := s.toks) kp (Nat.le_refl _) (show ObjOk X.prog X.w _ h' _ (.lst ys) from ⟨hz, its, c', r', e⟩), rfl, q _ (I.hok.fresh (Nat.le_refl _))⟩
  rcases hq with hq | hq
  · obtain ⟨its, r', pl, hz⟩ := I.list hq
    have hlen := r'.length
    obtain ⟨o, ho, hc, n, hd⟩ := pl.isList
    exact call_list_seq p (.inl rfl) ho hc hd (fun h' c' kp e => fin its r' hz h' c' kp e) (by simp only [List.size_toArray] <;> omega)
  · obtain ⟨its, r', pl, hz⟩ := I.tuple hq
    have hlen := r'.length
    obtain ⟨o, ho, hc, n, hd⟩ := pl
    exact call_list_seq p (.inr rfl) ho hc hd (fun h' c' kp e => fin its r' hz h' c' kp e) (by simp only [List.size_toArray] <;> omega)
def tyV (K : PySem.W.Frag) (T : String) (x : V) (H : Hp) : Prop := match x with
  | .str _ => T = "str"
  | .int _ => T = "int"
  | .ref p => (T = "list" ∧ ∃ xs, SqL K H p xs) ∨ (T = "tuple" ∧ ∃ o, K.lookup p = some o ∧ o.cls = .type "tuple" ∧ o.dict = none) ∨
      (T = "dict" ∧ ((∃ kvs, H p = some (.dK kvs)) ∨ ∃ kvs, H p = some (.dT kvs))) ∨ (T = "set" ∧ ∃ S n, H p = some (.set S n))
  | _ => False
theorem tyV_is {pins : List (Addr × Obj)} {σ : St} {H : Hp} {s : Shared} {T : String} {x : V} {v : Value} (I : Inv X pins σ H s) (r : RelV x v) (ty : tyV X.K T x H) :
    s.TypeIs v T ∧ ∀ a, v = .ref a → ∃ ob, s.heap.get? a = some ob ∧ ob.dict = none := by
  cases x with
  | str z =>
    obtain ⟨t, rfl⟩ := r
    cases (show T = "str" from ty)
    exact ⟨typeIs_str s z t, fun _ e => nomatch e⟩
  | int i =>
    obtain ⟨t, rfl⟩ := r
    cases (show T = "int" from ty)
    exact ⟨typeIs_int s i t, fun _ e => nomatch e⟩
  | ref p =>
    cases r
    rcases ty with ⟨rfl, xs, hq⟩ | ⟨rfl, o, hk, hc, hd⟩ | ⟨rfl, hk⟩ | ⟨rfl, S, n, hk⟩
    · obtain ⟨its, _, pl, _⟩ := I.list hq
      refine ⟨pl.isList.typeIs, fun a e => ?_⟩
      cases e
      obtain ⟨o, n, e, c, hd, _⟩ := pl
      exact ⟨o, e, hd⟩
    · refine ⟨⟨o, I.kIn p o hk, hc⟩, fun a e => ?_⟩
      cases e
      exact ⟨o, I.kIn _ o hk, hd⟩
    · have z : ∃ o, s.heap.get? p = some o ∧ o.ExactDict := by
        rcases hk with ⟨kvs, hk⟩ | ⟨kvs, hk⟩
        · obtain ⟨_, _, _, _, o, _, _, e, ex, _⟩ := I.hok p _ hk
          exact ⟨o, e, ex⟩
        · obtain ⟨_, _, _, _, o, _, _, e, ex, _⟩ := I.hok p _ hk
          exact ⟨o, e, ex⟩
      obtain ⟨o, e, ex⟩ := z
      refine ⟨⟨o, e, ex.1⟩, fun a e2 => ?_⟩
      cases e2
      exact ⟨o, e, ex.2.1⟩
    · obtain ⟨o, _, _, _, e, ex, _⟩ := I.hok p _ hk
      refine ⟨⟨o, e, ex.1⟩, fun a e2 => ?_⟩
      cases e2
      exact ⟨o, e, ex.2.1⟩
  | _ => exact False.elim ty
def tBM (K : PySem.W.Frag) (T : String) (r : V → List V → Hp → VK → Prop) (to : TE) (t : TA) : TE := fun σ H Q => to σ H fun x H1 => tyV K T x H1 ∧ t σ H1 fun xs H2 => r x xs H2 Q
variable {o e : Expr} {es : List Expr} {to : TE} {t : TA} {name : Str} {apos cpos : Pos} {T id : String} {r : V → List V → Hp → VK → Prop}
theorem pe_bm (pa : PlainAttrs T) (slot : Slot T name id) (hty : typeOf (.builtin id) = pure (.type "method_descriptor")) (hm : MtR X id r) (ho : PE X o to) (ha : PA X (e :: es) t)
    (hbase : attributeBase o name X.env (eval o X.env) = eval o X.env := by rfl)
    (hfew : ((backTo cpos (starEach (e :: es) X.env)).all (fun x => !x.1) && (backToKw cpos (keywordEach [] X.env)).all (fun x => x.1.isSome)
      && decide ((e :: es).length + ([] : List Keyword).length + (if ([] : List Keyword).isEmpty then 0 else 1) < 30)) = true := by rfl)
    (hline : (apos.endLine == cpos.line) = true := by rfl) (hs : starEach (e :: es) X.env = (false, eval e X.env) :: starEach es X.env := by rfl) (hplain : (backTo cpos (starEach es X.env)).any (·.1) = false := by rfl) :
    PE X (.Call (.Attribute o name apos) (e :: es) [] cpos) (tBM X.K T r to t) := by
  intro pins s σ H Q I h
  refine wpAny_Call_method_late hbase hfew hline rfl (thn (ho pins s σ H _ I h) fun v s1 ⟨x, H1, I1, r1, ty, q1⟩ => ?_)
  obtain ⟨h1, h2⟩ := tyV_is I1 r1 ty
  refine ⟨T, id, pa, slot, hty, h1, h2, ?_⟩
  have hA := ha cpos pins s1 σ H1 _ I1 q1
  rw [hs] at hA ⊢
  refine Calls.callWith_builtin (by show (false || (backTo cpos (starEach es X.env)).any (·.1)) = false; rw [hplain] <;> rfl) (Calls.evalArgs_plain ?_)
  exact thn hA fun us s2 ⟨vs, H2, I2, r2, q2⟩ => hm pins s2 σ H2 x vs v us Q I2 r1 r2 q2
end
end L2

namespace L2
open PySem PySem.Spec PyProof.Rows

def MtM (X : Cx) (id : String) (r : V → List V → Hp → VK → Prop) : Prop :=
  ∀ (pins : List (Addr × Obj)) (s : Shared) (σ : St) (H : Hp) (x : V) (xs : List V) (v : Value) (us : List Value) (Q : VK), Inv X pins σ H s → RelV x v → Vals xs us → r x xs H Q →
    wpAny (model X.prog X.w) X.A (call (.builtin id) (v :: us)) (EP X pins σ Q) X.xe s

theorem Vals.one : ∀ {x : V} {us : List Value}, Vals [x] us → ∃ u, us = [u] ∧ RelV x u
  | _, _, .cons r .nil => ⟨_, rfl, r⟩
theorem Vals.two : ∀ {x y : V} {us : List Value}, Vals [x, y] us → ∃ u v, us = [u, v] ∧ RelV x u ∧ RelV y v
  | _, _, _, .cons r (.cons q .nil) => ⟨_, _, rfl, r, q⟩
theorem Vals.zero : ∀ {us : List Value}, Vals [] us → us = []
  | _, .nil => rfl
theorem Vals.eraseIdx : ∀ {xs : List V} {us : List Value} (i : Nat), Vals xs us → Vals (xs.eraseIdx i) (us.eraseIdx i)
  | _, _, _, .nil => .nil
  | _, _, 0, .cons _ t => t
  | _, _, i + 1, .cons r t => .cons r (Vals.eraseIdx i t)
theorem Vals.reverse {xs : List V} {us : List Value} (h : Vals xs us) : Vals xs.reverse us.reverse := by
  induction h with
  | nil => exact .nil
  | cons r t ih => rw [List.reverse_cons, List.reverse_cons]; exact Vals.append ih (.cons r .nil)
section
variable {X : Cx} {pins : List (Addr × Obj)} {σ : St} {H : Hp} {s : Shared} {l b : Addr} {xs ys zs : List V}

theorem Inv.lset {its its' : List Value} {n : Nat} {f : Array Value → Array Value} {t' : Nat} (I : Inv X pins σ H s) (hH : H l = some (.lst xs))
    (e : s.heap.get? l = some { cls := .type "list", data := .seq its.toArray n }) (hf : f its.toArray = its'.toArray) (hv : Vals ys its') (hz : ys.length ≤ sizeLine) :
    Inv X pins σ (upd H l (.lst ys)) { s with heap := s.heap.update l (Obj.mapSeq f), toks := t' } := by
  have q := PySem.IsL.update e f
  rw [hf] at q
  refine I.write (x := l) (e := l) (by rw [hH]; exact trivial) (.inl rfl) (fun b' u hb hu => (Heap.get?_update_other s.heap (Obj.mapSeq f) (Ne.symm hb)).trans hu) ⟨_, q⟩ ?_
  exact ⟨hz, its', _, hv, q⟩
theorem Inv.lnew {its : List Value} {t' : Nat} (I : Inv X pins σ H s) (hv : Vals ys its) (hz : ys.length ≤ sizeLine) :
    Inv X pins σ (upd H s.heap.objs.size (.lst ys)) { s with heap := s.heap.push { cls := .type "list", data := .seq its.toArray }, toks := t' } :=
  I.laid (fun _ _ q => Heap.get?_push_of_some _ q) (Nat.le_refl _) ⟨hz, its, 0, hv, Heap.get?_push_size _ rfl⟩
theorem Inv.fresh (I : Inv X pins σ H s) : H s.heap.objs.size = none := I.hok.fresh (Nat.le_refl _)
theorem Inv.lstM (I : Inv X pins σ H s) (hH : H l = some (.lst xs)) : xs.length ≤ sizeLine ∧ ∃ (its : List Value) (n : Nat), Vals xs its ∧ xs.length = its.length ∧ s.heap.get? l = some { cls := .type "list", data := .seq its.toArray n } := by
  obtain ⟨z, its, n, r, e⟩ := I.hok l _ hH
  exact ⟨z, its, n, r, r.length, e⟩

theorem notLongL {n : Nat} (h : n ≤ sizeLine) : Builtin.List.listTooLong n = false := by
  unfold Builtin.List.listTooLong
  exact decide_eq_false (by omega)
end

section
variable {X : Cx}

def rAppend : V → List V → Hp → VK → Prop := fun x vs H Q => ∃ l xs y, x = .ref l ∧ vs = [y] ∧ H l = some (.lst xs) ∧ xs.length < sizeLine ∧ Q .non (upd H l (.lst (xs ++ [y])))
theorem mt_append : MtM X "list.append" rAppend := by
  intro pins s σ H x vs v us Q I rx rv h
  obtain ⟨l, xs, y, rfl, rfl, hH, hz, q⟩ := h
  cases rx
  obtain ⟨u, rfl, ru⟩ := rv.one
  obtain ⟨z, its, n, r, hl, e⟩ := I.lstM hH
  refine call_meets F.slot_list_append ⟨_, e, rfl⟩ F.entry_list_append (F.args_list_append_2 _ _) (PySem.list_append l its.toArray n u (by rw [List.size_toArray]; omega)) ⟨e, ?_⟩
  refine ⟨.non, _, I.lset (its' := its ++ [u]) hH e (by simp) (r.append (.cons ru .nil)) ?_, rfl, q⟩
  rw [List.length_append, List.length_singleton]
  omega

def rExtend : V → List V → Hp → VK → Prop := fun x vs H Q => ∃ l b xs zs, x = .ref l ∧ vs = [.ref b] ∧ H l = some (.lst xs) ∧ H b = some (.lst zs) ∧ xs.length + zs.length ≤ sizeLine ∧ Q .non (upd H l (.lst (xs ++ zs)))
theorem mt_extend : MtM X "list.extend" rExtend := by
  intro pins s σ H x vs v us Q I rx rv h
  obtain ⟨l, b, xs, zs, rfl, rfl, hH, hB, hz, q⟩ := h
  cases rx
  obtain ⟨u, rfl, ru⟩ := rv.one
  cases ru
  obtain ⟨z, its, n, r, hl, e⟩ := I.lstM hH
  obtain ⟨z2, its2, n2, r2, hl2, e2⟩ := I.lstM hB
  have hsz : its.toArray.size + its2.toArray.size ≤ sizeLine := by rw [List.size_toArray, List.size_toArray]; omega
  have hlong : ¬ (!its.toArray.isEmpty && Builtin.List.listTooLong (its.toArray.size + its2.toArray.size)) = true := by
    rw [notLongL hsz, Bool.and_false]
    exact Bool.false_ne_true
  refine call_meets F.slot_list_extend ⟨_, e, rfl⟩ F.entry_list_extend (F.args_list_extend_2 _ _)
    (AutoSeq1.list_extend_list_list_0 l its.toArray n b its2.toArray n2 hlong (by rw [List.size_toArray]; omega) (by omega)) ⟨e, e2, ?_⟩
  refine ⟨.non, _, I.lset (its' := its ++ its2) hH e (by simp) (r.append r2) ?_, rfl, q⟩
  rw [List.length_append]
  omega

def rCat : R2 := fun x y H Q => ∃ l b xs zs, x = .ref l ∧ y = .ref b ∧ H l = some (.lst xs) ∧ H b = some (.lst zs) ∧ xs.length + zs.length ≤ sizeLine ∧ ∀ p, H p = none → Q (.ref p) (upd H p (.lst (xs ++ zs)))
theorem op_cat : OpR X (binaryOp .Add) rCat := by
  intro pins s σ H x y v u Q I rx ry h
  obtain ⟨l, b, xs, zs, rfl, rfl, hH, hB, hz, q⟩ := h
  cases rx
  cases ry
  obtain ⟨z, its, n, r, hl, e⟩ := I.lstM hH
  obtain ⟨z2, its2, n2, r2, hl2, e2⟩ := I.lstM hB
  refine PySem.P.add_list e e2 ?_ (by rw [List.size_toArray, List.size_toArray]; omega)
  have ea : its.toArray ++ its2.toArray = (its ++ its2).toArray := by simp
  rw [ea]
  exact ⟨.ref _, _, I.lnew (t' := s.toks) (r.append r2) (by rw [List.length_append]; omega), rfl, q _ I.fresh⟩
end

section
variable {prog : Program} {w : World} {A : Around} {E : Value → Shared → Prop} {s : Shared}
end

section
variable {X : Cx}
end
end L2

namespace L2
open PySem PySem.Spec PyProof.Rows

theorem Vals.ints : ∀ {ns : List Int} {us : List Value}, Vals (ns.map V.int) us → IntsAre us ns
  | [], us, h => by
    rw [List.map_nil] at h
    cases h
    exact IntsAre.nil
  | n :: ns, us, h => by
    rw [List.map_cons] at h
    cases h with
    | cons r t =>
      obtain ⟨k, rfl⟩ := r
      exact IntsAre.cons n k (Vals.ints t)
theorem vals_of_ints : ∀ {us : List Value} {ns : List Int}, IntsAre us ns → Vals (ns.map V.int) us
  | _, _, .nil => by rw [List.map_nil]; exact Paired.nil
  | _, _, .cons n t h => by rw [List.map_cons]; exact Paired.cons (show RelV (V.int n) (Value.int n t) from ⟨t, rfl⟩) (vals_of_ints h)
theorem Vals.strs : ∀ {xs : List Str} {us : List Value}, Vals (xs.map V.str) us → StrsAre us xs
  | [], us, h => by
    rw [List.map_nil] at h
    cases h
    exact StrsAre.nil
  | x :: xs, us, h => by
    rw [List.map_cons] at h
    cases h with
    | cons r t =>
      obtain ⟨k, rfl⟩ := r
      exact StrsAre.cons x k (Vals.strs t)
theorem Vals.bls : ∀ {bs : List Bool} {us : List Value}, Vals (bs.map V.bl) us → us = bs.map Value.bool
  | [], us, h => by
    rw [List.map_nil] at h
    cases h
    rfl
  | b :: bs, us, h => by
    rw [List.map_cons] at h
    cases h with
    | cons r t =>
      cases r
      rw [Vals.bls t, List.map_cons]
theorem Vals.ref1 {a : Addr} {us : List Value} (r : Vals [V.ref a] us) : us = [Value.ref a] := by
  cases r with
  | cons r t =>
    cases t
    cases r
    rfl
section
variable {prog : Program} {w : World} {A : Around} {E : Value → Shared → Prop} {s : Shared} {l : Addr} {its : List Value} {ns : List Int} {Q : Value → Shared → Prop}
theorem sum_raw (hh : A.handled = none) (hl : s.heap.IsList l its.toArray) (hi : IntsAre its ns)
    (h : ∀ h' tk t', (∀ b o, s.heap.get? b = some o → h'.get? b = some o) → Q (.int ns.sum t') { s with heap := h', toks := tk }) : wpAny (model prog w) A (call (.builtin "sum") [.ref l]) Q E s := by
  obtain ⟨xs, e⟩ := hi.allInts.items
  have hn : numsOf (intItems xs).toList = ns := by rw [← e]; exact hi.numsOf
  rw [nums_intItems] at hn
  rw [e] at hl
  refine PySem.sum_intListG hh hl fun h' tk t' hk => ?_
  have := h h' tk t' hk
  rw [preSum_eq, List.take_of_length_le (by simp), hn]; exact this
theorem max_raw (hh : A.handled = none) (hl : s.heap.IsList l its.toArray) (hi : IntsAre its ns) (hne : 0 < ns.length)
    (h : ∀ h' tk M t', (∀ b o, s.heap.get? b = some o → h'.get? b = some o) → M ∈ ns → (∀ a, a ∈ ns → a ≤ M) → Q (.int M t') { s with heap := h', toks := tk }) : wpAny (model prog w) A (call (.builtin "max") [.ref l]) Q E s := by
  obtain ⟨xs, e⟩ := hi.allInts.items
  have hn : numsOf (intItems xs).toList = ns := by rw [← e]; exact hi.numsOf
  rw [nums_intItems] at hn
  subst hn
  rw [e] at hl
  have hsz : 0 < xs.size := by simpa using hne
  refine PySem.max_intList hh hl hsz fun v h' tk hv hk => ?_
  obtain ⟨t, rfl⟩ := intItems_at hv
  obtain ⟨h1, h2⟩ := argBest_gt (numAt xs) (xs.size - 1)
  refine h h' tk _ t hk ?_ fun a ha => ?_
  · rw [numAt_eq]; exact PySem.getD_mem (by rw [List.length_map, Array.length_toList]; omega)
  · obtain ⟨j, hj, rfl⟩ := mem_getD ha
    rw [List.length_map, Array.length_toList] at hj
    rw [← numAt_eq]; exact h2 j (by omega)
theorem min_raw (hh : A.handled = none) (hl : s.heap.IsList l its.toArray) (hi : IntsAre its ns) (hne : 0 < ns.length)
    (h : ∀ h' tk M t', (∀ b o, s.heap.get? b = some o → h'.get? b = some o) → M ∈ ns → (∀ a, a ∈ ns → M ≤ a) → Q (.int M t') { s with heap := h', toks := tk }) : wpAny (model prog w) A (call (.builtin "min") [.ref l]) Q E s := by
  obtain ⟨xs, e⟩ := hi.allInts.items
  have hn : numsOf (intItems xs).toList = ns := by rw [← e]; exact hi.numsOf
  rw [nums_intItems] at hn
  subst hn
  rw [e] at hl
  have hsz : 0 < xs.size := by simpa using hne
  refine PySem.min_intList hh hl hsz fun v h' tk hv hk => ?_
  obtain ⟨t, rfl⟩ := intItems_at hv
  obtain ⟨h1, h2⟩ := argBest_lt (numAt xs) (xs.size - 1)
  refine h h' tk _ t hk ?_ fun a ha => ?_
  · rw [numAt_eq]; exact PySem.getD_mem (by rw [List.length_map, Array.length_toList]; omega)
  · obtain ⟨j, hj, rfl⟩ := mem_getD ha
    rw [List.length_map, Array.length_toList] at hj
    rw [← numAt_eq]; exact h2 j (by omega)
end

section
variable {X : Cx}
def rSum (K : PySem.W.Frag) : List V → Hp → VK → Prop := fun vs H Q => ∃ (a : Addr) (ns : List Int), vs = [V.ref a] ∧ SqL K H a (ns.map V.int) ∧ Q (.int ns.sum) H
def rMax (K : PySem.W.Frag) : List V → Hp → VK → Prop := fun vs H Q => ∃ (a : Addr) (ns : List Int), vs = [V.ref a] ∧ SqL K H a (ns.map V.int) ∧ 0 < ns.length ∧ ∀ m, m ∈ ns → (∀ y, y ∈ ns → y ≤ m) → Q (.int m) H
def rMin (K : PySem.W.Frag) : List V → Hp → VK → Prop := fun vs H Q => ∃ (a : Addr) (ns : List Int), vs = [V.ref a] ∧ SqL K H a (ns.map V.int) ∧ 0 < ns.length ∧ ∀ m, m ∈ ns → (∀ y, y ∈ ns → m ≤ y) → Q (.int m) H
theorem cr_sum (hc : X.calm = true) : CallR X (.builtin "sum") (rSum X.K) := by
  intro pins s σ H vs us Q I r h
  obtain ⟨a, ns, rfl, hs, q⟩ := h
  obtain ⟨its, rv, hl, _⟩ := I.list hs
  rw [Vals.ref1 r]
  exact sum_raw (I.ok.hd hc) hl.isList rv.ints fun h' tk t' hk => ⟨.int _, H, I.kept hk, ⟨_, rfl⟩, q⟩
theorem cr_max (hc : X.calm = true) : CallR X (.builtin "max") (rMax X.K) := by
  intro pins s σ H vs us Q I r h
  obtain ⟨a, ns, rfl, hs, hne, q⟩ := h
  obtain ⟨its, rv, hl, _⟩ := I.list hs
  rw [Vals.ref1 r]
  exact max_raw (I.ok.hd hc) hl.isList rv.ints hne fun h' tk m t' hk h1 h2 => ⟨.int _, H, I.kept hk, ⟨_, rfl⟩, q m h1 h2⟩
theorem cr_min (hc : X.calm = true) : CallR X (.builtin "min") (rMin X.K) := by
  intro pins s σ H vs us Q I r h
  obtain ⟨a, ns, rfl, hs, hne, q⟩ := h
  obtain ⟨its, rv, hl, _⟩ := I.list hs
  rw [Vals.ref1 r]
  exact min_raw (I.ok.hd hc) hl.isList rv.ints hne fun h' tk m t' hk h1 h2 => ⟨.int _, H, I.kept hk, ⟨_, rfl⟩, q m h1 h2⟩

end

section
variable {X : Cx}
def rIndex (K : PySem.W.Frag) : V → List V → Hp → VK → Prop := fun x xs H Q => ∃ (a : Addr) (ys : List V) (y : V) (j : Nat) (z : V), x = V.ref a ∧ xs = [y] ∧ SqL K H a ys ∧ flatV y = true ∧ ys.all flatV = true ∧ ys[j]? = some z ∧ eqV z y = true ∧
  (∀ (m : Nat) (z' : V), m < j → ys[m]? = some z' → eqV z' y = false) ∧ Q (.int (j : Nat)) H
theorem flat_at {ys : List V} (f : ys.all flatV = true) {j : Nat} {z : V} (h : ys[j]? = some z) : flatV z = true := List.all_eq_true.mp f z (List.mem_of_getElem? h)
theorem mt_index : MtR X "list.index" (rIndex X.K) := by
  intro pins s σ H x xs v us Q I rx rxs h
  obtain ⟨a, ys, y, j, z, rfl, rfl, hs, fy, fys, hz, hzj, hno, q⟩ := h
  cases rx
  cases rxs with
  | cons ry rt =>
    rename_i uy ut
    cases rt
    obtain ⟨its, rv, ⟨⟨cls, dd, data, sl⟩, n, ho, hc, hdn, hd⟩, hlen⟩ := I.list hs
    simp only at hc hd
    subst hc hd
    obtain ⟨u, hu, ru⟩ := rv.get hz
    obtain ⟨hjl, hje⟩ := List.getElem?_eq_some_iff.mp hu
    have hvl := rv.length
    have hj : j < its.toArray.size := by simpa using hjl
    have hsl := sizeLine_eq
    refine call_meets PySem.F.slot_list_index ⟨_, ho, rfl⟩ PySem.F.entry_list_index (PySem.F.args_list_index_2 _ _)
      (SeqAt.list_indexAt a its.toArray n dd sl uy (eqU y) j hj (by omega) ?_ ?_) ⟨ho, fun u' hu' => mem_eqAt ry fy rv fys u' (by simpa using hu'), ?_⟩
    · have e1 : its.toArray[j] = u := by simpa using hje
      rw [e1, eqU_of ru (flat_at fys hz)]
      exact hzj
    · intro m hm hmj
      have hml : m < its.length := by simpa using hm
      have hmy : m < ys.length := by omega
      have hy' : ys[m]? = some ys[m] := List.getElem?_eq_getElem hmy
      obtain ⟨u2, hu2, ru2⟩ := rv.get hy'
      obtain ⟨_, hme⟩ := List.getElem?_eq_some_iff.mp hu2
      have e1 : its.toArray[m] = u2 := by simpa using hme
      rw [e1, eqU_of ru2 (flat_at fys hy')]
      exact hno m _ hmj hy'
    · exact ⟨.int (j : Nat), H, I.tok _, ⟨_, rfl⟩, q⟩
end

section
variable {X : Cx}
end

theorem iter_any {prog : Program} {w : World} {A : Around} {E : Value → Shared → Prop} {s : Shared} {l : Addr} {items : Array Value} {Q : Value → Shared → Prop} (hl : s.heap.IsList l items)
    (h : ∀ s₂ : Shared, s₂ = { s with heap := s.heap.push { cls := .type "list_iterator", data := .fields #[.ref l, .int 0 0] } } →
      (s₂.heap.IsListIter s.heap.objs.size l 0 ∧ s₂.heap.IsList l items) → l ≠ s.heap.objs.size → Q (.ref s.heap.objs.size) s₂) : wpAny (model prog w) A (pyIter (.ref l)) Q E s := by
  have hlt : l < s.heap.objs.size := by obtain ⟨_, e, _⟩ := hl; exact Heap.lt_size e
  exact wpAny_pyIter_list hl (h _ rfl ⟨⟨_, Heap.get?_push_size _ rfl, rfl, rfl⟩, hl.push _⟩ (Nat.ne_of_lt hlt))
theorem truth_bools {prog : Program} {w : World} {A : Around} {bs : List Bool} {its : List Value} (e : its = bs.map Value.bool) :
    TruthOf prog w A (fun i v => its.toArray[i]? = some v) (fun i => bs.getD i false) := fun i v s Q E hv hq => by
  have hv' : its[i]? = some v := by simpa using hv
  rw [e, List.getElem?_map] at hv'
  obtain ⟨b, hb, rfl⟩ := Option.map_eq_some_iff.mp hv'
  have hg : bs.getD i false = b := by rw [List.getD_eq_getElem?_getD, hb] <;> rfl
  have hq' : Q (bs.getD i false) s := hq
  rw [hg] at hq'
  exact wpAny_truthy_bool hq'
theorem all_range : ∀ bs : List Bool, (List.range bs.length).all (fun i => bs.getD i false) = bs.all id
  | [] => rfl
  | b :: bs => by
    rw [List.length_cons, List.range_succ_eq_map, List.all_cons, List.all_map, List.all_cons, ← all_range bs]
    all_goals rfl
section
variable {X : Cx}
def rAll (K : PySem.W.Frag) : List V → Hp → VK → Prop := fun vs H Q => ∃ (a : Addr) (bs : List Bool), vs = [V.ref a] ∧ SqL K H a (bs.map V.bl) ∧ Q (.bl (bs.all id)) H
theorem cr_all (hc : X.calm = true) : CallR X (.builtin "all") (rAll X.K) := by
  intro pins s σ H vs us Q I r h
  obtain ⟨a, bs, rfl, hs, q⟩ := h
  obtain ⟨its, rv, hl, _⟩ := I.list hs
  rw [Vals.ref1 r]
  have hb := rv.bls
  refine call_all_walk (iter_any hl.isList fun s₂ e2 st hne => ?_)
  subst e2
  refine ⟨_, _, _, _, _, _, _, rfl, Walks.list (A := X.A.in1) (I.ok.hd hc) _ a hne its.toArray, st, truth_bools hb, fun h' tk hk => ?_⟩
  refine ⟨.bl _, H, I.kept fun b o eo => hk b o (fun hmem => ?_) (Heap.get?_push_of_some _ eo), ?_, q⟩
  · rcases List.mem_cons.mp hmem with e1 | hmem
    · exact absurd (e1 ▸ Heap.lt_size eo) (Nat.lt_irrefl _)
    · cases hmem
  · show Value.bool _ = Value.bool _
    rw [← all_range, hb, List.size_toArray, List.length_map]
end

mutual
inductive Dp (K : PySem.W.Frag) (H : Hp) : V → PyData → Prop
  | non : Dp K H .non .none
  | bl (b : Bool) : Dp K H (.bl b) (.bool b)
  | int (i : Int) : Dp K H (.int i) (.int i)
  | str (x : Str) : Dp K H (.str x) (.str x)
  | lst {a : Addr} {xs : List V} {ds : List PyData} : SqL K H a xs → DpAll K H xs ds → Dp K H (.ref a) (.list ds)
  | tup {a : Addr} {xs : List V} {ds : List PyData} : SqT K H a xs → DpAll K H xs ds → Dp K H (.ref a) (.tuple ds)
inductive DpAll (K : PySem.W.Frag) (H : Hp) : List V → List PyData → Prop
  | nil : DpAll K H [] []
  | cons {v : V} {vs : List V} {d : PyData} {ds : List PyData} : Dp K H v d → DpAll K H vs ds → DpAll K H (v :: vs) (d :: ds)
end
section
variable {X : Cx} {pins : List (Addr × Obj)} {σ : St} {H : Hp} {s : Shared}
mutual
theorem Dp.reads (I : Inv X pins σ H s) : ∀ (d : PyData) (v : V) (u : Value), Dp X.K H v d → RelV v u → ∃ as, Reads s.heap u d as
  | .none, _, _, h, r => by
    cases h
    cases r
    exact ⟨_, Reads.none⟩
  | .bool b, _, _, h, r => by
    cases h
    cases r
    exact ⟨_, Reads.bool b⟩
  | .int i, _, _, h, r => by
    cases h
    obtain ⟨t, rfl⟩ := r
    exact ⟨_, Reads.int i t⟩
  | .str x, _, _, h, r => by
    cases h
    obtain ⟨t, rfl⟩ := r
    exact ⟨_, Reads.str x t⟩
  | .list ds, _, _, h, r => by
    cases h with
    | lst hs ha =>
      cases r
      obtain ⟨its, rv, ⟨o, n, ho, hc, _, hd⟩, _⟩ := I.list hs
      obtain ⟨as, hr⟩ := Dp.readsAll I ds _ its ha rv
      exact ⟨_, Reads.list ho hc hd hr⟩
  | .tuple ds, _, _, h, r => by
    cases h with
    | tup hs ha =>
      cases r
      obtain ⟨its, rv, ⟨o, ho, hc, n, hd⟩, _⟩ := I.tuple hs
      obtain ⟨as, hr⟩ := Dp.readsAll I ds _ its ha rv
      exact ⟨_, Reads.tuple ho hc hd hr⟩
  | .dict _, _, _, h, _ => by cases h
theorem Dp.readsAll (I : Inv X pins σ H s) : ∀ (ds : List PyData) (vs : List V) (us : List Value), DpAll X.K H vs ds → Vals vs us → ∃ as, ReadsAll s.heap us ds as
  | [], _, _, h, r => by
    cases h
    cases r
    exact ⟨_, ReadsAll.nil⟩
  | d :: ds, _, _, h, r => by
    cases h with
    | cons h1 h2 =>
      cases r with
      | cons r1 r2 =>
        obtain ⟨as, q1⟩ := Dp.reads I d _ _ h1 r1
        obtain ⟨bs, q2⟩ := Dp.readsAll I ds _ _ h2 r2
        exact ⟨_, ReadsAll.cons q1 q2⟩
end
end
section
variable {X : Cx}
end
end L2

namespace L2
open PySem PySem.Spec PyProof.Rows
abbrev CellAt (h : Heap) (c : Addr) (v : Option Value) : Prop := h.IsCell c v
def relS (scope sc : Scope) : Scope :=
  { scope with names := scope.names.map fun (n, k) => if (k == .free && sc.kind == .function && sc.names.lookup n == some .cell) then (n, .cell) else (n, k) }

def cloFrom (cells : List (Str × Addr)) : List (Str × NameKind) → List (Str × Addr) → List (Str × Addr)
  | [], acc => acc
  | (n, k) :: r, acc => if k == .free then cloFrom cells r ((n, (cells.lookup n).getD 0) :: acc) else cloFrom cells r acc

theorem closure_loop (env : Env) (f : Str × NameKind → List (Str × Addr) → Sem (ForInStep (List (Str × Addr))))
    (hf : ∀ n k c, f (n, k) c = if k == .free then (do let a ← cellOf env n; pure (.yield ((n, a) :: c))) else pure (.yield c)) :
    ∀ (names : List (Str × NameKind)) (acc : List (Str × Addr)), (∀ y ∈ names, y.2 = .free → ∃ c, env.cells.lookup y.1 = some c) → forIn names acc f = pure (cloFrom env.cells names acc)
  | [], acc, _ => by rw [List.forIn_nil]; rfl
  | (n, k) :: r, acc, h => by
    rw [List.forIn_cons, hf]
    have ih := fun acc => closure_loop env f hf r acc fun y hy => h y (List.mem_cons_of_mem _ hy)
    unfold cloFrom
    by_cases hk : (k == NameKind.free) = true
    · rw [if_pos hk, if_pos hk]
      obtain ⟨c, hc⟩ := h (n, k) List.mem_cons_self (by simpa using hk)
      have e : cellOf env n = pure c := by unfold cellOf; rw [hc]
      rw [e]
      have e2 : (env.cells.lookup n).getD 0 = c := by rw [hc]; rfl
      rw [e2]
      exact ih _
    · rw [if_neg hk, if_neg hk]
      exact ih _
theorem closure_ok {scope : Scope} {env : Env} (h : ∀ y ∈ scope.names, y.2 = .free → ∃ c, env.cells.lookup y.1 = some c) : closureFor scope env = pure (cloFrom env.cells scope.names []) := by
  simp only [closureFor]
  rw [closure_loop env _ (fun n k c => rfl) scope.names [] h]
  rfl

theorem mem_lookup {α : Type} : ∀ {l : List (Str × α)} {n : Str} {c : α}, (n, c) ∈ l → ∃ c', l.lookup n = some c'
  | (k, v) :: r, n, c, h => by
    rw [List.lookup_cons]
    cases hb : n == k with
    | true => exact ⟨_, rfl⟩
    | false =>
      rcases List.mem_cons.mp h with e | h
      · cases e; simp at hb
      · exact mem_lookup h

theorem cloFrom_mem {cells : List (Str × Addr)} : ∀ {names : List (Str × NameKind)} {acc : List (Str × Addr)} {n : Str} {c : Addr}, (n, c) ∈ cloFrom cells names acc → (n, c) ∈ acc ∨ ((n, .free) ∈ names ∧ c = (cells.lookup n).getD 0)
  | [], _, _, _, h => .inl h
  | (m, k) :: r, acc, n, c, h => by
    unfold cloFrom at h
    split at h
    · rename_i hk
      have hk : k = .free := by simpa using hk
      rcases cloFrom_mem h with h | ⟨h1, h2⟩
      · rcases List.mem_cons.mp h with e | h
        · cases e; exact .inr ⟨hk ▸ List.mem_cons_self, rfl⟩
        · exact .inl h
      · exact .inr ⟨List.mem_cons_of_mem _ h1, h2⟩
    · rcases cloFrom_mem h with h | ⟨h1, h2⟩
      · exact .inl h
      · exact .inr ⟨List.mem_cons_of_mem _ h1, h2⟩
theorem cloFrom_acc {cells : List (Str × Addr)} : ∀ {names : List (Str × NameKind)} {acc : List (Str × Addr)} {p : Str × Addr}, p ∈ acc → p ∈ cloFrom cells names acc
  | [], _, _, h => h
  | (m, k) :: r, acc, p, h => by
    unfold cloFrom
    split
    · exact cloFrom_acc (List.mem_cons_of_mem _ h)
    · exact cloFrom_acc h
theorem cloFrom_has {cells : List (Str × Addr)} : ∀ {names : List (Str × NameKind)} {acc : List (Str × Addr)} {n : Str}, (n, .free) ∈ names → (n, (cells.lookup n).getD 0) ∈ cloFrom cells names acc
  | (m, k) :: r, acc, n, h => by
    unfold cloFrom
    rcases List.mem_cons.mp h with e | h
    · cases e
      exact cloFrom_acc List.mem_cons_self
    · split
      · exact cloFrom_has h
      · exact cloFrom_has h

theorem cells_mem : ∀ {names : List (Str × NameKind)} {h : Heap} {acc : List (Str × Addr)} {x : Str} {c : Addr}, (x, c) ∈ cellsFrom h.objs.size names acc →
    (x, c) ∈ acc ∨ ((x, .cell) ∈ names ∧ h.objs.size ≤ c ∧ CellAt (pushCells h names) c none)
  | [], _, _, _, _, h => .inl h
  | (n, k) :: r, h, acc, x, c, hm => by
    unfold cellsFrom at hm
    unfold pushCells
    split at hm
    · rename_i hk
      rw [if_pos hk]
      have hk : k = .cell := by simpa using hk
      rw [← Heap.size_push h { cls := .type "cell", data := .cell none }] at hm
      rcases cells_mem hm with hm | ⟨h1, h2, h3⟩
      · rcases List.mem_cons.mp hm with e | hm
        · cases e
          exact .inr ⟨hk ▸ List.mem_cons_self, Nat.le_refl _, _, pushCells_keeps r _ _ _ (Heap.get?_push_size _ rfl), rfl⟩
        · exact .inl hm
      · rw [Heap.size_push] at h2
        exact .inr ⟨List.mem_cons_of_mem _ h1, Nat.le_of_succ_le h2, h3⟩
    · rename_i hk
      rw [if_neg hk]
      rcases cells_mem hm with hm | ⟨h1, h2, h3⟩
      · exact .inl hm
      · exact .inr ⟨List.mem_cons_of_mem _ h1, h2, h3⟩
theorem cells_acc : ∀ {names : List (Str × NameKind)} {n : Nat} {acc : List (Str × Addr)} {p : Str × Addr}, p ∈ acc → p ∈ cellsFrom n names acc
  | [], _, _, _, h => h
  | (m, k) :: r, n, acc, p, h => by
    unfold cellsFrom
    split
    · exact cells_acc (List.mem_cons_of_mem _ h)
    · exact cells_acc h
theorem cells_has : ∀ {names : List (Str × NameKind)} {n : Nat} {acc : List (Str × Addr)} {x : Str}, (x, .cell) ∈ names → ∃ c, (x, c) ∈ cellsFrom n names acc
  | (m, k) :: r, n, acc, x, h => by
    unfold cellsFrom
    rcases List.mem_cons.mp h with e | h
    · cases e
      exact ⟨n, cells_acc List.mem_cons_self⟩
    · split
      · exact cells_has h
      · exact cells_has h
theorem cells_inj : ∀ {names : List (Str × NameKind)} {h : Heap} {acc : List (Str × Addr)} {x y : Str} {c : Addr}, (∀ p ∈ acc, p.2 < h.objs.size) → (∀ x y c, (x, c) ∈ acc → (y, c) ∈ acc → x = y) →
    (x, c) ∈ cellsFrom h.objs.size names acc → (y, c) ∈ cellsFrom h.objs.size names acc → x = y
  | [], _, _, _, _, _, _, hi, h1, h2 => hi _ _ _ h1 h2
  | (n, k) :: r, h, acc, x, y, c, hl, hi, h1, h2 => by
    unfold cellsFrom at h1 h2
    split at h1
    · rename_i hk
      rw [if_pos hk] at h2
      rw [← Heap.size_push h { cls := .type "cell", data := .cell none }] at h1 h2
      refine cells_inj (h := h.push _) (fun p hp => ?_) (fun x y c a b => ?_) h1 h2
      · rw [Heap.size_push]
        rcases List.mem_cons.mp hp with rfl | hp
        · exact Nat.lt_succ_self _
        · exact Nat.lt_succ_of_lt (hl p hp)
      · rcases List.mem_cons.mp a with e | a <;> rcases List.mem_cons.mp b with e' | b
        · cases e; cases e'; rfl
        · cases e; exact absurd (hl _ b) (Nat.lt_irrefl _)
        · cases e'; exact absurd (hl _ a) (Nat.lt_irrefl _)
        · exact hi _ _ _ a b
    · rename_i hk
      rw [if_neg hk] at h2
      exact cells_inj hl hi h1 h2

theorem newEnv_comp {M : Model} {A : Around} {E : Value → Shared → Prop} {s : Shared} {scope : Scope} {globals : Addr} {closure : List (Str × Addr)} {qual : Str} {func : Option Addr} {code : Value} {around : Env} {builtins : Addr} {Q : Env → Shared → Prop}
    (h : Q (newEnv scope s.heap.objs.size globals (cellsFrom (s.heap.objs.size + 1) scope.names closure) qual func code (some around) builtins)
      { s with heap := pushCells (s.heap.push { cls := .type "dict", data := .dict #[] }) scope.names }) :
    wpAny M A (newFunctionEnv scope globals closure [] qual func code (some around) builtins) Q E s := by
  simp only [newFunctionEnv, Option.isSome_some, if_true]
  refine wpAny_bind (wpAny_alloc ?_)
  refine wpAny_bind (wpAny_layCells _ (fun n k c => rfl) scope.names closure _ _ ?_)
  rw [show ({ s with heap := s.heap.push { cls := .type "dict", data := .dict #[] } } : Shared).heap.objs.size = s.heap.objs.size + 1 from Heap.size_push ..]
  rw [List.forIn_nil]
  exact wpAny_bind (wpAny_pure (wpAny_pure h))

theorem lookup_relS {sc : Scope} : ∀ {names : List (Str × NameKind)} {x : Str} {k : NameKind},
    (names.map fun (n, k) => if (k == NameKind.free && sc.kind == .function && sc.names.lookup n == some .cell) then (n, NameKind.cell) else (n, k)).lookup x = some k →
    ∃ k', names.lookup x = some k' ∧ (k = k' ∨ (k' = .free ∧ k = .cell))
  | [], _, _, h => by simp at h
  | (n, k₀) :: r, x, k, h => by
    have ih := @lookup_relS sc r x k
    have h' : List.lookup x ((if (k₀ == NameKind.free && sc.kind == .function && sc.names.lookup n == some .cell) = true then (n, NameKind.cell) else (n, k₀)) :: (r.map _)) = some k := h
    cases hx : x == n with
    | true =>
      simp only [List.lookup_cons, hx]
      by_cases hc : (k₀ == NameKind.free && sc.kind == .function && sc.names.lookup n == some .cell) = true
      · rw [if_pos hc] at h'
        simp only [List.lookup_cons, hx] at h'
        cases h'
        simp only [Bool.and_eq_true, beq_iff_eq] at hc
        exact ⟨k₀, rfl, .inr ⟨hc.1.1, rfl⟩⟩
      · rw [if_neg hc] at h'
        simp only [List.lookup_cons, hx] at h'
        cases h'
        exact ⟨_, rfl, .inl rfl⟩
    | false =>
      simp only [List.lookup_cons, hx]
      by_cases hc : (k₀ == NameKind.free && sc.kind == .function && sc.names.lookup n == some .cell) = true
      · rw [if_pos hc] at h'
        simp only [List.lookup_cons, hx] at h'
        exact ih h'
      · rw [if_neg hc] at h'
        simp only [List.lookup_cons, hx] at h'
        exact ih h'
structure BlkOk (N : List Str) (sc scope : Scope) (own : List (Str × Nat)) : Prop where
  kind : scope.kind = .function
  uniq : ∀ y ∈ scope.names, scope.names.lookup y.1 = some y.2
  ix : ∀ p ∈ own, N[p.2]? = some p.1
  free : ∀ y ∈ scope.names, y.2 = .free → sc.names.lookup y.1 = some .cell ∨ sc.names.lookup y.1 = some .free
  own : ∀ y ∈ scope.names, y.2 = .local ∨ y.2 = .cell → y.1 ∈ own.map (·.1) ∨ y.1 ∉ N
def wipe (σ : St) : List Nat → St
  | [] => σ
  | v :: vs => (wipe σ vs).set v none
theorem wipe_length (σ : St) : ∀ vs : List Nat, (wipe σ vs).length = σ.length
  | [] => rfl
  | v :: vs => by unfold wipe; rw [List.length_set, wipe_length σ vs]
theorem wipe_some {σ : St} {i : Nat} {x : V} : ∀ {vs : List Nat}, (wipe σ vs)[i]? = some (some x) → σ[i]? = some (some x) ∧ i ∉ vs
  | [], h => ⟨h, by simp⟩
  | v :: vs, h => by
    unfold wipe at h
    by_cases hi : v = i
    · subst hi
      by_cases hv : v < (wipe σ vs).length
      · rw [List.getElem?_set_self hv] at h; cases h
      · rw [List.getElem?_eq_none (by simpa using hv)] at h; cases h
    · rw [List.getElem?_set_ne hi] at h
      obtain ⟨h1, h2⟩ := wipe_some h
      exact ⟨h1, by simp only [List.mem_cons, not_or]; exact ⟨fun e => hi e.symm, h2⟩⟩

abbrev Cx.blk (X : Cx) (s : Shared) (H : Hp) (scope : Scope) (cenv : Env) (fp : List Addr) : Cx := { X with s_0 := s, H_0 := H, env := cenv, outer := X.stack, ex := fp, fn := fun x => scope.names.lookup x == some .cell, pn := [], xe := fun _ _ => False }
section
variable {X : Cx} {pins : List (Addr × Obj)} {σ : St} {H : Hp} {s : Shared}
theorem block_start {scope : Scope} {own : List (Str × Nat)} {fp : List Addr} (I : Inv X pins σ H s) (ok : BlkOk X.N X.env.scope scope own) (hN : X.N.Nodup) (hfp : ∀ b ∈ fp, FpOk X pins H b ∧ b < s.heap.objs.size) :
    Inv (X.blk s H scope (compEnvC scope (cellsFrom (s.heap.objs.size + 1) scope.names (cloFrom X.env.cells scope.names [])) s.heap.objs.size X.env) fp) [] (wipe σ (own.map (·.2))) H { s with heap := pushCells (s.heap.push { cls := .type "dict", data := .dict #[] }) scope.names } := by
  have hfree : ∀ y ∈ scope.names, y.2 = .free → ∃ c, X.env.cells.lookup y.1 = some c := fun y hy e => by
    rcases ok.free y hy e with k | k
    · exact I.ok.has _ (.inl k)
    · exact I.ok.has _ (.inr k)
  generalize hcenv : compEnvC scope (cellsFrom (s.heap.objs.size + 1) scope.names (cloFrom X.env.cells scope.names [])) s.heap.objs.size X.env = cenv
  have kp : ∀ b o, s.heap.get? b = some o → (pushCells (s.heap.push { cls := .type "dict", data := .dict #[] }) scope.names).get? b = some o := fun b o e => pushCells_keeps _ _ _ _ (Heap.get?_push_of_some _ e)
  have hL : cenv.locals = s.heap.objs.size := by rw [← hcenv]; rfl
  have hcl : cenv.cells = cellsFrom (s.heap.objs.size + 1) scope.names (cloFrom X.env.cells scope.names []) := by rw [← hcenv]; rfl
  have hsc : cenv.scope = relS scope X.env.scope := by rw [← hcenv]; rfl
  rw [← Heap.size_push s.heap { cls := .type "dict", data := .dict #[] }] at hcl
  have cm : ∀ {y c}, (y, c) ∈ cloFrom X.env.cells scope.names [] → X.env.cells.lookup y = some c ∧ c < s.heap.objs.size := fun {y c} hm => by
    rcases cloFrom_mem hm with hm | ⟨h1, rfl⟩
    · cases hm
    · obtain ⟨c, hc⟩ := hfree _ h1 rfl
      rw [hc]
      obtain ⟨w, z⟩ := I.cell _ _ hc
      exact ⟨rfl, z.lt⟩
  have mem : ∀ {y c}, cenv.cells.lookup y = some c → (X.env.cells.lookup y = some c ∧ c < s.heap.objs.size) ∨ (s.heap.objs.size + 1 ≤ c ∧ CellAt (pushCells (s.heap.push { cls := .type "dict", data := .dict #[] }) scope.names) c none) := fun {y c} e => by
    rw [hcl] at e
    rcases cells_mem (PySem.mem_of_lookup e) with hm | ⟨_, h2, h3⟩
    · exact .inl (cm hm)
    · rw [Heap.size_push] at h2; exact .inr ⟨h2, h3⟩
  have look : ∀ {y}, scope.names.lookup y = some .free → ∃ c, cenv.cells.lookup y = some c ∧ X.env.cells.lookup y = some c := fun {y} hl => by
    have hy : (y, NameKind.free) ∈ scope.names := PySem.mem_of_lookup hl
    obtain ⟨c', e'⟩ := mem_lookup (cells_acc (names := scope.names) (n := (s.heap.push { cls := .type "dict", data := .dict #[] }).objs.size) (cloFrom_has (cells := X.env.cells) (acc := []) hy))
    rw [← hcl] at e'
    refine ⟨c', e', ?_⟩
    rw [hcl] at e'
    rcases cells_mem (PySem.mem_of_lookup e') with hm | ⟨h1, _, _⟩
    · exact (cm hm).1
    · have := ok.uniq _ h1
      rw [hl] at this; cases this
  have okB : (X.blk s H scope cenv fp).Ok := by
    refine ⟨I.ok.mod, by show cenv.scope.kind = _; rw [hsc]; exact ok.kind, by show cenv.globals = _; rw [← hcenv]; exact I.ok.glob, by show cenv.builtins = _; rw [← hcenv]; exact I.ok.blt, by show s.heap.objs.size ≤ cenv.locals; rw [hL]; exact Nat.le_refl _,
      fun y z c e1 e2 => ?_, fun y hy => ?_, fun y c z e => ?_, I.ok.hd, I.ok.frames, .inl rfl, fun b hb => ⟨?_, fun y c e z => ?_⟩, I.bs, Nat.le_trans I.ok.bsz I.sz, fun b o e hb => ?_, fun b hb z => ?_, I.stack, I.stkFree⟩
    · have e1 : cenv.cells.lookup y = some c := e1
      have e2 : cenv.cells.lookup z = some c := e2
      rw [hcl] at e1 e2
      refine cells_inj (fun p hp => ?_) (fun y z c a b => I.ok.inj y z c (cm a).1 (cm b).1) (PySem.mem_of_lookup e1) (PySem.mem_of_lookup e2)
      rw [Heap.size_push]
      exact Nat.lt_succ_of_lt (cm (y := p.1) (c := p.2) hp).2
    · show ∃ c, cenv.cells.lookup y = some c
      have key : ∀ k, cenv.kindOf y = some k → (k = .cell ∨ k = .free) → ∃ c, cenv.cells.lookup y = some c := fun k hk hk' => by
        unfold Env.kindOf at hk
        rw [hsc] at hk
        obtain ⟨k', e, r⟩ := lookup_relS hk
        have : k' = .cell ∨ k' = .free := by
          rcases r with rfl | ⟨rfl, _⟩
          · exact hk'
          · exact .inr rfl
        rcases this with rfl | rfl
        · obtain ⟨c, hm⟩ := cells_has (n := (s.heap.push { cls := .type "dict", data := .dict #[] }).objs.size) (acc := cloFrom X.env.cells scope.names []) (PySem.mem_of_lookup e)
          obtain ⟨c', e'⟩ := mem_lookup hm
          exact ⟨c', by rw [hcl]; exact e'⟩
        · obtain ⟨c, h1, _⟩ := look e
          exact ⟨c, h1⟩
      rcases hy with hy | hy
      · exact key _ hy (.inl rfl)
      · exact key _ hy (.inr rfl)
    · have z : (scope.names.lookup y == some NameKind.cell) = true := z
      have z : scope.names.lookup y = some .cell := by simpa using z
      have e : cenv.cells.lookup y = some c := e
      rw [hcl] at e
      rcases cells_mem (PySem.mem_of_lookup e) with hm | ⟨_, h2, _⟩
      · rcases cloFrom_mem hm with hm | ⟨h1, _⟩
        · cases hm
        · have q := ok.uniq _ h1
          rw [z] at q; cases q
      · rw [Heap.size_push] at h2
        exact Nat.le_of_succ_le h2
    · show b ≠ cenv.locals
      rw [hL]; exact Nat.ne_of_lt (hfp b hb).2
    · have e : cenv.cells.lookup y = some c := e
      rcases mem e with ⟨h1, _⟩ | ⟨h1, _⟩
      · exact (hfp b hb).1.2.2.2.2.1 y c h1 z
      · have h2 : s.heap.objs.size + 1 ≤ b := by rw [← z]; exact h1
        exact absurd (Nat.lt_of_lt_of_le (hfp b hb).2 (Nat.le_of_succ_le h2)) (Nat.lt_irrefl _)
    · rcases (hfp b hb).1.2.2.2.1 with z | z
      · exact I.ok.noex b o e z
      · exact absurd (Nat.lt_of_lt_of_le (Heap.lt_size e) (Nat.le_trans I.ok.bsz z)) (Nat.lt_irrefl _)
    · rcases List.mem_cons.mp (I.stkSub b z) with z | z
      · exact (hfp b hb).1.2.1 z
      · exact (hfp b hb).1.2.2.1 z
  refine ⟨okB, rfl, I.bare, Un.kept kp, ⟨fun _ => none, ?_, fun i y av e1 e2 e3 => ?_⟩, fun y c e => ?_, ?_, fun y c e => ?_, fun p hp => ?_, I.hok.kept kp, by rw [wipe_length]; exact I.len⟩
  · show Heap.Ns _ cenv.locals _
    rw [hL]
    exact Heap.Ns.keeps (Heap.Ns.new ..) fun b o e => pushCells_keeps _ _ _ _ e
  · obtain ⟨e2, hne⟩ := wipe_some e2
    have hfr : scope.names.lookup y = some .free ∧ (cenv.kindOf y = some .cell ∨ cenv.kindOf y = some .free) := by
      have key : ∀ k, cenv.scope.names.lookup y = some k → k = .local ∨ k = .cell ∨ k = .free → scope.names.lookup y = some .free ∧ (cenv.kindOf y = some .cell ∨ cenv.kindOf y = some .free) := fun k hk hk' => by
        have hk0 := hk
        rw [hsc] at hk
        obtain ⟨k', e, r⟩ := lookup_relS hk
        have no : ¬ (k' = .local ∨ k' = .cell) := fun hh => by
          rcases ok.own _ (PySem.mem_of_lookup e) hh with e' | e'
          · obtain ⟨p, hp, hpy⟩ := List.mem_map.mp e'
            have e3 := ok.ix p hp
            have : p.1 = y := hpy
            rw [this] at e3
            exact hne (List.mem_map.mpr ⟨p, hp, nodup_ix hN e3 e1⟩)
          · exact e' (List.mem_of_getElem? e1)
        rcases r with rfl | ⟨rfl, rfl⟩
        · rcases hk' with rfl | rfl | rfl
          · exact absurd (.inl rfl) no
          · exact absurd (.inr rfl) no
          · exact ⟨e, .inr hk0⟩
        · exact ⟨e, .inl hk0⟩
      have e3 : Vis cenv.scope y := e3
      rcases e3 with e3 | e3 | e3
      · exact key _ e3 (.inl rfl)
      · exact key _ e3 (.inr (.inl rfl))
      · exact key _ e3 (.inr (.inr rfl))
    obtain ⟨m, hn, hl⟩ := I.loc
    have hvis : Vis X.env.scope y := (ok.free _ (PySem.mem_of_lookup hfr.1) rfl).elim (fun k => .inr (.inl k)) (fun k => .inr (.inr k))
    obtain ⟨w, r, q⟩ := hl i y av e1 e2 hvis
    refine ⟨w, r, .inr ⟨hfr.2, ?_⟩⟩
    obtain ⟨c, h1, h2⟩ := look hfr.1
    rcases q with ⟨k, _⟩ | ⟨_, c', e', z⟩
    · have k : X.env.scope.names.lookup y = some .local := k
      rcases ok.free _ (PySem.mem_of_lookup hfr.1) rfl with k' | k' <;> rw [show X.env.scope.names.lookup y = _ from k'] at k <;> cases k
    · rw [h2] at e'; cases e'
      exact ⟨c, h1, z.keeps kp⟩
  · have e : cenv.cells.lookup y = some c := e
    rcases mem e with ⟨h1, _⟩ | ⟨_, z⟩
    · obtain ⟨w, z⟩ := I.cell y c h1
      exact ⟨w, z.keeps kp⟩
    · exact ⟨_, z⟩
  · show H cenv.locals = none
    rw [hL]; exact I.hok.fresh (Nat.le_refl _)
  · have e : cenv.cells.lookup y = some c := e
    rcases mem e with ⟨h1, _⟩ | ⟨h1, _⟩
    · exact I.freeC y c h1
    · exact I.hok.fresh (Nat.le_of_succ_le h1)
  · exact absurd (show p ∈ ([] : List (Addr × Obj)) ++ [] from hp) (by simp)

theorem app_ok {E : Value → Shared → Prop} {D : Addr} {xs : List V} {y : V} {v : Value} {Q : Value → Shared → Prop} (I : Inv X pins σ H s) (hD : H D = some (.lst xs)) (hz : xs.length < sizeLine) (r : RelV y v)
    (h : ∀ s', Inv X pins σ (upd H D (.lst (xs ++ [y]))) s' → Q .none s') : wpAny (model X.prog X.w) X.A (call (.builtin "list.append") [.ref D, v]) Q E s := by
  obtain ⟨hz', its, n, ri, e⟩ := I.hok D _ hD
  have hl := ri.length
  refine append_at (hsz := by rw [List.size_toArray]; omega) e fun h' sb ho' => ?_
  refine h { s with heap := h' } (I.write (t' := s.toks) (by rw [hD]; trivial) (.inl rfl) (fun b u hb q => (sb.2 b hb).trans q) ⟨_, ho'⟩ ⟨by rw [List.length_append]; exact hz, its ++ [v], n + 1, ri.append (.cons r .nil), ?_⟩)
  rw [ho']
  simp

def PTs (X : Cx) (ifs : List Expr) (t : TT) : Prop :=
  ∀ (pins : List (Addr × Obj)) (s : Shared) (σ : St) (H : Hp) (Q : Bool → Hp → Prop), Inv X pins σ H s → t σ H Q →
    wpAny (model X.prog X.w) X.A (forIn ifs true fun c r => if r = true then do let ok ← isTrue c X.env (eval c X.env); pure (ForInStep.yield ok) else pure (ForInStep.yield r)) (TP X pins σ Q) X.xe s
def tYes : TT := fun _ H Q => Q true H
theorem pts_nil : PTs X [] tYes := fun _ _ _ H _ I h => wpAny_tests_nil ⟨H, I, h⟩
theorem pts_one {c : Expr} {t : TT} (h : PT X c t) : PTs X [c] t := fun pins s σ H Q I hw => wpAny_tests_one (h pins s σ H Q I hw)
end

theorem thnF {α : Type} {t : Sem α} {Q Q' : α → Shared → Prop} {M : Model} {A : Around} {E : Value → Shared → Prop} {s : Shared} (h : wpAny M A t Q (fun _ _ => False) s) (hQ : ∀ a s, Q a s → Q' a s) : wpAny M A t Q' E s := wpAny_mono h hQ fun _ _ z => False.elim z

theorem compLoop_any {prog : Program} {w : World} {A : Around} {R : Result → Shared → Prop} {s : Shared} {elt target iter : Expr} {ifs : List Expr} {scope : Scope} {pos : Pos} {it acc : Value} {env : Env} (I : Nat → Shared → Prop)
    (turn : ∀ n s, I n s → wpAny (model prog w) A (pyNext it) (fun r s₁ => match r with
      | none => R (.ok .next) s₁
      | some v => wpAny (model prog w) A (letOwnedTupleGo target it v) (fun _ s₁' => wpAny (model prog w) A (assign target env v) (fun _ s₂ =>
          wpAny (model prog w) A (forIn ifs true fun c r => if r = true then do let ok ← isTrue c env (eval c env); pure (ForInStep.yield ok) else pure (ForInStep.yield r)) (fun ok s₃ =>
            if ok = true then wpAny (model prog w) A (eval elt env) (fun x s₄ =>
              wpAny (model prog w) A (call (.builtin "list.append") [acc, x]) (fun _ s₅ => ∃ m, m < n ∧ I m s₅) (notedBy (model prog w) A env fun e s' => R (.error e) s') s₄) (notedBy (model prog w) A env fun e s' => R (.error e) s') s₃
            else ∃ m, m < n ∧ I m s₃) (notedBy (model prog w) A env fun e s' => R (.error e) s') s₂) (notedBy (model prog w) A env fun e s' => R (.error e) s') s₁') (notedBy (model prog w) A env fun e s' => R (.error e) s') s₁) (notedBy (model prog w) A env fun e s' => R (.error e) s') s)
    (n : Nat) (h : I n s) :
    codeAny (model prog w) A (.compLoop (.ListComp elt [⟨target, iter, ifs, 0⟩] scope pos) 0 it acc env) R s := by
  refine codeAny_loop rfl I (fun n s hI => ?_) n h
  show wpAny _ A ((compTurn (.ListComp elt [⟨target, iter, ifs, 0⟩] scope pos) 0 it acc env).onRaise (fun x => do noteFrame x env; theTreesLotGoes x)) _ _ s
  refine wpAny_noted ?_
  rw [compTurn_list]
  refine wpAny_bind (wpAny_standAt (wpAny_bind (wpAny_mono (turn n s hI) (fun r s₁ h₁ => ?_) fun _ _ h' => h')))
  cases r with
  | none => exact wpAny_pure h₁
  | some v =>
    refine wpAny_bind (wpAny_mono h₁ (fun _ s₁' h₁' => ?_) fun _ _ h' => h')
    refine wpAny_bind (wpAny_mono h₁' (fun _ s₂ h₂ => wpAny_bind (wpAny_mono h₂ (fun ok s₃ h₃ => ?_) fun _ _ h' => h')) fun _ _ h' => h')
    cases ok with
    | false => exact wpAny_pure ⟨rfl, h₃⟩
    | true =>
      exact wpAny_bind (wpAny_bind (wpAny_mono h₃ (fun x s₄ h₄ => wpAny_bind (wpAny_mono h₄ (fun _ s₅ h₅ => wpAny_pure (wpAny_pure ⟨rfl, h₅⟩)) fun _ _ h' => h')) fun _ _ h' => h'))

section
variable {X : Cx}
def tLc (wi : TI) (g : TG) (tt : TT) (te : TE) (vs : List Nat) : TE := fun σ H Q => wi σ H fun J H1 => ∀ D, H1 D = none → ∃ W : Nat → Nat → Hp → Prop, (∃ m, W 0 m (upd H1 D (.lst []))) ∧ ∀ i m H, W i m H →
  (J.stop i H ∧ Q (.ref D) H) ∨ (J.go i H ∧ ∃ Nx : Hp → Prop, (∀ H', Nx H' → ∃ m', m' < m ∧ W (i + 1) m' H') ∧ ∀ x H', J.yld i H x H' → g x (wipe σ vs) H' fun σ2 H2 => wipe σ2 vs = wipe σ vs ∧ tt σ2 H2 fun b H3 =>
    if b = true then te σ2 H3 fun y H4 => ∃ acc, H4 D = some (.lst acc) ∧ acc.length < sizeLine ∧ Nx (upd H4 D (.lst (acc ++ [y]))) else Nx H3)
theorem lc_core {pins : List (Addr × Obj)} {s : Shared} {σ : St} {H : Hp} {Q : VK} {elt tg iter : Expr} {ifs : List Expr} {scope : Scope} {own : List (Str × Nat)} {pos pos' : Pos} {wi : TI} {g : TG} {tt : TT} {te : TE} {use : Option (Value → Sem Unit)} {Qf : Value → Shared → Prop}
    (hc : X.calm = true) (hN : X.N.Nodup) (I : Inv X pins σ H s) (hi : PI X tg iter wi) (ok : BlkOk X.N X.env.scope scope own)
    (hg : ∀ (s : Shared) (H : Hp) (C : Addr) (cl : List (Str × Addr)) (fp : List Addr), PG (X.blk s H scope (compEnvC scope cl C X.env) fp) tg g) (ht : ∀ (s : Shared) (H : Hp) (C : Addr) (cl : List (Str × Addr)) (fp : List Addr), PTs (X.blk s H scope (compEnvC scope cl C X.env) fp) ifs tt)
    (he : ∀ (s : Shared) (H : Hp) (C : Addr) (cl : List (Str × Addr)) (fp : List Addr), PE (X.blk s H scope (compEnvC scope cl C X.env) fp) elt te) (hs : ∀ x, foldedSetIterable iter X.env x = pure x)
    (h : tLc wi g tt te (own.map (·.2)) σ H Q)
    (hRR : ∀ D C s' m H', Inv X pins σ H' s' → Q (.ref D) H' → s'.heap.Ns C m → FpOk X pins H' C → compPost (model X.prog X.w) X.A X.xe use Qf (.ref D) C (.ok .next) s') :
    wpAny (model X.prog X.w) X.A (comprehension (.ListComp elt [⟨tg, iter, ifs, 0⟩] scope pos) scope X.env pos' (newList []) false (eval iter X.env) use) Qf X.xe s := by
  have hfree : ∀ y ∈ scope.names, y.2 = .free → ∃ c, X.env.cells.lookup y.1 = some c := fun y hy e => by
    rcases ok.free y hy e with k | k
    · exact I.ok.has _ (.inl k)
    · exact I.ok.has _ (.inr k)
  refine wpAny_comprehension_free (use := use) rfl hs (closure_ok hfree) ok.kind (fun y hy e => by rw [ok.uniq y hy, e])
    (thn (hi pins s σ H _ I h) fun xv s1 hx => thn hx fun itv s2 h2 => ?_)
  obtain ⟨it, fp, tn, J, H2, e, I2, T, st2, f2, q⟩ := h2
  subst e
  refine wpAny_newObj_type (newEnv_comp ?_) (by show 0 ≤ sizeLine; decide)
  generalize hD : s2.heap.objs.size = D
  have hDn : H2 D = none := I2.hok.fresh (Nat.le_of_eq hD)
  obtain ⟨W, ⟨m0, w0⟩, turn⟩ := q D hDn
  -- the new list
  generalize hs3 : ({ s2 with heap := s2.heap.push { cls := .type "list", data := .seq ([] : List Value).toArray } } : Shared) = s3
  have I3 : Inv X pins σ (upd H2 D (.lst [])) s3 := by
    rw [← hs3]
    refine I2.laid (t' := s2.toks) (fun b o e => Heap.get?_push_of_some _ e) (Nat.le_of_eq hD) ⟨Nat.zero_le _, [], 0, .nil, ?_⟩
    rw [← hD]
    exact Heap.get?_push_size _ rfl
  have h3 : s3.heap = s2.heap.push { cls := .type "list", data := .seq ([] : List Value).toArray } := by rw [← hs3]
  have sz : ∀ b ∈ fp, b < s2.heap.objs.size := fun b hb => by
    obtain ⟨o, e, _⟩ := T.obj _ _ st2 b hb
    exact Heap.lt_size e
  have f3 : ∀ b ∈ fp, FpOk X pins (upd H2 D (.lst [])) b ∧ b < s3.heap.objs.size := fun b hb => by
    have hlt := sz b hb
    refine ⟨⟨?_, (f2 b hb).2⟩, by rw [h3, Heap.size_push]; exact Nat.lt_succ_of_lt hlt⟩
    rw [upd_ne (by rw [← hD]; exact Nat.ne_of_lt hlt)]
    exact (f2 b hb).1
  have st3 : tn 0 s3.heap := T.keep _ _ _ st2 fun b _ o e => by rw [h3]; exact Heap.get?_push_of_some _ e
  have I4 := block_start I3 ok hN f3
  have pg := hg s3 (upd H2 D (.lst [])) s3.heap.objs.size (cellsFrom (s3.heap.objs.size + 1) scope.names (cloFrom X.env.cells scope.names [])) fp
  have pt := ht s3 (upd H2 D (.lst [])) s3.heap.objs.size (cellsFrom (s3.heap.objs.size + 1) scope.names (cloFrom X.env.cells scope.names [])) fp
  have pe := he s3 (upd H2 D (.lst [])) s3.heap.objs.size (cellsFrom (s3.heap.objs.size + 1) scope.names (cloFrom X.env.cells scope.names [])) fp
  show codeAny _ _ (.compStart (.ListComp elt [⟨tg, iter, ifs, 0⟩] scope pos) 0 (.ref it) (.ref D) (compEnvC scope (cellsFrom (s3.heap.objs.size + 1) scope.names (cloFrom X.env.cells scope.names [])) s3.heap.objs.size X.env)) (compPost (model X.prog X.w) X.A X.xe use Qf (.ref D) s3.heap.objs.size) { s3 with heap := pushCells (s3.heap.push { cls := .type "dict", data := .dict #[] }) scope.names }
  have nfp : ∀ b ∈ fp, (upd H2 D (.lst [])) b = none := fun b hb => (f3 b hb).1.1
  generalize hce : compEnvC scope (cellsFrom (s3.heap.objs.size + 1) scope.names (cloFrom X.env.cells scope.names [])) s3.heap.objs.size X.env = ce at I4 pg pt pe ⊢
  have cL : ce.locals = s3.heap.objs.size := by subst hce; rfl
  generalize hH3 : upd H2 D (.lst []) = H3 at I3 I4 pg pt pe w0 nfp f3
  generalize hs4 : ({ s3 with heap := pushCells (s3.heap.push { cls := .type "dict", data := .dict #[] }) scope.names } : Shared) = s4 at I4 ⊢
  have st4 : tn 0 s4.heap := T.keep _ _ _ st3 fun b _ o e => by rw [← hs4]; exact pushCells_keeps _ _ _ _ (Heap.get?_push_of_some _ e)
  have stat : ∀ {σ' : St} {H' : Hp} {s' : Shared}, Inv (X.blk s3 H3 scope ce fp) [] σ' H' s' → (∀ b ∈ fp, H' b = none) → ∀ b ∈ fp, FpOk (X.blk s3 H3 scope ce fp) [] H' b := fun {σ' H' s'} I' hn b hb =>
    ⟨hn b hb, (I'.ok.exf b hb).1, I'.ok.exfs b hb, .inl hb, fun x c e => (I'.ok.exf b hb).2 x c e, fun p hp => absurd (show p ∈ ([] : List (Addr × Obj)) ++ [] from hp) (by simp)⟩
  have loop : codeAny (model X.prog X.w) X.A (.compLoop (.ListComp elt [⟨tg, iter, ifs, 0⟩] scope pos) 0 (.ref it) (.ref D) ce) (compPost (model X.prog X.w) X.A X.xe use Qf (.ref D) s3.heap.objs.size) s4 := by
    refine compLoop_any (fun n s' => ∃ i H', Inv (X.blk s3 H3 scope ce fp) [] (wipe σ (own.map (·.2))) H' s' ∧ tn i s'.heap ∧ (∀ b ∈ fp, H' b = none) ∧ W i n H') ?_ m0 ⟨0, H3, I4, st4, nfp, w0⟩
    rintro n s5 ⟨i, H5, I5, st5, n5, w5⟩
    rcases turn i n H5 w5 with ⟨stop, qq⟩ | ⟨go, Nx, hNx, step⟩
    · have td := T.done (X.blk s3 H3 scope ce fp) rfl rfl rfl hc i [] s5 _ H5 (fun _ _ => False) I5 (stat I5 n5) st5 stop
      refine thnF td fun r s6 ⟨hr, I6⟩ => ?_
      subst hr
      -- back in the def's context
      have I7 : Inv X pins σ H5 s6 := I3.call' (ch := fp) I6.os I6.base I6.hok I6.bare fun b hb => ⟨(f3 b hb).1.2.2.2.1, (f3 b hb).1.2.1, (f3 b hb).1.2.2.2.2.1, (f3 b hb).1.2.2.2.2.2⟩
      have nC : H5 s3.heap.objs.size = none := by
        have z : H5 ce.locals = none := I6.free
        rw [cL] at z
        exact z
      obtain ⟨m, hn, _⟩ := I6.loc
      have hn : s6.heap.Ns ce.locals m := hn
      rw [cL] at hn
      exact hRR D s3.heap.objs.size s6 m H5 I7 qq hn (I3.fpOk (Nat.le_refl _) nC)
    · have ti := T.item (X.blk s3 H3 scope ce fp) rfl rfl rfl hc i [] s5 _ H5 (fun _ _ => False) I5 (stat I5 n5) st5 go
      refine thnF ti fun r s6 ⟨u, hr, h6⟩ => ?_
      subst hr
      refine thnF h6 fun _ s7 ⟨x, H7, I7, r7, y7, st7, n7⟩ => ?_
      have I7' := I7.pinned (stat I7 n7) (T.obj _ _ st7)
      refine thnF (pg _ s7 _ H7 x u _ I7' r7 (step x H7 y7)) fun _ s8 ⟨σ8, H8, I8, hw8, q8⟩ => ?_
      refine thnF (pt _ s8 σ8 H8 _ I8 q8) fun b s9 ⟨H9, I9, q9⟩ => ?_
      -- the turn's end
      have fin : ∀ {s' : Shared} {H' : Hp}, Inv (X.blk s3 H3 scope ce fp) ([] ++ pinsAt fp s7.heap) σ8 H' s' → Nx H' → ∃ m, m < n ∧ ∃ i H', Inv (X.blk s3 H3 scope ce fp) [] (wipe σ (own.map (·.2))) H' s' ∧ tn i s'.heap ∧ (∀ b ∈ fp, H' b = none) ∧ W i m H' := fun {s' H'} I' nx => by
        obtain ⟨m', hm, w'⟩ := hNx H' nx
        have pin' : ∀ b ∈ fp, ∀ o, s7.heap.get? b = some o → s'.heap.get? b = some o ∧ H' b = none := fun b hb o e =>
          let z := I'.pin (b, o) (List.mem_append_right _ (List.mem_append_right _ (mem_pinsAt hb e)))
          ⟨z.1, z.2.1⟩
        have hl : (wipe σ (own.map (·.2))).length = σ8.length := by rw [← hw8, wipe_length]
        refine ⟨m', hm, i + 1, H', (I'.unpinned (pins := [])).weak hl (fun j v e => ?_), T.keep _ _ _ st7 fun b hb o e => (pin' b hb o e).1, fun b hb => ?_, w'⟩
        · rw [← hw8] at e
          exact (wipe_some e).1
        · obtain ⟨o, e, _⟩ := T.obj _ _ st7 b hb
          exact (pin' b hb o e).2
      cases b with
      | false =>
        simp only [Bool.false_eq_true, if_false] at q9 ⊢
        exact fin I9 q9
      | true =>
        simp only [if_true] at q9 ⊢
        refine thnF (pe _ s9 σ8 H9 _ I9 q9) fun z s10 ⟨yv, H10, I10, r10, acc, hD10, hz10, nx⟩ => ?_
        exact app_ok (X := X.blk s3 H3 scope ce fp) I10 hD10 hz10 r10 fun s11 I11 => fin I11 nx
  exact codeAny_compStart_list loop (T.self X.A 0 _ _ _ st4 loop)
theorem pe_lc {elt tg iter : Expr} {ifs : List Expr} {scope : Scope} {own : List (Str × Nat)} {pos : Pos} {wi : TI} {g : TG} {tt : TT} {te : TE} (hc : X.calm = true) (hN : X.N.Nodup) (hi : PI X tg iter wi) (ok : BlkOk X.N X.env.scope scope own)
    (hg : ∀ (s : Shared) (H : Hp) (C : Addr) (cl : List (Str × Addr)) (fp : List Addr), PG (X.blk s H scope (compEnvC scope cl C X.env) fp) tg g) (ht : ∀ (s : Shared) (H : Hp) (C : Addr) (cl : List (Str × Addr)) (fp : List Addr), PTs (X.blk s H scope (compEnvC scope cl C X.env) fp) ifs tt)
    (he : ∀ (s : Shared) (H : Hp) (C : Addr) (cl : List (Str × Addr)) (fp : List Addr), PE (X.blk s H scope (compEnvC scope cl C X.env) fp) elt te) (hs : ∀ x, foldedSetIterable iter X.env x = pure x := by intro _; rfl) :
    PE X (.ListComp elt [⟨tg, iter, ifs, 0⟩] scope pos) (tLc wi g tt te (own.map (·.2))) := by
  intro pins s σ H Q I h
  rw [eval_ListComp]
  refine lc_core hc hN I hi ok hg ht he hs h fun D C s' m H' I' q hn f => ⟨m, hn, fun h'' sb => ?_⟩
  obtain ⟨f0, f1, f2, f3, f4, f5⟩ := f
  exact ⟨.ref D, H', I'.turned (t' := s'.toks) (fun b o hb e => (sb.2 b hb).trans e) f0 f1 f3 f4 f5, rfl, q⟩
theorem ps_setLc {i : Nat} {y : Str} {py : Pos} {elt tg iter : Expr} {ifs : List Expr} {scope : Scope} {own : List (Str × Nat)} {pos spos : Pos} {wi : TI} {g : TG} {tt : TT} {te : TE} (hc : X.calm = true) (hN : X.N.Nodup) (hy : X.N[i]? = some y) (hyl : X.env.scope.names.lookup y = some .local)
    (hsw : swapsWith (.ListComp elt [⟨tg, iter, ifs, 0⟩] scope pos) (some (.Name y py)) spos.line X.env = pure true) (hi : PI X tg iter wi) (ok : BlkOk X.N X.env.scope scope own)
    (hg : ∀ (s : Shared) (H : Hp) (C : Addr) (cl : List (Str × Addr)) (fp : List Addr), PG (X.blk s H scope (compEnvC scope cl C X.env) fp) tg g) (ht : ∀ (s : Shared) (H : Hp) (C : Addr) (cl : List (Str × Addr)) (fp : List Addr), PTs (X.blk s H scope (compEnvC scope cl C X.env) fp) ifs tt)
    (he : ∀ (s : Shared) (H : Hp) (C : Addr) (cl : List (Str × Addr)) (fp : List Addr), PE (X.blk s H scope (compEnvC scope cl C X.env) fp) elt te) (hs : ∀ x, foldedSetIterable iter X.env x = pure x := by intro _; rfl) :
    PS X (.Assign [.Name y py] (.ListComp elt [⟨tg, iter, ifs, 0⟩] scope pos) spos) (tAsg (tLc wi g tt te (own.map (·.2))) (gName i)) := by
  intro pins s σ H D I h
  rw [exec_Assign_Name_used _ _ _ _ hsw]
  refine wpAny_bind (wpAny_standAt (wpAny_bind ?_))
  show wpAny _ X.A (do let _ ← comprehension (.ListComp elt [⟨tg, iter, ifs, 0⟩] scope pos) scope X.env (firstIterPos [⟨tg, iter, ifs, 0⟩] pos) (newList []) false (eval iter X.env) (some (assign (.Name y py) X.env))) _ _ s
  have h : tLc wi g tt te (own.map (·.2)) σ H (fun x H1 => gName i x σ H1 D.nx) := h
  refine wpAny_bind (thn (lc_core (Qf := fun _ s' => SP X pins D .next s') hc hN I hi ok hg ht he hs h fun L C s' m H' I' q hn f => ?_) fun _ s' hq => wpAny_pure (wpAny_pure hq))
  show wpAny _ _ (assign (.Name y py) X.env (.ref L)) _ _ _
  refine wpAny_assign_Name (store_ok2 (v := V.ref L) I' hN hy (.inl hyl) rfl (fun s2 I2 ⟨a, sb, ha⟩ => ?_) (.inr hyl))
  obtain ⟨f0, f1, f2, f3, f4, f5⟩ := f
  have haC : C ≠ a := by
    rcases ha with z | z
    · rw [z]; exact f1
    · exact fun e => f4 y a z e.symm
  refine ⟨m, hn.sameBut sb haC, fun h3 sb3 => ?_⟩
  exact ⟨_, H', I2.turned (t' := s2.toks) (fun b o hb e => (sb3.2 b hb).trans e) f0 f1 f3 f4 f5, q⟩
end

theorem lc_range {lo : Int} {n : Nat} {g : TG} {tt : TT} {te : TE} {vs : List Nat} {σ : St} {H1 : Hp} {D : Addr} {Qd : Hp → Prop} (Pv : Nat → Hp → Prop) (h0 : Pv 0 (upd H1 D (.lst [])))
    (hs : ∀ i H, i < n → Pv i H → g (.int (lo + i)) (wipe σ vs) H fun σ2 H2 => wipe σ2 vs = wipe σ vs ∧ tt σ2 H2 fun b H3 =>
      if b = true then te σ2 H3 fun y H4 => ∃ acc, H4 D = some (.lst acc) ∧ acc.length < sizeLine ∧ Pv (i + 1) (upd H4 D (.lst (acc ++ [y]))) else Pv (i + 1) H3) (hd : ∀ H, Pv n H → Qd H) :
    ∃ W : Nat → Nat → Hp → Prop, (∃ m, W 0 m (upd H1 D (.lst []))) ∧ ∀ i m H, W i m H →
      ((Itr lo n).stop i H ∧ Qd H) ∨ ((Itr lo n).go i H ∧ ∃ Nx : Hp → Prop, (∀ H', Nx H' → ∃ m', m' < m ∧ W (i + 1) m' H') ∧ ∀ x H', (Itr lo n).yld i H x H' → g x (wipe σ vs) H' fun σ2 H2 => wipe σ2 vs = wipe σ vs ∧ tt σ2 H2 fun b H3 =>
        if b = true then te σ2 H3 fun y H4 => ∃ acc, H4 D = some (.lst acc) ∧ acc.length < sizeLine ∧ Nx (upd H4 D (.lst (acc ++ [y]))) else Nx H3) := by
  refine ⟨fun i m H => m = n - i ∧ i ≤ n ∧ Pv i H, ⟨n, by simp, Nat.zero_le _, h0⟩, ?_⟩
  rintro i m H ⟨rfl, hi, p⟩
  by_cases hlt : i < n
  · refine .inr ⟨hlt, Pv (i + 1), fun H' p' => ⟨n - (i + 1), by omega, rfl, hlt, p'⟩, fun x H' y => ?_⟩
    obtain ⟨e, y⟩ := y
    subst e y
    exact hs i _ hlt p
  · have e : i = n := by omega
    subst e
    exact .inl ⟨Nat.le_refl _, hd H p⟩
theorem lc_list {K : PySem.W.Frag} {a : Addr} {xs : List V} {g : TG} {tt : TT} {te : TE} {vs : List Nat} {σ : St} {H1 : Hp} {D : Addr} {Qd : Hp → Prop} (Pv : Nat → Hp → Prop) (h0 : Pv 0 (upd H1 D (.lst []))) (hl : ∀ i H, i ≤ xs.length → Pv i H → SqL K H a xs)
    (hs : ∀ i x H, xs[i]? = some x → Pv i H → g x (wipe σ vs) H fun σ2 H2 => wipe σ2 vs = wipe σ vs ∧ tt σ2 H2 fun b H3 =>
      if b = true then te σ2 H3 fun y H4 => ∃ acc, H4 D = some (.lst acc) ∧ acc.length < sizeLine ∧ Pv (i + 1) (upd H4 D (.lst (acc ++ [y]))) else Pv (i + 1) H3) (hd : ∀ H, Pv xs.length H → Qd H) :
    ∃ W : Nat → Nat → Hp → Prop, (∃ m, W 0 m (upd H1 D (.lst []))) ∧ ∀ i m H, W i m H →
      ((Itl K a).stop i H ∧ Qd H) ∨ ((Itl K a).go i H ∧ ∃ Nx : Hp → Prop, (∀ H', Nx H' → ∃ m', m' < m ∧ W (i + 1) m' H') ∧ ∀ x H', (Itl K a).yld i H x H' → g x (wipe σ vs) H' fun σ2 H2 => wipe σ2 vs = wipe σ vs ∧ tt σ2 H2 fun b H3 =>
        if b = true then te σ2 H3 fun y H4 => ∃ acc, H4 D = some (.lst acc) ∧ acc.length < sizeLine ∧ Nx (upd H4 D (.lst (acc ++ [y]))) else Nx H3) := by
  refine ⟨fun i m H => m = xs.length - i ∧ i ≤ xs.length ∧ Pv i H, ⟨xs.length, by simp, Nat.zero_le _, h0⟩, ?_⟩
  rintro i m H ⟨rfl, hi, p⟩
  have q := hl i H hi p
  by_cases hlt : i < xs.length
  · refine .inr ⟨⟨xs, xs[i], q, by simp [hlt]⟩, Pv (i + 1), fun H' p' => ⟨xs.length - (i + 1), by omega, rfl, hlt, p'⟩, fun x H' y => ?_⟩
    obtain ⟨e, y⟩ := y
    subst e
    exact hs i x _ (y xs q) p
  · have e : i = xs.length := by omega
    subst e
    exact .inl ⟨⟨xs, q, Nat.le_refl _⟩, hd H p⟩
def blkC (N : List Str) (sc scope : Scope) (own : List (Str × Nat)) : Bool :=
  (match scope.kind with | .function => true | _ => false) && (scope.names.all fun y => decide (scope.names.lookup y.1 = some y.2)) && (own.all fun p => decide (N[p.2]? = some p.1)) &&
    (scope.names.all fun y => match y.2 with
      | .free => (match sc.names.lookup y.1 with | some .cell => true | some .free => true | _ => false)
      | .local => decide (y.1 ∈ own.map (·.1)) || decide (y.1 ∉ N)
      | .cell => decide (y.1 ∈ own.map (·.1)) || decide (y.1 ∉ N)
      | _ => true)
theorem blkOk_by {N : List Str} {sc scope : Scope} {own : List (Str × Nat)} (h : blkC N sc scope own = true) : BlkOk N sc scope own := by
  unfold blkC at h
  simp only [Bool.and_eq_true, List.all_eq_true, decide_eq_true_eq] at h
  obtain ⟨⟨⟨h1, h2⟩, h3⟩, h4⟩ := h
  refine ⟨?_, h2, h3, fun y hy e => ?_, fun y hy e => ?_⟩
  · split at h1
    · assumption
    · cases h1
  · have q := h4 y hy
    simp only [e] at q
    split at q <;> first | exact .inl (by assumption) | exact .inr (by assumption) | cases q
  · have q := h4 y hy
    rcases e with e | e <;> (simp only [e, Bool.or_eq_true, decide_eq_true_eq] at q; exact q)
end L2

namespace L2
open PySem PySem.Spec PyProof.Rows

section
variable {prog : Program} {w : World} {A : Around} {R : Result → Shared → Prop} {s : Shared} {elt t0 i0 t1 i1 : Expr} {ifs0 ifs1 : List Expr} {scope : Scope} {pos : Pos} {it acc : Value} {env : Env}
end

section
variable {X : Cx}
end
end L2

namespace L2
open PySem PySem.Spec PyProof.Rows

section
variable {κ : Type} [DecidableEq κ]
def valV (kvs : List (κ × V)) (k : κ) : Option V := (kvs.find? fun kv => decide (kv.1 = k)).map (·.2)
def putK (kvs : List (κ × V)) (k : κ) (v : V) : List (κ × V) :=
  if (kvs.any fun kv => decide (kv.1 = k)) = true then kvs.map (fun kv => if kv.1 = k then (kv.1, v) else kv) else kvs ++ [(k, v)]
def dropK (kvs : List (κ × V)) (k : κ) : List (κ × V) := kvs.filter fun kv => decide (kv.1 ≠ k)

theorem valV_pos {p : κ × V} {r : List (κ × V)} {k : κ} (e : p.1 = k) : valV (p :: r) k = some p.2 := by simp [valV, List.find?_cons, e]
theorem valV_neg {p : κ × V} {r : List (κ × V)} {k : κ} (e : ¬ p.1 = k) : valV (p :: r) k = valV r k := by simp [valV, List.find?_cons, e]
theorem valV_any (k : κ) : ∀ kvs : List (κ × V), (kvs.any fun kv => decide (kv.1 = k)) = (valV kvs k).isSome
  | [] => rfl
  | p :: r => by
    rw [List.any_cons]
    by_cases e : p.1 = k
    · simp only [valV_pos e, decide_eq_true e, Bool.true_or, Option.isSome_some]
    · rw [valV_neg e, decide_eq_false e, Bool.false_or]; exact valV_any k r
theorem length_putK (kvs : List (κ × V)) (k : κ) (v : V) : (putK kvs k v).length ≤ kvs.length + 1 := by
  unfold putK
  split
  · rw [List.length_map]; omega
  · rw [List.length_append, List.length_cons, List.length_nil]; omega
theorem RelO.isSome_eq {o : Option V} {u : Option Value} (r : RelO o u) : o.isSome = u.isSome := by
  cases o with
  | none => cases u with
    | none => rfl
    | some _ => exact (show False from r).elim
  | some _ => cases u with
    | none => exact (show False from r).elim
    | some _ => rfl
theorem RelO.getD {o : Option V} {u : Option Value} {d : V} {d' : Value} (r : RelO o u) (rd : RelV d d') : RelV (o.getD d) (u.getD d') := by
  cases o with
  | none => cases u with
    | none => exact rd
    | some _ => exact (show False from r).elim
  | some _ => cases u with
    | none => exact (show False from r).elim
    | some _ => exact r

theorem KV.val {kvs : List (κ × V)} {vs : List (κ × Value)} (r : KV kvs vs) (k : κ) : RelO (valV kvs k) (valueAt vs k) := by
  unfold KV at r
  induction r with
  | nil => exact True.intro
  | @cons p q ps qs h t ih =>
    obtain ⟨h1, h2⟩ := h
    by_cases e : p.1 = k
    · have e' : q.1 = k := h1.symm.trans e
      have b : valueAt (q :: qs) k = some q.2 := by simp [valueAt, List.find?_cons, e']
      rw [valV_pos e, b]; exact h2
    · have e' : ¬ q.1 = k := fun z => e (h1.trans z)
      have b : valueAt (q :: qs) k = valueAt qs k := by simp [valueAt, List.find?_cons, e']
      rw [valV_neg e, b]; exact ih
theorem KV.any {kvs : List (κ × V)} {vs : List (κ × Value)} (r : KV kvs vs) (k : κ) : (kvs.any fun kv => decide (kv.1 = k)) = vs.any fun kv => decide (kv.1 = k) := by
  unfold KV at r
  induction r with
  | nil => rfl
  | cons h t ih => rw [List.any_cons, List.any_cons, ih, h.1]
theorem KV.repl {kvs : List (κ × V)} {vs : List (κ × Value)} (r : KV kvs vs) (k : κ) {y : V} {u : Value} (ry : RelV y u) :
    KV (kvs.map fun kv => if kv.1 = k then (kv.1, y) else kv) (vs.map fun kv => if kv.1 = k then (kv.1, u) else kv) := by
  unfold KV at r ⊢
  induction r with
  | nil => exact .nil
  | @cons p q ps qs h t ih =>
    rw [List.map_cons, List.map_cons]
    refine .cons ?_ ih
    obtain ⟨h1, h2⟩ := h
    by_cases e : p.1 = k
    · rw [if_pos e, if_pos (h1.symm.trans e)]; exact ⟨h1, ry⟩
    · rw [if_neg e, if_neg (fun z => e (h1.trans z))]; exact ⟨h1, h2⟩
theorem KV.put {kvs : List (κ × V)} {vs : List (κ × Value)} (r : KV kvs vs) (k : κ) {y : V} {u : Value} (ry : RelV y u) : KV (putK kvs k y) (stored vs k u) := by
  unfold putK stored
  rw [r.any k]
  by_cases e : (vs.any fun kv => decide (kv.1 = k)) = true
  · rw [if_pos e, if_pos e]; exact r.repl k ry
  · rw [if_neg e, if_neg e]; exact Paired.snoc r ⟨rfl, ry⟩
theorem KV.drop {kvs : List (κ × V)} {vs : List (κ × Value)} (r : KV kvs vs) (k : κ) : KV (dropK kvs k) (without vs k) := by
  unfold KV at r ⊢
  unfold dropK without
  induction r with
  | nil => exact .nil
  | @cons p q ps qs h t ih =>
    obtain ⟨h1, h2⟩ := h
    rw [List.filter_cons, List.filter_cons]
    by_cases e : p.1 = k
    · have a : ¬ decide (p.1 ≠ k) = true := by simp [e]
      have b : ¬ decide (q.1 ≠ k) = true := by simp [h1.symm.trans e]
      rw [if_neg a, if_neg b]; exact ih
    · have e' : ¬ q.1 = k := fun z => e (h1.trans z)
      have a : decide (p.1 ≠ k) = true := by simp [e]
      have b : decide (q.1 ≠ k) = true := by simp [e']
      rw [if_pos a, if_pos b]; exact .cons ⟨h1, h2⟩ ih
theorem KV.keys {kvs : List (κ × V)} {vs : List (κ × Value)} (r : KV kvs vs) : kvs.map (·.1) = vs.map (·.1) := by
  unfold KV at r
  induction r with
  | nil => rfl
  | cons h t ih => rw [List.map_cons, List.map_cons, ih, h.1]
theorem KV.length {kvs : List (κ × V)} {vs : List (κ × Value)} (r : KV kvs vs) : kvs.length = vs.length := Paired.length r
end


theorem kV_is {P : Program} {w : World} {k : Key} {u : Value} (r : RelV (kV k) u) : (mixKind P w).is k u = true := by
  cases k with
  | inl i => obtain ⟨t, e⟩ := (show ∃ t, u = Value.int i t from r); subst e; exact mixKind_int P w i t
  | inr x => obtain ⟨t, e⟩ := (show ∃ t, u = Value.str x t from r); subst e; exact mixKind_str P w x t
theorem items_are {P : Program} {w : World} : ∀ {ks : List Key} {us : List Value}, Vals (ks.map kV) us → ItemsAre (mixKind P w) ks us
  | [], _, r => by rw [List.map_nil] at r; cases r; exact .nil
  | k :: ks, _, r => by
    rw [List.map_cons] at r
    cases r with
    | cons h t => exact .cons (kV_is h) (items_are t)

abbrev KT (H : Hp) : List (List Key × V) → List (List Key × Addr × Value) → Prop := Paired fun p q => p.1 = q.1 ∧ H q.2.1 = some (.tup (p.1.map kV)) ∧ RelV p.2 q.2.2
theorem KT.val {H : Hp} {kvs : List (List Key × V)} {xs : List (List Key × Addr × Value)} (r : KT H kvs xs) (k : List Key) : RelO (valV kvs k) ((atKey xs k).map (·.2)) := by
  induction r with
  | nil => exact True.intro
  | @cons p q ps qs h t ih =>
    obtain ⟨h1, _, h2⟩ := h
    by_cases e : p.1 = k
    · have e' : q.1 = k := h1.symm.trans e
      have b : atKey (q :: qs) k = some q.2 := by simp [atKey, List.find?_cons, e']
      rw [valV_pos e, b]; exact h2
    · have e' : ¬ q.1 = k := fun z => e (h1.trans z)
      have b : atKey (q :: qs) k = atKey qs k := by simp [atKey, List.find?_cons, e']
      rw [valV_neg e, b]; exact ih
theorem KT.repl {H : Hp} {kvs : List (List Key × V)} {xs : List (List Key × Addr × Value)} (r : KT H kvs xs) (k : List Key) {y : V} {u : Value} (ry : RelV y u) :
    KT H (kvs.map fun kv => if kv.1 = k then (kv.1, y) else kv) (xs.map (putAt k u)) := by
  induction r with
  | nil => exact .nil
  | @cons p q ps qs h t ih =>
    rw [List.map_cons, List.map_cons]
    refine .cons ?_ ih
    obtain ⟨h1, h2, h3⟩ := h
    unfold putAt
    by_cases e : p.1 = k
    · rw [if_pos e, if_pos (h1.symm.trans e)]; exact ⟨h1, h2, ry⟩
    · rw [if_neg e, if_neg (fun z => e (h1.trans z))]; exact ⟨h1, h2, h3⟩
theorem KT.put {H : Hp} {kvs : List (List Key × V)} {xs : List (List Key × Addr × Value)} (r : KT H kvs xs) (k : List Key) {b : Addr} {y : V} {u : Value} (hb : H b = some (.tup (k.map kV))) (ry : RelV y u) :
    KT H (putK kvs k y) (storedH xs k b u) := by
  have e : (kvs.any fun kv => decide (kv.1 = k)) = (atKey xs k).isSome := by
    rw [valV_any, (r.val k).isSome_eq, Option.isSome_map]
  unfold putK storedH
  rw [e]
  by_cases q : (atKey xs k).isSome = true
  · rw [if_pos q, if_pos q]; exact r.repl k ry
  · rw [if_neg q, if_neg q]; exact Paired.snoc r ⟨rfl, hb, ry⟩
theorem KT.keeps {H H' : Hp} {kvs : List (List Key × V)} {xs : List (List Key × Addr × Value)} (r : KT H kvs xs) (ht : ∀ b ys, H b = some (.tup ys) → H' b = some (.tup ys)) : KT H' kvs xs :=
  Paired.mapP r fun _ _ z => ⟨z.1, ht _ _ z.2.1, z.2.2⟩

section
variable {P : Program} {w : World} {H : Hp} {h : Heap} {a : Addr}
theorem rd_of {u : HO} (ok : HOk P w H h) (e : Rd H a u) : ObjOk P w H h a u := e.ok ok
theorem dk_rd {kvs : List (Key × V)} (ok : HOk P w H h) (e : Rd H a (.dK kvs)) : kvs.length ≤ sizeLine ∧ (a == sysModules) = false ∧ ∃ vs, KV kvs vs ∧ h.DictOf (mixKind P w) a vs :=
  show ObjOk P w H h a (.dK kvs) from rd_of ok e
theorem dk_of {kvs : List (Key × V)} (ok : HOk P w H h) (e : H a = some (.dK kvs)) : kvs.length ≤ sizeLine ∧ (a == sysModules) = false ∧ ∃ vs, KV kvs vs ∧ h.DictOf (mixKind P w) a vs := dk_rd ok (.inl e)
theorem key_of {ks : List Key} (ok : HOk P w H h) (e : H a = some (.tup (ks.map kV))) : (tupleKind (mixKind P w)).is h ks a := by
  obtain ⟨_, its, r, o, h1, h2, n, h3⟩ := (show ObjOk P w H h a (.tup (ks.map kV)) from ok a _ e)
  exact ⟨o, its.toArray, n, h1, h2, h3, by simpa using items_are r⟩
theorem dt_rd {kvs : List (List Key × V)} (ok : HOk P w H h) (e : Rd H a (.dT kvs)) : kvs.length ≤ sizeLine ∧ (a == sysModules) = false ∧
    ∃ xs, KT H kvs xs ∧ h.DictOfH (tupleKind (mixKind P w)) a xs := by
  obtain ⟨z, y, xs, r, o, es, ep, h1, h2, h3, h4, h5⟩ := (show ObjOk P w H h a (.dT kvs) from rd_of ok e)
  refine ⟨z, y, xs, r, o, es, ep, h1, h2, h3, h4, fun x hx => ?_, h5⟩
  have all : ∀ {l : List (List Key × V)} {m : List (List Key × Addr × Value)}, KT H l m → ∀ x ∈ m, (tupleKind (mixKind P w)).is h x.1 x.2.1 := by
    intro l m q
    induction q with
    | nil => intro x hx; exact nomatch hx
    | @cons p q ps qs hq t ih =>
      intro x hx
      rcases List.mem_cons.mp hx with e | hx
      · subst e
        exact key_of ok (by rw [← hq.1]; exact hq.2.1)
      · exact ih x hx
  exact all r x hx
end

def DGet (H : Hp) (a : Addr) (y : V) (r : Option V) : Prop :=
  (∃ kvs k, Rd H a (.dK kvs) ∧ y = kV k ∧ r = valV kvs k) ∨ ∃ kvs k b, Rd H a (.dT kvs) ∧ y = .ref b ∧ H b = some (.tup (k.map kV)) ∧ r = valV kvs k
def DPut (H : Hp) (a : Addr) (y v : V) (H' : Hp) : Prop :=
  (∃ kvs k, H a = some (.dK kvs) ∧ y = kV k ∧ kvs.length < sizeLine ∧ H' = upd H a (.dK (putK kvs k v))) ∨
  ∃ kvs k b, H a = some (.dT kvs) ∧ y = .ref b ∧ H b = some (.tup (k.map kV)) ∧ kvs.length < sizeLine ∧ H' = upd H a (.dT (putK kvs k v))
theorem DGet.k {H : Hp} {a : Addr} {kvs : List (Key × V)} {k : Key} (e : H a = some (.dK kvs)) : DGet H a (kV k) (valV kvs k) := .inl ⟨kvs, k, .inl e, rfl, rfl⟩
theorem DGet.t {H : Hp} {a b : Addr} {kvs : List (List Key × V)} {k : List Key} (e : H a = some (.dT kvs)) (eb : H b = some (.tup (k.map kV))) : DGet H a (.ref b) (valV kvs k) := .inr ⟨kvs, k, b, .inl e, rfl, eb, rfl⟩
theorem DPut.k {H : Hp} {a : Addr} {kvs : List (Key × V)} {k : Key} {v : V} (e : H a = some (.dK kvs)) (hl : kvs.length < sizeLine) : DPut H a (kV k) v (upd H a (.dK (putK kvs k v))) := .inl ⟨kvs, k, e, rfl, hl, rfl⟩
theorem DPut.t {H : Hp} {a b : Addr} {kvs : List (List Key × V)} {k : List Key} {v : V} (e : H a = some (.dT kvs)) (eb : H b = some (.tup (k.map kV))) (hl : kvs.length < sizeLine) :
    DPut H a (.ref b) v (upd H a (.dT (putK kvs k v))) := .inr ⟨kvs, k, b, e, rfl, eb, hl, rfl⟩


section
variable {X : Cx} {pins : List (Addr × Obj)} {σ : St} {H : Hp} {s : Shared} {a : Addr} {y v : V} {u r : Value} {o : Option V} {A : Around} {E : Value → Shared → Prop}

theorem Inv.big (I : Inv X pins σ H s) : sysModules < s.heap.objs.size := by
  have h : mainGlobals < s.heap.objs.size := (I.mod.glob.keeps I.bk).lt
  exact Nat.lt_trans (by decide) h

theorem d_getItem {Q : Value → Shared → Prop} (hu : A.units + 1 < cLine) (I : Inv X pins σ H s) (g : DGet H a y (some v)) (ry : RelV y u) (h : ∀ w' s', Inv X pins σ H s' → RelV v w' → Q w' s') :
    wpAny (model X.prog X.w) A (getItem (.ref a) u) Q E s := by
  rcases g with ⟨kvs, k, e, ey, l⟩ | ⟨kvs, k, b, e, ey, eb, l⟩
  · subst ey
    obtain ⟨z, hd, vs, rel, dd⟩ := dk_rd I.hok e
    obtain ⟨w', hw, rw'⟩ := RelO.some_of (v := v) (o := valueAt vs k) (by rw [l]; exact rel.val k)
    exact wpAny_getItem_of (kV_is ry) dd.mapOf hw (h w' _ (I.tok _) rw')
  · subst ey
    cases (show u = Value.ref b from ry)
    obtain ⟨z, hd, xs, rel, dd⟩ := dt_rd I.hok e
    obtain ⟨w', hw, rw'⟩ := RelO.some_of (v := v) (o := (atKey xs k).map (·.2)) (by rw [l]; exact rel.val k)
    obtain ⟨p, hp, hp2⟩ := Option.map_eq_some_iff.mp hw
    refine wpAny_getItem_heap (tupleKind_room_in1 hu) (key_of I.hok eb) dd hp ?_
    rw [hp2]
    exact h w' _ (I.tok _) rw'
theorem d_notIn {Q : Value → Shared → Prop} (hu : A.units + 1 < cLine) (I : Inv X pins σ H s) (g : DGet H a y o) (ry : RelV y u) (h : ∀ s', Inv X pins σ H s' → Q (.bool (!o.isSome)) s') :
    wpAny (model X.prog X.w) A (compareOp .NotIn u (.ref a)) Q E s := by
  rcases g with ⟨kvs, k, e, ey, l⟩ | ⟨kvs, k, b, e, ey, eb, l⟩
  · subst ey
    obtain ⟨z, hd, vs, rel, dd⟩ := dk_rd I.hok e
    refine wpAny_notIn_of (kV_is ry) hd dd.mapOf ?_
    rw [← (rel.val k).isSome_eq, ← l]
    exact h _ (I.tok _)
  · subst ey
    cases (show u = Value.ref b from ry)
    obtain ⟨z, hd, xs, rel, dd⟩ := dt_rd I.hok e
    refine wpAny_notIn_heap (tupleKind_room_in1 hu) (key_of I.hok eb) hd dd ?_
    have q := (rel.val k).isSome_eq
    rw [Option.isSome_map] at q
    rw [← q, ← l]
    exact h _ (I.tok _)
theorem d_write {h' : Heap} {t' : Nat} {ob : HO} (I : Inv X pins σ H s) (mu : Mut (H a)) (hs : Heap.SameBut a s.heap h') (he : ∃ q, h'.get? a = some q) (new : ObjOk X.prog X.w (upd H a ob) h' a ob) :
    Inv X pins σ (upd H a ob) { s with heap := h', toks := t' } :=
  I.write (x := a) (e := a) mu (.inl rfl) (fun b q hb z => (hs.2 b hb).trans z) he new
theorem dk_new {P : Program} {w : World} {H' : Hp} {h' : Heap} {kvs : List (Key × V)} {vs : List (Key × Value)} (z : kvs.length ≤ sizeLine) (hd : (a == sysModules) = false) (rel : KV kvs vs) (dd : h'.DictOf (mixKind P w) a vs) :
    ObjOk P w H' h' a (.dK kvs) := ⟨z, hd, vs, rel, dd⟩
end

section
variable {X : Cx} {pins : List (Addr × Obj)} {σ : St} {H : Hp} {s : Shared} {a : Addr} {kvs : List (Key × V)} {k : Key} {u : Value} {A : Around} {E : Value → Shared → Prop}
end


def NoSl (i : Expr) : Prop := ∀ ov iv, subscripted i false ov iv = operate [ov, iv] (getItem ov iv)
theorem subD_of {prog : Program} {w : World} {A : Around} {E : Value → Shared → Prop} {s : Shared} {env : Env} {value slice : Expr} {pos : Pos} {T id : String} {Q : Value → Shared → Prop}
    (hl : typeLookup (.type T) "__getitem__" = pure (some (.builtin id))) (hs : NoSl slice)
    (h : wpAny (model prog w) A (eval value env) (fun o s₁ => wpAny (model prog w) A (eval slice env) (fun i s₂ => s₂.TypeIs o T ∧ wpAny (model prog w) A (getItem o i) Q E s₂) E s₁) E s) :
    wpAny (model prog w) A (eval (.Subscript value slice pos) env) Q E s := by
  refine Subscript_ (wpAny_mono h (fun o s₁ h₁ => wpAny_mono h₁ (fun i s₂ h₂ => ?_) fun _ _ x => x) fun _ _ x => x)
  obtain ⟨hT, h₂⟩ := h₂
  unfold subscriptTail
  refine wpAny_bind ?_
  rw [getitemInPython_of_ne hT.not_modules]
  refine wpAny_bind (wpAny_specialOf hT hl ?_)
  have fin : wpAny (model prog w) A (subscripted slice false o i) (fun r s₃ => wpAny (model prog w) A (letTemporaryGo value o r >>= fun _ => pure r) Q E s₃) E s₂ := by
    rw [hs o i]
    exact wpAny_operating (wpAny_mono h₂ (fun r s₃ h₃ => wpAny_bind (wpAny_letTemporaryGo (wpAny_pure h₃))) fun _ _ x => x)
  first
    | exact wpAny_pure (wpAny_bind fin)
    | exact wpAny_bind (wpAny_pure (wpAny_bind fin))
    | exact wpAny_bind fin

theorem dict_typeIs {X : Cx} {pins : List (Addr × Obj)} {σ : St} {H : Hp} {s : Shared} {a : Addr} {y : V} {o : Option V} (I : Inv X pins σ H s) (g : DGet H a y o) : s.TypeIs (.ref a) "dict" := by
  rcases g with ⟨kvs, k, e, _, _⟩ | ⟨kvs, k, b, e, _, _, _⟩
  · obtain ⟨_, _, vs, _, dd⟩ := dk_rd I.hok e
    exact dd.typeIs
  · obtain ⟨_, _, xs, _, dd⟩ := dt_rd I.hok e
    exact dd.typeIs
def tDGet (td ty : TE) : TE := fun σ H Q => td σ H fun x H1 => ty σ H1 fun y H2 => ∃ a v, x = .ref a ∧ DGet H2 a y (some v) ∧ Q v H2
def tDNotIn (ty td : TE) : TE := fun σ H Q => ty σ H fun y H1 => td σ H1 fun x H2 => ∃ a o, x = .ref a ∧ DGet H2 a y o ∧ Q (.bl (!o.isSome)) H2
section
variable {X : Cx} {o i e value : Expr} {pos pos' tpos : Pos} {td ty tv : TE}
theorem pe_dget (hu : X.A.units + 1 < cLine) (ho : PE X o td) (hi : PE X i ty) (hs : NoSl i) : PE X (.Subscript o i pos) (tDGet td ty) := by
  intro pins s σ H Q I h
  refine subD_of PySem.F.slot_dict_getitem.lookup hs (thn (ho pins s σ H _ I h) fun u s1 ⟨x, H1, I1, rx, q1⟩ => thn (hi pins s1 σ H1 _ I1 q1) fun iv s2 ⟨y, H2, I2, ry, a, v, ex, g, q2⟩ => ?_)
  subst ex
  obtain rfl : u = Value.ref a := rx
  exact ⟨dict_typeIs I2 g, d_getItem hu I2 g ry fun w' s3 I3 rw' => ⟨v, H2, I3, rw', q2⟩⟩
theorem pc_dnotin (hu : X.A.units + 1 < cLine) (hi : PE X i ty) (ho : PE X o td) : PC X .NotIn i o (tDNotIn ty td) := by
  intro pins s σ H Q I h
  refine thn (hi pins s σ H _ I h) fun iv s1 ⟨y, H1, I1, ry, q1⟩ => thn (ho pins s1 σ H1 _ I1 q1) fun u s2 ⟨x, H2, I2, rx, a, ov, ex, g, q2⟩ => ?_
  subst ex
  obtain rfl : u = Value.ref a := rx
  exact d_notIn hu I2 g ry fun s3 I3 => ⟨.bl (!ov.isSome), H2, I3, rfl, q2⟩
end


theorem dk_empty {P : Program} {w : World} {H : Hp} (h : Heap) (hb : sysModules < h.objs.size) : ObjOk P w H (h.push { cls := .type "dict", data := .dict #[] }) h.objs.size (.dK []) :=
  ⟨Nat.zero_le _, beq_eq_false_iff_ne.mpr (Ne.symm (Nat.ne_of_lt hb)), [], .nil, Heap.DictOf.new h⟩
section
variable {X : Cx} {pos : Pos}
end

def tPairs : List (TE × TE) → St → Hp → (List (V × V) → Hp → Prop) → Prop
  | [], _, H, Q => Q [] H
  | (tk, tv) :: r, σ, H, Q => tk σ H fun x H1 => tv σ H1 fun y H2 => tPairs r σ H2 fun ps H3 => Q ((x, y) :: ps) H3
abbrev VV : List (V × V) → List (Value × Value) → Prop := Paired fun p q => RelV p.1 q.1 ∧ RelV p.2 q.2
def PPs (X : Cx) (pos : Pos) (keys : List (Option Expr)) (values : List Expr) (trs : List (TE × TE)) : Prop :=
  ∀ (pins : List (Addr × Obj)) (s : Shared) (σ : St) (H : Hp) (Q : List (V × V) → Hp → Prop), Inv X pins σ H s → tPairs trs σ H Q →
    wpAny (model X.prog X.w) X.A (evalPairs (pairTrees keys values X.env pos)) (fun vs s' => ∃ ps H', Inv X pins σ H' s' ∧ VV ps vs ∧ Q ps H') X.xe s
theorem pps_nil {X : Cx} {pos : Pos} : PPs X pos [] [] [] := fun pins s σ H Q I h => pairTrees_nil_walk ⟨[], H, I, .nil, h⟩
theorem pps_cons {X : Cx} {pos : Pos} {k v : Expr} {ks : List (Option Expr)} {vs : List Expr} {tk tv : TE} {trs : List (TE × TE)} (hk : PE X k tk) (hv : PE X v tv) (hr : PPs X pos ks vs trs) :
    PPs X pos (some k :: ks) (v :: vs) ((tk, tv) :: trs) := fun pins s σ H Q I h =>
  pairTrees_cons_walk (thn (hk pins s σ H _ I h) fun u s1 ⟨x, H1, I1, rx, q1⟩ => thn (hv pins s1 σ H1 _ I1 q1) fun w2 s2 ⟨y, H2, I2, ry, q2⟩ =>
    thn (hr pins s2 σ H2 _ I2 q2) fun ws s3 ⟨ps, H3, I3, rel, q3⟩ => ⟨(x, y) :: ps, H3, I3, .cons ⟨rx, ry⟩ rel, q3⟩)

def mergeK (kvs more : List (Key × V)) : List (Key × V) := more.foldl (fun acc kv => putK acc kv.1 kv.2) kvs
theorem KV.merge : ∀ {more : List (Key × V)} {rs : List (Key × Value)} {kvs : List (Key × V)} {vs : List (Key × Value)}, KV more rs → KV kvs vs → KV (mergeK kvs more) (merged vs rs) := by
  intro more rs kvs vs r
  unfold KV at r
  induction r generalizing kvs vs with
  | nil => intro q; exact q
  | @cons p q ps qs h t ih =>
    intro r0
    have e : KV (putK kvs p.1 p.2) (stored vs q.1 q.2) := by
      have := r0.put p.1 h.2
      rw [← h.1]; exact this
    exact ih e
theorem length_mergeK : ∀ (more kvs : List (Key × V)), (mergeK kvs more).length ≤ kvs.length + more.length
  | [], kvs => by show kvs.length ≤ kvs.length + 0; omega
  | p :: r, kvs => by
    have h1 := length_mergeK r (putK kvs p.1 p.2)
    have h2 := length_putK kvs p.1 p.2
    show (mergeK (putK kvs p.1 p.2) r).length ≤ _
    rw [List.length_cons]; omega
theorem carries_of {P : Program} {w : World} : ∀ {kvs : List (Key × V)} {ws : List (Value × Value)}, VV (kvs.map fun kv => (kV kv.1, kv.2)) ws → ∃ rs, Carries (mixKind P w) ws rs ∧ KV kvs rs
  | [], _, r => by rw [List.map_nil] at r; cases r; exact ⟨[], True.intro, .nil⟩
  | p :: kvs, _, r => by
    rw [List.map_cons] at r
    cases r with
    | @cons a b as bs h t =>
      obtain ⟨rs, c, q⟩ := carries_of (P := P) (w := w) t
      obtain ⟨b1, b2⟩ := b
      exact ⟨(p.1, b2) :: rs, ⟨kV_is h.1, rfl, c⟩, .cons ⟨rfl, h.2⟩ q⟩
def tDisp (trs : List (TE × TE)) : TE := fun σ H Q => ∀ p, H p = none → tPairs trs σ (upd H p (.dK [])) fun ps H2 => H2 p = some (.dK []) ∧ ∃ kvs : List (Key × V), ps = kvs.map (fun kv => (kV kv.1, kv.2)) ∧ kvs.length ≤ 15 ∧ Q (.ref p) (upd H2 p (.dK (mergeK [] kvs)))
theorem pe_disp {X : Cx} {pos : Pos} {keys : List (Option Expr)} {values : List Expr} {trs : List (TE × TE)} (h : PPs X pos keys values trs) (hall : keys.all (·.isSome) = true) (hl : keys.length = values.length) (h0 : keys ≠ [])
    (h15 : keys.length ≤ 15) : PE X (.Dict keys values pos) (tDisp trs) := by
  intro pins s σ H Q I q
  have hn := I.hok.fresh (Nat.le_refl s.heap.objs.size)
  have I1 := I.laid (a := s.heap.objs.size) (o := .dK []) (h' := s.heap.push { cls := .type "dict", data := .dict #[] }) (t' := s.toks) (fun _ _ q => Heap.get?_push_of_some _ q) (Nat.le_refl _) (dk_empty s.heap I.big)
  refine wpAny_Dict_walk (knd := mixKind X.prog X.w) hall hl h0 h15 (thn (h pins _ σ _ _ I1 (q _ hn)) fun ws s2 ⟨ps, H2, I2, rel, e, kvs, ep, lk, q2⟩ => ?_)
  subst ep
  obtain ⟨rs, c, rk⟩ := carries_of (P := X.prog) (w := X.w) rel
  obtain ⟨z, hd, vs0, r0, dd⟩ := dk_of I2.hok e
  cases r0
  refine ⟨rs, c, dd, fun h' dd' hs => ⟨.ref s.heap.objs.size, _, ?_, rfl, q2⟩⟩
  have hz : (mergeK [] kvs).length ≤ sizeLine := by
    have h1 := length_mergeK kvs []
    rw [List.length_nil] at h1
    rw [sizeLine_eq]; omega
  have he : ∃ q, h'.get? s.heap.objs.size = some q := let ⟨q, _, _, hq, _⟩ := dd'; ⟨q, hq⟩
  exact d_write I2 (by rw [e]; exact True.intro) hs he (dk_new hz hd (rk.merge .nil) dd')


section
variable {X : Cx} {pins : List (Addr × Obj)} {σ : St} {H : Hp} {s : Shared} {a : Addr} {y d : V} {u r : Value} {o : Option V} {A : Around} {E : Value → Shared → Prop}
end

section
variable {X : Cx} {o e f : Expr} {apos cpos : Pos} {td ty tx : TE}
end

section
variable {X : Cx} {pins : List (Addr × Obj)} {σ : St} {H : Hp} {s : Shared} {a : Addr} {kvs : List (Key × V)} {A : Around} {E : Value → Shared → Prop}
end


section
variable {X : Cx} {pins : List (Addr × Obj)} {σ : St} {H : Hp} {s : Shared} {a : Addr} {y : V} {u : Value} {A : Around} {E : Value → Shared → Prop}
end
end L2

namespace L2
open PySem PySem.Spec PyProof.Rows

section
variable {prog : Program} {w : World} {A : Around} {E : Value → Shared → Prop}
end

section
variable {X : Cx}
end
end L2

namespace L2
open PySem PySem.Spec PyProof.Rows

section
variable {X : Cx} {pins : List (Addr × Obj)} {σ : St} {H : Hp} {s : Shared} {h' : Heap}
theorem Inv.turnedL {t' : Nat} {ch : List Addr} (I : Inv X pins σ H s) (k : ∀ b o, b ∉ ch → s.heap.get? b = some o → h'.get? b = some o) (hf : ∀ b ∈ ch, FpOk X pins H b) : Inv X pins σ H { s with heap := h', toks := t' } := by
  have nit : ∀ b u, H b = some u → b ∉ ch := fun b u e z => by
    have q := (hf b z).1
    rw [q] at e; cases e
  refine I.step (g' := s.gens) (d' := s.drawn) (ch := ch) (fun b hb => ⟨(hf b hb).2.2.2.1, (hf b hb).2.1, (hf b hb).2.2.2.2.1, (hf b hb).2.2.2.2.2⟩) (fun b o _ _ hc e _ => k b o hc e) (fun b o _ _ hc e _ => ⟨o.slots, k b o hc e⟩)
    (fun _ _ _ _ n => n) (fun b o hc e => ⟨o, k b o hc e⟩) (fun _ _ e => e) (fun _ _ _ e => e) (fun b ps e => ⟨#[], by rw [e]; simp⟩) (fun m hm => ?_) (fun b u e => ?_) I.bare
  · obtain ⟨o, es, ep, ho, r⟩ := hm
    exact ⟨o, es, ep, k _ o (fun z => (hf _ z).2.1 rfl) ho, r⟩
  · refine (I.hok b u e).stay (fun c v hc q => k c v ?_ q) (fun _ q => q) fun _ _ q => q
    rcases hc with z | z
    · rw [z]; exact nit b u e
    · exact nit c _ z
theorem Inv.turnedNew {t' : Nat} {ch : List Addr} {T : Addr} {ob : HO} (I : Inv X pins σ H s) (k : ∀ b o, b ∉ ch → s.heap.get? b = some o → h'.get? b = some o) (hf : ∀ b ∈ ch, FpOk X pins H b) (hT : s.heap.objs.size ≤ T)
    (new : ObjOk X.prog X.w (upd H T ob) h' T ob) : Inv X pins σ (upd H T ob) { s with heap := h', toks := t' } := by
  have hn : H T = none := I.hok.fresh hT
  have nit : ∀ b u, H b = some u → b ∉ ch := fun b u e z => by
    have q := (hf b z).1
    rw [q] at e; cases e
  refine I.step (g' := s.gens) (d' := s.drawn) (ch := ch) (fun b hb => ⟨(hf b hb).2.2.2.1, (hf b hb).2.1, (hf b hb).2.2.2.2.1, (hf b hb).2.2.2.2.2⟩) (fun b o _ _ hc e _ => k b o hc e) (fun b o _ _ hc e _ => ⟨o.slots, k b o hc e⟩)
    (fun b o _ e n => ?_) (fun b o hc e => ⟨o, k b o hc e⟩) (fun b xs e => ?_) (fun b o u e => ?_) (fun b ps e => ⟨#[], ?_⟩) (fun m hm => ?_) (fun b u e => ?_) I.bare
  · rw [upd_ne (Nat.ne_of_lt (Nat.lt_of_lt_of_le (Heap.lt_size e) hT))]; exact n
  · rw [upd_ne (ne_of_none e hn)]; exact e
  · rw [upd_ne (ne_of_none e hn)]; exact e
  · rw [upd_ne (ne_of_none e hn), e]; simp
  · obtain ⟨o, es, ep, ho, r⟩ := hm
    exact ⟨o, es, ep, k _ o (fun z => (hf _ z).2.1 rfl) ho, r⟩
  · by_cases hb : b = T
    · subst hb
      rw [upd_same] at e
      cases e
      exact new
    · rw [upd_ne hb] at e
      refine (I.hok b u e).stay (fun c v hc q => k c v ?_ q) (fun c q => by rw [upd_ne (ne_of_none q hn)]; exact q) fun c xs q => by rw [upd_ne (ne_of_none q hn)]; exact q
      rcases hc with z | z
      · rw [z]; exact nit b u e
      · exact nit c _ z

end
section
variable {X : Cx}
theorem pi_one {tg : Expr} {pins : List (Addr × Obj)} {σ : St} {H : Hp} {s : Shared} {R : It → Hp → Prop} {J : It} {tn : Nat → Heap → Prop} {tk : Nat} (I : Inv X pins σ H s) (o : Obj)
    (T : Turn X.prog X.w X.K tg J [s.heap.objs.size] s.heap.objs.size tn) (st : tn 0 (s.heap.push o)) (q : R J H) : PIE X pins σ tg R (.ref s.heap.objs.size) { s with heap := s.heap.push o, toks := tk } := by
  refine ⟨s.heap.objs.size, [s.heap.objs.size], tn, J, H, rfl, I.kept fun b ob e => Heap.get?_push_of_some _ e, T, st, fun b hb => ?_, q⟩
  have e : b = s.heap.objs.size := by simpa using hb
  subst e
  exact I.fpOk (Nat.le_refl _) (I.hok.fresh (Nat.le_refl _))
end

def Itc (lo c : Int) (n : Nat) : It := ⟨fun i _ => i < n, fun i H x H' => H' = H ∧ x = .int (lo + (i : Nat) * c), fun i _ => n ≤ i⟩
theorem turn_rangeC {P : Program} {w : World} {K : PySem.W.Frag} {tg : Expr} (it : Addr) (lo c : Int) (n : Nat) : Turn P w K tg (Itc lo c n) [it] it (fun i h => IsRangeIter h it (lo + (i : Nat) * c) ((n : Int) - (i : Nat)) c) where
  mem := by simp
  obj := fun i h st b hb => by
    have e : b = it := by simpa using hb
    subst e
    exact ⟨_, st, fun v z => nomatch z⟩
  keep := fun i h h' st k => k it (by simp) _ st
  item := by
    intro X hP hw hK hc i pins s σ H E I hf st hg
    subst hP hw hK
    obtain ⟨f0, f1, f2, f3, f4, f5⟩ := hf it (by simp)
    have W := Walks.range (prog := X.prog) (w := X.w) (I.ok.hd hc) it lo c n
    refine W.item i s _ _ hg st fun v h' tk hv st' kk => ?_
    obtain ⟨t, rfl⟩ := hv
    have I1 : Inv X pins σ H { s with heap := h', toks := tk } := I.turned (fun b o hb e => kk b o (by simpa using hb) e) f0 f1 f3 f4 f5
    exact ⟨_, rfl, go_of (s := { s with heap := h', toks := tk }) (n := "range_iterator") st' rfl rfl (by decide) ⟨.int (lo + (i : Nat) * c), H, I1, ⟨t, rfl⟩, ⟨rfl, rfl⟩, st', fun b hb => (hf b hb).1⟩⟩
  done := by
    intro X hP hw hK hc i pins s σ H E I hf st hg
    subst hP hw hK
    obtain ⟨f0, f1, f2, f3, f4, f5⟩ := hf it (by simp)
    exact wpAny_pyNext_range_end (I.ok.hd hc) st (by have : n ≤ i := hg; omega) fun h' eb => ⟨rfl, I.turned (t' := s.toks) (fun b o hb e => eb b o hb e) f0 f1 f3 f4 f5⟩
  self := fun A i s Q E st h => wpAny_pyIter_rangeiter st h
def RgC (i j c : Int) (n : Nat) : Prop := c ≠ 0 ∧ c.natAbs < 1073741824 ∧ Builtin.Range.small i j c = true ∧ Builtin.Range.rangeSize i j c = n
theorem RgC.neg {i j : Int} (ha : -(2 ^ 62) ≤ i) (ha' : i < 2 ^ 62) (hb : -(2 ^ 62) ≤ j) (hb' : j < 2 ^ 62) : RgC i j (-1) (i - j).toNat :=
  ⟨by decide, by decide, PySem.W.small_down ha ha' hb hb', PySem.W.rangeSize_downNat i j⟩
def iRng3 (ta : TA) : TI := fun σ H R => ta σ H fun vs H1 => ∃ (i j c : Int) (n : Nat), vs = [.int i, .int j, .int c] ∧ RgC i j c n ∧ R (Itc i c n) H1
section
variable {X : Cx} {tg : Expr}
theorem pi_range3 {a b c : Expr} {ta : TA} {p pos : Pos} (hg : Gl X "range") (hm : X.mg "range" = none) (ha : PA X [a, b, c] ta)
    (hs : starEach [a, b, c] X.env = (false, eval a X.env) :: starEach [b, c] X.env := by rfl) (hpl : (backTo pos (starEach [b, c] X.env)).any (·.1) = false := by rfl) :
    PI X tg (.Call (.Name "range" p) [a, b, c] [] pos) (iRng3 ta) := by
  intro pins s σ H R I h
  refine Call_ (ld_blt I hg hm boot_range (PyProof.Rows.callWith_type1 (thn (ha pos pins s σ H _ I h) fun us s1 ⟨vs, H1, I1, r1, q1⟩ => ?_) hs hpl))
  obtain ⟨i, j, k, n, e, ⟨c0, c1, c2, c3⟩, q⟩ := q1
  subst e
  cases r1 with
  | cons r rr =>
    cases rr with
    | cons r' rr =>
      cases rr with
      | cons r'' rr =>
        cases rr
        obtain ⟨t, rfl⟩ := r
        obtain ⟨t', rfl⟩ := r'
        obtain ⟨t'', rfl⟩ := r''
        refine call_range_3 c0 ?_ (.inl (PyProof.noPylong_small c1))
        refine wpAny_pyIter_range (IsRange.new ..) c2 ?_
        have I2 : Inv X pins σ H1 { s1 with heap := s1.heap.push { cls := .type "range", data := .fields #[.int i t, .int j t', .int k t''] } } := I1.kept (t' := s1.toks) fun b o e => Heap.get?_push_of_some _ e
        refine pi_one (tk := s1.toks) I2 _ (turn_rangeC _ i k n) ?_ q
        have e1 : i + ((0 : Nat) : Int) * k = i := by simp
        have e2 : (n : Int) - ((0 : Nat) : Int) = Builtin.Range.rangeSize i j k := by rw [c3]; simp
        show IsRangeIter _ _ (i + ((0 : Nat) : Int) * k) ((n : Int) - ((0 : Nat) : Int)) k
        rw [e1, e2]
        exact Heap.get?_push_size _ rfl
end
theorem for_rangeC {lo c : Int} {n : Nat} {g : TG} {tb : TS} {D : Ends} {σ : St} {H : Hp} (Pv : Nat → St → Hp → Prop) (h0 : Pv 0 σ H)
    (hs : ∀ i σ H, i < n → Pv i σ H → g (.int (lo + (i : Nat) * c)) σ H fun σ2 H2 => tb { D with nx := Pv (i + 1), ct := Pv (i + 1), bk := D.nx } σ2 H2) (hd : ∀ σ H, Pv n σ H → D.nx σ H) :
    ∃ W : Nat → Nat → St → Hp → Prop, (∃ m, W 0 m σ H) ∧ ∀ i m σ H, W i m σ H →
      ((Itc lo c n).stop i H ∧ D.nx σ H) ∨ ((Itc lo c n).go i H ∧ ∃ N : St → Hp → Prop, (∀ σ' H', N σ' H' → ∃ m', m' < m ∧ W (i + 1) m' σ' H') ∧ ∀ x H', (Itc lo c n).yld i H x H' → g x σ H' fun σ2 H2 => tb { D with nx := N, ct := N, bk := D.nx } σ2 H2) := by
  refine ⟨fun i m σ H => m = n - i ∧ i ≤ n ∧ Pv i σ H, ⟨n, by simp, Nat.zero_le _, h0⟩, ?_⟩
  rintro i m σ H ⟨rfl, hi, p⟩
  by_cases hlt : i < n
  · refine .inr ⟨hlt, Pv (i + 1), fun σ' H' p' => ⟨n - (i + 1), by omega, rfl, hlt, p'⟩, fun x H' y => ?_⟩
    obtain ⟨e, y⟩ := y
    subst e y
    exact hs i σ _ hlt p
  · have e : i = n := by omega
    subst e
    exact .inl ⟨Nat.le_refl _, hd σ H p⟩

section
variable {X : Cx} {tg : Expr}
end

section
variable {prog : Program} {w : World} {A : Around} {E : Value → Shared → Prop} {s : Shared}
end

section
variable {X : Cx} {pins : List (Addr × Obj)} {σ : St} {H : Hp} {s : Shared} {d : Addr} {o : Obj}
end

section
variable {P : Program} {w : World} {K : PySem.W.Frag} {tg : Expr} {d : Addr} {o : Obj} {es : Array DictEntry} {ep : Nat}
end

section
variable {X : Cx} {tg e : Expr} {td : TE} {apos cpos : Pos}
end

def Ite (K : PySem.W.Frag) (a : Addr) : It :=
  ⟨fun i H => ∃ (xs : List V) (x : V), SqL K H a xs ∧ xs[i]? = some x, fun i H v H' => ∃ T x, v = .ref T ∧ H T = none ∧ H' = upd H T (.tup [.int (i : Nat), x]) ∧ ∀ xs, SqL K H a xs → xs[i]? = some x, fun i H => ∃ xs : List V, SqL K H a xs ∧ xs.length ≤ i⟩
theorem turn_enum {P : Program} {w : World} {K : PySem.W.Frag} {elts : List Expr} {kk : Nat} {tpos : Pos} (a e it : Addr) :
    Turn P w K (.Tuple elts kk tpos) (Ite K a) [e, it] e (fun i h => (∃ old, IsEnum h e it ((i : Nat) : Int) old) ∧ h.IsListIter it a i ∧ e ≠ it) where
  mem := by simp
  obj := fun i h st b hb => by
    obtain ⟨⟨old, he⟩, ⟨o, ho, hc, hd⟩, _⟩ := st
    have e' : b = e ∨ b = it := by simpa using hb
    rcases e' with z | z
    · rw [z]; exact ⟨_, he, fun v q => nomatch q⟩
    · rw [z]; exact ⟨o, ho, fun v q => by rw [hd] at q; cases q⟩
  keep := fun i h h' st k => let ⟨⟨old, he⟩, hi, hne⟩ := st; ⟨⟨old, k e (by simp) _ he⟩, hi.at fun o q => k it (by simp) o q, hne⟩
  item := by
    intro X hP hw hK hc i pins s σ H E I hf st hg
    subst hP hw hK
    obtain ⟨⟨old, he⟩, hit, hne⟩ := st
    obtain ⟨xs, x, hq, hx⟩ := hg
    obtain ⟨its, rv, p, hz⟩ := I.list hq
    obtain ⟨u, hu, ru⟩ := rv.get hx
    have hel : e < s.heap.objs.size := Heap.lt_size he
    have hil : it < s.heap.objs.size := by obtain ⟨_, q, _⟩ := hit; exact Heap.lt_size q
    refine wpAny_pyNext_enum_item he hit p.isList (x := u) (by simpa using hu) hne fun h' ho hit' hT hsz hk => ?_
    refine ⟨_, rfl, wpAny_letOwnedTupleGo_enum (s := { s with heap := h', toks := s.toks + 1 }) ho fun h'' he' sb => ?_⟩
    have hT2 : h''.get? s.heap.objs.size = some { cls := .type "tuple", data := .seq #[.int i s.toks, u] } := (sb.2 _ (Nat.ne_of_gt hel)).trans hT
    have new : ObjOk X.prog X.w (upd H s.heap.objs.size (.tup [.int (i : Nat), x])) h'' s.heap.objs.size (.tup [.int (i : Nat), x]) :=
      ⟨by show 2 ≤ sizeLine; decide, [.int i s.toks, u], .cons ⟨_, rfl⟩ (.cons ru .nil), ⟨_, hT2, rfl, _, rfl⟩⟩
    have I1 : Inv X pins σ (upd H s.heap.objs.size (.tup [.int (i : Nat), x])) { s with heap := h'', toks := s.toks + 1 } :=
      I.turnedNew (ch := [e, it]) (fun b ob hb q => (sb.2 b (fun z => hb (by simp [z]))).trans (hk b ob (fun z => hb (by simp [z])) (fun z => hb (by simp [z])) q)) hf (Nat.le_refl _) new
    refine ⟨.ref s.heap.objs.size, _, I1, rfl, ⟨_, x, rfl, I.hok.fresh (Nat.le_refl _), rfl, fun ys hy => by rw [I.list_inj hy hq]; exact hx⟩, ⟨⟨u, ?_⟩, hit'.at fun o q => (sb.2 it (Ne.symm hne)).trans q, hne⟩, fun b hb => ?_⟩
    · have e1 : ((i + 1 : Nat) : Int) = (i : Int) + 1 := by omega
      rw [e1]; exact he'
    · have hb' : b < s.heap.objs.size := by
        have e' : b = e ∨ b = it := by simpa using hb
        rcases e' with z | z
        · rw [z]; exact hel
        · rw [z]; exact hil
      rw [upd_ne (Nat.ne_of_lt hb')]
      exact (hf b hb).1
  done := by
    intro X hP hw hK hc i pins s σ H E I hf st hg
    subst hP hw hK
    obtain ⟨⟨old, he⟩, hit, hne⟩ := st
    obtain ⟨xs, hq, hx⟩ := hg
    obtain ⟨its, rv, p, hz⟩ := I.list hq
    obtain ⟨f0, f1, f2, f3, f4, f5⟩ := hf it (by simp)
    have hl := rv.length
    exact wpAny_pyNext_enum_end (I.ok.hd hc) he hit p.isList (by simp; omega) fun h' eb => ⟨rfl, I.turned (t' := s.toks) (fun b o hb q => eb b o hb q) f0 f1 f3 f4 f5⟩
  self := fun A i s Q E st h => let ⟨⟨_, he⟩, _⟩ := st; wpAny_pyIter_enum he h
def iEnum (K : PySem.W.Frag) (ta : TA) : TI := fun σ H R => ta σ H fun vs H1 => ∃ a xs, vs = [.ref a] ∧ SqL K H1 a xs ∧ R (Ite K a) H1
theorem pi_enum {X : Cx} {e : Expr} {ta : TA} {p pos tpos : Pos} {elts : List Expr} {kk : Nat} (hg : Gl X "enumerate") (hm : X.mg "enumerate" = none) (ha : PA X [e] ta) (hs : starEach [e] X.env = [(false, eval e X.env)] := by rfl) :
    PI X (.Tuple elts kk tpos) (.Call (.Name "enumerate" p) [e] [] pos) (iEnum X.K ta) := by
  intro pins s σ H R I h
  refine Call_ (ld_blt I hg hm boot_enumerate (PyProof.Rows.callWith_type1 (thn (ha pos pins s σ H _ I h) fun us s1 ⟨vs, H1, I1, r1, q1⟩ => ?_) hs rfl))
  obtain ⟨a, xs, ex, hq, q⟩ := q1
  subst ex
  cases r1 with
  | cons r rr =>
    cases rr
    cases r
    obtain ⟨its, rv, p', hz⟩ := I1.list hq
    refine call_enumerate_list p'.isList fun h' he hit hsz hk => wpAny_pyIter_enum he ?_
    have I2 : Inv X pins σ H1 { s1 with heap := h' } := I1.kept (t' := s1.toks) hk
    refine ⟨s1.heap.objs.size + 1, [s1.heap.objs.size + 1, s1.heap.objs.size], _, _, H1, rfl, I2, turn_enum a (s1.heap.objs.size + 1) s1.heap.objs.size, ⟨⟨.none, he⟩, hit, Nat.succ_ne_self _⟩, fun b hb => ?_, q⟩
    have e' : b = s1.heap.objs.size + 1 ∨ b = s1.heap.objs.size := by simpa using hb
    have hle : s1.heap.objs.size ≤ b := by
      rcases e' with z | z
      · rw [z]; exact Nat.le_add_right _ _
      · rw [z]; exact Nat.le_refl _
    exact I1.fpOk hle (I1.hok.fresh hle)
theorem boot_zip5 : bootBuiltins "zip" = some (.type "zip") := by decide +kernel
end L2

section 
namespace Bits
open PySem PyProof.Rows

end Bits
end 

section 
namespace TL
open PySem PySem.Builtin PySem.Builtin.Str PySem.StrLaws

abbrev tl (x : Str) : List Nat := x.cps.toList
def pre (S l : List Nat) : Bool := l.take S.length == S
def par (S : List Nat) : List Nat → List Nat → Option (List Nat × List Nat)
  | _, [] => none
  | acc, c :: r => if pre S (c :: r) = true then some (acc, (c :: r).drop S.length) else par S (acc ++ [c]) r

def wstep (st : List (List Nat) × List Nat) (c : Nat) : List (List Nat) × List Nat :=
  if Unicode.isSpace c = true then (if st.2 = [] then st else (st.1 ++ [st.2], [])) else (st.1, st.2 ++ [c])
end TL
end 

namespace L2
open PySem PySem.Spec PyProof.Rows

section
variable {X : Cx} {pins : List (Addr × Obj)} {σ : St} {H : Hp} {s : Shared} {Q : VK}
end

section
variable {X : Cx}

theorem mt1 {id : String} {g : Str → Str → V} (rule : ∀ (a b : Str) (t u : Tok) (s : Shared) (Q : Value → Shared → Prop), (∀ (v : Value) (k : Nat), RelV (g a b) v → Q v { s with toks := k }) →
    wpAny (model X.prog X.w) X.A (call (.builtin id) [.str a t, .str b u]) Q X.xe s) : MtR X id (fun x xs H Q => ∃ a b, x = .str a ∧ xs = [.str b] ∧ Q (g a b) H) := by
  intro pins s σ H x xs v us Q I rx rs h
  obtain ⟨a, b, rfl, rfl, h⟩ := h
  obtain ⟨t, rfl⟩ := rx
  cases rs with
  | cons r1 rs =>
    cases rs
    obtain ⟨u, rfl⟩ := r1
    exact rule a b t u s _ fun v k r => ⟨g a b, H, I.tok k, r, h⟩
end

section
variable {X : Cx} {o e : Expr} {to te : TE}
end
end L2

namespace L2
open PySem PySem.Spec PyProof.Rows

section
variable {X : Cx}
end

theorem IsPart.raw {v : Value} {o : Option Int} (p : IsPart v o) : ∃ l : Option (Int × Tok), v = partValue l ∧ l.map (·.1) = o := by
  cases p with
  | none => exact ⟨none, rfl, rfl⟩
  | int i t => exact ⟨some (i, t), rfl, rfl⟩

end L2

namespace Att
open PySem PySem.W PySem.Calls PyProof.Rows

section
variable {prog : Program} {w : World} {A : Around} {E : Value → Shared → Prop} {s : Shared} {K : Frag}

end
end Att

namespace L2
open PySem PySem.Spec PyProof.Rows

end L2

namespace L2
open PySem PySem.Spec PyProof.Rows

end L2


namespace L2
open PySem PySem.Spec PyProof.Rows
open PySem.W (WData Codec OpenSpec Well WellAll ReadsW ReadsAllW)
mutual
inductive Dw (K : PySem.W.Frag) (H : Hp) : V → WData → Prop
  | non : Dw K H .non .none
  | bl (b : Bool) : Dw K H (.bl b) (.bool b)
  | int (i : Int) : Dw K H (.int i) (.int i)
  | str (x : Str) : Dw K H (.str x) (.str x)
  | byt (b : Array UInt8) : Dw K H (.byt b) (.bytes b.toList)
  | lst {a : Addr} {xs : List V} {ds : List WData} : SqL K H a xs → DwAll K H xs ds → Dw K H (.ref a) (.list ds)
  | tup {a : Addr} {xs : List V} {ds : List WData} : SqT K H a xs → DwAll K H xs ds → Dw K H (.ref a) (.tuple ds)
inductive DwAll (K : PySem.W.Frag) (H : Hp) : List V → List WData → Prop
  | nil : DwAll K H [] []
  | cons {v : V} {vs : List V} {d : WData} {ds : List WData} : Dw K H v d → DwAll K H vs ds → DwAll K H (v :: vs) (d :: ds)
end
theorem dw_ints {K : PySem.W.Frag} {H : Hp} : ∀ ns : List Int, DwAll K H (ns.map V.int) (ns.map WData.int)
  | [] => .nil
  | n :: r => .cons (.int n) (dw_ints r)
theorem ints_dw {K : PySem.W.Frag} {H : Hp} : ∀ (ns : List Int) (xs : List V), DwAll K H xs (ns.map WData.int) → xs = ns.map V.int
  | [], xs, h => by
    cases h
    rfl
  | n :: r, xs, h => by
    cases h with
    | cons h1 h2 =>
      cases h1
      rw [ints_dw r _ h2] <;> rfl
section
variable {P : Program} {w : World} {K : PySem.W.Frag} {H : Hp} {h : Heap} {R : PySem.W.WRecords} {cl : Str → Option Addr}
theorem sqL_at {a : Addr} {xs : List V} (hok : HOk P w H h) (KX : K.In h) (q : SqL K H a xs) : ∃ (its : List Value) (o : Obj) (n : Nat), Vals xs its ∧ h.get? a = some o ∧ o.cls = .type "list" ∧ o.data = .seq its.toArray n := by
  rcases q with q | ⟨o, its, n, e, hc, _, hd, _, hv⟩
  · obtain ⟨_, its, n, hv, e⟩ := (show ObjOk P w H h a (.lst xs) from q.ok hok)
    exact ⟨its, _, n, hv, e, rfl, rfl⟩
  · exact ⟨its.toList, o, n, hv, KX _ _ e, hc, by simp [hd]⟩
theorem sqT_at {a : Addr} {xs : List V} (hok : HOk P w H h) (KX : K.In h) (q : SqT K H a xs) : ∃ (its : List Value) (o : Obj) (n : Nat), Vals xs its ∧ h.get? a = some o ∧ o.cls = .type "tuple" ∧ o.data = .seq its.toArray n := by
  rcases q with q | ⟨o, its, n, e, hc, hd, _, hv⟩
  · obtain ⟨_, its, hv, o, e, hc, n, hd⟩ := (show ObjOk P w H h a (.tup xs) from q.ok hok)
    exact ⟨its, o, n, hv, e, hc, hd⟩
  · exact ⟨its.toList, o, n, hv, KX _ _ e, hc, by simp [hd]⟩
mutual
theorem Dw.reads (hok : HOk P w H h) (KX : K.In h) : ∀ (d : WData) (v : V) (u : Value), Dw K H v d → RelV v u → ∃ as, ReadsW R cl h u d as
  | .none, _, _, x, r => by
    cases x
    cases r
    exact ⟨_, ReadsW.none⟩
  | .bool b, _, _, x, r => by
    cases x
    cases r
    exact ⟨_, ReadsW.bool b⟩
  | .int i, _, _, x, r => by
    cases x
    obtain ⟨t, rfl⟩ := r
    exact ⟨_, ReadsW.int i t⟩
  | .str s, _, _, x, r => by
    cases x
    obtain ⟨t, rfl⟩ := r
    exact ⟨_, ReadsW.str s t⟩
  | .bytes b, _, _, x, r => by
    cases x
    obtain ⟨t, rfl⟩ := r
    exact ⟨_, ReadsW.bytes _ t⟩
  | .list ds, _, _, x, r => by
    cases x with
    | lst hs ha =>
      cases r
      obtain ⟨its, o, n, rv, ho, hc, hd⟩ := sqL_at hok KX hs
      obtain ⟨as, hr⟩ := Dw.readsAll hok KX ds _ its ha rv
      exact ⟨_, ReadsW.list ho hc hd hr⟩
  | .tuple ds, _, _, x, r => by
    cases x with
    | tup hs ha =>
      cases r
      obtain ⟨its, o, n, rv, ho, hc, hd⟩ := sqT_at hok KX hs
      obtain ⟨as, hr⟩ := Dw.readsAll hok KX ds _ its ha rv
      exact ⟨_, ReadsW.tuple ho hc hd hr⟩
  | .float _, _, _, x, _ => by cases x
  | .dict _, _, _, x, _ => by cases x
  | .bytearray _, _, _, x, _ => by cases x
  | .set _, _, _, x, _ => by cases x
  | .frozenset _, _, _, x, _ => by cases x
  | .obj _ _, _, _, x, _ => by cases x
theorem Dw.readsAll (hok : HOk P w H h) (KX : K.In h) : ∀ (ds : List WData) (vs : List V) (us : List Value), DwAll K H vs ds → Vals vs us → ∃ as, ReadsAllW R cl h us ds as
  | [], _, _, x, r => by
    cases x
    cases r
    exact ⟨_, ReadsAllW.nil⟩
  | d :: ds, _, _, x, r => by
    cases x with
    | cons h1 h2 =>
      cases r with
      | cons r1 r2 =>
        obtain ⟨as, q1⟩ := Dw.reads hok KX d _ _ h1 r1
        obtain ⟨bs, q2⟩ := Dw.readsAll hok KX ds _ _ h2 r2
        exact ⟨_, ReadsAllW.cons q1 q2⟩
end
end
mutual
def plW : WData → Bool
  | .none => true
  | .bool _ => true
  | .int _ => true
  | .str _ => true
  | .bytes _ => true
  | .list xs => plWs xs
  | .tuple xs => plWs xs
  | _ => false
def plWs : List WData → Bool
  | [] => true
  | x :: r => plW x && plWs r
end
theorem plWs_map {α : Type} {f : α → WData} (h : ∀ a, plW (f a) = true) : ∀ l : List α, plWs (l.map f) = true
  | [] => rfl
  | x :: r => by
    show (plW (f x) && plWs (r.map f)) = true
    rw [h x, plWs_map h r] <;> rfl
theorem pl_enc : ∀ (c : Codec) (a : c.denote), plW (c.enc a) = true
  | .unit, _ => rfl
  | .bool, _ => rfl
  | .int _ _, _ => rfl
  | .nat _ _, _ => rfl
  | .u8, _ => rfl
  | .bytes _ _, _ => rfl
  | .text _ _ _ _, _ => rfl
  | .list _ _ c, a => plWs_map (fun x => pl_enc c x) a
  | .pair c d, a => by
    show (plW (c.enc a.1) && (plW (d.enc a.2) && true)) = true
    rw [pl_enc c a.1, pl_enc d a.2] <;> rfl
  | .triple c d e, a => by
    show (plW (c.enc a.1) && (plW (d.enc a.2.1) && (plW (e.enc a.2.2) && true))) = true
    rw [pl_enc c a.1, pl_enc d a.2.1, pl_enc e a.2.2] <;> rfl
  | .option c, none => rfl
  | .option c, some x => pl_enc c x
theorem pl_encAll : ∀ (cs : List Codec) (a : Codec.denoteAll cs), plWs (Codec.encAll cs a) = true
  | [], _ => rfl
  | c :: cs, a => by
    show (plW (c.enc a.1) && plWs (Codec.encAll cs a.2)) = true
    rw [pl_enc c a.1, pl_encAll cs a.2] <;> rfl
theorem weight_mem : ∀ {xs : List WData} {d : WData}, d ∈ xs → d.weight ≤ WData.weightAll xs
  | [], d, h => absurd h (by simp)
  | x :: r, d, h => by
    show d.weight ≤ x.weight + 1 + WData.weightAll r
    rcases List.mem_cons.mp h with e | m
    · rw [e]
      omega
    · have z := weight_mem m
      omega
def toV : Value → V
  | .none => .non
  | .bool b => .bl b
  | .int i _ => .int i
  | .str x _ => .str x
  | .bytes b _ => .byt b
  | .ref a => .ref a
  | _ => .non
def OkU (A : List Addr) : Value → Prop
  | .none => True
  | .bool _ => True
  | .int _ _ => True
  | .str _ _ => True
  | .bytes _ _ => True
  | .ref a => a ∈ A
  | _ => False
theorem OkU.mono {A B : List Addr} (h : ∀ a ∈ A, a ∈ B) : ∀ {u : Value}, OkU A u → OkU B u := fun {u} x => by
  cases u with
  | ref a => exact h a x
  | none => trivial
  | bool b => trivial
  | int i t => trivial
  | str s t => trivial
  | bytes b t => trivial
  | _ => exact False.elim x
theorem relV_toV {A : List Addr} {u : Value} (x : OkU A u) : RelV (toV u) u := by
  cases u with
  | ref a => rfl
  | none => rfl
  | bool b => rfl
  | int i t => exact ⟨t, rfl⟩
  | str s t => exact ⟨t, rfl⟩
  | bytes b t => exact ⟨t, rfl⟩
  | _ => exact False.elim x
theorem vals_toV {A : List Addr} : ∀ {vs : List Value}, (∀ u ∈ vs, OkU A u) → Vals (vs.map toV) vs
  | [], _ => .nil
  | u :: r, h => .cons (relV_toV (h u (List.mem_cons_self ..))) (vals_toV fun x hx => h x (List.mem_cons_of_mem _ hx))
def ArgOb (h : Heap) (A : List Addr) (a : Addr) : Prop := ∃ vs : List Value, vs.length ≤ sizeLine ∧ (∀ u ∈ vs, OkU A u) ∧
  (h.get? a = some { cls := .type "list", data := .seq vs.toArray } ∨ h.get? a = some { cls := .type "tuple", data := .seq vs.toArray })
theorem ArgOb.mono {h : Heap} {A B : List Addr} {a : Addr} (k : ∀ a ∈ A, a ∈ B) (x : ArgOb h A a) : ArgOb h B a := by
  obtain ⟨vs, h1, h2, h3⟩ := x
  exact ⟨vs, h1, fun u hu => (h2 u hu).mono k, h3⟩
theorem wellAll_len {P : Params} {h : Heap} : ∀ {vs : List Value} {ds : List WData}, WellAll P h vs ds → vs.length = ds.length
  | _, _, .nil => rfl
  | _, _, .cons _ b => by
    show _ + 1 = _ + 1
    rw [wellAll_len b]
theorem well_list {P : Params} {h : Heap} {v : Value} {ds : List WData} (x : Well P h v (.list ds)) : ∃ (a : Addr) (vs : List Value), v = .ref a ∧ h.get? a = some { cls := .type "list", data := .seq vs.toArray } ∧ WellAll P h vs ds := by
  cases x with
  | list ho hall => exact ⟨_, _, rfl, ho, hall⟩
theorem well_tuple {P : Params} {h : Heap} {v : Value} {ds : List WData} (x : Well P h v (.tuple ds)) : ∃ (a : Addr) (vs : List Value), v = .ref a ∧ h.get? a = some { cls := .type "tuple", data := .seq vs.toArray } ∧ WellAll P h vs ds := by
  cases x with
  | tuple ho hall => exact ⟨_, _, rfl, ho, hall⟩
theorem well_cons {P : Params} {h : Heap} {us : List Value} {d : WData} {ds : List WData} (x : WellAll P h us (d :: ds)) : ∃ (v : Value) (vs : List Value), us = v :: vs ∧ Well P h v d ∧ WellAll P h vs ds := by
  cases x with
  | cons a b => exact ⟨_, _, rfl, a, b⟩
theorem line_of {n : Nat} (h : n ≤ 1048576) : n ≤ sizeLine := Nat.le_trans h (by decide)
section
variable {P : Params} {h : Heap}
mutual
theorem area_one : ∀ (d : WData) (v : Value), Well P h v d → plW d = true → d.weight ≤ 1048576 → ∃ A : List Addr, OkU A v ∧ ∀ a ∈ A, ArgOb h A a
  | .none, _, x, _, _ => by
    cases x
    exact ⟨[], trivial, fun a m => absurd m (by simp)⟩
  | .bool b, _, x, _, _ => by
    cases x
    exact ⟨[], trivial, fun a m => absurd m (by simp)⟩
  | .int i, _, x, _, _ => by
    cases x
    exact ⟨[], trivial, fun a m => absurd m (by simp)⟩
  | .str s, _, x, _, _ => by
    cases x
    exact ⟨[], trivial, fun a m => absurd m (by simp)⟩
  | .bytes b, _, x, _, _ => by
    cases x
    exact ⟨[], trivial, fun a m => absurd m (by simp)⟩
  | .list ds, _, x, p, z => by
    obtain ⟨a, vs, rfl, ho, hall⟩ := well_list x
    have z2 : WData.weightAll ds ≤ 1048576 := z
    obtain ⟨A, h1, h2⟩ := area_all ds _ hall p fun d hd => Nat.le_trans (weight_mem hd) z2
    have k : ∀ b ∈ A, b ∈ a :: A := fun b hb => List.mem_cons_of_mem _ hb
    refine ⟨a :: A, List.mem_cons_self .., fun b hb => ?_⟩
    rcases List.mem_cons.mp hb with e | m
    · rw [e]
      exact ⟨vs, line_of (by rw [wellAll_len hall]; exact Nat.le_trans (PySem.W.length_le_weightAllW ds) z2), fun u hu => (h1 u hu).mono k, .inl ho⟩
    · exact (h2 b m).mono k
  | .tuple ds, _, x, p, z => by
    obtain ⟨a, vs, rfl, ho, hall⟩ := well_tuple x
    have z2 : WData.weightAll ds ≤ 1048576 := z
    obtain ⟨A, h1, h2⟩ := area_all ds _ hall p fun d hd => Nat.le_trans (weight_mem hd) z2
    have k : ∀ b ∈ A, b ∈ a :: A := fun b hb => List.mem_cons_of_mem _ hb
    refine ⟨a :: A, List.mem_cons_self .., fun b hb => ?_⟩
    rcases List.mem_cons.mp hb with e | m
    · rw [e]
      exact ⟨vs, line_of (by rw [wellAll_len hall]; exact Nat.le_trans (PySem.W.length_le_weightAllW ds) z2), fun u hu => (h1 u hu).mono k, .inr ho⟩
    · exact (h2 b m).mono k
  | .float _, _, _, p, _ => Bool.noConfusion (show false = true from p)
  | .dict _, _, _, p, _ => Bool.noConfusion (show false = true from p)
  | .bytearray _, _, _, p, _ => Bool.noConfusion (show false = true from p)
  | .set _, _, _, p, _ => Bool.noConfusion (show false = true from p)
  | .frozenset _, _, _, p, _ => Bool.noConfusion (show false = true from p)
  | .obj _ _, _, _, p, _ => Bool.noConfusion (show false = true from p)
theorem area_all : ∀ (ds : List WData) (vs : List Value), WellAll P h vs ds → plWs ds = true → (∀ d ∈ ds, d.weight ≤ 1048576) → ∃ A : List Addr, (∀ u ∈ vs, OkU A u) ∧ ∀ a ∈ A, ArgOb h A a
  | [], _, x, _, _ => by
    cases x
    exact ⟨[], fun u m => absurd m (by simp), fun a m => absurd m (by simp)⟩
  | d :: ds, _, x, p, z => by
    obtain ⟨v, vs, rfl, x1, x2⟩ := well_cons x
    have q : plW d = true ∧ plWs ds = true := Bool.and_eq_true_iff.mp p
    obtain ⟨A, a1, a2⟩ := area_one d v x1 q.1 (z d (List.mem_cons_self ..))
    obtain ⟨B, b1, b2⟩ := area_all ds vs x2 q.2 fun e he => z e (List.mem_cons_of_mem _ he)
    have kA : ∀ b ∈ A, b ∈ A ++ B := fun b hb => List.mem_append.mpr (.inl hb)
    have kB : ∀ b ∈ B, b ∈ A ++ B := fun b hb => List.mem_append.mpr (.inr hb)
    refine ⟨A ++ B, fun u hu => ?_, fun b hb => ?_⟩
    · rcases List.mem_cons.mp hu with e | m
      · rw [e]
        exact a1.mono kA
      · exact (b1 u m).mono kB
    · rcases List.mem_append.mp hb with m | m
      · exact (a2 b m).mono kA
      · exact (b2 b m).mono kB
end
end
def hoOf (o : Obj) : Option HO := match o.data with
  | .seq vs _ => if (o.cls == Value.type "list") = true then some (.frz o (.lst (vs.toList.map toV))) else some (.frz o (.tup (vs.toList.map toV)))
  | _ => none
def argH (K : PySem.W.Frag) (h : Heap) (A : List Addr) : Hp := fun b => if b ∈ A then (if (K.lookup b).isNone = true then (h.get? b).bind hoOf else none) else none
def OnlyF (H : Hp) : Prop := ∀ b, H b = none ∨ ∃ o u, H b = some (.frz o u)
theorem hoOf_lst (vs : List Value) : hoOf { cls := .type "list", data := .seq vs.toArray } = some (.frz { cls := .type "list", data := .seq vs.toArray } (.lst (vs.map toV))) := by
  show (if (Value.type "list" == Value.type "list") = true then some (HO.frz { cls := .type "list", data := .seq vs.toArray } (.lst (vs.toArray.toList.map toV))) else some (HO.frz { cls := .type "list", data := .seq vs.toArray } (.tup (vs.toArray.toList.map toV)))) = _
  rw [if_pos (beq_self_eq_true _)]
theorem hoOf_tup (vs : List Value) : hoOf { cls := .type "tuple", data := .seq vs.toArray } = some (.frz { cls := .type "tuple", data := .seq vs.toArray } (.tup (vs.map toV))) := by
  show (if (Value.type "tuple" == Value.type "list") = true then some (HO.frz { cls := .type "tuple", data := .seq vs.toArray } (.lst (vs.toArray.toList.map toV))) else some (HO.frz { cls := .type "tuple", data := .seq vs.toArray } (.tup (vs.toArray.toList.map toV)))) = _
  rw [if_neg (by decide)]
section
variable {P : Program} {w : World} {K : PySem.W.Frag} {h : Heap} {A : List Addr}
theorem argH_at {b : Addr} {o : Obj} (hb : b ∈ A) (hk : K.lookup b = none) (e : h.get? b = some o) : argH K h A b = hoOf o := by
  unfold argH
  rw [if_pos hb, hk, if_pos (show (none : Option Obj).isNone = true from rfl), e] <;> rfl
theorem of_argH {b : Addr} {u : HO} (q : argH K h A b = some u) : b ∈ A ∧ K.lookup b = none := by
  unfold argH at q
  by_cases hb : b ∈ A
  · rw [if_pos hb] at q
    cases hk : K.lookup b with
    | none => exact ⟨hb, rfl⟩
    | some o =>
      rw [hk, if_neg (by simp)] at q
      cases q
  · rw [if_neg hb] at q
    cases q
theorem argH_is (ar : ∀ a ∈ A, ArgOb h A a) {b : Addr} {u : HO} (q : argH K h A b = some u) : K.lookup b = none ∧ ∃ vs : List Value, vs.length ≤ sizeLine ∧ (∀ u ∈ vs, OkU A u) ∧
    ((h.get? b = some { cls := .type "list", data := .seq vs.toArray } ∧ u = .frz { cls := .type "list", data := .seq vs.toArray } (.lst (vs.map toV))) ∨
     (h.get? b = some { cls := .type "tuple", data := .seq vs.toArray } ∧ u = .frz { cls := .type "tuple", data := .seq vs.toArray } (.tup (vs.map toV)))) := by
  obtain ⟨hb, hk⟩ := of_argH q
  obtain ⟨vs, h1, h2, h3⟩ := ar b hb
  refine ⟨hk, vs, h1, h2, ?_⟩
  rcases h3 with e | e
  · rw [argH_at hb hk e, hoOf_lst] at q
    exact .inl ⟨e, (Option.some.inj q).symm⟩
  · rw [argH_at hb hk e, hoOf_tup] at q
    exact .inr ⟨e, (Option.some.inj q).symm⟩
theorem argH_only (ar : ∀ a ∈ A, ArgOb h A a) : OnlyF (argH K h A) := fun b => by
  cases q : argH K h A b with
  | none => exact .inl rfl
  | some u =>
    obtain ⟨_, vs, _, _, ⟨_, e⟩ | ⟨_, e⟩⟩ := argH_is ar q
    · exact .inr ⟨_, _, by rw [e]⟩
    · exact .inr ⟨_, _, by rw [e]⟩
theorem argH_ok (ar : ∀ a ∈ A, ArgOb h A a) : HOk P w (argH K h A) h := fun b u q => by
  obtain ⟨_, vs, h1, h2, ⟨e, rfl⟩ | ⟨e, rfl⟩⟩ := argH_is ar q
  · exact ⟨e, by rw [List.length_map]; exact h1, vs, _, vals_toV h2, e⟩
  · exact ⟨e, by rw [List.length_map]; exact h1, vs, vals_toV h2, _, e, rfl, _, rfl⟩
theorem seq_inj {c c' : Value} {vs us : List Value} (e : (some { cls := c, data := .seq vs.toArray } : Option Obj) = some { cls := c', data := .seq us.toArray }) : c = c' ∧ vs = us := by
  have e1 := Option.some.inj e
  have e2 : c = c' := congrArg Obj.cls e1
  have e3 : Data.seq vs.toArray = Data.seq us.toArray := congrArg Obj.data e1
  injection e3 with e4
  refine ⟨e2, ?_⟩
  have e5 := congrArg Array.toList e4
  simpa using e5
theorem argL (KX : K.In h) (ar : ∀ a ∈ A, ArgOb h A a) {a : Addr} {vs : List Value} (ha : a ∈ A) (e : h.get? a = some { cls := .type "list", data := .seq vs.toArray }) : (∀ u ∈ vs, OkU A u) ∧ SqL K (argH K h A) a (vs.map toV) := by
  obtain ⟨us, h1, h2, h3⟩ := ar a ha
  have hu : us = vs := by
    rcases h3 with q | q
    · rw [e] at q
      exact (seq_inj q).2.symm
    · rw [e] at q
      exact absurd (Value.type.inj (seq_inj q).1) (by decide)
  subst hu
  refine ⟨h2, ?_⟩
  cases hk : K.lookup a with
  | none => exact .inl (.inr ⟨_, by rw [argH_at ha hk e, hoOf_lst]⟩)
  | some o =>
    have e2 := KX a o hk
    rw [e] at e2
    obtain rfl := Option.some.inj e2
    exact .inr ⟨_, us.toArray, _, hk, rfl, rfl, rfl, by rw [List.size_toArray]; exact h1, by simpa using vals_toV h2⟩
theorem argT (KX : K.In h) (ar : ∀ a ∈ A, ArgOb h A a) {a : Addr} {vs : List Value} (ha : a ∈ A) (e : h.get? a = some { cls := .type "tuple", data := .seq vs.toArray }) : (∀ u ∈ vs, OkU A u) ∧ SqT K (argH K h A) a (vs.map toV) := by
  obtain ⟨us, h1, h2, h3⟩ := ar a ha
  have hu : us = vs := by
    rcases h3 with q | q
    · rw [e] at q
      exact absurd (Value.type.inj (seq_inj q).1) (by decide)
    · rw [e] at q
      exact (seq_inj q).2.symm
  subst hu
  refine ⟨h2, ?_⟩
  cases hk : K.lookup a with
  | none => exact .inl (.inr ⟨_, by rw [argH_at ha hk e, hoOf_tup]⟩)
  | some o =>
    have e2 := KX a o hk
    rw [e] at e2
    obtain rfl := Option.some.inj e2
    exact .inr ⟨_, us.toArray, _, hk, rfl, rfl, by rw [List.size_toArray]; exact h1, by simpa using vals_toV h2⟩
mutual
theorem dw_one {Pm : Params} (KX : K.In h) (ar : ∀ a ∈ A, ArgOb h A a) : ∀ (d : WData) (v : Value), Well Pm h v d → plW d = true → OkU A v → Dw K (argH K h A) (toV v) d
  | .none, _, x, _, _ => by
    cases x
    exact .non
  | .bool b, _, x, _, _ => by
    cases x
    exact .bl b
  | .int i, _, x, _, _ => by
    cases x
    exact .int i
  | .str s, _, x, _, _ => by
    cases x
    exact .str s
  | .bytes b, _, x, _, _ => by
    cases x
    have z := Dw.byt (K := K) (H := argH K h A) b.toArray
    exact z
  | .list ds, _, x, p, hu => by
    obtain ⟨a, vs, rfl, ho, hall⟩ := well_list x
    obtain ⟨h2, hs⟩ := argL KX ar hu ho
    exact .lst hs (dw_all KX ar ds _ hall p h2)
  | .tuple ds, _, x, p, hu => by
    obtain ⟨a, vs, rfl, ho, hall⟩ := well_tuple x
    obtain ⟨h2, hs⟩ := argT KX ar hu ho
    exact .tup hs (dw_all KX ar ds _ hall p h2)
  | .float _, _, _, p, _ => Bool.noConfusion (show false = true from p)
  | .dict _, _, _, p, _ => Bool.noConfusion (show false = true from p)
  | .bytearray _, _, _, p, _ => Bool.noConfusion (show false = true from p)
  | .set _, _, _, p, _ => Bool.noConfusion (show false = true from p)
  | .frozenset _, _, _, p, _ => Bool.noConfusion (show false = true from p)
  | .obj _ _, _, _, p, _ => Bool.noConfusion (show false = true from p)
theorem dw_all {Pm : Params} (KX : K.In h) (ar : ∀ a ∈ A, ArgOb h A a) : ∀ (ds : List WData) (vs : List Value), WellAll Pm h vs ds → plWs ds = true → (∀ u ∈ vs, OkU A u) → DwAll K (argH K h A) (vs.map toV) ds
  | [], _, x, _, _ => by
    cases x
    exact .nil
  | d :: ds, _, x, p, hu => by
    obtain ⟨v, vs, rfl, x1, x2⟩ := well_cons x
    have q : plW d = true ∧ plWs ds = true := Bool.and_eq_true_iff.mp p
    exact .cons (dw_one KX ar d v x1 q.1 (hu _ (List.mem_cons_self ..))) (dw_all KX ar ds vs x2 q.2 fun u m => hu u (List.mem_cons_of_mem _ m))
end
end
theorem spec_call {P : Program} {w : World} {K : PySem.W.Frag} {mg mb : Str → Option Value} {CX : CXT} {k : Nat} {fa : Addr} {fd : FuncData} {ps : List Str} {sp : Sp} {s₁ : Shared} {vals : List Value} {ds : List WData} {R : PySem.W.WRecords} {cl : Str → Option Addr} {d0 : WData}
    (KX : K.In s₁.heap) (hns : s₁.heap.Ns mainGlobals mg) (hb : s₁.heap.Ns builtinsNs mb) (hbb : ∀ x : Str, x ≠ "__name__" → mb x = bootBuiltins x) (hlim : s₁.heap.NoLimit) (hg : s₁.gens = #[])
    (hwl : WellAll w.params s₁.heap vals ds) (hpl : plWs ds = true) (hwt : ∀ d ∈ ds, d.weight ≤ 1048576) (hr : Room k callerA)
    (F : ∀ base : Heap, K.In base → base.Ns mainGlobals mg → FnOk P w K mg base CX k fa fd ps sp) (hbind : ∀ (s : Shared) (us : List Value), us.length = ps.length → BindsTo s fd ⟨us, []⟩ (ps.zip us)) (hlen : ds.length = ps.length)
    (hsp : ∀ (H : Hp) (xs : List V), OnlyF H → DwAll K H xs ds → sp xs H (fun v H' => Dw K H' v d0) fun _ _ _ => False)
    (hCX : ∀ H e s', CX [] H s₁ (fun _ _ _ => False) e s' → False) :
    codeAny (model P w) callerA (.call (.ref fa) ⟨vals, []⟩) (fun r s' => ∃ u as, r = .ok (.ret u) ∧ ReadsW R cl s'.heap u d0 as ∧ OldK s₁.heap s'.heap ∧ s'.os = s₁.os ∧ AllBare s'.gens) s₁ := by
  obtain ⟨A, ho, ar⟩ := area_all ds vals hwl hpl hwt
  have hO : OnlyF (argH K s₁.heap A) := argH_only ar
  have hok : HOk P w (argH K s₁.heap A) s₁.heap := argH_ok ar
  have hS := dw_all KX ar ds vals hwl hpl ho
  have hV := vals_toV ho
  have hK : ∀ b u, argH K s₁.heap A b = some u → K.lookup b = none := fun b u q => (argH_is ar q).1
  have noA : ∀ {b : Addr} {o : Obj} {es : Array DictEntry} {ep : Nat}, s₁.heap.get? b = some o → o.data = .dict es ep → argH K s₁.heap A b = none := fun {b o es ep} e d => by
    cases q : argH K s₁.heap A b with
    | none => rfl
    | some u =>
      obtain ⟨_, vs, _, _, ⟨e2, _⟩ | ⟨e2, _⟩⟩ := argH_is ar q
      · rw [e2] at e
        cases e
        have d' : Data.seq vs.toArray _ = Data.dict es ep := d
        cases d'
      · rw [e2] at e
        cases e
        have d' : Data.seq vs.toArray _ = Data.dict es ep := d
        cases d'
  generalize argH K s₁.heap A = H at hO hok hS hK noA
  have base_of : ∀ {b : Addr} {o : Obj}, s₁.heap.get? b = some o → H b = none → (hidT s₁.heap H).get? b = some o := fun e n => hidT_get e n
  have nsK : ∀ {b : Addr} {m : Str → Option Value}, s₁.heap.Ns b m → (hidT s₁.heap H).Ns b m := fun {b m} ⟨o, es, ep, e, d, r⟩ => ⟨o, es, ep, base_of e (noA e d), d, r⟩
  have nK : ∀ b o, K.lookup b = some o → H b = none := fun b o e => by
    cases q : H b with
    | none => rfl
    | some u =>
      rw [hK b u q] at e
      cases e
  have hKb : K.In (hidT s₁.heap H) := fun b o e => base_of (KX b o e) (nK b o e)
  have hM : Mod K mg (hidT s₁.heap H) := ⟨hKb, nsK hns, ⟨mb, nsK hb, hbb⟩, let ⟨mc, h1, h2⟩ := hlim; ⟨mc, nsK h1, h2⟩⟩
  have e0 : Env0 P w K mg (hidT s₁.heap H) callerA [] s₁ H := ⟨rfl, hM, fun b o e => of_hidT e, Nat.le_of_eq (hidT_size _ _), trivial, fun b hb => absurd (show b ∈ ([] : List Addr) from hb) (by simp), hok, .of_eq hg⟩
  have hl : vals.length = ps.length := by rw [wellAll_len hwl]; exact hlen
  refine codeAny_mono ((F _ hKb (nsK hns)).run callerA [] s₁ H ⟨vals, []⟩ vals (vals.map toV) _ _ hr e0 (hbind s₁ vals hl) hV (hsp H _ hO hS)) fun r s' x => ?_
  cases r with
  | error e => exact (hCX H e s' x).elim
  | ok fl =>
    cases fl with
    | next => exact False.elim x
    | brk => exact False.elim x
    | cont => exact False.elim x
    | ret u =>
      obtain ⟨v, H', os, bare, un, hok', r', q⟩ := x
      have kept : ∀ b o, s₁.heap.get? b = some o → s'.heap.get? b = some o := fun b o e => by
        cases q2 : H b with
        | none => exact un.keep b o e q2 (by intro z; exact absurd (show b ∈ ([] : List Addr) from z) (by simp)) (by simp)
        | some u2 =>
          rcases hO b with z | ⟨ob, u3, z⟩
          · rw [q2] at z
            cases z
          · have z2 := un.frzs b ob _ z
            obtain ⟨e1, _⟩ := hok b _ z
            obtain ⟨e2, _⟩ := hok' b _ z2
            rw [e] at e1
            cases e1
            exact e2
      have KX' : K.In s'.heap := fun b o e => kept b o (KX b o e)
      obtain ⟨as, hrd⟩ := Dw.reads (R := R) (cl := cl) hok' KX' d0 v u q r'
      exact ⟨u, as, rfl, hrd, OldK.of_keep kept, os, bare⟩
theorem layable_weight {ds : List WData} (h : WData.layableAll ds = true) : ∀ d ∈ ds, d.weight ≤ 1048576 := fun d hd =>
  (PySem.W.layableW_iff.mp (List.all_eq_true.mp h d hd)).2.2
theorem encAll_len : ∀ (cs : List Codec) (a : Codec.denoteAll cs), (Codec.encAll cs a).length = cs.length
  | [], _ => rfl
  | c :: cs, a => by
    show (Codec.encAll cs a.2).length + 1 = cs.length + 1
    rw [encAll_len cs a.2]
theorem walk_spec {r : OpenSpec} {k : Nat} {q : Program} {loose : List Str} {XP : (Str → Option Value) → Heap → Prop} {YP : World → Heap → Prop} {d : DefRec} {K : Params → PySem.W.Frag} {CX : World → CXT} {ps : List Str} {sp : World → Sp}
    (hwell : r.wellSaid = true) (hdf : d.params.defaults = []) (hlen : r.args.length = ps.length) (hr : Room k callerA)
    (hY : ∀ (w : World) (h : Heap), YP w h → (K w.params).In h)
    (F : ∀ (w : World) (mg : Str → Option Value) (fa : Addr) (h : Heap), YP w h → (K w.params).In h → h.Ns mainGlobals mg → mg d.name = some (.ref fa) →
      ∃ fd : FuncData, (∀ (s : Shared) (us : List Value), us.length = ps.length → BindsTo s fd ⟨us, []⟩ (ps.zip us)) ∧
        ∀ base : Heap, (K w.params).In base → base.Ns mainGlobals mg → FnOk r.prog w (K w.params) mg base (CX w) k fa fd ps (sp w))
    (hsp : ∀ (w : World) (H : Hp) (xs : List V) (a : Codec.denoteAll r.args), OnlyF H → Codec.withinAll r.args a = true → Codec.app r.args r.asked a = true → DwAll (K w.params) H xs (Codec.encAll r.args a) →
      sp w xs H (fun v H' => Dw (K w.params) H' v (r.ret.enc (Codec.app r.args r.f a))) fun _ _ _ => False)
    (hCX : ∀ (w : World) (H : Hp) (s : Shared) (e : Value) (s' : Shared), CX w [] H s (fun _ _ _ => False) e s' → False) :
    PySem.W.WalkOS q loose XP YP r d [] (fun f vs => PySem.call f vs) := by
  intro w s_0 s₁ mg mb G Y fa o pm cd doc dV kV ho hd hcd hD hmg hg args vals as hpre hlay hrd hwl hlo
  obtain ⟨a, e1, e2⟩ := PySem.W.os_pre_some hpre
  obtain ⟨e3, hwi⟩ := Codec.encAll_of_decAll r.args args a e1
  subst e3
  have KX := hY w _ Y
  obtain ⟨fd, hb, hF⟩ := F w mg fa _ Y KX G.T.g hmg
  refine PySem.W.enter_call (codeAny_mono (spec_call (R := []) (cl := classAt s_0.heap) (d0 := r.ret.enc (Codec.app r.args r.f a)) KX G.T.g G.T.b G.T.builtins G.T.nolimit hg hwl (pl_encAll _ _) (layable_weight hlay) hr hF hb (by rw [encAll_len]; exact hlen)
    (fun H xs hO hS => hsp w H xs a hO hwi e2 hS) fun H e s' => hCX w H s₁ e s') fun r' s' hq => ?_)
  obtain ⟨u, as', rfl, h1, h2, h3, h4⟩ := hq
  exact ⟨.inl ⟨u, _, as', rfl, fun _ => rfl, h1, (OpenSpec.post_iff hwell hwi _ _).mpr rfl, fun z => Bool.noConfusion (show false = true from z)⟩, h2, h3, h4⟩
theorem walk_specK {r : OpenSpec} {k : Nat} {q : Program} {loose : List Str} {XP : (Str → Option Value) → Heap → Prop} {YP : World → Heap → Prop} {d : DefRec} {K : Params → PySem.W.Frag} {CX : CXT} {ps : List Str} {sp : PySem.W.Frag → Sp}
    (hwell : r.wellSaid = true) (hdf : d.params.defaults = []) (hlen : r.args.length = ps.length) (hr : Room k callerA)
    (hY : ∀ (w : World) (h : Heap), YP w h → (K w.params).In h)
    (F : ∀ (w : World) (mg : Str → Option Value) (fa : Addr) (h : Heap), YP w h → (K w.params).In h → h.Ns mainGlobals mg → mg d.name = some (.ref fa) →
      ∃ fd : FuncData, (∀ (s : Shared) (us : List Value), us.length = ps.length → BindsTo s fd ⟨us, []⟩ (ps.zip us)) ∧
        ∀ base : Heap, (K w.params).In base → base.Ns mainGlobals mg → FnOk r.prog w (K w.params) mg base CX k fa fd ps (sp (K w.params)))
    (hsp : ∀ (K : PySem.W.Frag) (H : Hp) (xs : List V) (a : Codec.denoteAll r.args), OnlyF H → Codec.withinAll r.args a = true → Codec.app r.args r.asked a = true → DwAll K H xs (Codec.encAll r.args a) →
      sp K xs H (fun v H' => Dw K H' v (r.ret.enc (Codec.app r.args r.f a))) fun _ _ _ => False)
    (hCX : ∀ (H : Hp) (s : Shared) (e : Value) (s' : Shared), CX [] H s (fun _ _ _ => False) e s' → False) :
    PySem.W.WalkOS q loose XP YP r d [] (fun f vs => PySem.call f vs) :=
  walk_spec (K := K) (CX := fun _ => CX) (sp := fun w => sp (K w.params)) hwell hdf hlen hr hY F (fun w H xs a h1 h2 h3 h4 => hsp (K w.params) H xs a h1 h2 h3 h4) fun _ H s e s' => hCX H s e s'
end L2
namespace L2
open PySem PySem.Spec PyProof.Rows

def inClass (s : Stmt) (j : Nat) : Stmt := match s with
  | .ClassDef _ _ _ body _ _ _ _ _ _ _ => body.getD j (.Pass ⟨0, 0, 0, 0⟩)
  | _ => .Pass ⟨0, 0, 0, 0⟩
def defArgs (s : Stmt) : Arguments := match s with
  | .FunctionDef _ a _ _ _ _ _ _ _ _ => a
  | _ => { posonlyargs := [], args := [], vararg := none, kwonlyargs := [], kw_defaults := [], kwarg := none, defaults := [] }
def defBody (s : Stmt) : List Stmt := match s with
  | .FunctionDef _ _ b _ _ _ _ _ _ _ => b
  | _ => []
def defScope (s : Stmt) : Scope := match s with
  | .FunctionDef _ _ _ _ _ _ sc _ _ _ => sc
  | _ => { kind := .function, names := [], isGenerator := false, isCoroutine := false }

abbrev CX0 : CXT := fun _ _ _ _ _ _ => False
abbrev E0 : XK := fun _ _ _ => False
theorem pass0 {X : Cx} : Passes CX0 X E0 := fun _ _ _ _ _ _ _ h => h.elim

structure Fun (K : PySem.W.Frag) (x qual : Str) (st : Stmt) (f : Addr) (fd : FuncData) : Prop where
  ex : ∃ (oc : Value) (od : Option Addr) (kV doc pm : Value) (an : Option Addr) (cdv ct : Value) (osl : Array (Option Value)),
    fd = PySem.W.fnOf x qual (defArgs st) (defBody st) (defScope st) .none kV doc pm an cdv ct ∧ K.lookup f = some ⟨oc, od, .func fd, osl⟩ ∧ PySem.W.codeIn K cdv qual = true
  kp : PySem.W.keepIn K (.ref f) = true
section
variable {P : Program} {w : World} {K : PySem.W.Frag} {mg : Str → Option Value} {base : Heap}
theorem Fun.ok {x qual : Str} {st : Stmt} {f : Addr} {fd : FuncData} {N ps : List Str} {k : Nat} {sp : Sp} (F : Fun K x qual st f fd) (S : FnScope N ps (defScope st)) (len : ∀ vs H Q E, sp vs H Q E → vs.length = ps.length)
    (hbody : ∀ (cdv : Value) (A : Around) (outer : List Env) (s : Shared) (H : Hp) (vs : List V) (Q : VK) (E : XK), Room k (A.deeper (envOfC qual (defScope st) s.heap.objs.size f cdv)) → sp vs H Q E →
      ∃ t, PSs (cxOf CX0 P w K mg base N qual (defScope st) f cdv A outer s H E).nox (defBody st) t ∧ t { nx := fun _ H' => Q .non H', rt := Q } (start N vs) H) : FnOk P w K mg base CX0 (k + 1) f fd ps sp := by
  obtain ⟨oc, od, kV, doc, pm, an, cdv, ct, osl, rfl, lk, hcd⟩ := F.ex
  refine fn_of lk hcd S len fun A outer s H vs Q E hr hsp => ?_
  obtain ⟨t, h, q⟩ := hbody cdv A outer s H vs Q E hr hsp
  exact ⟨t, h.nox, q⟩
theorem Fun.binds {x qual : Str} {st : Stmt} {f : Addr} {fd : FuncData} {ps : List Str} (F : Fun K x qual st f fd)
    (h : ∀ (kV doc pm : Value) (an : Option Addr) (cdv ct : Value) (us : List Value), us.length = ps.length → bindArgs (PySem.W.fnOf x qual (defArgs st) (defBody st) (defScope st) .none kV doc pm an cdv ct) ⟨us, []⟩ = pure (ps.zip us)) : Binds K fd ps [] := by
  obtain ⟨oc, od, kV, doc, pm, an, cdv, ct, osl, rfl, lk, hcd⟩ := F.ex
  exact .all (h kV doc pm an cdv ct)
theorem fun_mk {x qual : Str} {st : Stmt} {f : Addr} {oc : Value} {od an : Option Addr} {osl : Array (Option Value)} {kV doc pm cdv ct : Value} (l : K.lookup f = some ⟨oc, od, .func (PySem.W.fnOf x qual (defArgs st) (defBody st) (defScope st) .none kV doc pm an cdv ct), osl⟩)
    (c : PySem.W.codeIn K cdv qual = true) (k : PySem.W.keepIn K (.ref f) = true) : Fun K x qual st f (PySem.W.fnOf x qual (defArgs st) (defBody st) (defScope st) .none kV doc pm an cdv ct) := ⟨⟨oc, od, kV, doc, pm, an, cdv, ct, osl, rfl, l, c⟩, k⟩
end
theorem hu_of {A : Around} {k : Nat} (hr : Room k A) : A.units + 1 < cLine := Nat.lt_of_le_of_lt (Nat.add_le_add_left (by decide : 1 ≤ 64) _) hr.units
section
variable {X : Cx}
theorem pv (i : Nat) {x : Str} {pos : Pos} (hN : X.N[i]? = some x := by rfl) (hv : Vis X.env.scope x := by first | exact Or.inl rfl | exact Or.inr (Or.inl rfl) | exact Or.inr (Or.inr rfl)) (hd : (x == ("__debug__" : Str)) = false := by decide)
    (hcd : (x == ("__classdict__" : Str)) = false := by decide) : PE X (.Name x pos) (tVar i) := pe_var hN hv hd hcd
end

theorem iteF {A B : Prop} (h : B) : if false = true then A else B := by
  rw [if_neg Bool.false_ne_true]
  exact h
theorem iteT {A B : Prop} (h : A) : if true = true then A else B := by
  rw [if_pos rfl]
  exact h
theorem ite2 {c A B : Prop} [Decidable c] (h1 : c → A) (h2 : ¬ c → B) : if c then A else B := by
  by_cases h : c
  · rw [if_pos h]
    exact h1 h
  · rw [if_neg h]
    exact h2 h
def Same (H H' : Hp) : Prop := ∀ b o, H b = some o → H' b = some o
theorem Same.refl (H : Hp) : Same H H := fun _ _ h => h
theorem Same.trans {H H1 H2 : Hp} (a : Same H H1) (b : Same H1 H2) : Same H H2 := fun c o h => b c o (a c o h)
theorem Same.free {H H' : Hp} (e : Same H H') {l : Addr} (h : H' l = Option.none) : H l = Option.none := by
  cases q : H l with
  | none => rfl
  | some o =>
    rw [e l o q] at h
    cases h
theorem Same.seq {K : PySem.W.Frag} {H H' : Hp} {a : Addr} {xs : List V} (e : Same H H') (h : SqL K H a xs) : SqL K H' a xs := by
  rcases h with (h | ⟨o, h⟩) | h
  · exact .inl (.inl (e _ _ h))
  · exact .inl (.inr ⟨o, e _ _ h⟩)
  · exact .inr h

section
variable {κ : Type} [DecidableEq κ]
theorem nd_snoc : ∀ {l : List κ} {k : κ}, l.Nodup → ¬ k ∈ l → (l ++ [k]).Nodup
  | [], k, _, _ => by simp
  | a :: r, k, h, hk => by
    obtain ⟨h1, h2⟩ := List.nodup_cons.mp h
    show (a :: (r ++ [k])).Nodup
    refine List.nodup_cons.mpr ⟨fun m => ?_, nd_snoc h2 fun m => hk (List.mem_cons.mpr (Or.inr m))⟩
    rcases List.mem_append.mp m with q | q
    · exact h1 q
    · exact hk (List.mem_cons.mpr (Or.inl (List.mem_singleton.mp q).symm))
end
theorem nd_ix {α : Type} {l : List α} (hN : l.Nodup) {i j : Nat} {x : α} (a : l[i]? = some x) (b : l[j]? = some x) : i = j := by
  obtain ⟨h1, e1⟩ := List.getElem?_eq_some_iff.mp a
  obtain ⟨h2, e2⟩ := List.getElem?_eq_some_iff.mp b
  exact (List.getElem_inj hN).mp (e1.trans e2.symm)
theorem Same.made {H H1 : Hp} {x dx C : Addr} (nx : H x = Option.none) (nd : H dx = Option.none) (k : ∀ b o, (upd (upd H dx (.own x)) x (.ins C dx [])) b = some o → b ≠ x → H1 b = some o) : Same H H1 := fun b o e =>
  k b o (by rw [upd_ne (ne_of_none e nx), upd_ne (ne_of_none e nd)]; exact e) (ne_of_none e nx)
end L2



section
set_option Elab.async false
set_option linter.all false
namespace Ty
open Su68
/-! ### greatest and least -/
theorem max_ge : ∀ (l : List Int) (a : Int), a ≤ l.foldl max a ∧ ∀ y ∈ l, y ≤ l.foldl max a
  | [], a => ⟨Int.le_refl _, by simp⟩
  | x :: l, a => by
    obtain ⟨h1, h2⟩ := max_ge l (max a x)
    refine ⟨Int.le_trans (Int.le_max_left a x) h1, fun y hy => ?_⟩
    rcases List.mem_cons.mp hy with e | e
    · subst e; exact Int.le_trans (Int.le_max_right a y) h1
    · exact h2 y e
theorem max_mem : ∀ (l : List Int) (a : Int), l.foldl max a = a ∨ l.foldl max a ∈ l
  | [], a => .inl rfl
  | x :: l, a => by
    rcases max_mem l (max a x) with h | h
    · show l.foldl max (max a x) = a ∨ l.foldl max (max a x) ∈ x :: l
      rw [h]
      by_cases e : a ≤ x
      · right; rw [Int.max_eq_right e]; simp
      · left; exact Int.max_eq_left (by omega)
    · exact .inr (List.mem_cons.mpr (.inr h))
theorem min_le : ∀ (l : List Int) (a : Int), l.foldl min a ≤ a ∧ ∀ y ∈ l, l.foldl min a ≤ y
  | [], a => ⟨Int.le_refl _, by simp⟩
  | x :: l, a => by
    obtain ⟨h1, h2⟩ := min_le l (min a x)
    refine ⟨Int.le_trans h1 (Int.min_le_left a x), fun y hy => ?_⟩
    rcases List.mem_cons.mp hy with e | e
    · subst e; exact Int.le_trans h1 (Int.min_le_right a y)
    · exact h2 y e
theorem min_mem : ∀ (l : List Int) (a : Int), l.foldl min a = a ∨ l.foldl min a ∈ l
  | [], a => .inl rfl
  | x :: l, a => by
    rcases min_mem l (min a x) with h | h
    · show l.foldl min (min a x) = a ∨ l.foldl min (min a x) ∈ x :: l
      rw [h]
      by_cases e : a ≤ x
      · left; exact Int.min_eq_left e
      · right; rw [Int.min_eq_right (by omega)]; simp
    · exact .inr (List.mem_cons.mpr (.inr h))
theorem most_mem {l : List Int} (h : l ≠ []) : most l ∈ l := by
  cases l with
  | nil => exact absurd rfl h
  | cons x r =>
    rcases max_mem (x :: r) x with e | e
    · unfold most; rw [show (x :: r).headD 0 = x from rfl, e]; simp
    · exact e
theorem most_ge {l : List Int} : ∀ y ∈ l, y ≤ most l := (max_ge l (l.headD 0)).2
theorem most_is {l : List Int} {m : Int} (hm : m ∈ l) (h : ∀ y, y ∈ l → y ≤ m) : m = most l :=
  Int.le_antisymm (most_ge m hm) (h _ (most_mem (by intro e; rw [e] at hm; cases hm)))
theorem least_mem {l : List Int} (h : l ≠ []) : least l ∈ l := by
  cases l with
  | nil => exact absurd rfl h
  | cons x r =>
    rcases min_mem (x :: r) x with e | e
    · unfold least; rw [show (x :: r).headD 0 = x from rfl, e]; simp
    · exact e
theorem least_le {l : List Int} : ∀ y ∈ l, least l ≤ y := (min_le l (l.headD 0)).2
theorem least_is {l : List Int} {m : Int} (hm : m ∈ l) (h : ∀ y, y ∈ l → m ≤ y) : m = least l :=
  Int.le_antisymm (h _ (least_mem (by intro e; rw [e] at hm; cases hm))) (least_le m hm)
theorem peak_int {l : List Int} (h : l ≠ []) : (peak l : Int) = most l - least l := by
  unfold peak
  have := most_ge _ (least_mem h)
  omega
/-! ### of naturals -/
theorem nmax_ge : ∀ (l : List Nat) (a : Nat), a ≤ l.foldl max a ∧ ∀ y ∈ l, y ≤ l.foldl max a
  | [], a => ⟨Nat.le_refl _, by simp⟩
  | x :: l, a => by
    obtain ⟨h1, h2⟩ := nmax_ge l (max a x)
    refine ⟨Nat.le_trans (Nat.le_max_left a x) h1, fun y hy => ?_⟩
    rcases List.mem_cons.mp hy with e | e
    · subst e; exact Nat.le_trans (Nat.le_max_right a y) h1
    · exact h2 y e
theorem nmax_mem : ∀ (l : List Nat) (a : Nat), l.foldl max a = a ∨ l.foldl max a ∈ l
  | [], a => .inl rfl
  | x :: l, a => by
    rcases nmax_mem l (max a x) with h | h
    · show l.foldl max (max a x) = a ∨ l.foldl max (max a x) ∈ x :: l
      rw [h]
      by_cases e : a ≤ x
      · right; rw [Nat.max_eq_right e]; simp
      · left; exact Nat.max_eq_left (by omega)
    · exact .inr (List.mem_cons.mpr (.inr h))
theorem nmax_is {l : List Nat} {m : Int} (hm : m ∈ l.map (fun n : Nat => (n : Int))) (h : ∀ y, y ∈ l.map (fun n : Nat => (n : Int)) → y ≤ m) : m = ((l.foldl max 0 : Nat) : Int) := by
  obtain ⟨n, hn, rfl⟩ := List.mem_map.mp hm
  have h1 := (nmax_ge l 0).2 n hn
  rcases nmax_mem l 0 with e | e
  · rw [e] at h1 ⊢; omega
  · have := h _ (List.mem_map.mpr ⟨_, e, rfl⟩)
    omega
/-! ### rows of twelve -/
/-- twelve points, as a tyre may have them -/
def Row (r : List Int) : Prop := r.length = 12 ∧ ∀ x ∈ r, -2000 ≤ x ∧ x ≤ 4000
theorem at_get {r : List Int} (h : r.length = 12) {i : Nat} (hi : i < 12) : r[i]? = some (at_ r i) := by
  unfold at_ POINTS
  rw [Nat.mod_eq_of_lt hi, List.getD_eq_getElem?_getD, List.getElem?_eq_getElem (by omega)]
  rfl
theorem at_mod (r : List Int) (i : Nat) : at_ r (i + 12) = at_ r i := by
  unfold at_ POINTS
  rw [Nat.add_mod_right]
theorem row_eq {r : List Int} (h : r.length = 12) : r = (List.range 12).map (at_ r) := by
  apply List.ext_getElem?
  intro i
  by_cases hi : i < 12
  · rw [at_get h hi, List.getElem?_map, List.getElem?_range hi]; rfl
  · rw [List.getElem?_eq_none (by omega), List.getElem?_eq_none (by simp; omega)]
theorem len_turned (r : List Int) (k : Nat) : (turned r k).length = 12 := by simp [turned, POINTS]
theorem len_plus (r s : List Int) : (plus r s).length = 12 := by simp [plus, POINTS]
theorem len_mean (r s : List Int) : (mean r s).length = 12 := by simp [mean, POINTS]
theorem at_map (f : Nat → Int) {i : Nat} (hi : i < 12) : at_ ((List.range POINTS).map f) i = f i := by
  have e : ((List.range POINTS).map f)[i]? = some (f i) := by rw [List.getElem?_map, List.getElem?_range (by unfold POINTS; exact hi)]; rfl
  have := at_get (r := (List.range POINTS).map f) (by simp [POINTS]) hi
  rw [e] at this
  exact (Option.some.inj this).symm
theorem at_turned (r : List Int) (k : Nat) {i : Nat} (hi : i < 12) : at_ (turned r k) i = at_ r (i + k) := at_map _ hi
theorem at_plus (r s : List Int) {i : Nat} (hi : i < 12) : at_ (plus r s) i = at_ r i + at_ s i := at_map _ hi
/-- the slice's way to turn -/
theorem turned_is {r : List Int} (h : r.length = 12) {k : Nat} (hk : k ≤ 12) : r.drop k ++ r.take k = turned r k := by
  apply List.ext_getElem?
  intro i
  by_cases hi : i < 12
  · have e : (turned r k)[i]? = some (at_ r (i + k)) := by
      unfold turned; rw [List.getElem?_map, List.getElem?_range (by unfold POINTS; exact hi)]; rfl
    rw [e]
    by_cases h1 : i < 12 - k
    · rw [List.getElem?_append_left (by rw [List.length_drop]; omega), List.getElem?_drop, show k + i = i + k from Nat.add_comm k i, at_get h (by omega)]
    · rw [List.getElem?_append_right (by rw [List.length_drop]; omega), List.length_drop, h, List.getElem?_take, if_pos (by omega), at_get h (by omega)]
      rw [show i + k = (i - (12 - k)) + 12 by omega, at_mod]
  · rw [List.getElem?_eq_none (by simp; omega), List.getElem?_eq_none (by rw [len_turned]; omega)]
theorem plus_is {r s : List Int} : plus r s = (List.range 12).map fun i => at_ r i + at_ s i := rfl
theorem mem_at {r : List Int} (h : r.length = 12) {x : Int} (hx : x ∈ r) : ∃ i, i < 12 ∧ x = at_ r i := by
  obtain ⟨i, hi, e⟩ := List.mem_iff_getElem.mp hx
  refine ⟨i, by omega, ?_⟩
  have := at_get h (i := i) (by omega)
  rw [List.getElem?_eq_getElem hi, e] at this
  exact Option.some.inj this
theorem at_mem {r : List Int} (h : r.length = 12) (i : Nat) : at_ r i ∈ r := by
  have e : at_ r i = at_ r (i % 12) := by unfold at_ POINTS; rw [Nat.mod_mod]
  rw [e]
  exact List.mem_of_getElem? (at_get h (Nat.mod_lt _ (by decide)))
theorem Row.turned {r : List Int} (h : Row r) (k : Nat) : Row (Su68.turned r k) := by
  refine ⟨len_turned r k, fun x hx => ?_⟩
  obtain ⟨i, hi, e⟩ := List.mem_map.mp hx
  rw [← e]
  exact h.2 _ (at_mem h.1 _)
theorem mean_is (r s : List Int) : mean r s = (plus r s).map (· / 2) := by
  unfold mean plus
  rw [List.map_map]
  rfl
theorem Row.mean {r s : List Int} (h : Row r) (h' : Row s) : Row (Su68.mean r s) := by
  refine ⟨len_mean r s, fun x hx => ?_⟩
  obtain ⟨i, hi, e⟩ := List.mem_map.mp hx
  have h1 := h.2 _ (at_mem h.1 i)
  have h2 := h'.2 _ (at_mem h'.1 i)
  rw [← e]
  omega
/-! ### the greatest step -/
theorem jump_is (r : List Int) {m : Int} (hm : m ∈ (List.range 12).map fun i => ((at_ r i - at_ r (i + 1)).natAbs : Int)) (h : ∀ y, y ∈ ((List.range 12).map fun i => ((at_ r i - at_ r (i + 1)).natAbs : Int)) → y ≤ m) : m = (jump r : Int) := by
  have e : ((List.range 12).map fun i => ((at_ r i - at_ r (i + 1)).natAbs : Int)) = ((List.range POINTS).map fun i => (at_ r (i + 1) - at_ r i).natAbs).map (fun n : Nat => (n : Int)) := by
    rw [List.map_map]
    apply List.map_congr_left
    intro i _
    show ((at_ r i - at_ r (i + 1)).natAbs : Int) = ((at_ r (i + 1) - at_ r i).natAbs : Int)
    omega
  rw [e] at hm h
  exact nmax_is hm h
/-! ### waves -/
theorem foldl_add : ∀ (l : List Int) (a : Int), l.foldl (· + ·) a = a + l.sum
  | [], a => by simp
  | x :: l, a => by
    show l.foldl (· + ·) (a + x) = a + (x :: l).sum
    rw [foldl_add l (a + x), List.sum_cons]
    omega
theorem waveA_is (r : List Int) : waveA r = ((List.range 12).map fun i => at_ r i * across i).sum := by
  unfold waveA
  rw [foldl_add, Int.zero_add]
  rfl
theorem waveB_is (r : List Int) : waveB r = ((List.range 12).map fun i => at_ r i * upwards i).sum := by
  unfold waveB
  rw [foldl_add, Int.zero_add]
  rfl
theorem Row.waveA {r : List Int} (h : Row r) : -30000000 ≤ Su68.waveA r ∧ Su68.waveA r ≤ 30000000 := by
  have g : ∀ i, -2000 ≤ at_ r i ∧ at_ r i ≤ 4000 := fun i => h.2 _ (at_mem h.1 i)
  have g0 := g 0; have g1 := g 1; have g2 := g 2; have g3 := g 3; have g4 := g 4; have g5 := g 5
  have g6 := g 6; have g7 := g 7; have g8 := g 8; have g9 := g 9; have g10 := g 10; have g11 := g 11
  have e : Su68.waveA r = 0 + at_ r 0 * 1000 + at_ r 1 * 866 + at_ r 2 * 500 + at_ r 3 * 0 + at_ r 4 * -500 + at_ r 5 * -866 + at_ r 6 * -1000 + at_ r 7 * -866 + at_ r 8 * -500 + at_ r 9 * 0 + at_ r 10 * 500 + at_ r 11 * 866 := rfl
  rw [e]
  omega
theorem Row.waveB {r : List Int} (h : Row r) : -30000000 ≤ Su68.waveB r ∧ Su68.waveB r ≤ 30000000 := by
  have g : ∀ i, -2000 ≤ at_ r i ∧ at_ r i ≤ 4000 := fun i => h.2 _ (at_mem h.1 i)
  have g0 := g 0; have g1 := g 1; have g2 := g 2; have g3 := g 3; have g4 := g 4; have g5 := g 5
  have g6 := g 6; have g7 := g 7; have g8 := g 8; have g9 := g 9; have g10 := g 10; have g11 := g 11
  have e : Su68.waveB r = 0 + at_ r 0 * 0 + at_ r 1 * 500 + at_ r 2 * 866 + at_ r 3 * 1000 + at_ r 4 * 866 + at_ r 5 * 500 + at_ r 6 * 0 + at_ r 7 * -500 + at_ r 8 * -866 + at_ r 9 * -1000 + at_ r 10 * -866 + at_ r 11 * -500 := rfl
  rw [e]
  omega
theorem sq_nonneg (a : Int) : 0 ≤ a * a := by
  rcases Int.le_total 0 a with h | h
  · exact Int.mul_nonneg h h
  · exact Int.mul_nonneg_of_nonpos_of_nonpos h h
theorem size_int (a b : Int) : (size a b : Int) = a * a + b * b := by
  unfold size
  have := sq_nonneg a
  have := sq_nonneg b
  omega
theorem sq_le {a n : Int} (h : -n ≤ a) (h' : a ≤ n) : a * a ≤ n * n := by
  rcases Int.le_total 0 a with q | q
  · exact Int.mul_le_mul h' h' q (by omega)
  · have e : a * a = (-a) * (-a) := by rw [Int.neg_mul_neg]
    rw [e]
    exact Int.mul_le_mul (by omega) (by omega) (by omega) (by omega)
theorem Row.size {r : List Int} (h : Row r) : Su68.size (Su68.waveA r) (Su68.waveB r) < 10000000000000000 := by
  have h1 := size_int (Su68.waveA r) (Su68.waveB r)
  have h2 := sq_le h.waveA.1 h.waveA.2
  have h3 := sq_le h.waveB.1 h.waveB.2
  omega
/-! ### the root -/
theorem sq_lt {a b : Nat} (h : a < b) : a * a < b * b := Nat.mul_self_lt_mul_self h
theorem sq_mono {a b : Nat} (h : a ≤ b) : a * a ≤ b * b := Nat.mul_le_mul h h
theorem root_uniq {r s n : Nat} (h1 : r * r ≤ n) (h2 : n < (r + 1) * (r + 1)) (h3 : s * s ≤ n) (h4 : n < (s + 1) * (s + 1)) : r = s := by
  rcases Nat.lt_trichotomy r s with h | h | h
  · have := sq_mono (show r + 1 ≤ s from h); omega
  · exact h
  · have := sq_mono (show s + 1 ≤ r from h); omega
theorem root_spec : ∀ (f lo hi n : Nat), lo * lo ≤ n → n < hi * hi → hi ≤ lo + 2 ^ f → root f lo hi n * root f lo hi n ≤ n ∧ n < (root f lo hi n + 1) * (root f lo hi n + 1)
  | 0, lo, hi, n, h1, h2, h3 => ⟨h1, Nat.lt_of_lt_of_le h2 (sq_mono (show hi ≤ lo + 1 by simpa using h3))⟩
  | f + 1, lo, hi, n, h1, h2, h3 => by
    have e2 : 2 ^ (f + 1) = 2 * 2 ^ f := by rw [Nat.pow_succ, Nat.mul_comm]
    unfold root
    split
    · rename_i h
      exact ⟨h1, Nat.lt_of_lt_of_le h2 (sq_mono h)⟩
    · split
      · rename_i h h'
        exact root_spec f _ hi n h' h2 (by omega)
      · rename_i h h'
        exact root_spec f lo _ n h1 (by omega) (by omega)
theorem root_is {n g : Nat} (hn : n < 10000000000000000) (h1 : g * g ≤ n) (h2 : n < (g + 1) * (g + 1)) : root 64 0 100000000 n = g := by
  obtain ⟨a, b⟩ := root_spec 64 0 100000000 n (by omega) (by omega) (by decide)
  exact root_uniq a b h1 h2
/-- a turn of the whole root's loop -/
theorem newton {n g : Nat} (hg : n < g * g) (h : n < (g + 1) * (g + 1)) : n < ((g + n / g) / 2 + 1) * ((g + n / g) / 2 + 1) ∧ (g + n / g) / 2 < g := by
  have g0 : 0 < g := by
    rcases Nat.eq_zero_or_pos g with e | e
    · subst e; omega
    · exact e
  have hq : n < g * (n / g + 1) := by
    have := Nat.div_add_mod n g
    have := Nat.mod_lt n g0
    rw [Nat.mul_add]
    omega
  have q1 : n / g < g := Nat.div_lt_of_lt_mul hg
  refine ⟨?_, by omega⟩
  generalize n / g = q at *
  generalize hm : (g + q) / 2 = m at *
  have h1 : g + q + 1 ≤ 2 * (m + 1) := by omega
  have h2 := sq_mono h1
  have e1 : 2 * (m + 1) * (2 * (m + 1)) = 4 * ((m + 1) * (m + 1)) := by
    rw [show 2 * (m + 1) * (2 * (m + 1)) = (2 * 2) * ((m + 1) * (m + 1)) from Nat.mul_mul_mul_comm 2 (m+1) 2 (m+1)]
  have h3 : 4 * (g * (q + 1)) ≤ (g + q + 1) * (g + q + 1) := by
    obtain ⟨d, hd⟩ : ∃ d, g = q + 1 + d := ⟨g - (q + 1), by omega⟩
    subst hd
    have e : (q + 1 + d + q + 1) * (q + 1 + d + q + 1) = 4 * ((q + 1 + d) * (q + 1)) + d * d := by
      simp only [Nat.mul_add, Nat.add_mul, Nat.mul_comm d q, Nat.one_mul, Nat.mul_one]
      omega
    omega
  omega
/-! ### the best turn -/
def bstep (l w : List Int) (b k : Nat) : Nat := if peak (plus (turned l k) w) < peak (plus (turned l b) w) then k else b
def bestTo (l w : List Int) (n : Nat) : Nat := (List.range n).foldl (bstep l w) 0
theorem bestTo_one (l w : List Int) : bestTo l w 1 = 0 := by
  show bstep l w 0 0 = 0
  unfold bstep
  rw [if_neg (Nat.lt_irrefl _)]
theorem bestTo_succ (l w : List Int) (n : Nat) : bestTo l w (n + 1) = bstep l w (bestTo l w n) n := by
  unfold bestTo
  rw [List.range_succ, List.foldl_append]
  rfl
theorem bestTo_all (l w : List Int) : bestTo l w 12 = best l w := rfl
theorem turned_zero {l : List Int} (h : l.length = 12) : turned l 0 = l := (row_eq h).symm
/-! ### weights -/
def wstep (l : List Int) (b x : Nat × Nat) : Nat × Nat := if left l x.1 x.2 < left l b.1 b.2 then x else b
def wIn (l : List Int) (k : Nat) (b : Nat × Nat) (j : Nat) : Nat × Nat := (List.range j).foldl (fun b p => wstep l b (5 * (k + 1), p)) b
def wTo (l : List Int) (i : Nat) : Nat × Nat := (List.range i).foldl (fun b k => wIn l k b 12) (0, 0)
theorem wIn_zero (l : List Int) (k : Nat) (b : Nat × Nat) : wIn l k b 0 = b := rfl
theorem wIn_succ (l : List Int) (k : Nat) (b : Nat × Nat) (j : Nat) : wIn l k b (j + 1) = wstep l (wIn l k b j) (5 * (k + 1), j) := by
  unfold wIn
  rw [List.range_succ, List.foldl_append]
  rfl
theorem wTo_zero (l : List Int) : wTo l 0 = (0, 0) := rfl
theorem wTo_succ (l : List Int) (i : Nat) : wTo l (i + 1) = wIn l i (wTo l i) 12 := by
  unfold wTo
  rw [List.range_succ, List.foldl_append, List.foldl_cons, List.foldl_nil]
theorem foldl_flat {α β γ : Type} (f : γ → β → γ) (g : α → List β) : ∀ (l : List α) (a : γ), (l.flatMap g).foldl f a = l.foldl (fun a x => (g x).foldl f a) a
  | [], a => rfl
  | x :: l, a => by
    rw [List.flatMap_cons, List.foldl_append, List.foldl_cons, foldl_flat f g l]
theorem wTo_all (l : List Int) : wTo l 12 = weighed l := by
  have e : weighed l = weights.foldl (wstep l) (0, 0) := rfl
  have e2 : weights = (0, 0) :: ((List.range 12).flatMap fun k => (List.range POINTS).map fun p => (5 * (k + 1), p)) := rfl
  rw [e, e2, List.foldl_cons, foldl_flat]
  have e3 : wstep l (0, 0) (0, 0) = (0, 0) := by unfold wstep; rw [if_neg (Nat.lt_irrefl _)]
  rw [e3]
  unfold wTo
  congr 1
theorem left_int (l : List Int) (g p : Nat) : (left l g p : Int) = (waveA l + (g : Int) * across p) * (waveA l + (g : Int) * across p) + (waveB l + (g : Int) * upwards p) * (waveB l + (g : Int) * upwards p) := size_int _ _
theorem left_zero (l : List Int) : left l 0 0 = size (waveA l) (waveB l) := by
  unfold left
  simp
theorem across_bound (p : Nat) : -1000 ≤ across p ∧ across p ≤ 1000 := by
  have h : ∀ q, q < 12 → -1000 ≤ acrossAll.getD q 0 ∧ acrossAll.getD q 0 ≤ 1000 := by decide
  exact h _ (Nat.mod_lt _ (by decide))
theorem upwards_bound (p : Nat) : -1000 ≤ upwards p ∧ upwards p ≤ 1000 := by
  have h : ∀ q, q < 12 → -1000 ≤ acrossAll.getD q 0 ∧ acrossAll.getD q 0 ≤ 1000 := by decide
  exact h _ (Nat.mod_lt _ (by decide))
/-! ### ways to match -/
def longer (ways : List (List Nat)) (size : Nat) : List (List Nat) := ways.flatMap fun way => ((List.range size).filter fun p => decide (p ∉ way)).map fun p => way ++ [p]
def waysTo (size : Nat) : Nat → List (List Nat)
  | 0 => [[]]
  | n + 1 => longer (waysTo size n) size
theorem rows_1 (a : Nat) : rows 1 [a] = (waysTo 1 1).map fun w => w.map fun p => [a].getD p 0 := by
  simp [rows, waysTo, longer, List.range, List.range.loop]
theorem rows_2 {a b : Nat} (h : [a, b].Nodup) : rows 2 [a, b] = (waysTo 2 2).map fun w => w.map fun p => [a, b].getD p 0 := by
  simp only [List.nodup_cons, List.mem_cons, List.not_mem_nil, or_false, not_false_eq_true, true_and, List.nodup_nil, and_true] at h
  have h1 : b ≠ a := fun e => h e.symm
  have e : (waysTo 2 2) = [[0, 1], [1, 0]] := by decide
  rw [e]
  simp [rows, h, h1]
theorem rows_3 {a b c : Nat} (h : [a, b, c].Nodup) : rows 3 [a, b, c] = (waysTo 3 3).map fun w => w.map fun p => [a, b, c].getD p 0 := by
  simp only [List.nodup_cons, List.mem_cons, List.not_mem_nil, or_false, not_false_eq_true, true_and, List.nodup_nil, and_true, not_or] at h
  obtain ⟨⟨h1, h2⟩, h3⟩ := h
  have h1' : b ≠ a := fun e => h1 e.symm
  have h2' : c ≠ a := fun e => h2 e.symm
  have h3' : c ≠ b := fun e => h3 e.symm
  have e : (waysTo 3 3) = [[0, 1, 2], [0, 2, 1], [1, 0, 2], [1, 2, 0], [2, 0, 1], [2, 1, 0]] := by decide
  rw [e]
  simp [rows, h1, h2, h3, h1', h2', h3']
theorem rows_4 {a b c d : Nat} (h : [a, b, c, d].Nodup) : rows 4 [a, b, c, d] = (waysTo 4 4).map fun w => w.map fun p => [a, b, c, d].getD p 0 := by
  simp only [List.nodup_cons, List.mem_cons, List.not_mem_nil, or_false, not_false_eq_true, true_and, List.nodup_nil, and_true, not_or] at h
  obtain ⟨⟨h1, h2, h3⟩, ⟨h4, h5⟩, h6⟩ := h
  have h1' : b ≠ a := fun e => h1 e.symm
  have h2' : c ≠ a := fun e => h2 e.symm
  have h3' : d ≠ a := fun e => h3 e.symm
  have h4' : c ≠ b := fun e => h4 e.symm
  have h5' : d ≠ b := fun e => h5 e.symm
  have h6' : d ≠ c := fun e => h6 e.symm
  have e : (waysTo 4 4) = [[0,1,2,3],[0,1,3,2],[0,2,1,3],[0,2,3,1],[0,3,1,2],[0,3,2,1],[1,0,2,3],[1,0,3,2],[1,2,0,3],[1,2,3,0],[1,3,0,2],[1,3,2,0],[2,0,1,3],[2,0,3,1],[2,1,0,3],[2,1,3,0],[2,3,0,1],[2,3,1,0],[3,0,1,2],[3,0,2,1],[3,1,0,2],[3,1,2,0],[3,2,0,1],[3,2,1,0]] := by decide
  rw [e]
  simp [rows, h1, h2, h3, h4, h5, h6, h1', h2', h3', h4', h5', h6']
theorem rows_is {ws : List Nat} (h0 : ws.length ≠ 0) (h4 : ws.length ≤ 4) (hn : ws.Nodup) : rows ws.length ws = (waysTo ws.length ws.length).map fun w => w.map fun p => ws.getD p 0 := by
  match ws, h0, h4, hn with
  | [a], _, _, _ => exact rows_1 a
  | [a, b], _, _, h => exact rows_2 h
  | [a, b, c], _, _, h => exact rows_3 h
  | [a, b, c, d], _, _, h => exact rows_4 h
  | _ :: _ :: _ :: _ :: _ :: _, _, h, _ => simp at h
/-- every way has each place once -/
theorem ways_ok {n : Nat} (h0 : n ≠ 0) (h4 : n ≤ 4) : (waysTo n n ≠ []) ∧ ∀ w ∈ waysTo n n, w.length = n ∧ ∀ p ∈ w, p < n := by
  have h : n = 1 ∨ n = 2 ∨ n = 3 ∨ n = 4 := by omega
  rcases h with h | h | h | h <;> subst h <;> decide
/-! ### the grade -/
/-- the first of the grades whose mosts are kept, in Python's way: what the loop has found after n grades -/
theorem find_none {α : Type} {p : α → Bool} {l : List α} (h : ∀ x ∈ l, p x = false) : l.find? p = none := by
  rw [List.find?_eq_none]
  intro x hx
  rw [h x hx]
  decide
theorem find_first {n g : Nat} {p : Nat → Bool} (hg : g < n) (hp : p g = true) (h : ∀ i, i < g → p i = false) : (List.range n).find? p = some g := by
  rw [List.find?_range_eq_some]
  exact ⟨hp, by simpa using hg, fun j hj => by rw [h j hj]; decide⟩
end Ty

end
section
set_option Elab.async false
set_option linter.all false
set_option maxRecDepth 100000
set_option maxHeartbeats 2000000
namespace Ty
/-! ### reading the list of calls -/
def numsOf : List Nat := [0, 3, 0, 2, 2, 2, 0, 2, 0, 1, 1, 1, 1, 1, 2, 1, 1, 0, 2, 1, 1, 0, 0]
def withL (c : Nat) : Bool := c == 2 || c == 3 || c == 4 || c == 6 || c == 8
def callAt (c : Nat) (ns told : List Nat) : Option Su68.Call := match c, ns with
  | 0, [] => some .begin_
  | 1, [x, y, z] => some (.grade x y z)
  | 2, [] => some (.machine told)
  | 3, [x, y] => some (.tyre x y told)
  | 4, [x, y] => some (.again x y told)
  | 5, [x, y] => some (.turn x y)
  | 6, [] => some (.wheel told)
  | 7, [x, y] => some (.mount x y)
  | 8, [] => some (.match_ told)
  | 9, [x] => some (.weight x)
  | 10, [x] => some (.peak x)
  | 11, [x] => some (.jump x)
  | 12, [x] => some (.wave x)
  | 13, [x] => some (.graded x)
  | 14, [x, y] => some (.why x y)
  | 15, [x] => some (.of x)
  | 16, [x] => some (.mould x)
  | 17, [] => some .uneven
  | 18, [x, y] => some (.alarm x y)
  | 19, [x] => some (.look x)
  | 20, [x] => some (.points x)
  | 21, [] => some .sums
  | 22, [] => some .state
  | _, _ => none
theorem toNat_ints (l : List Int) (h : ∀ x ∈ l, 0 ≤ x) : Su68.ints (l.map Int.toNat) = l := by
  unfold Su68.ints
  rw [List.map_map]
  have : ∀ x ∈ l, (Int.ofNat ∘ Int.toNat) x = x := fun x hx => by
    show ((x.toNat : Nat) : Int) = x
    have := h x hx
    omega
  rw [List.map_congr_left this, List.map_id']
theorem call_0 {c : Int} {n : Nat} {rest t : List Int} {cc : List (List Int)} (hs : PySu68.shape c = some (n, 0)) (h : PyFlat.call PySu68.shape (c :: rest) = some (cc, t)) : n ≤ rest.length ∧ cc = [c :: rest.take n] ∧ t = rest.drop n := by
  simp only [PyFlat.call, hs] at h
  by_cases hl : rest.length < n
  · simp [hl] at h
  · simp only [hl, if_false, PyFlat.rows, Option.some.injEq, Prod.mk.injEq] at h
    exact ⟨by omega, h.1.symm, h.2.symm⟩
theorem call_1 {c : Int} {n : Nat} {rest t : List Int} {cc : List (List Int)} (hs : PySu68.shape c = some (n, 1)) (h : PyFlat.call PySu68.shape (c :: rest) = some (cc, t)) :
    n ≤ rest.length ∧ ∃ m r2, rest.drop n = m :: r2 ∧ 0 ≤ m ∧ m.toNat ≤ r2.length ∧ cc = [c :: rest.take n, r2.take m.toNat] ∧ t = r2.drop m.toNat := by
  simp only [PyFlat.call, hs] at h
  by_cases hl : rest.length < n
  · simp [hl] at h
  · simp only [hl, if_false] at h
    refine ⟨by omega, ?_⟩
    cases e : rest.drop n with
    | nil => rw [e] at h; simp [PyFlat.rows, PyFlat.row] at h
    | cons m r2 =>
      rw [e] at h
      by_cases hm : 0 ≤ m ∧ m.toNat ≤ r2.length
      · simp [PyFlat.rows, PyFlat.row, hm] at h
        exact ⟨m, r2, rfl, hm.1, hm.2, h.1.symm, h.2.symm⟩
      · simp only [PyFlat.rows, PyFlat.row, if_neg hm] at h
        cases h
theorem take_1 {r : List Int} (h : 1 ≤ r.length) : ∃ x, r.take 1 = [x] := by
  match r, h with
  | x :: r, _ => exact ⟨x, rfl⟩
theorem take_2 {r : List Int} (h : 2 ≤ r.length) : ∃ x y, r.take 2 = [x, y] := by
  match r, h with
  | x :: y :: r, _ => exact ⟨x, y, rfl⟩
theorem take_3 {r : List Int} (h : 3 ≤ r.length) : ∃ x y z, r.take 3 = [x, y, z] := by
  match r, h with
  | x :: y :: z :: r, _ => exact ⟨x, y, z, rfl⟩
/-- one call, read off: its number, its numbers, its list -/
structure Read (c : Int) (rest t : List Int) (cc : List (List Int)) (n : Nat) (ns told : List Nat) (cl : Su68.Call) : Prop where
  num : c = (n : Int)
  lt : n < 23
  at_ : callAt n ns told = some cl
  of_ : Su68Neutral.callOf ((PySu68.whole cc).headD []) = some cl
  nums : numsOf[n]? = some ns.length
  rest_ : rest = Su68.ints ns ++ ((if withL n then (told.length : Int) :: Su68.ints told else []) ++ t)
  none_ : withL n = false → told = []
  len30 : PyInside.call PySu68.bound cc = true → told.length ≤ 30
theorem shape_lt {c : Int} {q : Nat × Nat} (h : PySu68.shape c = some q) : 0 ≤ c ∧ c < 23 := by
  unfold PySu68.shape at h
  by_cases h' : 0 ≤ c ∧ c < 23
  · exact h'
  · exfalso
    repeat (rw [if_neg (by omega)] at h)
    cases h
theorem read_call {c : Int} {rest t : List Int} {cc : List (List Int)} (h : PyFlat.call PySu68.shape (c :: rest) = some (cc, t)) (hb : ∀ x ∈ rest, 0 ≤ x) : ∃ n ns told cl, Read c rest t cc n ns told cl := by
  have hs : ∃ q, PySu68.shape c = some q := by
    cases e : PySu68.shape c with
    | none => simp only [PyFlat.call, e] at h; cases h
    | some q => exact ⟨q, rfl⟩
  obtain ⟨q, hq⟩ := hs
  obtain ⟨c0, c23⟩ := shape_lt hq
  obtain ⟨n, rfl⟩ := Int.eq_ofNat_of_zero_le c0
  have hn : n < 23 := by omega
  have nn : ∀ (x : List Int), (∀ y ∈ x, y ∈ rest) → Su68.ints (x.map Int.toNat) = x := fun x hx => toNat_ints x fun y hy => hb y (hx y hy)
  -- without a list
  have k0 : ∀ (k : Nat) (f : List Nat → Su68.Call), PySu68.shape (n : Int) = some (k, 0) → withL n = false → numsOf[n]? = some k → (∀ xs : List Int, xs.length = k → callAt n (xs.map Int.toNat) [] = some (f (xs.map Int.toNat)) ∧ Su68Neutral.callOf ((PySu68.whole [(n : Int) :: xs]).headD []) = some (f (xs.map Int.toNat))) → ∃ n' ns told cl, Read (n : Int) rest t cc n' ns told cl := by
    intro k f hk hw hnum hx
    obtain ⟨a1, a2, a3⟩ := call_0 hk h
    obtain ⟨b1, b2⟩ := hx (rest.take k) (by rw [List.length_take]; omega)
    have e := nn (rest.take k) fun y hy => List.mem_of_mem_take hy
    refine ⟨n, (rest.take k).map Int.toNat, [], _, rfl, hn, b1, by rw [a2]; exact b2, ?_, ?_, fun _ => rfl, fun _ => Nat.zero_le _⟩
    · rw [hnum, List.length_map, List.length_take, Nat.min_eq_left a1]
    · rw [hw, e, a3]
      simp
  have k1 : ∀ (k : Nat) (f : List Nat → List Nat → Su68.Call), PySu68.shape (n : Int) = some (k, 1) → withL n = true → numsOf[n]? = some k → (PySu68.bound (n : Int)).2 = [(0, 4294967295, 0, 30)] → (∀ (xs r0 : List Int), xs.length = k → callAt n (xs.map Int.toNat) (r0.map Int.toNat) = some (f (xs.map Int.toNat) (r0.map Int.toNat)) ∧ Su68Neutral.callOf ((PySu68.whole [(n : Int) :: xs, r0]).headD []) = some (f (xs.map Int.toNat) (r0.map Int.toNat))) → ∃ n' ns told cl, Read (n : Int) rest t cc n' ns told cl := by
    intro k f hk hw hnum hbd hx
    obtain ⟨a1, m, r2, a2, a3, a4, a5, a6⟩ := call_1 hk h
    obtain ⟨b1, b2⟩ := hx (rest.take k) (r2.take m.toNat) (by rw [List.length_take]; omega)
    have hr2 : ∀ y ∈ r2, y ∈ rest := fun y hy => List.mem_of_mem_drop (i := k) (by rw [a2]; exact List.mem_cons_of_mem _ hy)
    have e1 := nn (rest.take k) fun y hy => List.mem_of_mem_take hy
    have e2 := nn (r2.take m.toNat) fun y hy => hr2 y (List.mem_of_mem_take hy)
    refine ⟨n, (rest.take k).map Int.toNat, (r2.take m.toNat).map Int.toNat, _, rfl, hn, b1, by rw [a5]; exact b2, ?_, ?_, fun z => absurd (hw.symm.trans z) (by decide), fun z => ?_⟩
    · rw [hnum, List.length_map, List.length_take, Nat.min_eq_left a1]
    · rw [hw, e1, e2, List.length_map, List.length_take, Nat.min_eq_left a4, a6, if_pos rfl]
      have : ((m.toNat : Nat) : Int) = m := by omega
      rw [this, List.cons_append, List.take_append_drop, ← a2, List.take_append_drop]
    · rw [a5] at z
      simp only [PyInside.call, hbd, PyInside.lists, Bool.and_eq_true, decide_eq_true_eq] at z
      rw [List.length_map]
      exact z.2.1.1.2
  have hcase : n = 0 ∨ n = 1 ∨ n = 2 ∨ n = 3 ∨ n = 4 ∨ n = 5 ∨ n = 6 ∨ n = 7 ∨ n = 8 ∨ n = 9 ∨ n = 10 ∨ n = 11 ∨ n = 12 ∨ n = 13 ∨ n = 14 ∨ n = 15 ∨ n = 16 ∨ n = 17 ∨ n = 18 ∨ n = 19 ∨ n = 20 ∨ n = 21 ∨ n = 22 := by omega
  have x1 : ∀ xs : List Int, xs.length = 1 → ∃ x, xs = [x] := fun xs h => match xs, h with | [x], _ => ⟨x, rfl⟩
  have x2 : ∀ xs : List Int, xs.length = 2 → ∃ x y, xs = [x, y] := fun xs h => match xs, h with | [x, y], _ => ⟨x, y, rfl⟩
  have x3 : ∀ xs : List Int, xs.length = 3 → ∃ x y z, xs = [x, y, z] := fun xs h => match xs, h with | [x, y, z], _ => ⟨x, y, z, rfl⟩
  rcases hcase with h | h | h | h | h | h | h | h | h | h | h | h | h | h | h | h | h | h | h | h | h | h | h <;> subst h
  · exact k0 0 (fun l => .begin_) rfl rfl rfl fun xs hl => by
      obtain rfl : xs = [] := List.length_eq_zero_iff.mp hl
      exact ⟨rfl, rfl⟩
  · exact k0 3 (fun l => .grade (l.getD 0 0) (l.getD 1 0) (l.getD 2 0)) rfl rfl rfl fun xs hl => by
      obtain ⟨x, y, z, rfl⟩ := x3 xs hl
      exact ⟨rfl, rfl⟩
  · exact k1 0 (fun l q => .machine q) rfl rfl rfl rfl fun xs r0 hl => by
      obtain rfl : xs = [] := List.length_eq_zero_iff.mp hl
      exact ⟨rfl, rfl⟩
  · exact k1 2 (fun l q => .tyre (l.getD 0 0) (l.getD 1 0) q) rfl rfl rfl rfl fun xs r0 hl => by
      obtain ⟨x, y, rfl⟩ := x2 xs hl
      exact ⟨rfl, rfl⟩
  · exact k1 2 (fun l q => .again (l.getD 0 0) (l.getD 1 0) q) rfl rfl rfl rfl fun xs r0 hl => by
      obtain ⟨x, y, rfl⟩ := x2 xs hl
      exact ⟨rfl, rfl⟩
  · exact k0 2 (fun l => .turn (l.getD 0 0) (l.getD 1 0)) rfl rfl rfl fun xs hl => by
      obtain ⟨x, y, rfl⟩ := x2 xs hl
      exact ⟨rfl, rfl⟩
  · exact k1 0 (fun l q => .wheel q) rfl rfl rfl rfl fun xs r0 hl => by
      obtain rfl : xs = [] := List.length_eq_zero_iff.mp hl
      exact ⟨rfl, rfl⟩
  · exact k0 2 (fun l => .mount (l.getD 0 0) (l.getD 1 0)) rfl rfl rfl fun xs hl => by
      obtain ⟨x, y, rfl⟩ := x2 xs hl
      exact ⟨rfl, rfl⟩
  · exact k1 0 (fun l q => .match_ q) rfl rfl rfl rfl fun xs r0 hl => by
      obtain rfl : xs = [] := List.length_eq_zero_iff.mp hl
      exact ⟨rfl, rfl⟩
  · exact k0 1 (fun l => .weight (l.getD 0 0)) rfl rfl rfl fun xs hl => by
      obtain ⟨x, rfl⟩ := x1 xs hl
      exact ⟨rfl, rfl⟩
  · exact k0 1 (fun l => .peak (l.getD 0 0)) rfl rfl rfl fun xs hl => by
      obtain ⟨x, rfl⟩ := x1 xs hl
      exact ⟨rfl, rfl⟩
  · exact k0 1 (fun l => .jump (l.getD 0 0)) rfl rfl rfl fun xs hl => by
      obtain ⟨x, rfl⟩ := x1 xs hl
      exact ⟨rfl, rfl⟩
  · exact k0 1 (fun l => .wave (l.getD 0 0)) rfl rfl rfl fun xs hl => by
      obtain ⟨x, rfl⟩ := x1 xs hl
      exact ⟨rfl, rfl⟩
  · exact k0 1 (fun l => .graded (l.getD 0 0)) rfl rfl rfl fun xs hl => by
      obtain ⟨x, rfl⟩ := x1 xs hl
      exact ⟨rfl, rfl⟩
  · exact k0 2 (fun l => .why (l.getD 0 0) (l.getD 1 0)) rfl rfl rfl fun xs hl => by
      obtain ⟨x, y, rfl⟩ := x2 xs hl
      exact ⟨rfl, rfl⟩
  · exact k0 1 (fun l => .of (l.getD 0 0)) rfl rfl rfl fun xs hl => by
      obtain ⟨x, rfl⟩ := x1 xs hl
      exact ⟨rfl, rfl⟩
  · exact k0 1 (fun l => .mould (l.getD 0 0)) rfl rfl rfl fun xs hl => by
      obtain ⟨x, rfl⟩ := x1 xs hl
      exact ⟨rfl, rfl⟩
  · exact k0 0 (fun l => .uneven) rfl rfl rfl fun xs hl => by
      obtain rfl : xs = [] := List.length_eq_zero_iff.mp hl
      exact ⟨rfl, rfl⟩
  · exact k0 2 (fun l => .alarm (l.getD 0 0) (l.getD 1 0)) rfl rfl rfl fun xs hl => by
      obtain ⟨x, y, rfl⟩ := x2 xs hl
      exact ⟨rfl, rfl⟩
  · exact k0 1 (fun l => .look (l.getD 0 0)) rfl rfl rfl fun xs hl => by
      obtain ⟨x, rfl⟩ := x1 xs hl
      exact ⟨rfl, rfl⟩
  · exact k0 1 (fun l => .points (l.getD 0 0)) rfl rfl rfl fun xs hl => by
      obtain ⟨x, rfl⟩ := x1 xs hl
      exact ⟨rfl, rfl⟩
  · exact k0 0 (fun l => .sums) rfl rfl rfl fun xs hl => by
      obtain rfl : xs = [] := List.length_eq_zero_iff.mp hl
      exact ⟨rfl, rfl⟩
  · exact k0 0 (fun l => .state) rfl rfl rfl fun xs hl => by
      obtain rfl : xs = [] := List.length_eq_zero_iff.mp hl
      exact ⟨rfl, rfl⟩
end Ty

end
section
set_option Elab.async false
set_option linter.all false
set_option maxRecDepth 100000
set_option maxHeartbeats 2000000
namespace Ty
open PySem PySem.Spec PyProof.Rows L2
/-! ### names of the module -/
/-- a name of the module that stands for v -/
def GI (mg : Str → Option Value) (x : Str) (v : V) : Prop := ∃ u, mg x = some u ∧ RelV v u
theorem pg {X : Cx} {x : Str} {v : V} {pos : Pos} (h : GI X.mg x v) (hg : Gl X x := by rfl) (hd : (x == ("__debug__" : Str)) = false := by decide) : PE X (.Name x pos) (tC v) := by
  obtain ⟨u, hm, r⟩ := h
  exact pe_glob hg hm r hd
/-- a def of the module, as it may be called -/
def FnAt (P : Program) (w : World) (K : PySem.W.Frag) (mg : Str → Option Value) (base : Heap) (k : Nat) (x : Str) (ps : List Str) (sp : Sp) : Prop :=
  ∃ f fd, mg x = some (.ref f) ∧ PySem.W.keepIn K (.ref f) = true ∧ Binds K fd ps [] ∧ FnOk P w K mg base CX0 k f fd ps sp
theorem FnAt.mono {P : Program} {w : World} {K : PySem.W.Frag} {mg : Str → Option Value} {base : Heap} {j k : Nat} {x : Str} {ps : List Str} {sp : Sp} (F : FnAt P w K mg base j x ps sp) (h : j ≤ k) : FnAt P w K mg base k x ps sp := by
  obtain ⟨f, fd, a, b, c, d⟩ := F
  exact ⟨f, fd, a, b, c, d.mono h⟩
theorem pf {X : Cx} {k : Nat} {x : Str} {ps : List Str} {sp : Sp} {p pos : Pos} {e : Expr} {es : List Expr} {t : TA} (F : FnAt X.prog X.w X.K X.mg X.base k x ps sp) (hr : Room k X.A) (ha : PA X (e :: es) t) (hg : Gl X x := by rfl)
    (hdb : (x == ("__debug__" : Str)) = false := by decide) (he : starEach (e :: es) X.env = (false, eval e X.env) :: starEach es X.env := by rfl) (hpl : (backTo pos (starEach es X.env)).any (·.1) = false := by rfl) :
    PE X (.Call (.Name x p) (e :: es) [] pos) (tCall sp [] E0 t) := by
  obtain ⟨f, fd, hm, hk, hb, F⟩ := F
  exact pe_call F hr hg hm hk hb .nil pass0 ha hdb he hpl
/-! ### values -/
abbrev vi (r : List Int) : List V := r.map V.int
theorem vi_get {r : List Int} {i : Nat} {z : Int} (h : r[i]? = some z) : (vi r)[i]? = some (V.int z) := by
  rw [List.getElem?_map, h]; rfl
theorem vi_at {r : List Int} (h : r.length = 12) {i : Nat} (hi : i < 12) : atI (vi r) (i : Int) = some (V.int (Su68.at_ r i)) := atI_nat (vi_get (at_get h hi))
theorem vi_len (r : List Int) : (vi r).length = r.length := List.length_map ..
/-- a list of ints stands at a -/
def At (H : Hp) (a : Addr) (r : List Int) : Prop := H a = some (.lst (vi r))
theorem At.same {H H' : Hp} {a : Addr} {r : List Int} (h : At H a r) (s : Same H H') : At H' a r := s _ _ h
theorem Same.new {H : Hp} {p : Addr} {o : HO} (h : H p = Option.none) : Same H (upd H p o) := fun b o' e => by
  rw [upd_ne (ne_of_none e h)]; exact e
theorem Same.upd {H H' : Hp} {p : Addr} {o : HO} (s : Same H H') (h : H p = Option.none) : Same H (L2.upd H' p o) := fun b o' e => by
  rw [upd_ne (ne_of_none e h)]; exact s _ _ e
theorem line {n : Nat} (h : n ≤ 30000) : n ≤ sizeLine := Nat.le_trans h (by decide)
theorem lineLt {n : Nat} (h : n ≤ 30000) : n < sizeLine := Nat.lt_of_le_of_lt h (by decide)
/-! ### promises -/
/-- a row in, a number out -/
def spRI (ok : List Int → Prop) (f : List Int → Int) : Sp := fun vs H Q _ => ∃ a r, vs = [.ref a] ∧ At H a r ∧ ok r ∧ ∀ H', Same H H' → Q (.int (f r)) H'
/-- a row in, a row out -/
def spRR (ok : List Int → Prop) (f : List Int → List Int) : Sp := fun vs H Q _ => ∃ a r, vs = [.ref a] ∧ At H a r ∧ ok r ∧ ∀ H' p, Same H H' → H p = Option.none → At H' p (f r) → Q (.ref p) H'
/-- two rows in, a row out -/
def spRRR (ok : List Int → List Int → Prop) (f : List Int → List Int → List Int) : Sp := fun vs H Q _ => ∃ a b r s, vs = [.ref a, .ref b] ∧ At H a r ∧ At H b s ∧ ok r s ∧ ∀ H' p, Same H H' → H p = Option.none → At H' p (f r s) → Q (.ref p) H'
/-- a row and a number in, a row out -/
def spRIR (ok : List Int → Int → Prop) (f : List Int → Int → List Int) : Sp := fun vs H Q _ => ∃ a r k, vs = [.ref a, .int k] ∧ At H a r ∧ ok r k ∧ ∀ H' p, Same H H' → H p = Option.none → At H' p (f r k) → Q (.ref p) H'
/-- a number in, a number out -/
def spII (ok : Int → Prop) (f : Int → Int) : Sp := fun vs H Q _ => ∃ k, vs = [.int k] ∧ ok k ∧ ∀ H', Same H H' → Q (.int (f k)) H'
/-! ### the text by places -/
def top (i : Nat) : Stmt := PySem.Challenge.pw_tyresjudged_s01_answers.main.body.getD i (.Pass ⟨0, 0, 0, 0⟩)
/-! ### a def of the text -/
def Def (K : PySem.W.Frag) (mg : Str → Option Value) (x : Str) (st : Stmt) : Prop := ∃ f fd, mg x = some (.ref f) ∧ Fun K x x st f fd
/-! ### comprehensions that make a list item by item -/
theorem tyes {σ : L2.St} {H : Hp} {A B : Hp → Prop} (h : A H) : tYes σ H (fun b H3 => if b = true then A H3 else B H3) := by
  show (if true = true then A H else B H)
  rw [if_pos rfl]
  exact h
theorem lc_mapR {lo : Int} {n j : Nat} {te : TE} {vs : List Nat} {σ : L2.St} {H1 : Hp} {D : Addr} {Qd : Hp → Prop} (hD : H1 D = Option.none) (f : Nat → V) (hn : n ≤ 30000) (hw : ∀ x, wipe ((wipe σ vs).set j (some x)) vs = wipe σ vs)
    (body : ∀ (i : Nat) (H' : Hp) (Q' : VK), i < n → Same H1 H' → (∀ H4, Same H' H4 → Q' (f i) H4) → te ((wipe σ vs).set j (some (.int (lo + i)))) H' Q')
    (hd : ∀ H', Same H1 H' → H' D = some (.lst ((List.range n).map f)) → Qd H') :
    ∃ W : Nat → Nat → Hp → Prop, (∃ m, W 0 m (upd H1 D (.lst []))) ∧ ∀ i m H, W i m H →
      ((Itr lo n).stop i H ∧ Qd H) ∨ ((Itr lo n).go i H ∧ ∃ Nx : Hp → Prop, (∀ H', Nx H' → ∃ m', m' < m ∧ W (i + 1) m' H') ∧ ∀ x H', (Itr lo n).yld i H x H' → (gName j) x (wipe σ vs) H' fun σ2 H2 => wipe σ2 vs = wipe σ vs ∧ tYes σ2 H2 fun b H3 =>
        if b = true then te σ2 H3 fun y H4 => ∃ acc, H4 D = some (.lst acc) ∧ acc.length < sizeLine ∧ Nx (upd H4 D (.lst (acc ++ [y]))) else Nx H3) := by
  refine lc_range (fun i H' => i ≤ n ∧ Same H1 H' ∧ H' D = some (.lst ((List.range i).map f))) ⟨Nat.zero_le _, Same.new hD, upd_same⟩ (fun i H' hi p => ?_) (fun H' p => hd H' p.2.1 p.2.2)
  obtain ⟨_, hs, hD'⟩ := p
  refine ⟨hw _, tyes ?_⟩
  refine body i H' _ hi hs fun H4 h4 => ⟨_, h4 _ _ hD', lineLt (by simp; omega), hi, ?_, ?_⟩
  · exact fun b o e => by
      rw [upd_ne (ne_of_none e hD)]
      exact h4 _ _ (hs _ _ e)
  · rw [upd_same, List.range_succ, List.map_append]
    rfl
theorem lc_mapL {K : PySem.W.Frag} {a : Addr} {xs : List V} {j : Nat} {te : TE} {vs : List Nat} {σ : L2.St} {H1 : Hp} {D : Addr} {Qd : Hp → Prop} (ha : SqL K H1 a xs) (hD : H1 D = Option.none) (f : V → V) (hn : xs.length ≤ 30000) (hw : ∀ x, wipe ((wipe σ vs).set j (some x)) vs = wipe σ vs)
    (body : ∀ (i : Nat) (x : V) (H' : Hp) (Q' : VK), xs[i]? = some x → Same H1 H' → (∀ H4, Same H' H4 → Q' (f x) H4) → te ((wipe σ vs).set j (some x)) H' Q')
    (hd : ∀ H', Same H1 H' → H' D = some (.lst (xs.map f)) → Qd H') :
    ∃ W : Nat → Nat → Hp → Prop, (∃ m, W 0 m (upd H1 D (.lst []))) ∧ ∀ i m H, W i m H →
      ((Itl K a).stop i H ∧ Qd H) ∨ ((Itl K a).go i H ∧ ∃ Nx : Hp → Prop, (∀ H', Nx H' → ∃ m', m' < m ∧ W (i + 1) m' H') ∧ ∀ x H', (Itl K a).yld i H x H' → (gName j) x (wipe σ vs) H' fun σ2 H2 => wipe σ2 vs = wipe σ vs ∧ tYes σ2 H2 fun b H3 =>
        if b = true then te σ2 H3 fun y H4 => ∃ acc, H4 D = some (.lst acc) ∧ acc.length < sizeLine ∧ Nx (upd H4 D (.lst (acc ++ [y]))) else Nx H3) := by
  refine lc_list (xs := xs) (fun i H' => Same H1 H' ∧ H' D = some (.lst ((xs.take i).map f))) ⟨Same.new hD, upd_same⟩ (fun i H' _ p => p.1.seq ha) (fun i x H' hx p => ?_) (fun H' p => hd H' p.1 (by rw [p.2, List.take_length]))
  obtain ⟨hs, hD'⟩ := p
  have hi : i < xs.length := (List.getElem?_eq_some_iff.mp hx).1
  refine ⟨hw _, tyes ?_⟩
  refine body i x H' _ hx hs fun H4 h4 => ⟨_, h4 _ _ hD', lineLt (by simp; omega), ?_, ?_⟩
  · exact fun b o e => by
      rw [upd_ne (ne_of_none e hD)]
      exact h4 _ _ (hs _ _ e)
  · rw [upd_same, List.take_add_one, hx, List.map_append]
    rfl
/-- what the module's names stand for, as far as defs of rows use them -/
structure Txt (K : PySem.W.Frag) (mg : Str → Option Value) : Prop where
  range : mg "range" = none
  max : mg "max" = none
  min : mg "min" = none
  sum : mg "sum" = none
  abs : mg "abs" = none
  len : mg "len" = none
  enumerate : mg "enumerate" = none
  list : mg "list" = none
  POINTS : GI mg "POINTS" (.int 12)
  WAVE_SHARE : GI mg "WAVE_SHARE" (.int 6000)
  WEIGHT_STEP : GI mg "WEIGHT_STEP" (.int 5)
  HEAVIEST : GI mg "HEAVIEST" (.int 60)
  CIRCLE : ∃ a, GI mg "CIRCLE" (.ref a) ∧ ∀ H : Hp, SqT K H a (vi Su68.acrossAll)
theorem at0 {r : List Int} (h : r.length = 12) {i : Nat} (hi : i < 12) : atI (vi r) (0 + (i : Int)) = some (V.int (Su68.at_ r i)) := by
  rw [Int.zero_add]; exact vi_at h hi
end Ty

end
section
set_option Elab.async false
set_option linter.all false
set_option maxRecDepth 100000
set_option maxHeartbeats 2000000
namespace Ty
open PySem PySem.Spec PyProof.Rows L2
section
variable {P : Program} {w : World} {K : PySem.W.Frag} {mg : Str → Option Value} {base : Heap}
abbrev s_turned : Stmt := top 6
theorem sc_turned : FnScope ["row", "k"] ["row", "k"] (defScope s_turned) := ⟨rfl, rfl, rfl, by decide +kernel, rfl, by decide +kernel, by decide +kernel⟩
theorem cut_from {r : List Int} {k : Nat} (h : k ≤ r.length) : cutV (vi r) (some (k : Int)) none = vi (r.drop k) := by
  unfold cutV
  rw [HT.sIx_nat, HT.sIx_none, vi_len, Nat.min_eq_left h, ← List.map_drop, List.take_of_length_le (by simp)]
theorem cut_to {r : List Int} {k : Nat} (h : k ≤ r.length) : cutV (vi r) none (some (k : Int)) = vi (r.take k) := by
  unfold cutV
  rw [HT.sIx_nat, HT.sIx_none, vi_len, Nat.min_eq_left h, List.drop_zero, Nat.sub_zero, ← List.map_take]
theorem ok_turned (D : Def K mg "turned" s_turned) : FnAt P w K mg base 1 "turned" ["row", "k"] (spRIR (fun r k => r.length = 12 ∧ 0 ≤ k ∧ k ≤ 12) fun r k => Su68.turned r k.toNat) := by
  obtain ⟨f, fd, hm, F⟩ := D
  refine ⟨f, fd, hm, F.kp, F.binds (ps := ["row", "k"]) (fun _ _ _ _ _ _ us hl => match us, hl with | [_, _], _ => rfl), F.ok sc_turned (fun vs H Q E h => ?_) (fun cdv A outer s H vs Q E hr h => ?_)⟩
  · obtain ⟨a, r, k, rfl, _⟩ := h; rfl
  · obtain ⟨a, r, k, rfl, ha, ⟨h12, h0, hk⟩, q⟩ := h
    obtain ⟨k, rfl⟩ := Int.eq_ofNat_of_zero_le h0
    refine ⟨_, pss_one (ps_ret (pe_op op_cat (pe_slice sl_list (pv 0) (po_some (pv 1)) po_none) (pe_slice sl_list (pv 0) po_none (po_some (pv 1))))), ?_⟩
    refine ⟨_, rfl, _, rfl, _, rfl, a, _, rfl, SqL.of ha, fun p hp => ?_⟩
    refine ⟨_, rfl, _, rfl, _, rfl, a, _, rfl, SqL.of (Same.new hp _ _ ha), fun p' hp' => ?_⟩
    rw [cut_from (by omega), cut_to (by omega)] at *
    have s1 : Same H (upd H p (.lst (vi (r.drop k)))) := Same.new hp
    have s2 := s1.trans (Same.new (o := .lst (vi (r.take k))) hp')
    refine ⟨p, p', vi (r.drop k), vi (r.take k), rfl, rfl, Same.new hp' _ _ upd_same, upd_same, line (by simp; omega), fun z hz => ?_⟩
    refine q _ z (s2.trans (Same.new hz)) (s2.free hz) ?_
    show upd _ z _ z = some (.lst (vi _))
    rw [upd_same, ← List.map_append, turned_is h12 (by omega)]
    rfl
abbrev s_together : Stmt := top 7
theorem sc_together : FnScope ["row", "other", "i"] ["row", "other"] (defScope s_together) := ⟨rfl, rfl, rfl, by decide +kernel, rfl, by decide +kernel, by decide +kernel⟩
theorem ok_together (D : Def K mg "together" s_together) (T : Txt K mg) : FnAt P w K mg base 1 "together" ["row", "other"] (spRRR (fun r s => r.length = 12 ∧ s.length = 12) Su68.plus) := by
  obtain ⟨f, fd, hm, F⟩ := D
  refine ⟨f, fd, hm, F.kp, F.binds (ps := ["row", "other"]) (fun _ _ _ _ _ _ us hl => match us, hl with | [_, _], _ => rfl), F.ok sc_together (fun vs H Q E h => ?_) (fun cdv A outer s H vs Q E hr h => ?_)⟩
  · obtain ⟨a, b, r, s', rfl, _⟩ := h; rfl
  · obtain ⟨a, b, r, t, rfl, ha, hb, ⟨h1, h2⟩, q⟩ := h
    refine ⟨_, pss_one (ps_ret (pe_lc (own := [("i", 2)]) rfl sc_together.nd (pi_range1 rfl T.range (pa_cons (pg T.POINTS) pa_nil)) (blkOk_by (by show blkC ["row", "other", "i"] (defScope s_together) _ _ = true; decide +kernel)) (fun _ _ _ _ _ => pg_name (i := 2) sc_together.nd rfl (Or.inl rfl)) (fun _ _ _ _ _ => pts_nil)
      (fun _ _ _ _ _ => pe_op op_add (pe_ix (r := rIxL K) ix_list (pv 0) (pv 2) (fun _ _ => rfl)) (pe_ix (r := rIxL K) ix_list (pv 1) (pv 2) (fun _ _ => rfl))))), ?_⟩
    refine ⟨12, rfl, by decide, by decide, fun Dd hD => lc_mapR (n := 12) hD (fun i => V.int (Su68.at_ r i + Su68.at_ t i)) (by decide) (fun _ => rfl) (fun i H' Q' hi hs k => ?_) (fun H' hs hd => ?_)⟩
    · exact ⟨_, rfl, _, rfl, a, _, _, _, rfl, rfl, SqL.of (hs _ _ ha), at0 h1 hi, _, rfl, _, rfl, b, _, _, _, rfl, rfl, SqL.of (hs _ _ hb), at0 h2 hi, _, _, rfl, rfl, k _ (Same.refl _)⟩
    · exact q _ Dd hs hD (hd.trans (by unfold vi Su68.plus; rw [List.map_map]; rfl))
abbrev s_taken_off : Stmt := top 8
theorem sc_taken_off : FnScope ["row", "other", "i"] ["row", "other"] (defScope s_taken_off) := ⟨rfl, rfl, rfl, by decide +kernel, rfl, by decide +kernel, by decide +kernel⟩
def minus (r s : List Int) : List Int := (List.range 12).map fun i => Su68.at_ r i - Su68.at_ s i
theorem ok_taken_off (D : Def K mg "taken_off" s_taken_off) (T : Txt K mg) : FnAt P w K mg base 1 "taken_off" ["row", "other"] (spRRR (fun r s => r.length = 12 ∧ s.length = 12) minus) := by
  obtain ⟨f, fd, hm, F⟩ := D
  refine ⟨f, fd, hm, F.kp, F.binds (ps := ["row", "other"]) (fun _ _ _ _ _ _ us hl => match us, hl with | [_, _], _ => rfl), F.ok sc_taken_off (fun vs H Q E h => ?_) (fun cdv A outer s H vs Q E hr h => ?_)⟩
  · obtain ⟨a, b, r, s', rfl, _⟩ := h; rfl
  · obtain ⟨a, b, r, t, rfl, ha, hb, ⟨h1, h2⟩, q⟩ := h
    refine ⟨_, pss_one (ps_ret (pe_lc (own := [("i", 2)]) rfl sc_taken_off.nd (pi_range1 rfl T.range (pa_cons (pg T.POINTS) pa_nil)) (blkOk_by (by show blkC ["row", "other", "i"] (defScope s_taken_off) _ _ = true; decide +kernel)) (fun _ _ _ _ _ => pg_name (i := 2) sc_taken_off.nd rfl (Or.inl rfl)) (fun _ _ _ _ _ => pts_nil)
      (fun _ _ _ _ _ => pe_op op_sub (pe_ix (r := rIxL K) ix_list (pv 0) (pv 2) (fun _ _ => rfl)) (pe_ix (r := rIxL K) ix_list (pv 1) (pv 2) (fun _ _ => rfl))))), ?_⟩
    refine ⟨12, rfl, by decide, by decide, fun Dd hD => lc_mapR (n := 12) hD (fun i => V.int (Su68.at_ r i - Su68.at_ t i)) (by decide) (fun _ => rfl) (fun i H' Q' hi hs k => ?_) (fun H' hs hd => ?_)⟩
    · exact ⟨_, rfl, _, rfl, a, _, _, _, rfl, rfl, SqL.of (hs _ _ ha), at0 h1 hi, _, rfl, _, rfl, b, _, _, _, rfl, rfl, SqL.of (hs _ _ hb), at0 h2 hi, _, _, rfl, rfl, k _ (Same.refl _)⟩
    · exact q _ Dd hs hD (hd.trans (by unfold vi minus; rw [List.map_map]; rfl))
abbrev s_halved : Stmt := top 9
theorem sc_halved : FnScope ["row", "point"] ["row"] (defScope s_halved) := ⟨rfl, rfl, rfl, by decide +kernel, rfl, by decide +kernel, by decide +kernel⟩
theorem ok_halved (D : Def K mg "halved" s_halved) : FnAt P w K mg base 1 "halved" ["row"] (spRR (fun r => r.length = 12) fun r => r.map (· / 2)) := by
  obtain ⟨f, fd, hm, F⟩ := D
  refine ⟨f, fd, hm, F.kp, F.binds (ps := ["row"]) (fun _ _ _ _ _ _ us hl => match us, hl with | [_], _ => rfl), F.ok sc_halved (fun vs H Q E h => ?_) (fun cdv A outer s H vs Q E hr h => ?_)⟩
  · obtain ⟨a, r, rfl, _⟩ := h; rfl
  · obtain ⟨a, r, rfl, ha, h12, q⟩ := h
    refine ⟨_, pss_one (ps_ret (pe_lc (own := [("point", 1)]) rfl sc_halved.nd (pi_list (pv 0)) (blkOk_by (by show blkC ["row", "point"] (defScope s_halved) _ _ = true; decide +kernel)) (fun _ _ _ _ _ => pg_name (i := 1) sc_halved.nd rfl (Or.inl rfl)) (fun _ _ _ _ _ => pts_nil)
      (fun _ _ _ _ _ => pe_op op_fdiv (pv 1) pe_int))), ?_⟩
    refine ⟨_, rfl, a, rfl, ⟨_, SqL.of ha⟩, fun Dd hD => lc_mapL (xs := vi r) (SqL.of ha) hD (fun x => match x with | .int z => .int (z / 2) | x => x) (by rw [vi_len]; omega) (fun _ => rfl) (fun i x H' Q' hi hs k => ?_) (fun H' hs hd => ?_)⟩
    · rw [List.getElem?_map] at hi
      cases e : r[i]? with
      | none => rw [e] at hi; cases hi
      | some z =>
        rw [e] at hi
        obtain rfl : V.int z = x := Option.some.inj hi
        exact ⟨_, rfl, _, _, rfl, rfl, ⟨by decide, by decide⟩, k _ (Same.refl _)⟩
    · exact q _ Dd hs hD (hd.trans (by unfold vi; rw [List.map_map, List.map_map]; rfl))
abbrev s_peak : Stmt := top 10
theorem sc_peak : FnScope ["row"] ["row"] (defScope s_peak) := ⟨rfl, rfl, rfl, by decide +kernel, rfl, by decide +kernel, by decide +kernel⟩
theorem ok_peak (D : Def K mg "peak" s_peak) (T : Txt K mg) : FnAt P w K mg base 1 "peak" ["row"] (spRI (fun r => r.length = 12) fun r => (Su68.peak r : Int)) := by
  obtain ⟨f, fd, hm, F⟩ := D
  refine ⟨f, fd, hm, F.kp, F.binds (ps := ["row"]) (fun _ _ _ _ _ _ us hl => match us, hl with | [_], _ => rfl), F.ok sc_peak (fun vs H Q E h => ?_) (fun cdv A outer s H vs Q E hr h => ?_)⟩
  · obtain ⟨a, r, rfl, _⟩ := h; rfl
  · obtain ⟨a, r, rfl, ha, h12, q⟩ := h
    refine ⟨_, pss_one (ps_ret (pe_op op_sub (pe_callB (cr_max rfl) (by rfl) T.max boot_max (pa_cons (pv 0) pa_nil)) (pe_callB (cr_min rfl) (by rfl) T.min boot_min (pa_cons (pv 0) pa_nil)))), ?_⟩
    refine ⟨_, rfl, a, r, rfl, SqL.of ha, by omega, fun m m1 m2 => ⟨_, rfl, a, r, rfl, SqL.of ha, by omega, fun n n1 n2 => ⟨_, _, rfl, rfl, ?_⟩⟩⟩
    show Q (V.int (m - n)) H
    rw [most_is m1 m2, least_is n1 n2, ← peak_int (l := r) (by intro e; rw [e] at h12; cases h12)]
    exact q H (Same.refl _)
end
end Ty

end
section
set_option Elab.async false
set_option linter.all false
set_option maxRecDepth 100000
set_option maxHeartbeats 2000000
namespace Ty
open PySem PySem.Spec PyProof.Rows L2
section
variable {P : Program} {w : World} {K : PySem.W.Frag} {mg : Str → Option Value} {base : Heap}
/-- // by a positive number below 2^64 -/
theorem op_fdivB {X : Cx} : OpR X (binaryOp .FloorDiv) (rI (fun _ j => 0 < j ∧ j < 18446744073709551616) fun i j => .int (i / j)) := opI fun i j _ _ _ _ _ hc q => by
  have h1 : (0 : Int) < j := hc.1
  have h2 : j < 18446744073709551616 := hc.2
  refine floordiv_int (by omega) (by rw [Int.fdiv_eq_ediv_of_nonneg i (by omega)]; exact q) (.inl (PyProof.noPylong_of_log2 ?_))
  have h3 : j.natAbs.log2 < 64 := (Nat.log2_lt (by omega)).mpr (by omega)
  omega
theorem sq_pow (i : Int) : i ^ (2 : Int).toNat = i * i := by
  show i ^ 2 = i * i
  rw [Int.pow_succ, Int.pow_succ, Int.pow_zero, Int.one_mul]
abbrev s_greatest_step : Stmt := top 11
theorem sc_greatest_step : FnScope ["row", "following", "i"] ["row"] (defScope s_greatest_step) := ⟨rfl, rfl, rfl, by decide +kernel, rfl, by decide +kernel, by decide +kernel⟩
theorem ok_greatest_step (D : Def K mg "greatest_step" s_greatest_step) (T : Txt K mg) (Tu : FnAt P w K mg base 1 "turned" ["row", "k"] (spRIR (fun r k => r.length = 12 ∧ 0 ≤ k ∧ k ≤ 12) fun r k => Su68.turned r k.toNat)) : FnAt P w K mg base 2 "greatest_step" ["row"] (spRI (fun r => r.length = 12) fun r => (Su68.jump r : Int)) := by
  obtain ⟨f, fd, hm, F⟩ := D
  refine ⟨f, fd, hm, F.kp, F.binds (ps := ["row"]) (fun _ _ _ _ _ _ us hl => match us, hl with | [_], _ => rfl), F.ok sc_greatest_step (fun vs H Q E h => ?_) (fun cdv A outer s H vs Q E hr h => ?_)⟩
  · obtain ⟨a, r, rfl, _⟩ := h; rfl
  · obtain ⟨a, r, rfl, ha, h12, q⟩ := h
    refine ⟨_, (pss_cons (ps_set (i := 1) sc_greatest_step.nd rfl (by first | exact Or.inl rfl | exact Or.inr rfl) (pf Tu (hr.mono (by decide)) (pa_cons (pv 0) (pa_cons pe_int pa_nil)))) (pss_one (ps_ret (pe_callB (cr_max rfl) (by rfl) T.max boot_max (pa_cons (pe_lc (own := [("i", 2)]) rfl sc_greatest_step.nd (pi_range1 rfl T.range (pa_cons (pg T.POINTS) pa_nil)) (blkOk_by (by show blkC ["row", "following", "i"] (defScope s_greatest_step) _ _ = true; decide +kernel)) (fun _ _ _ _ _ => pg_name (i := 2) sc_greatest_step.nd rfl (Or.inl rfl)) (fun _ _ _ _ _ => pts_nil)
      (fun _ _ _ _ _ => pe_callB call_abs (by rfl) T.abs PyProof.Rows.boot_abs (pa_cons (pe_op op_sub (pe_ix (r := rIxL K) ix_list (pv 0) (pv 2) (fun _ _ => rfl)) (pe_ix (r := rIxL K) ix_list (pv 1) (pv 2) (fun _ _ => rfl))) pa_nil))) pa_nil))))), ?_⟩
    refine ⟨_, rfl, a, r, 1, rfl, ha, ⟨h12, by decide, by decide⟩, fun H1 b s1 hb0 hb => ?_⟩
    refine ⟨12, rfl, by decide, by decide, fun Dd hD => lc_mapR (n := 12) hD (fun i => V.int ((Su68.at_ r i - Su68.at_ r (i + 1)).natAbs : Int)) (by decide) (fun _ => rfl) (fun i H' Q' hi hs k => ?_) (fun H' hs hd => ?_)⟩
    · refine ⟨_, rfl, _, rfl, a, _, _, _, rfl, rfl, SqL.of (hs _ _ (s1 _ _ ha)), at0 h12 hi, _, rfl, _, rfl, b, _, _, _, rfl, rfl, SqL.of (hs _ _ hb), at0 (len_turned _ _) hi, _, _, rfl, rfl, _, rfl, ?_⟩
      rw [at_turned _ _ hi]
      have e : (if Su68.at_ r i - Su68.at_ r (i + Int.toNat 1) < 0 then -(Su68.at_ r i - Su68.at_ r (i + Int.toNat 1)) else Su68.at_ r i - Su68.at_ r (i + Int.toNat 1)) = ((Su68.at_ r i - Su68.at_ r (i + 1)).natAbs : Int) := by
        rw [show Int.toNat 1 = 1 from rfl]
        split <;> omega
      rw [e]
      exact k _ (Same.refl _)
    · refine ⟨Dd, (List.range 12).map fun i => ((Su68.at_ r i - Su68.at_ r (i + 1)).natAbs : Int), rfl, SqL.of (hd.trans (by rw [List.map_map]; rfl)), by simp, fun m m1 m2 => ?_⟩
      rw [jump_is r m1 m2]
      exact q _ (s1.trans hs)
abbrev s_circle_across : Stmt := top 12
theorem sc_circle_across : FnScope ["point"] ["point"] (defScope s_circle_across) := ⟨rfl, rfl, rfl, by decide +kernel, rfl, by decide +kernel, by decide +kernel⟩
theorem ok_circle_across (D : Def K mg "circle_across" s_circle_across) (T : Txt K mg) : FnAt P w K mg base 1 "circle_across" ["point"] (spII (fun k => 0 ≤ k ∧ k < 12) fun k => Su68.across k.toNat) := by
  obtain ⟨f, fd, hm, F⟩ := D
  refine ⟨f, fd, hm, F.kp, F.binds (ps := ["point"]) (fun _ _ _ _ _ _ us hl => match us, hl with | [_], _ => rfl), F.ok sc_circle_across (fun vs H Q E h => ?_) (fun cdv A outer s H vs Q E hr h => ?_)⟩
  · obtain ⟨k, rfl, _⟩ := h; rfl
  · obtain ⟨k, rfl, ⟨h0, h12⟩, q⟩ := h
    obtain ⟨c, hc, hC⟩ := T.CIRCLE
    obtain ⟨k, rfl⟩ := Int.eq_ofNat_of_zero_le h0
    refine ⟨_, (pss_one (ps_ret (pe_ix ix_tup (pg hc) (pv 0) (fun _ _ => rfl)))), ?_⟩
    refine ⟨_, rfl, c, _, _, _, rfl, rfl, hC H, vi_at (r := Su68.acrossAll) rfl (by omega), ?_⟩
    exact q H (Same.refl _)
abbrev s_circle_upwards : Stmt := top 13
theorem sc_circle_upwards : FnScope ["point"] ["point"] (defScope s_circle_upwards) := ⟨rfl, rfl, rfl, by decide +kernel, rfl, by decide +kernel, by decide +kernel⟩
theorem ok_circle_upwards (D : Def K mg "circle_upwards" s_circle_upwards) (T : Txt K mg) : FnAt P w K mg base 1 "circle_upwards" ["point"] (spII (fun k => 0 ≤ k ∧ k < 12) fun k => Su68.upwards k.toNat) := by
  obtain ⟨f, fd, hm, F⟩ := D
  refine ⟨f, fd, hm, F.kp, F.binds (ps := ["point"]) (fun _ _ _ _ _ _ us hl => match us, hl with | [_], _ => rfl), F.ok sc_circle_upwards (fun vs H Q E h => ?_) (fun cdv A outer s H vs Q E hr h => ?_)⟩
  · obtain ⟨k, rfl, _⟩ := h; rfl
  · obtain ⟨k, rfl, ⟨h0, h12⟩, q⟩ := h
    obtain ⟨c, hc, hC⟩ := T.CIRCLE
    obtain ⟨k, rfl⟩ := Int.eq_ofNat_of_zero_le h0
    refine ⟨_, (pss_one (ps_ret (pe_ix ix_tup (pg hc) (pe_op op_mod (pe_op op_sub (pv 0) pe_int) (pg T.POINTS)) (fun _ _ => rfl)))), ?_⟩
    have e : ((k : Int) - 3) % 12 = (((k + 9) % 12 : Nat) : Int) := by omega
    refine ⟨_, rfl, _, _, rfl, rfl, _, _, rfl, rfl, (by show (0 : Int) < 12; decide), c, _, _, V.int (Su68.upwards k), rfl, rfl, hC H, ?_, ?_⟩
    · refine (congrArg (atI (vi Su68.acrossAll)) e).trans ?_
      rw [vi_at (r := Su68.acrossAll) rfl (Nat.mod_lt _ (by decide))]
      show some (V.int (Su68.acrossAll.getD ((k + 9) % 12 % 12) 0)) = some (V.int (Su68.acrossAll.getD ((k + 9) % 12) 0))
      rw [Nat.mod_mod]
    · exact q H (Same.refl _)
abbrev s_across : Stmt := top 14
theorem sc_across : FnScope ["row", "i"] ["row"] (defScope s_across) := ⟨rfl, rfl, rfl, by decide +kernel, rfl, by decide +kernel, by decide +kernel⟩
theorem ok_across (D : Def K mg "across" s_across) (T : Txt K mg) (Ci : FnAt P w K mg base 1 "circle_across" ["point"] (spII (fun k => 0 ≤ k ∧ k < 12) fun k => Su68.across k.toNat)) : FnAt P w K mg base 2 "across" ["row"] (spRI Row Su68.waveA) := by
  obtain ⟨f, fd, hm, F⟩ := D
  refine ⟨f, fd, hm, F.kp, F.binds (ps := ["row"]) (fun _ _ _ _ _ _ us hl => match us, hl with | [_], _ => rfl), F.ok sc_across (fun vs H Q E h => ?_) (fun cdv A outer s H vs Q E hr h => ?_)⟩
  · obtain ⟨a, r, rfl, _⟩ := h; rfl
  · obtain ⟨a, r, rfl, ha, hR, q⟩ := h
    refine ⟨_, (pss_one (ps_ret (pe_callB (cr_sum rfl) (by rfl) T.sum boot_sum (pa_cons (pe_lc (own := [("i", 1)]) rfl sc_across.nd (pi_range1 rfl T.range (pa_cons (pg T.POINTS) pa_nil)) (blkOk_by (by show blkC ["row", "i"] (defScope s_across) _ _ = true; decide +kernel)) (fun _ _ _ _ _ => pg_name (i := 1) sc_across.nd rfl (Or.inl rfl)) (fun _ _ _ _ _ => pts_nil)
      (fun _ _ _ _ _ => (pe_op op_mul (pe_ix (r := rIxL K) ix_list (pv 0) (pv 1) (fun _ _ => rfl)) (pf Ci (hr.mono (by decide)) (pa_cons (pv 1) pa_nil))))) pa_nil)))), ?_⟩
    refine ⟨12, rfl, by decide, by decide, fun Dd hD => lc_mapR (n := 12) hD (fun i => V.int (Su68.at_ r i * Su68.across i)) (by decide) (fun _ => rfl) (fun i H' Q' hi hs k => ?_) (fun H' hs hd => ?_)⟩
    · have hb := hR.2 _ (at_mem hR.1 i)
      refine ⟨_, rfl, _, rfl, a, _, _, _, rfl, rfl, SqL.of (hs _ _ ha), at0 hR.1 hi, _, rfl, 0 + (i : Int), rfl, ⟨by omega, by omega⟩, fun H5 s5 => ⟨_, _, rfl, rfl, .inl ⟨by omega, by omega⟩, ?_⟩⟩
      show Q' (V.int (Su68.at_ r i * Su68.across (0 + (i : Int)).toNat)) H5
      rw [show (0 + (i : Int)).toNat = i by omega]
      exact k _ s5
    · refine ⟨Dd, (List.range 12).map fun i => Su68.at_ r i * Su68.across i, rfl, SqL.of (hd.trans (by rw [List.map_map]; rfl)), ?_⟩
      rw [← waveA_is]
      exact q _ hs
abbrev s_upwards : Stmt := top 15
theorem sc_upwards : FnScope ["row", "i"] ["row"] (defScope s_upwards) := ⟨rfl, rfl, rfl, by decide +kernel, rfl, by decide +kernel, by decide +kernel⟩
theorem ok_upwards (D : Def K mg "upwards" s_upwards) (T : Txt K mg) (Ci : FnAt P w K mg base 1 "circle_upwards" ["point"] (spII (fun k => 0 ≤ k ∧ k < 12) fun k => Su68.upwards k.toNat)) : FnAt P w K mg base 2 "upwards" ["row"] (spRI Row Su68.waveB) := by
  obtain ⟨f, fd, hm, F⟩ := D
  refine ⟨f, fd, hm, F.kp, F.binds (ps := ["row"]) (fun _ _ _ _ _ _ us hl => match us, hl with | [_], _ => rfl), F.ok sc_upwards (fun vs H Q E h => ?_) (fun cdv A outer s H vs Q E hr h => ?_)⟩
  · obtain ⟨a, r, rfl, _⟩ := h; rfl
  · obtain ⟨a, r, rfl, ha, hR, q⟩ := h
    refine ⟨_, (pss_one (ps_ret (pe_callB (cr_sum rfl) (by rfl) T.sum boot_sum (pa_cons (pe_lc (own := [("i", 1)]) rfl sc_upwards.nd (pi_range1 rfl T.range (pa_cons (pg T.POINTS) pa_nil)) (blkOk_by (by show blkC ["row", "i"] (defScope s_upwards) _ _ = true; decide +kernel)) (fun _ _ _ _ _ => pg_name (i := 1) sc_upwards.nd rfl (Or.inl rfl)) (fun _ _ _ _ _ => pts_nil)
      (fun _ _ _ _ _ => (pe_op op_mul (pe_ix (r := rIxL K) ix_list (pv 0) (pv 1) (fun _ _ => rfl)) (pf Ci (hr.mono (by decide)) (pa_cons (pv 1) pa_nil))))) pa_nil)))), ?_⟩
    refine ⟨12, rfl, by decide, by decide, fun Dd hD => lc_mapR (n := 12) hD (fun i => V.int (Su68.at_ r i * Su68.upwards i)) (by decide) (fun _ => rfl) (fun i H' Q' hi hs k => ?_) (fun H' hs hd => ?_)⟩
    · have hb := hR.2 _ (at_mem hR.1 i)
      refine ⟨_, rfl, _, rfl, a, _, _, _, rfl, rfl, SqL.of (hs _ _ ha), at0 hR.1 hi, _, rfl, 0 + (i : Int), rfl, ⟨by omega, by omega⟩, fun H5 s5 => ⟨_, _, rfl, rfl, .inl ⟨by omega, by omega⟩, ?_⟩⟩
      show Q' (V.int (Su68.at_ r i * Su68.upwards (0 + (i : Int)).toNat)) H5
      rw [show (0 + (i : Int)).toNat = i by omega]
      exact k _ s5
    · refine ⟨Dd, (List.range 12).map fun i => Su68.at_ r i * Su68.upwards i, rfl, SqL.of (hd.trans (by rw [List.map_map]; rfl)), ?_⟩
      rw [← waveB_is]
      exact q _ hs
abbrev s_whole_root : Stmt := top 16
theorem sc_whole_root : FnScope ["square", "guess"] ["square"] (defScope s_whole_root) := ⟨rfl, rfl, rfl, by decide +kernel, rfl, by decide +kernel, by decide +kernel⟩
theorem ok_whole_root (D : Def K mg "whole_root" s_whole_root)  : FnAt P w K mg base 1 "whole_root" ["square"] (spII (fun n => 0 ≤ n ∧ n < 10000000000000000) fun n => (Su68.root 64 0 100000000 n.toNat : Int)) := by
  obtain ⟨f, fd, hm, F⟩ := D
  refine ⟨f, fd, hm, F.kp, F.binds (ps := ["square"]) (fun _ _ _ _ _ _ us hl => match us, hl with | [_], _ => rfl), F.ok sc_whole_root (fun vs H Q E h => ?_) (fun cdv A outer s H vs Q E hr h => ?_)⟩
  · obtain ⟨n, rfl, _⟩ := h; rfl
  · obtain ⟨n, rfl, ⟨h0, h16⟩, q⟩ := h
    obtain ⟨n, rfl⟩ := Int.eq_ofNat_of_zero_le h0
    refine ⟨_, (pss_cons (ps_set (i := 1) sc_whole_root.nd rfl (by first | exact Or.inl rfl | exact Or.inr rfl) (pv 0)) (pss_cons (ps_while PassesOwn.never (pt_cmpR op_gt (pe_op op_mul (pv 1) (pv 1)) (pv 0) (nomark _)) (pss_one (ps_set (i := 1) sc_whole_root.nd rfl (by first | exact Or.inl rfl | exact Or.inr rfl) (pe_op op_fdiv (pe_op op_add (pv 1) (pe_op op_fdivB (pv 0) (pv 1))) pe_int)))) (pss_one (ps_ret (pv 1))))), ?_⟩
    refine ⟨_, rfl, ?_⟩
    refine while_by (fun σ H' => ∃ g : Nat, σ = [some (.int n), some (.int g)] ∧ n < (g + 1) * (g + 1) ∧ g ≤ n ∧ H' = H) (fun σ _ => match σ with | [_, some (.int g)] => g.toNat | _ => 0) ⟨n, rfl, by simp only [Nat.mul_add, Nat.add_mul]; omega, Nat.le_refl _, rfl⟩ ?_ ?_
    · rintro σ H' ⟨g, rfl, h1, h2, rfl⟩
      refine ⟨_, rfl, _, rfl, _, _, rfl, rfl, .inl ⟨by omega, by omega⟩, _, rfl, _, _, rfl, rfl, _, rfl, ?_⟩
      refine ite2 (fun h => ?_) (fun h => ?_)
      · have hlt : n < g * g := by have := of_decide_eq_true h; exact_mod_cast this
        have g0 : 0 < g := by
          rcases Nat.eq_zero_or_pos g with e | e
          · subst e; omega
          · exact e
        obtain ⟨n1, n2⟩ := newton hlt h1
        have e : ((g : Int) + (n : Int) / (g : Int)) / 2 = (((g + n / g) / 2 : Nat) : Int) := by simp
        refine ⟨_, rfl, _, rfl, _, rfl, _, _, rfl, rfl, ⟨by omega, by omega⟩, _, _, rfl, rfl, _, _, rfl, rfl, ⟨by decide, by decide⟩, ⟨(g + n / g) / 2, ?_, n1, by omega, rfl⟩, ?_⟩
        · show [some (V.int n), some (V.int (((g : Int) + (n : Int) / (g : Int)) / 2))] = _
          rw [e]
        · show (((g : Int) + (n : Int) / (g : Int)) / 2).toNat < (g : Int).toNat
          rw [e]
          omega
      · have hge : g * g ≤ n := by have := of_decide_eq_false (Bool.eq_false_iff.mpr h); exact_mod_cast Int.not_lt.mp this
        refine ⟨_, rfl, ?_⟩
        have e := root_is (n := n) (by omega) hge h1
        have z : Q (V.int (Su68.root 64 0 100000000 n : Int)) H' := q _ (Same.refl _)
        rw [e] at z
        exact z
    · rintro σ H' Q1 Q2 hm ⟨x1, e1, x2, e2, i, j, e3, e4, hc, x3, e5, i2, j2, e6, e7, k, e8, q⟩
      exact ⟨x1, e1, x2, e2, i, j, e3, e4, hc, x3, e5, i2, j2, e6, e7, k, e8, hm _ _ q⟩
abbrev s_wave_squared : Stmt := top 17
theorem sc_wave_squared : FnScope ["row"] ["row"] (defScope s_wave_squared) := ⟨rfl, rfl, rfl, by decide +kernel, rfl, by decide +kernel, by decide +kernel⟩
theorem ok_wave_squared (D : Def K mg "wave_squared" s_wave_squared) (Ac : FnAt P w K mg base 2 "across" ["row"] (spRI Row Su68.waveA)) (Up : FnAt P w K mg base 2 "upwards" ["row"] (spRI Row Su68.waveB)) : FnAt P w K mg base 3 "wave_squared" ["row"] (spRI Row fun r => (Su68.size (Su68.waveA r) (Su68.waveB r) : Int)) := by
  obtain ⟨f, fd, hm, F⟩ := D
  refine ⟨f, fd, hm, F.kp, F.binds (ps := ["row"]) (fun _ _ _ _ _ _ us hl => match us, hl with | [_], _ => rfl), F.ok sc_wave_squared (fun vs H Q E h => ?_) (fun cdv A outer s H vs Q E hr h => ?_)⟩
  · obtain ⟨a, r, rfl, _⟩ := h; rfl
  · obtain ⟨a, r, rfl, ha, hR, q⟩ := h
    refine ⟨_, (pss_one (ps_ret (pe_op op_add (pe_op op_pow (pf Ac (hr.mono (by decide)) (pa_cons (pv 0) pa_nil)) pe_int) (pe_op op_pow (pf Up (hr.mono (by decide)) (pa_cons (pv 0) pa_nil)) pe_int)))), ?_⟩
    have b1 := hR.waveA
    have b2 := hR.waveB
    refine ⟨_, rfl, a, r, rfl, ha, hR, fun H1 s1 => ⟨_, _, rfl, rfl, ⟨by decide, by decide, by omega⟩, _, rfl, a, r, rfl, s1 _ _ ha, hR, fun H2 s2 => ⟨_, _, rfl, rfl, ⟨by decide, by decide, by omega⟩, _, _, rfl, rfl, ?_⟩⟩⟩
    show Q (V.int (Su68.waveA r ^ (2 : Int).toNat + Su68.waveB r ^ (2 : Int).toNat)) H2
    rw [sq_pow, sq_pow, ← size_int]
    exact q _ (s1.trans s2)
abbrev s_wave : Stmt := top 18
theorem sc_wave : FnScope ["row"] ["row"] (defScope s_wave) := ⟨rfl, rfl, rfl, by decide +kernel, rfl, by decide +kernel, by decide +kernel⟩
theorem ok_wave (D : Def K mg "wave" s_wave) (T : Txt K mg) (Ro : FnAt P w K mg base 1 "whole_root" ["square"] (spII (fun n => 0 ≤ n ∧ n < 10000000000000000) fun n => (Su68.root 64 0 100000000 n.toNat : Int))) (Sq : FnAt P w K mg base 3 "wave_squared" ["row"] (spRI Row fun r => (Su68.size (Su68.waveA r) (Su68.waveB r) : Int))) : FnAt P w K mg base 4 "wave" ["row"] (spRI Row fun r => (Su68.wave r : Int)) := by
  obtain ⟨f, fd, hm, F⟩ := D
  refine ⟨f, fd, hm, F.kp, F.binds (ps := ["row"]) (fun _ _ _ _ _ _ us hl => match us, hl with | [_], _ => rfl), F.ok sc_wave (fun vs H Q E h => ?_) (fun cdv A outer s H vs Q E hr h => ?_)⟩
  · obtain ⟨a, r, rfl, _⟩ := h; rfl
  · obtain ⟨a, r, rfl, ha, hR, q⟩ := h
    refine ⟨_, (pss_one (ps_ret (pe_op op_fdiv (pf Ro (hr.mono (by decide)) (pa_cons (pf Sq (hr.mono (by decide)) (pa_cons (pv 0) pa_nil)) pa_nil)) (pg T.WAVE_SHARE)))), ?_⟩
    have b1 := hR.size
    refine ⟨_, rfl, a, r, rfl, ha, hR, fun H1 s1 => ⟨_, rfl, ⟨by dsimp only; omega, by dsimp only; omega⟩, fun H2 s2 => ⟨_, _, rfl, rfl, ⟨by decide, by decide⟩, ?_⟩⟩⟩
    exact q _ (s1.trans s2)
end
end Ty

end
section
set_option Elab.async false
set_option linter.all false
set_option maxRecDepth 100000
set_option maxHeartbeats 2000000
namespace Ty
open PySem PySem.Spec PyProof.Rows L2
section
variable {P : Program} {w : World} {K : PySem.W.Frag} {mg : Str → Option Value} {base : Heap}
/-- tyre and wheel in, the best turn and its peak out -/
def spBT : Sp := fun vs H Q _ => ∃ a b r t, vs = [.ref a, .ref b] ∧ At H a r ∧ At H b t ∧ (r.length = 12 ∧ t.length = 12) ∧ ∀ H' p, Same H H' → H p = Option.none → H' p = some (.tup [.int (Su68.best r t : Int), .int (Su68.evened r t : Int)]) → Q (.ref p) H'
/-- a row in, weight, point and what is left out -/
def spBW : Sp := fun vs H Q _ => ∃ a r, vs = [.ref a] ∧ At H a r ∧ Row r ∧ ∀ H' p, Same H H' → H p = Option.none → H' p = some (.tup [.int ((Su68.weighed r).1 : Int), .int ((Su68.weighed r).2 : Int), .int (Su68.left r (Su68.weighed r).1 (Su68.weighed r).2 : Int)]) → Q (.ref p) H'
theorem atT2 {x y : V} : atI [x, y] 1 = some y := atI_nat (j := 1) rfl
theorem atT0 {x : V} {r : List V} : atI (x :: r) 0 = some x := atI_nat (j := 0) rfl
theorem atT3 {x y z : V} : atI [x, y, z] 2 = some z := atI_nat (j := 2) rfl
abbrev s_best_turn : Stmt := top 20
theorem sc_best_turn : FnScope ["tyre", "wheel", "best", "k", "evened"] ["tyre", "wheel"] (defScope s_best_turn) := ⟨rfl, rfl, rfl, by decide +kernel, rfl, by decide +kernel, by decide +kernel⟩
theorem ok_best_turn (D : Def K mg "best_turn" s_best_turn) (T : Txt K mg) (Pk : FnAt P w K mg base 1 "peak" ["row"] (spRI (fun r => r.length = 12) fun r => (Su68.peak r : Int))) (Tg : FnAt P w K mg base 1 "together" ["row", "other"] (spRRR (fun r s => r.length = 12 ∧ s.length = 12) Su68.plus)) (Tu : FnAt P w K mg base 1 "turned" ["row", "k"] (spRIR (fun r k => r.length = 12 ∧ 0 ≤ k ∧ k ≤ 12) fun r k => Su68.turned r k.toNat)) : FnAt P w K mg base 2 "best_turn" ["tyre", "wheel"] (spBT) := by
  obtain ⟨f, fd, hm, F⟩ := D
  refine ⟨f, fd, hm, F.kp, F.binds (ps := ["tyre", "wheel"]) (fun _ _ _ _ _ _ us hl => match us, hl with | [_, _], _ => rfl), F.ok sc_best_turn (fun vs H Q E h => ?_) (fun cdv A outer s H vs Q E hr h => ?_)⟩
  · obtain ⟨a, b, r, t, rfl, _⟩ := h; rfl
  · obtain ⟨a, b, r, t, rfl, ha, hb, ⟨h1, h2⟩, q⟩ := h
    refine ⟨_, (pss_cons (ps_set (i := 2) sc_best_turn.nd rfl (by first | exact Or.inl rfl | exact Or.inr rfl) (pe_tup (pa_cons pe_int (pa_cons (pf Pk (hr.mono (by decide)) (pa_cons (pf Tg (hr.mono (by decide)) (pa_cons (pv 0) (pa_cons (pv 1) pa_nil))) pa_nil)) pa_nil)))) (pss_cons (ps_for PassesOwn.never rfl (pi_range2 rfl T.range (pa_cons pe_int (pa_cons (pg T.POINTS) pa_nil))) (pg_name (i := 3) sc_best_turn.nd rfl (Or.inl rfl)) (pss_cons (ps_set (i := 4) sc_best_turn.nd rfl (by first | exact Or.inl rfl | exact Or.inr rfl) (pf Pk (hr.mono (by decide)) (pa_cons (pf Tg (hr.mono (by decide)) (pa_cons (pf Tu (hr.mono (by decide)) (pa_cons (pv 0) (pa_cons (pv 3) pa_nil))) (pa_cons (pv 1) pa_nil))) pa_nil))) (pss_one (ps_if (pt_cmpR op_lt (pv 4) (pe_ix ix_tup (pv 2) pe_int (fun _ _ => rfl)) (nomark _)) (pss_one (ps_set (i := 2) sc_best_turn.nd rfl (by first | exact Or.inl rfl | exact Or.inr rfl) (pe_tup (pa_cons (pv 3) (pa_cons (pv 4) pa_nil))))) pss_nil)))) (pss_one (ps_ret (pv 2))))), ?_⟩
    refine ⟨_, rfl, _, rfl, a, b, r, t, rfl, ha, hb, ⟨h1, h2⟩, fun H1 c s1 hc0 hc => ⟨c, _, rfl, hc, len_plus _ _, fun H2 s2 => ⟨line (by simp), fun p hp => ?_⟩⟩⟩
    have s3 := s1.trans s2
    refine ⟨1, 12, rfl, ⟨by decide, by decide, by decide, by decide⟩, for_range (lo := 1) (n := 11) (fun i σ H' => ∃ p v3 v4, σ = [some (.ref a), some (.ref b), some (.ref p), v3, v4] ∧ Same H H' ∧ H p = Option.none ∧ H' p = some (.tup [.int (bestTo r t (1 + i) : Int), .int (Su68.peak (Su68.plus (Su68.turned r (bestTo r t (1 + i))) t) : Int)]))
      ⟨p, none, none, rfl, s3.trans (Same.new hp), s3.free hp, ?_⟩ ?_ ?_⟩
    · rw [upd_same, bestTo_one, turned_zero h1]
      rfl
    · rintro i σ H' hi ⟨p, v3, v4, rfl, s4, p0, hp⟩
      refine ⟨_, rfl, _, rfl, a, r, 1 + (i : Int), rfl, s4 _ _ ha, ⟨h1, by omega, by omega⟩, fun H5 d s5 d0 hd => ⟨_, rfl, d, b, _, t, rfl, hd, s5 _ _ (s4 _ _ hb), ⟨len_turned _ _, h2⟩, fun H6 e s6 e0 he => ⟨e, _, rfl, he, len_plus _ _, fun H7 s7 => ?_⟩⟩⟩
      have s57 := s5.trans (s6.trans s7)
      refine ⟨_, rfl, _, rfl, p, _, _, _, rfl, rfl, SqT.of (s57 _ _ hp), atT2, _, _, rfl, rfl, _, rfl, ?_⟩
      have ek : (1 + (i : Int)).toNat = 1 + i := by omega
      have eb := bestTo_succ r t (1 + i)
      refine ite2 (fun h => ?_) (fun h => ?_)
      · have hlt : Su68.peak (Su68.plus (Su68.turned r (1 + i)) t) < Su68.peak (Su68.plus (Su68.turned r (bestTo r t (1 + i))) t) := by
          have := of_decide_eq_true h
          dsimp only at this
          rw [ek] at this
          omega
        rw [bstep, if_pos hlt] at eb
        refine ⟨_, rfl, _, rfl, line (by simp), fun p2 hp2 => ⟨p2, _, _, rfl, (s4.trans s57).trans (Same.new hp2), (s4.trans s57).free hp2, ?_⟩⟩
        rw [upd_same, show 1 + (i + 1) = 1 + i + 1 from rfl, eb]
        dsimp only
        rw [ek]
        rfl
      · have hge : ¬ Su68.peak (Su68.plus (Su68.turned r (1 + i)) t) < Su68.peak (Su68.plus (Su68.turned r (bestTo r t (1 + i))) t) := by
          intro hlt
          apply h
          apply decide_eq_true
          dsimp only
          rw [ek]
          omega
        rw [bstep, if_neg hge] at eb
        refine ⟨p, _, _, rfl, s4.trans s57, p0, ?_⟩
        rw [show 1 + (i + 1) = 1 + i + 1 from rfl, eb]
        exact s57 _ _ hp
    · rintro σ H' ⟨p, v3, v4, rfl, s4, p0, hp⟩
      exact ⟨_, rfl, q _ p s4 p0 hp⟩
abbrev s_best_weight : Stmt := top 21
theorem sc_best_weight : FnScope ["row", "row_across", "row_upwards", "best", "weight", "point", "left_across", "left_upwards", "left"] ["row"] (defScope s_best_weight) := ⟨rfl, rfl, rfl, by decide +kernel, rfl, by decide +kernel, by decide +kernel⟩
theorem ok_best_weight (D : Def K mg "best_weight" s_best_weight) (T : Txt K mg) (Ac : FnAt P w K mg base 2 "across" ["row"] (spRI Row Su68.waveA)) (Up : FnAt P w K mg base 2 "upwards" ["row"] (spRI Row Su68.waveB)) (Sq : FnAt P w K mg base 3 "wave_squared" ["row"] (spRI Row fun r => (Su68.size (Su68.waveA r) (Su68.waveB r) : Int))) (Ca : FnAt P w K mg base 1 "circle_across" ["point"] (spII (fun k => 0 ≤ k ∧ k < 12) fun k => Su68.across k.toNat)) (Cu : FnAt P w K mg base 1 "circle_upwards" ["point"] (spII (fun k => 0 ≤ k ∧ k < 12) fun k => Su68.upwards k.toNat)) : FnAt P w K mg base 4 "best_weight" ["row"] (spBW) := by
  obtain ⟨f, fd, hm, F⟩ := D
  refine ⟨f, fd, hm, F.kp, F.binds (ps := ["row"]) (fun _ _ _ _ _ _ us hl => match us, hl with | [_], _ => rfl), F.ok sc_best_weight (fun vs H Q E h => ?_) (fun cdv A outer s H vs Q E hr h => ?_)⟩
  · obtain ⟨a, r, rfl, _⟩ := h; rfl
  · obtain ⟨a, r, rfl, ha, hR, q⟩ := h
    refine ⟨_, (pss_cons (ps_set (i := 1) sc_best_weight.nd rfl (by first | exact Or.inl rfl | exact Or.inr rfl) (pf Ac (hr.mono (by decide)) (pa_cons (pv 0) pa_nil))) (pss_cons (ps_set (i := 2) sc_best_weight.nd rfl (by first | exact Or.inl rfl | exact Or.inr rfl) (pf Up (hr.mono (by decide)) (pa_cons (pv 0) pa_nil))) (pss_cons (ps_set (i := 3) sc_best_weight.nd rfl (by first | exact Or.inl rfl | exact Or.inr rfl) (pe_tup (pa_cons pe_int (pa_cons pe_int (pa_cons (pf Sq (hr.mono (by decide)) (pa_cons (pv 0) pa_nil)) pa_nil))))) (pss_cons (ps_for PassesOwn.never rfl (pi_range3 rfl T.range (pa_cons (pg T.WEIGHT_STEP) (pa_cons (pe_op op_add (pg T.HEAVIEST) pe_int) (pa_cons (pg T.WEIGHT_STEP) pa_nil)))) (pg_name (i := 4) sc_best_weight.nd rfl (Or.inl rfl)) (pss_one (ps_for PassesOwn.never rfl (pi_range1 rfl T.range (pa_cons (pg T.POINTS) pa_nil)) (pg_name (i := 5) sc_best_weight.nd rfl (Or.inl rfl)) (pss_cons (ps_set (i := 6) sc_best_weight.nd rfl (by first | exact Or.inl rfl | exact Or.inr rfl) (pe_op op_add (pv 1) (pe_op op_mul (pv 4) (pf Ca (hr.mono (by decide)) (pa_cons (pv 5) pa_nil))))) (pss_cons (ps_set (i := 7) sc_best_weight.nd rfl (by first | exact Or.inl rfl | exact Or.inr rfl) (pe_op op_add (pv 2) (pe_op op_mul (pv 4) (pf Cu (hr.mono (by decide)) (pa_cons (pv 5) pa_nil))))) (pss_cons (ps_set (i := 8) sc_best_weight.nd rfl (by first | exact Or.inl rfl | exact Or.inr rfl) (pe_op op_add (pe_op op_pow (pv 6) pe_int) (pe_op op_pow (pv 7) pe_int))) (pss_one (ps_if (pt_cmpR op_lt (pv 8) (pe_ix ix_tup (pv 3) pe_int (fun _ _ => rfl)) (nomark _)) (pss_one (ps_set (i := 3) sc_best_weight.nd rfl (by first | exact Or.inl rfl | exact Or.inr rfl) (pe_tup (pa_cons (pv 4) (pa_cons (pv 5) (pa_cons (pv 8) pa_nil)))))) pss_nil)))))))) (pss_one (ps_ret (pv 3))))))), ?_⟩
    have b1 := hR.waveA
    have b2 := hR.waveB
    refine ⟨_, rfl, a, r, rfl, ha, hR, fun H1 s1 => ⟨_, rfl, a, r, rfl, s1 _ _ ha, hR, fun H2 s2 => ⟨_, rfl, a, r, rfl, s2 _ _ (s1 _ _ ha), hR, fun H3 s3 => ⟨line (by simp), fun p hp => ?_⟩⟩⟩⟩
    have s4 := s1.trans (s2.trans s3)
    refine ⟨_, _, rfl, rfl, 5, 61, 5, 12, rfl, ⟨by decide, by decide, by decide +kernel, by decide +kernel⟩, for_rangeC (lo := 5) (c := 5) (n := 12) (fun i σ H' => ∃ p v4 v5 v6 v7 v8, σ = [some (.ref a), some (.int (Su68.waveA r)), some (.int (Su68.waveB r)), some (.ref p), v4, v5, v6, v7, v8] ∧ Same H H' ∧ H p = Option.none ∧
        H' p = some (.tup [.int ((wTo r i).1 : Int), .int ((wTo r i).2 : Int), .int (Su68.left r (wTo r i).1 (wTo r i).2 : Int)]))
      ⟨p, none, none, none, none, none, rfl, s4.trans (Same.new hp), s4.free hp, ?_⟩ ?_ ?_⟩
    · rw [upd_same, wTo_zero, left_zero]
      rfl
    · rintro i σ H' hi ⟨p, v4, v5, v6, v7, v8, rfl, s5, p0, hp⟩
      have ew : (5 : Int) + (i : Int) * 5 = ((5 * (i + 1) : Nat) : Int) := by omega
      refine ⟨12, rfl, by decide, by decide, for_range (lo := 0) (n := 12) (fun j σ H' => ∃ p v5 v6 v7 v8, σ = [some (.ref a), some (.int (Su68.waveA r)), some (.int (Su68.waveB r)), some (.ref p), some (.int ((5 * (i + 1) : Nat) : Int)), v5, v6, v7, v8] ∧ Same H H' ∧ H p = Option.none ∧
          H' p = some (.tup [.int ((wIn r i (wTo r i) j).1 : Int), .int ((wIn r i (wTo r i) j).2 : Int), .int (Su68.left r (wIn r i (wTo r i) j).1 (wIn r i (wTo r i) j).2 : Int)]))
        ⟨p, v5, v6, v7, v8, ?_, s5, p0, hp⟩ ?_ ?_⟩
      · rw [← ew]
        rfl
      · rintro j σ H'' hj ⟨p, v5, v6, v7, v8, rfl, s6, p0, hp⟩
        have c1 := across_bound j
        have c2 := upwards_bound j
        have ej : (0 + (j : Int)).toNat = j := by omega
        have es := wIn_succ r i (wTo r i) j
        generalize hb : wIn r i (wTo r i) j = b at *
        generalize hg : 5 * (i + 1) = g at *
        have hg60 : g ≤ 60 := by omega
        have m1 : -60000 ≤ (g : Int) * Su68.across j ∧ (g : Int) * Su68.across j ≤ 60000 := by
          refine ⟨?_, ?_⟩
          · have := Int.mul_le_mul_of_nonneg_left c1.1 (show 0 ≤ (g : Int) by omega); omega
          · have := Int.mul_le_mul_of_nonneg_left c1.2 (show 0 ≤ (g : Int) by omega); omega
        have m2 : -60000 ≤ (g : Int) * Su68.upwards j ∧ (g : Int) * Su68.upwards j ≤ 60000 := by
          refine ⟨?_, ?_⟩
          · have := Int.mul_le_mul_of_nonneg_left c2.1 (show 0 ≤ (g : Int) by omega); omega
          · have := Int.mul_le_mul_of_nonneg_left c2.2 (show 0 ≤ (g : Int) by omega); omega
        refine ⟨_, rfl, _, rfl, _, rfl, 0 + (j : Int), rfl, ⟨by omega, by omega⟩, fun H7 s7 => ⟨_, _, rfl, rfl, .inl ⟨by omega, by omega⟩, _, _, rfl, rfl, ?_⟩⟩
        refine ⟨_, rfl, _, rfl, _, rfl, 0 + (j : Int), rfl, ⟨by omega, by omega⟩, fun H8 s8 => ⟨_, _, rfl, rfl, .inl ⟨by omega, by omega⟩, _, _, rfl, rfl, ?_⟩⟩
        dsimp only
        rw [ej]
        refine ⟨_, rfl, _, _, rfl, rfl, ⟨by decide, by decide, by omega⟩, _, rfl, _, _, rfl, rfl, ⟨by decide, by decide, by omega⟩, _, _, rfl, rfl, ?_⟩
        dsimp only
        rw [sq_pow, sq_pow, ← left_int]
        have s78 := s7.trans s8
        refine ⟨_, rfl, _, rfl, p, _, _, _, rfl, rfl, SqT.of (s78 _ _ hp), atT3, _, _, rfl, rfl, _, rfl, ?_⟩
        refine ite2 (fun h => ?_) (fun h => ?_)
        · have hlt : Su68.left r g j < Su68.left r b.1 b.2 := by have := of_decide_eq_true h; omega
          rw [wstep, if_pos hlt] at es
          refine ⟨_, rfl, _, rfl, _, rfl, line (by simp), fun p2 hp2 => ⟨p2, _, _, _, _, rfl, (s6.trans s78).trans (Same.new hp2), (s6.trans s78).free hp2, ?_⟩⟩
          rw [upd_same, es]
          dsimp only
          rw [Int.zero_add]
        · have hge : ¬ Su68.left r g j < Su68.left r b.1 b.2 := by
            intro hlt
            apply h
            apply decide_eq_true
            omega
          rw [wstep, if_neg hge] at es
          refine ⟨p, _, _, _, _, rfl, s6.trans s78, p0, ?_⟩
          rw [es]
          exact s78 _ _ hp
      · rintro σ H'' ⟨p, v5, v6, v7, v8, rfl, s6, p0, hp⟩
        rw [← wTo_succ] at hp
        exact ⟨p, _, _, _, _, _, rfl, s6, p0, hp⟩
    · rintro σ H' ⟨p, v4, v5, v6, v7, v8, rfl, s5, p0, hp⟩
      rw [wTo_all] at hp
      exact ⟨_, rfl, q _ p s5 p0 hp⟩
end
end Ty

end
section
set_option Elab.async false
set_option linter.all false
set_option maxRecDepth 100000
set_option maxHeartbeats 2000000
namespace Ty
open PySem PySem.Spec PyProof.Rows L2
section
variable {P : Program} {w : World} {K : PySem.W.Frag} {mg : Str → Option Value} {base : Heap}
/-! ### a list of lists of ints -/
structure LLx (H : Hp) (a : Addr) (as : List Addr) (ws : List (List Int)) : Prop where
  lst : H a = some (.lst (as.map V.ref))
  len : as.length = ws.length
  at_ : ∀ (j : Nat) (b : Addr), as[j]? = some b → b ≠ a ∧ ∃ way, ws[j]? = some way ∧ At H b way
def LL (H : Hp) (a : Addr) (ws : List (List Int)) : Prop := ∃ as, LLx H a as ws
theorem LLx.same {H H' : Hp} {a : Addr} {as : List Addr} {ws : List (List Int)} (h : LLx H a as ws) (s : Same H H') : LLx H' a as ws :=
  ⟨s _ _ h.lst, h.len, fun j b e => by
    obtain ⟨n, way, e1, e2⟩ := h.at_ j b e
    exact ⟨n, way, e1, s _ _ e2⟩⟩
theorem LL.same {H H' : Hp} {a : Addr} {ws : List (List Int)} (h : LL H a ws) (s : Same H H') : LL H' a ws := by
  obtain ⟨as, h⟩ := h
  exact ⟨as, h.same s⟩
theorem LLx.get {H : Hp} {a : Addr} {as : List Addr} {ws : List (List Int)} (h : LLx H a as ws) {j : Nat} {way : List Int} (e : ws[j]? = some way) : ∃ b, as[j]? = some b ∧ (as.map V.ref)[j]? = some (V.ref b) ∧ At H b way := by
  have hj : j < as.length := by rw [h.len]; exact (List.getElem?_eq_some_iff.mp e).1
  refine ⟨as[j], List.getElem?_eq_getElem hj, by rw [List.getElem?_map, List.getElem?_eq_getElem hj]; rfl, ?_⟩
  obtain ⟨_, way', e1, e2⟩ := h.at_ j _ (List.getElem?_eq_getElem hj)
  rw [e] at e1
  cases e1
  exact e2
theorem LLx.push {H H1 : Hp} {l z : Addr} {as : List Addr} {ws : List (List Int)} {way : List Int} (h : LLx H l as ws) (s : Same H H1) (hz : At H1 z way) (hzl : z ≠ l) : LLx (upd H1 l (.lst (as.map V.ref ++ [V.ref z]))) l (as ++ [z]) (ws ++ [way]) := by
  refine ⟨by rw [upd_same, List.map_append]; rfl, by rw [List.length_append, List.length_append, h.len]; rfl, fun j b e => ?_⟩
  by_cases hj : j < as.length
  · rw [List.getElem?_append_left hj] at e
    obtain ⟨n, w2, e1, e2⟩ := h.at_ j b e
    refine ⟨n, w2, ?_, ?_⟩
    · rw [List.getElem?_append_left (by rw [← h.len]; exact hj)]; exact e1
    · show upd H1 l _ b = _
      rw [upd_ne n]; exact s _ _ e2
  · rw [List.getElem?_append_right (by omega)] at e
    have ej : j = as.length := by
      have := (List.getElem?_eq_some_iff.mp e).1
      simp at this
      omega
    subst ej
    simp at e
    subst e
    refine ⟨hzl, way, ?_, ?_⟩
    · rw [h.len]; simp
    · show upd H1 l _ z = _
      rw [upd_ne hzl]; exact hz
theorem LLx.nil {H : Hp} {l : Addr} : LLx (upd H l (.lst [])) l [] [] := ⟨upd_same, rfl, fun j b e => by simp at e⟩
/-! ### enumerate -/
abbrev gTwo (K : PySem.W.Frag) (j1 j2 : Nat) : TG := gTup K 2 (gCons (gName j1) (gCons (gName j2) gNil))
theorem two_in {K : PySem.W.Frag} {j1 j2 : Nat} {H : Hp} {σ : L2.St} {T : Addr} {x y : V} {Q : L2.St → Hp → Prop} (h : Q ((σ.set j1 (some x)).set j2 (some y)) (upd H T (.tup [x, y]))) : gTwo K j1 j2 (.ref T) σ (upd H T (.tup [x, y])) Q :=
  ⟨T, [x, y], rfl, SqT.of upd_same, rfl, x, [y], rfl, y, [], rfl, rfl, h⟩
theorem lc_mapE {K : PySem.W.Frag} {b : Addr} {xs : List V} {j1 j2 : Nat} {te : TE} {vs : List Nat} {σ : L2.St} {H1 : Hp} {D : Addr} {Qd : Hp → Prop} (hb : SqL K H1 b xs) (hD : H1 D = Option.none) (f : Nat → V → V) (hn : xs.length ≤ 30000)
    (hw : ∀ x y, wipe (((wipe σ vs).set j1 (some x)).set j2 (some y)) vs = wipe σ vs)
    (body : ∀ (i : Nat) (x : V) (H' : Hp) (Q' : VK), xs[i]? = some x → Same H1 H' → (∀ H4, Same H' H4 → Q' (f i x) H4) → te (((wipe σ vs).set j1 (some (.int (i : Nat)))).set j2 (some x)) H' Q')
    (hd : ∀ H', Same H1 H' → H' D = some (.lst ((List.range xs.length).map fun i => f i (xs.getD i .non))) → Qd H') :
    ∃ W : Nat → Nat → Hp → Prop, (∃ m, W 0 m (upd H1 D (.lst []))) ∧ ∀ i m H, W i m H →
      ((Ite K b).stop i H ∧ Qd H) ∨ ((Ite K b).go i H ∧ ∃ Nx : Hp → Prop, (∀ H', Nx H' → ∃ m', m' < m ∧ W (i + 1) m' H') ∧ ∀ x H', (Ite K b).yld i H x H' → (gTwo K j1 j2) x (wipe σ vs) H' fun σ2 H2 => wipe σ2 vs = wipe σ vs ∧ tYes σ2 H2 fun b H3 =>
        if b = true then te σ2 H3 fun y H4 => ∃ acc, H4 D = some (.lst acc) ∧ acc.length < sizeLine ∧ Nx (upd H4 D (.lst (acc ++ [y]))) else Nx H3) := by
  refine ⟨fun i m H => m = xs.length - i ∧ i ≤ xs.length ∧ Same H1 H ∧ H D = some (.lst ((List.range i).map fun i => f i (xs.getD i .non))), ⟨_, rfl, Nat.zero_le _, Same.new hD, upd_same⟩, ?_⟩
  rintro i m H ⟨rfl, hi, hs, hDD⟩
  have q := hs.seq hb
  by_cases hlt : i < xs.length
  · refine .inr ⟨⟨xs, xs[i], q, by simp [hlt]⟩, fun H' => i + 1 ≤ xs.length ∧ Same H1 H' ∧ H' D = some (.lst ((List.range (i + 1)).map fun i => f i (xs.getD i .non))), fun H' p' => ⟨xs.length - (i + 1), by omega, rfl, p'⟩, fun x H' y => ?_⟩
    obtain ⟨T, x', rfl, hT, rfl, y⟩ := y
    have hx := y xs q
    have sT : Same H (upd H T (.tup [.int (i : Nat), x'])) := Same.new hT
    refine two_in ⟨hw _ _, tyes (body i x' _ _ hx (hs.trans sT) fun H4 h4 => ⟨_, h4 _ _ (sT _ _ hDD), lineLt (by simp; omega), hlt, ?_, ?_⟩)⟩
    · exact fun b o e => by
        rw [upd_ne (ne_of_none e hD)]
        exact h4 _ _ (sT _ _ (hs _ _ e))
    · rw [upd_same, List.range_succ, List.map_append]
      show some (HO.lst (_ ++ [f i x'])) = some (HO.lst (_ ++ [f i (xs.getD i .non)]))
      rw [List.getD_eq_getElem?_getD, hx]
      rfl
  · have e : i = xs.length := by omega
    subst e
    exact .inl ⟨⟨xs, q, Nat.le_refl _⟩, hd H hs hDD⟩
/-- a for over enumerate(list) that the body leaves as it is -/
theorem for_enum {K : PySem.W.Frag} {a : Addr} {xs : List V} {j1 j2 : Nat} {tb : TS} {D : Ends} {σ : L2.St} {H : Hp} (Pv : Nat → L2.St → Hp → Prop) (h0 : Pv 0 σ H) (hl : ∀ i σ H, i ≤ xs.length → Pv i σ H → SqL K H a xs)
    (hs : ∀ i x σ H T, xs[i]? = some x → H T = Option.none → Pv i σ H → tb { D with nx := Pv (i + 1), ct := Pv (i + 1), bk := D.nx } ((σ.set j1 (some (.int (i : Nat)))).set j2 (some x)) (upd H T (.tup [.int (i : Nat), x]))) (hd : ∀ σ H, Pv xs.length σ H → D.nx σ H) :
    ∃ W : Nat → Nat → L2.St → Hp → Prop, (∃ m, W 0 m σ H) ∧ ∀ i m σ H, W i m σ H →
      ((Ite K a).stop i H ∧ D.nx σ H) ∨ ((Ite K a).go i H ∧ ∃ N : L2.St → Hp → Prop, (∀ σ' H', N σ' H' → ∃ m', m' < m ∧ W (i + 1) m' σ' H') ∧ ∀ x H', (Ite K a).yld i H x H' → (gTwo K j1 j2) x σ H' fun σ2 H2 => tb { D with nx := N, ct := N, bk := D.nx } σ2 H2) := by
  refine ⟨fun i m σ H => m = xs.length - i ∧ i ≤ xs.length ∧ Pv i σ H, ⟨xs.length, by simp, Nat.zero_le _, h0⟩, ?_⟩
  rintro i m σ H ⟨rfl, hi, p⟩
  have q := hl i σ H hi p
  by_cases hlt : i < xs.length
  · refine .inr ⟨⟨xs, xs[i], q, by simp [hlt]⟩, Pv (i + 1), fun σ' H' p' => ⟨xs.length - (i + 1), by omega, rfl, hlt, p'⟩, fun x H' y => ?_⟩
    obtain ⟨T, x', rfl, hT, rfl, y⟩ := y
    exact two_in (hs i x' σ H T (y xs q) hT p)
  · have e : i = xs.length := by omega
    subst e
    exact .inl ⟨⟨xs, q, Nat.le_refl _⟩, hd σ H p⟩
/-! ### ways -/
def more1 (n : Nat) (way : List Int) : List (List Int) := ((List.range n).filter fun p : Nat => decide ((p : Int) ∉ way)).map fun p : Nat => way ++ [(p : Int)]
def longerI (ws : List (List Int)) (n : Nat) : List (List Int) := ws.flatMap (more1 n)
def waysI (size : Nat) : Nat → List (List Int)
  | 0 => [[]]
  | n + 1 => longerI (waysI size n) size
theorem waysI_b : ((List.range 5).all fun size => (List.range 5).all fun n => !decide (n ≤ size) || (decide ((waysI size n).length ≤ 24) && ((waysI size n).all fun w => decide (w.length = n) && w.all fun p => decide (0 ≤ p) && decide (p < (size : Int))) && decide (0 < (waysI size n).length))) = true := by decide +kernel
theorem waysI_ok (size : Nat) (h : size < 5) (n : Nat) (h' : n < 5) (hn : n ≤ size) : (waysI size n).length ≤ 24 ∧ (∀ w ∈ waysI size n, w.length = n ∧ ∀ p ∈ w, 0 ≤ p ∧ p < (size : Int)) ∧ 0 < (waysI size n).length := by
  have h1 := List.all_eq_true.mp (List.all_eq_true.mp waysI_b size (List.mem_range.mpr h)) n (List.mem_range.mpr h')
  rw [decide_eq_true hn] at h1
  simp only [Bool.not_true, Bool.false_or, Bool.and_eq_true, decide_eq_true_eq, List.all_eq_true] at h1
  exact ⟨h1.1.1, h1.1.2, h1.2⟩
theorem waysI_is : ∀ n, n < 5 → waysI n n = (waysTo n n).map fun w => w.map fun p : Nat => (p : Int) := by decide +kernel
theorem more1_len (n : Nat) (way : List Int) : (more1 n way).length ≤ n := by
  unfold more1
  rw [List.length_map]
  exact Nat.le_trans (List.length_filter_le _ _) (by simp)
theorem flat_len (n : Nat) : ∀ ws : List (List Int), (ws.flatMap (more1 n)).length ≤ ws.length * n
  | [] => by simp
  | w :: ws => by
    rw [List.flatMap_cons, List.length_append, List.length_cons, Nat.succ_mul]
    have := flat_len n ws
    have := more1_len n w
    omega
theorem inV_is {p : Int} (way : List Int) : inV (.int p) (vi way) = decide (p ∈ way) := by
  unfold inV vi
  rw [List.any_map]
  induction way with
  | nil => simp
  | cons x r ih =>
    rw [List.any_cons, ih]
    have e : ((fun y => eqV y (V.int p)) ∘ V.int) x = decide (p = x) := by
      show (x == p) = decide (p = x)
      by_cases h : p = x
      · subst h; simp
      · rw [decide_eq_false h]; simp; exact fun e => h e.symm
    rw [e]
    by_cases h1 : p = x <;> by_cases h2 : p ∈ r <;> simp [h1, h2]
theorem vi_flat (r : List Int) : (vi r).all flatV = true := by
  rw [List.all_eq_true]
  intro x hx
  obtain ⟨z, _, rfl⟩ := List.mem_map.mp hx
  rfl
def spLW : Sp := fun vs H Q _ => ∃ a ws k, vs = [.ref a, .int ((k : Nat) : Int)] ∧ LL H a ws ∧ (k ≤ 4 ∧ ws.length ≤ 24 ∧ ∀ w ∈ ws, w.length ≤ 4) ∧ ∀ H' p, Same H H' → H p = Option.none → LL H' p (longerI ws k) → Q (.ref p) H'
abbrev s_longer_ways : Stmt := top 22
theorem sc_longer_ways : FnScope ["ways", "size", "longer", "way", "place"] ["ways", "size"] (defScope s_longer_ways) := ⟨rfl, rfl, rfl, by decide +kernel, rfl, by decide +kernel, by decide +kernel⟩
theorem ok_longer_ways (D : Def K mg "longer_ways" s_longer_ways) (T : Txt K mg) : FnAt P w K mg base 1 "longer_ways" ["ways", "size"] (spLW) := by
  obtain ⟨f, fd, hm, F⟩ := D
  refine ⟨f, fd, hm, F.kp, F.binds (ps := ["ways", "size"]) (fun _ _ _ _ _ _ us hl => match us, hl with | [_, _], _ => rfl), F.ok sc_longer_ways (fun vs H Q E h => ?_) (fun cdv A outer s H vs Q E hr h => ?_)⟩
  · obtain ⟨a, ws, k, rfl, _⟩ := h; rfl
  · obtain ⟨a, ws, k, rfl, ⟨as, hL⟩, ⟨hk, hw24, hw4⟩, q⟩ := h
    refine ⟨_, (pss_cons (ps_set (i := 2) sc_longer_ways.nd rfl (by first | exact Or.inl rfl | exact Or.inr rfl) (pe_lst pa_nil)) (pss_cons (ps_for PassesOwn.never rfl (pi_list (pv 0)) (pg_name (i := 3) sc_longer_ways.nd rfl (Or.inl rfl)) (pss_one (ps_for PassesOwn.never rfl (pi_range1 rfl T.range (pa_cons (pv 1) pa_nil)) (pg_name (i := 4) sc_longer_ways.nd rfl (Or.inl rfl)) (pss_one (ps_if (pt_cmpR op_notIn_seq (pv 4) (pv 3) (by rfl)) (pss_one (ps_expr (pe_bm PySem.F.plainAttrs_list PySem.F.slot_list_append PySem.F.type_list_append mt_append (pv 2) (pa_cons (pe_op op_cat (pv 3) (pe_lst (pa_cons (pv 4) pa_nil))) pa_nil)))) pss_nil))))) (pss_one (ps_ret (pv 2))))), ?_⟩
    refine ⟨line (by simp), fun l hl => ?_⟩
    refine ⟨_, rfl, a, rfl, ⟨_, SqL.of (Same.new hl _ _ hL.lst)⟩, for_list (K := K) (a := a) (xs := as.map V.ref) (fun i σ H' => ∃ v3 v4, σ = [some (.ref a), some (.int k), some (.ref l), v3, v4] ∧ Same H H' ∧ LL H' l ((ws.take i).flatMap (more1 k)))
      ⟨none, none, rfl, Same.new hl, [], LLx.nil⟩ (fun i σ H' _ ⟨_, _, _, s5, _⟩ => SqL.of (s5 _ _ hL.lst)) ?_ ?_⟩
    · rintro i y σ H' hi ⟨v3, v4, rfl, s5, hl5⟩
      have hia : i < as.length := by have := (List.getElem?_eq_some_iff.mp hi).1; simpa using this
      have hws : ws[i]? = some (ws[i]'(by rw [← hL.len]; exact hia)) := List.getElem?_eq_getElem _
      generalize ws[i]'(by rw [← hL.len]; exact hia) = way at hws
      obtain ⟨b, hb1, hb2, hb3⟩ := hL.get hws
      rw [hb2] at hi
      obtain rfl := Option.some.inj hi
      have hway : way.length ≤ 4 := hw4 _ (List.mem_of_getElem? hws)
      refine ⟨_, rfl, (k : Int), rfl, by omega, by omega, ?_⟩
      rw [show ((k : Int)).toNat = k from rfl]
      refine for_range (lo := 0) (n := k) (fun j σ H' => ∃ v4, σ = [some (.ref a), some (.int k), some (.ref l), some (.ref b), v4] ∧ Same H H' ∧ LL H' l ((ws.take i).flatMap (more1 k) ++ ((List.range j).filter fun p : Nat => decide ((p : Int) ∉ way)).map fun p : Nat => way ++ [(p : Int)]))
        ⟨v4, rfl, s5, by simpa using hl5⟩ ?_ ?_
      · rintro j σ H6 hj ⟨v4, rfl, s6, as6, hl6⟩
        have hb6 := s6 _ _ hb3
        refine ⟨_, rfl, _, rfl, b, vi way, rfl, .inl (SqL.of hb6), rfl, vi_flat _, _, rfl, ?_⟩
        rw [inV_is, Int.zero_add]
        have eR : ((List.range (j + 1)).filter fun p : Nat => decide ((p : Int) ∉ way)) = ((List.range j).filter fun p : Nat => decide ((p : Int) ∉ way)) ++ (if (j : Int) ∈ way then [] else [j]) := by
          rw [List.range_succ, List.filter_append]
          congr 1
          by_cases h : (j : Int) ∈ way <;> simp [h]
        by_cases h : (j : Int) ∈ way
        · rw [decide_eq_true h]
          refine iteF ⟨_, rfl, s6, as6, ?_⟩
          rw [eR, if_pos h, List.append_nil]
          exact hl6
        · rw [decide_eq_false h]
          refine iteT ?_
          have hal : as6.length ≤ 200 := by
            rw [hl6.len, List.length_append, List.length_map]
            have h1 := flat_len k (ws.take i)
            have h2 : ((List.range j).filter fun p : Nat => decide ((p : Int) ∉ way)).length ≤ j := Nat.le_trans (List.length_filter_le _ _) (by simp)
            have h3 : (ws.take i).length ≤ 24 := by rw [List.length_take]; omega
            have h4 : (ws.take i).length * k ≤ 24 * 4 := Nat.mul_le_mul h3 hk
            omega
          refine ⟨_, rfl, .inl ⟨rfl, _, SqL.of hl6.lst⟩, _, rfl, _, rfl, line (by simp), fun p1 hp1 => ⟨b, p1, vi way, [V.int (j : Int)], rfl, rfl, Same.new hp1 _ _ hb6, upd_same, line (by simp; omega), fun z hz => ?_⟩⟩
          have s7 : Same H6 (upd (upd H6 p1 (.lst [V.int (j : Int)])) z (.lst (vi way ++ [V.int (j : Int)]))) := (Same.new hp1).trans (Same.new hz)
          have hzl : z ≠ l := fun e => by
            have := Same.new hp1 (o := .lst [V.int (j : Int)]) _ _ hl6.lst
            rw [← e, hz] at this
            cases this
          refine ⟨l, as6.map V.ref, _, rfl, rfl, s7 _ _ hl6.lst, lineLt (by simp; omega), _, rfl, ?_, as6 ++ [z], ?_⟩
          · exact fun b' o' e => by
              rw [upd_ne (ne_of_none e hl)]
              exact s7 _ _ (s6 _ _ e)
          · rw [eR, if_neg h, List.map_append, ← List.append_assoc]
            refine hl6.push s7 ?_ hzl
            show upd _ z _ z = _
            rw [upd_same]
            show _ = some (HO.lst ((way ++ [(j : Int)]).map V.int))
            rw [List.map_append]
            rfl
      · rintro σ H6 ⟨v4, rfl, s6, hl6⟩
        refine ⟨_, _, rfl, s6, ?_⟩
        rw [List.take_add_one, hws]
        show LL H6 l ((ws.take i ++ [way]).flatMap (more1 k))
        rw [List.flatMap_append, List.flatMap_cons, List.flatMap_nil, List.append_nil]
        exact hl6
    · rintro σ H' ⟨v3, v4, rfl, s5, hl5⟩
      rw [List.length_map, hL.len, List.take_length] at hl5
      exact ⟨_, rfl, q _ l s5 hl hl5⟩
def spWM : Sp := fun vs H Q _ => ∃ k : Nat, vs = [.int (k : Int)] ∧ k ≤ 4 ∧ ∀ H' p, Same H H' → H p = Option.none → LL H' p (waysI k k) → Q (.ref p) H'
abbrev s_ways_to_match : Stmt := top 23
theorem sc_ways_to_match : FnScope ["size", "ways"] ["size"] (defScope s_ways_to_match) := ⟨rfl, rfl, rfl, by decide +kernel, rfl, by decide +kernel, by decide +kernel⟩
theorem ok_ways_to_match (D : Def K mg "ways_to_match" s_ways_to_match) (T : Txt K mg) (Lw : FnAt P w K mg base 1 "longer_ways" ["ways", "size"] spLW) : FnAt P w K mg base 2 "ways_to_match" ["size"] (spWM) := by
  obtain ⟨f, fd, hm, F⟩ := D
  refine ⟨f, fd, hm, F.kp, F.binds (ps := ["size"]) (fun _ _ _ _ _ _ us hl => match us, hl with | [_], _ => rfl), F.ok sc_ways_to_match (fun vs H Q E h => ?_) (fun cdv A outer s H vs Q E hr h => ?_)⟩
  · obtain ⟨k, rfl, _⟩ := h; rfl
  · obtain ⟨k, rfl, hk, q⟩ := h
    refine ⟨_, (pss_cons (ps_set (i := 1) sc_ways_to_match.nd rfl (by first | exact Or.inl rfl | exact Or.inr rfl) (pe_lst (pa_cons (pe_lst pa_nil) pa_nil))) (pss_cons (ps_while PassesOwn.never (pt_cmpR op_lt (pe_callB call_len_seq (by rfl) T.len PySem.boot_len (pa_cons (pe_ix ix_list (pv 1) pe_int (fun _ _ => rfl)) pa_nil)) (pv 0) (nomark _)) (pss_one (ps_set (i := 1) sc_ways_to_match.nd rfl (by first | exact Or.inl rfl | exact Or.inr rfl) (pf Lw (hr.mono (by decide)) (pa_cons (pv 1) (pa_cons (pv 0) pa_nil)))))) (pss_one (ps_ret (pv 1))))), ?_⟩
    refine ⟨line (by simp), fun e he => ⟨line (by simp), fun l hl => ?_⟩⟩
    have s1 : Same H (upd (upd H e (.lst [])) l (.lst [V.ref e])) := (Same.new he).trans (Same.new hl)
    refine ⟨fun m σ H' => ∃ (n : Nat) (l : Addr), m = k - n ∧ n ≤ k ∧ σ = [some (.int (k : Int)), some (.ref l)] ∧ Same H H' ∧ H l = Option.none ∧ LL H' l (waysI k n), ⟨_, 0, l, rfl, Nat.zero_le _, rfl, s1, (Same.new he).free hl, [e], ?_⟩, ?_⟩
    · refine ⟨upd_same, rfl, fun j b hj => ?_⟩
      match j, hj with
      | 0, hj =>
        have e' : e = b := Option.some.inj hj
        subst e'
        have ne : e ≠ l := fun z => by rw [← z, upd_same] at hl; cases hl
        exact ⟨ne, [], rfl, by show upd _ l _ e = _; rw [upd_ne ne, upd_same]; rfl⟩
      | j + 1, hj => simp at hj
    · rintro m σ H' ⟨n, l, rfl, hn, rfl, s5, hl0, as, hl5⟩
      obtain ⟨w1, w2, w3⟩ := waysI_ok k (by omega) n (by omega) hn
      obtain ⟨b, hb1, hb2, hb3⟩ := hl5.get (j := 0) (List.getElem?_eq_getElem w3)
      have hlen := (w2 _ (List.getElem_mem w3)).1
      refine ⟨_, rfl, l, _, _, _, rfl, rfl, SqL.of hl5.lst, atI_nat (j := 0) hb2, b, _, rfl, .inl (SqL.of hb3), _, rfl, _, _, rfl, rfl, _, rfl, ?_⟩
      rw [vi_len, hlen]
      refine ite2 (fun h => ?_) (fun h => ?_)
      · have hlt : n < k := by have := of_decide_eq_true h; omega
        refine ⟨fun σ' H6 => ∃ l', σ' = [some (.int (k : Int)), some (.ref l')] ∧ Same H H6 ∧ H l' = Option.none ∧ LL H6 l' (waysI k (n + 1)), fun σ' H6 ⟨l', e1, e2, e3, e4⟩ => ⟨k - (n + 1), by omega, n + 1, l', rfl, hlt, e1, e2, e3, e4⟩, ?_⟩
        exact ⟨_, rfl, _, rfl, l, _, k, rfl, ⟨as, hl5⟩, ⟨hk, w1, fun w hw => by rw [(w2 w hw).1]; omega⟩, fun H6 p s6 hp hL => ⟨p, rfl, s5.trans s6, s5.free hp, hL⟩⟩
      · have e : n = k := by
          have : ¬ ((n : Int) < (k : Int)) := fun z => h (decide_eq_true z)
          omega
        subst e
        exact ⟨_, rfl, q _ l s5 hl0 ⟨as, hl5⟩⟩
end
end Ty

end
section
set_option Elab.async false
set_option linter.all false
set_option maxRecDepth 100000
set_option maxHeartbeats 2000000
namespace Ty
open PySem PySem.Spec PyProof.Rows L2
section
variable {P : Program} {w : World} {K : PySem.W.Frag} {mg : Str → Option Value} {base : Heap}
/-! ### the most uneven one of a way -/
def pick (m : List (List Int)) (way : List Int) : List Int := (List.range way.length).map fun i => (m.getD i []).getD (way.getD i 0).toNat 0
def mu (m : List (List Int)) (way : List Int) : Int := Su68.most (pick m way)
/-- a square of n by n, and a way through it -/
def Sq (n : Nat) (m : List (List Int)) : Prop := m.length = n ∧ ∀ r ∈ m, r.length = n
def Thru (n : Nat) (way : List Int) : Prop := way.length = n ∧ ∀ p ∈ way, 0 ≤ p ∧ p < (n : Int)
theorem pick_at {n : Nat} {m : List (List Int)} {way : List Int} (hm : Sq n m) (hw : Thru n way) {i : Nat} {p : Int} (h : way[i]? = some p) : ∃ row, m[i]? = some row ∧ row[p.toNat]? = some ((m.getD i []).getD (way.getD i 0).toNat 0) := by
  have hi : i < way.length := (List.getElem?_eq_some_iff.mp h).1
  have him : i < m.length := by rw [hm.1, ← hw.1]; exact hi
  refine ⟨m[i], List.getElem?_eq_getElem him, ?_⟩
  have hp := hw.2 p (List.mem_of_getElem? h)
  have hr := hm.2 _ (List.getElem_mem him)
  rw [List.getD_eq_getElem?_getD (l := way), h, List.getD_eq_getElem?_getD (l := m), List.getElem?_eq_getElem him]
  show m[i][p.toNat]? = some (m[i].getD p.toNat 0)
  rw [List.getD_eq_getElem?_getD, List.getElem?_eq_getElem (by omega)]
  rfl
def spMU : Sp := fun vs H Q _ => ∃ a b m way n, vs = [.ref a, .ref b] ∧ LL H a m ∧ At H b way ∧ (Sq n m ∧ Thru n way ∧ 0 < n ∧ n ≤ 4) ∧ ∀ H', Same H H' → Q (.int (mu m way)) H'
abbrev s_most_uneven : Stmt := top 24
theorem sc_most_uneven : FnScope ["evened", "way", "i", "place"] ["evened", "way"] (defScope s_most_uneven) := ⟨rfl, rfl, rfl, by decide +kernel, rfl, by decide +kernel, by decide +kernel⟩
theorem ok_most_uneven (D : Def K mg "most_uneven" s_most_uneven) (T : Txt K mg) : FnAt P w K mg base 1 "most_uneven" ["evened", "way"] (spMU) := by
  obtain ⟨f, fd, hmg, F⟩ := D
  refine ⟨f, fd, hmg, F.kp, F.binds (ps := ["evened", "way"]) (fun _ _ _ _ _ _ us hl => match us, hl with | [_, _], _ => rfl), F.ok sc_most_uneven (fun vs H Q E h => ?_) (fun cdv A outer s H vs Q E hr h => ?_)⟩
  · obtain ⟨a, b, m, way, n, rfl, _⟩ := h; rfl
  · obtain ⟨a, b, m, way, n, rfl, ⟨as, hL⟩, hb, ⟨hm, hw, h0, h4⟩, q⟩ := h
    refine ⟨_, (pss_one (ps_ret (pe_callB (cr_max rfl) (by rfl) T.max boot_max (pa_cons (pe_lc (own := [("i", 2), ("place", 3)]) rfl sc_most_uneven.nd (pi_enum rfl T.enumerate (pa_cons (pv 1) pa_nil)) (blkOk_by (by show blkC ["evened", "way", "i", "place"] (defScope s_most_uneven) _ _ = true; decide +kernel)) (g := gTwo K 2 3) (fun _ _ _ _ _ => pg_tup rfl (pgs_cons (pg_name (i := 2) sc_most_uneven.nd rfl (Or.inl rfl)) (pgs_cons (pg_name (i := 3) sc_most_uneven.nd rfl (Or.inl rfl)) pgs_nil))) (fun _ _ _ _ _ => pts_nil)
      (fun _ _ _ _ _ => (pe_ix (r := rIxL K) ix_list (pe_ix (r := rIxL K) ix_list (pv 0) (pv 2) (fun _ _ => rfl)) (pv 3) (fun _ _ => rfl)))) pa_nil)))), ?_⟩
    refine ⟨_, rfl, b, _, rfl, SqL.of hb, fun Dd hD => lc_mapE (xs := vi way) (SqL.of hb) hD (fun i x => match x with | .int p => .int ((m.getD i []).getD p.toNat 0) | x => x) (by rw [vi_len, hw.1]; omega) (fun _ _ => rfl) (fun i x H' Q' hi hs k => ?_) (fun H' hs hd => ?_)⟩
    · rw [List.getElem?_map] at hi
      cases e : way[i]? with
      | none => rw [e] at hi; cases hi
      | some p =>
        rw [e] at hi
        obtain rfl : V.int p = x := Option.some.inj hi
        obtain ⟨row, e1, e2⟩ := pick_at hm hw e
        obtain ⟨c, hc1, hc2, hc3⟩ := hL.get e1
        have hp := hw.2 p (List.mem_of_getElem? e)
        obtain ⟨p, rfl⟩ := Int.eq_ofNat_of_zero_le hp.1
        refine ⟨_, rfl, _, rfl, a, _, _, _, rfl, rfl, SqL.of (hs _ _ hL.lst), atI_nat hc2, _, rfl, c, _, _, _, rfl, rfl, SqL.of (hs _ _ hc3), atI_nat (vi_get e2), ?_⟩
        have := k _ (Same.refl _)
        rw [List.getD_eq_getElem?_getD (l := way), e]
        exact this
    · refine ⟨Dd, pick m way, rfl, SqL.of (hd.trans ?_), by unfold pick; rw [List.length_map, List.length_range, hw.1]; exact h0, fun z z1 z2 => ?_⟩
      · rw [vi_len]
        unfold pick
        rw [List.map_map]
        refine congrArg (fun l => some (HO.lst l)) (List.map_congr_left fun i hi => ?_)
        have hi := List.mem_range.mp hi
        rw [List.getD_eq_getElem?_getD (l := vi way), vi_get (List.getElem?_eq_getElem hi)]
        show _ = V.int ((m.getD i []).getD (way.getD i 0).toNat 0)
        rw [List.getD_eq_getElem?_getD (l := way), List.getElem?_eq_getElem hi]
        rfl
      · rw [most_is z1 z2]
        exact q _ hs
/-- the best of the ways met so far -/
def bestWay (m : List (List Int)) (b : List Int) (ws : List (List Int)) : List Int := ws.foldl (fun b r => if mu m r < mu m b then r else b) b
theorem bestWay_snoc (m : List (List Int)) (b : List Int) (ws : List (List Int)) (r : List Int) : bestWay m b (ws ++ [r]) = if mu m r < mu m (bestWay m b ws) then r else bestWay m b ws := by
  unfold bestWay
  rw [List.foldl_append]
  rfl
def spWY : Sp := fun vs H Q _ => ∃ a m n, vs = [.ref a] ∧ LL H a m ∧ (Sq n m ∧ 0 < n ∧ n ≤ 4) ∧ ∀ H' p b, Same H H' → H' p = some (.tup [.int (mu m (bestWay m ((waysI n n).headD []) (waysI n n))), .ref b]) → At H' b (bestWay m ((waysI n n).headD []) (waysI n n)) → Q (.ref p) H'
abbrev s_best_way : Stmt := top 25
theorem sc_best_way : FnScope ["evened", "ways", "best", "way", "worst"] ["evened"] (defScope s_best_way) := ⟨rfl, rfl, rfl, by decide +kernel, rfl, by decide +kernel, by decide +kernel⟩
theorem ok_best_way (D : Def K mg "best_way" s_best_way) (T : Txt K mg) (Wm : FnAt P w K mg base 2 "ways_to_match" ["size"] spWM) (Mu : FnAt P w K mg base 1 "most_uneven" ["evened", "way"] spMU) : FnAt P w K mg base 3 "best_way" ["evened"] (spWY) := by
  obtain ⟨f, fd, hm, F⟩ := D
  refine ⟨f, fd, hm, F.kp, F.binds (ps := ["evened"]) (fun _ _ _ _ _ _ us hl => match us, hl with | [_], _ => rfl), F.ok sc_best_way (fun vs H Q E h => ?_) (fun cdv A outer s H vs Q E hr h => ?_)⟩
  · obtain ⟨a, m, n, rfl, _⟩ := h; rfl
  · obtain ⟨a, m, n, rfl, hL, ⟨hS, h0, h4⟩, q⟩ := h
    refine ⟨_, (pss_cons (ps_set (i := 1) sc_best_way.nd rfl (by first | exact Or.inl rfl | exact Or.inr rfl) (pf Wm (hr.mono (by decide)) (pa_cons (pe_callB call_len_seq (by rfl) T.len PySem.boot_len (pa_cons (pv 0) pa_nil)) pa_nil))) (pss_cons (ps_set (i := 2) sc_best_way.nd rfl (by first | exact Or.inl rfl | exact Or.inr rfl) (pe_tup (pa_cons (pf Mu (hr.mono (by decide)) (pa_cons (pv 0) (pa_cons (pe_ix ix_list (pv 1) pe_int (fun _ _ => rfl)) pa_nil))) (pa_cons (pe_ix ix_list (pv 1) pe_int (fun _ _ => rfl)) pa_nil)))) (pss_cons (ps_for PassesOwn.never rfl (pi_list (pv 1)) (pg_name (i := 3) sc_best_way.nd rfl (Or.inl rfl)) (pss_cons (ps_set (i := 4) sc_best_way.nd rfl (by first | exact Or.inl rfl | exact Or.inr rfl) (pf Mu (hr.mono (by decide)) (pa_cons (pv 0) (pa_cons (pv 3) pa_nil)))) (pss_one (ps_if (pt_cmpR op_lt (pv 4) (pe_ix ix_tup (pv 2) pe_int (fun _ _ => rfl)) (nomark _)) (pss_one (ps_set (i := 2) sc_best_way.nd rfl (by first | exact Or.inl rfl | exact Or.inr rfl) (pe_tup (pa_cons (pv 4) (pa_cons (pv 3) pa_nil))))) pss_nil)))) (pss_one (ps_ret (pv 2)))))), ?_⟩
    obtain ⟨as, hL⟩ := hL
    have hlen : as.length = n := by rw [hL.len, hS.1]
    refine ⟨_, rfl, a, _, rfl, .inl (SqL.of hL.lst), n, ?_, h4, fun H1 l s1 hl0 hl => ?_⟩
    · rw [List.length_map, hlen]
      rfl
    obtain ⟨w1, w2, w3⟩ := waysI_ok n (by omega) n (by omega) (Nat.le_refl _)
    generalize hW : waysI n n = W at *
    obtain ⟨bs, hl⟩ := hl
    obtain ⟨b0, hb1, hb2, hb3⟩ := hl.get (j := 0) (List.getElem?_eq_getElem w3)
    have eh : W.headD [] = W[0] := by
      cases W with
      | nil => simp at w3
      | cons x r => rfl
    have th : ∀ x ∈ W, Thru n x := fun x hx => w2 x hx
    refine ⟨_, rfl, _, rfl, l, _, _, _, rfl, rfl, SqL.of hl.lst, atI_nat (j := 0) hb2, a, b0, m, W[0], n, rfl, ⟨as, hL.same s1⟩, hb3, ⟨hS, th _ (List.getElem_mem w3), h0, h4⟩, fun H2 s2 => ⟨_, rfl, l, _, _, _, rfl, rfl, SqL.of (s2 _ _ hl.lst), atI_nat (j := 0) hb2, line (by simp), fun p hp => ?_⟩⟩
    have s3 := s1.trans s2
    have hl2 := hl.same s2
    rw [eh] at q
    refine ⟨_, rfl, l, rfl, ⟨_, SqL.of (Same.new hp _ _ hl2.lst)⟩, for_list (K := K) (a := l) (xs := bs.map V.ref) (fun i σ H' => ∃ p b v3 v4, σ = [some (.ref a), some (.ref l), some (.ref p), v3, v4] ∧ Same H2 H' ∧ H' p = some (.tup [.int (mu m (bestWay m W[0] (W.take i))), .ref b]) ∧ At H' b (bestWay m W[0] (W.take i)))
      ⟨p, b0, none, none, rfl, Same.new hp, upd_same, Same.new hp _ _ (s2 _ _ hb3)⟩ (fun i σ H' _ ⟨_, _, _, _, _, s5, _⟩ => SqL.of (s5 _ _ hl2.lst)) ?_ ?_⟩
    · rintro i y σ H' hi ⟨p, b, v3, v4, rfl, s5, hp, hb⟩
      have hib : i < bs.length := by have := (List.getElem?_eq_some_iff.mp hi).1; simpa using this
      have hws : W[i]? = some (W[i]'(by rw [← hl.len]; exact hib)) := List.getElem?_eq_getElem _
      generalize W[i]'(by rw [← hl.len]; exact hib) = way at hws
      obtain ⟨c, hc1, hc2, hc3⟩ := hl2.get hws
      rw [hc2] at hi
      obtain rfl := Option.some.inj hi
      refine ⟨_, rfl, _, rfl, a, c, m, way, n, rfl, ⟨as, (hL.same s3).same s5⟩, s5 _ _ hc3, ⟨hS, th _ (List.mem_of_getElem? hws), h0, h4⟩, fun H6 s6 => ?_⟩
      refine ⟨_, rfl, _, rfl, p, _, _, _, rfl, rfl, SqT.of (s6 _ _ hp), atT0, _, _, rfl, rfl, _, rfl, ?_⟩
      have eb : bestWay m W[0] (W.take (i + 1)) = if mu m way < mu m (bestWay m W[0] (W.take i)) then way else bestWay m W[0] (W.take i) := by
        rw [List.take_add_one, hws]
        exact bestWay_snoc _ _ _ _
      refine ite2 (fun h => ?_) (fun h => ?_)
      · have hlt := of_decide_eq_true h
        rw [if_pos hlt] at eb
        refine ⟨_, rfl, _, rfl, line (by simp), fun p2 hp2 => ⟨p2, c, _, _, rfl, (s5.trans s6).trans (Same.new hp2), ?_, ?_⟩⟩
        · rw [upd_same, eb]
        · rw [eb]
          exact Same.new hp2 _ _ (s6 _ _ (s5 _ _ hc3))
      · have hge : ¬ mu m way < mu m (bestWay m W[0] (W.take i)) := fun z => h (decide_eq_true z)
        rw [if_neg hge] at eb
        refine ⟨p, b, _, _, rfl, s5.trans s6, ?_, ?_⟩
        · rw [eb]; exact s6 _ _ hp
        · rw [eb]; exact s6 _ _ hb
    · rintro σ H' ⟨p, b, v3, v4, rfl, s5, hp, hb⟩
      rw [List.length_map, hl.len, List.take_length] at hp hb
      exact ⟨_, rfl, q _ p b (s3.trans s5) hp hb⟩
end
end Ty

end
section
set_option Elab.async false
set_option linter.all false
set_option maxRecDepth 100000
set_option maxHeartbeats 2000000
namespace Ty
open PySem PySem.Spec PyProof.Rows L2
/-! ### instances -/
abbrev wf (b : Bool) (g m t w : Addr) : List (Str × V) := [("begun", .bl b), ("grades", .ref g), ("machines", .ref m), ("tyres", .ref t), ("wheels", .ref w)]
abbrev tf (m : Int) (r : Addr) : List (Str × V) := [("mould", .int m), ("row", .ref r)]
theorem wf_begun (b : Bool) (g m t w : Addr) : (wf b g m t w).lookup ("begun" : Str) = some (.bl b) := rfl
theorem wf_grades (b : Bool) (g m t w : Addr) : (wf b g m t w).lookup ("grades" : Str) = some (.ref g) := rfl
theorem wf_machines (b : Bool) (g m t w : Addr) : (wf b g m t w).lookup ("machines" : Str) = some (.ref m) := rfl
theorem wf_tyres (b : Bool) (g m t w : Addr) : (wf b g m t w).lookup ("tyres" : Str) = some (.ref t) := rfl
theorem wf_wheels (b : Bool) (g m t w : Addr) : (wf b g m t w).lookup ("wheels" : Str) = some (.ref w) := rfl
theorem wf_no (b : Bool) (g m t w : Addr) : (wf b g m t w).lookup ("empty_out" : Str) = none := rfl
theorem tf_mould (m : Int) (r : Addr) : (tf m r).lookup ("mould" : Str) = some (.int m) := rfl
theorem tf_row (m : Int) (r : Addr) : (tf m r).lookup ("row" : Str) = some (.ref r) := rfl
theorem tf_put (m : Int) (r r' : Addr) : putF "row" (.ref r') (tf m r) = tf m r' := rfl
theorem wf_put (b c : Bool) (g m t w : Addr) : putF "begun" (.bl c) (wf b g m t w) = wf c g m t w := rfl
section
variable {P : Program} {w : World} {K : PySem.W.Frag} {mg : Str → Option Value} {base : Heap}
structure Txt2 (K : PySem.W.Frag) (mg : Str → Option Value) (CW CT : Addr) : Prop extends Txt K mg where
  clW : Cls K CW
  clT : Cls K CT
  nb : NoAttr K CW "begun"
  ng : NoAttr K CW "grades"
  nm : NoAttr K CW "machines"
  nt : NoAttr K CW "tyres"
  nw : NoAttr K CW "wheels"
  tm : NoAttr K CT "mould"
  tr : NoAttr K CT "row"
  mgW : mg "Works" = some (.ref CW)
  mgT : mg "Tyre" = some (.ref CT)
  set : mg "set" = none
  NO_SUCH : GI mg "NO_SUCH" (.int (-2))
  NOT_BEGUN : GI mg "NOT_BEGUN" (.int (-11))
  OUT_OF_RANGE : GI mg "OUT_OF_RANGE" (.int (-22))
  TOO_MANY : GI mg "TOO_MANY" (.int (-28))
  MOST : GI mg "MOST" (.int 2000)
  LAST_MOULD : GI mg "LAST_MOULD" (.int 7)
  MOST_GRADES : GI mg "MOST_GRADES" (.int 4)
  MOST_MACHINES : GI mg "MOST_MACHINES" (.int 3)
  MOST_TYRES : GI mg "MOST_TYRES" (.int 60)
  MOST_WHEELS : GI mg "MOST_WHEELS" (.int 10)
  BEGIN : GI mg "BEGIN" (.int 0)
  MATCH_LENGTHS : ∃ a, GI mg "MATCH_LENGTHS" (.ref a) ∧ ∀ H : Hp, SqT K H a (vi [2, 4, 6, 8])
variable {CW CT : Addr}
abbrev sTyI : Stmt := inClass (top 42) 0
abbrev sWkI : Stmt := inClass (top 43) 0
abbrev sWkE : Stmt := inClass (top 43) 1
def spTyI (CT : Addr) : Sp := fun vs H Q _ => ∃ x dx m r, vs = [.ref x, .int m, .ref r] ∧ H x = some (.ins CT dx []) ∧ ∀ H', H' x = some (.ins CT dx (tf m r)) → (∀ b o, H b = some o → b ≠ x → H' b = some o) → Q .non H'
theorem scTyI : FnScope ["self", "mould", "row"] ["self", "mould", "row"] (defScope sTyI) := ⟨rfl, rfl, rfl, by decide +kernel, rfl, by decide +kernel, by decide +kernel⟩
theorem ok_TyI {f : Addr} {fd : FuncData} (F : Fun K "__init__" "Tyre.__init__" sTyI f fd) (T : Txt2 K mg CW CT) : FnOk P w K mg base CX0 1 f fd ["self", "mould", "row"] (spTyI CT) := by
  refine F.ok scTyI (fun vs H Q E h => ?_) (fun cdv A outer s H vs Q E hr h => ?_)
  · obtain ⟨x, dx, m, r, rfl, _⟩ := h
    rfl
  · obtain ⟨x, dx, m, r, rfl, hp, k⟩ := h
    refine ⟨_, pss_cons (ps_fld (pv 0) (pv 1) rfl) (pss_one (ps_fld (pv 0) (pv 2) rfl)), ?_⟩
    refine ⟨_, rfl, _, rfl, x, CT, dx, [], rfl, hp, T.clT, T.tm, (by show 0 < 1000; decide), ?_⟩
    refine ⟨_, rfl, _, rfl, x, CT, dx, _, rfl, upd_same, T.clT, T.tr, (by show 1 < 1000; decide), ?_⟩
    exact k _ upd_same fun b o e hb => by rw [upd_ne hb, upd_ne hb]; exact e
/-- what empty_out leaves -/
def spEO (CW : Addr) : Sp := fun vs H Q _ => ∃ x dx fs b, vs = [.ref x] ∧ H x = some (.ins CW dx fs) ∧ (fs = [(("begun" : Str), V.bl b)] ∨ ∃ g m t w, fs = wf b g m t w) ∧
  ∀ H' g m t w, H' x = some (.ins CW dx (wf b g m t w)) → H' g = some (.lst []) → H' m = some (.lst []) → H' t = some (.lst []) → H' w = some (.lst []) → [g, m, t, w].Nodup → (H g = none ∧ H m = none ∧ H t = none ∧ H w = none) → (∀ a o, H a = some o → a ≠ x → H' a = some o) → Q .non H'
theorem scEO : FnScope ["self"] ["self"] (defScope sWkE) := ⟨rfl, rfl, rfl, by decide +kernel, rfl, by decide +kernel, by decide +kernel⟩
theorem ok_EO {f : Addr} {fd : FuncData} (F : Fun K "empty_out" "Works.empty_out" sWkE f fd) (T : Txt2 K mg CW CT) : FnOk P w K mg base CX0 1 f fd ["self"] (spEO CW) := by
  refine F.ok scEO (fun vs H Q E h => ?_) (fun cdv A outer s H vs Q E hr h => ?_)
  · obtain ⟨x, dx, fs, b, rfl, _⟩ := h
    rfl
  · obtain ⟨x, dx, fs, b, rfl, hp, hf, k⟩ := h
    refine ⟨_, pss_cons (ps_fld (pv 0) (pe_lst pa_nil) rfl) (pss_cons (ps_fld (pv 0) (pe_lst pa_nil) rfl) (pss_cons (ps_fld (pv 0) (pe_lst pa_nil) rfl) (pss_one (ps_fld (pv 0) (pe_lst pa_nil) rfl)))), ?_⟩
    have hlen : fs.length ≤ 5 := by rcases hf with h | ⟨_, _, _, _, h⟩ <;> subst h <;> simp
    have hl : ∀ f v (fs : List (Str × V)), (putF f v fs).length ≤ fs.length + 1 := fun f v fs => length_putF f v fs
    refine ⟨line (by simp), fun g hg => ⟨_, rfl, x, CW, dx, fs, rfl, Same.new hg _ _ hp, T.clW, T.ng, by omega, ?_⟩⟩
    have nx1 : g ≠ x := fun e => by rw [e, hp] at hg; cases hg
    refine ⟨line (by simp), fun m hm => ⟨_, rfl, x, CW, dx, _, rfl, by rw [upd_ne (fun e => by rw [← e, upd_same] at hm; cases hm), upd_same], T.clW, T.nm, by have := hl "grades" (.ref g) fs; omega, ?_⟩⟩
    have nx2 : m ≠ x := fun e => by rw [e, upd_same] at hm; cases hm
    have mg1 : m ≠ g := fun e => by rw [e, upd_ne nx1, upd_same] at hm; cases hm
    refine ⟨line (by simp), fun t ht => ⟨_, rfl, x, CW, dx, _, rfl, by rw [upd_ne (fun e => by rw [← e, upd_same] at ht; cases ht), upd_same], T.clW, T.nt, by have := hl "grades" (.ref g) fs; have := hl "machines" (.ref m) (putF "grades" (.ref g) fs); omega, ?_⟩⟩
    have nx3 : t ≠ x := fun e => by rw [e, upd_same] at ht; cases ht
    have tm1 : t ≠ m := fun e => by rw [e, upd_ne nx2, upd_same] at ht; cases ht
    have tg1 : t ≠ g := fun e => by rw [e, upd_ne nx1, upd_ne mg1.symm, upd_ne nx1, upd_same] at ht; cases ht
    refine ⟨line (by simp), fun w hw => ⟨_, rfl, x, CW, dx, _, rfl, by rw [upd_ne (fun e => by rw [← e, upd_same] at hw; cases hw), upd_same], T.clW, T.nw, by have := hl "grades" (.ref g) fs; have := hl "machines" (.ref m) (putF "grades" (.ref g) fs); have := hl "tyres" (.ref t) (putF "machines" (.ref m) (putF "grades" (.ref g) fs)); omega, ?_⟩⟩
    have nx4 : w ≠ x := fun e => by rw [e, upd_same] at hw; cases hw
    have wt1 : w ≠ t := fun e => by rw [e, upd_ne nx3, upd_same] at hw; cases hw
    have wm1 : w ≠ m := fun e => by rw [e, upd_ne nx2, upd_ne tm1.symm, upd_ne nx2, upd_same] at hw; cases hw
    have wg1 : w ≠ g := fun e => by rw [e, upd_ne nx1, upd_ne tg1.symm, upd_ne nx1, upd_ne mg1.symm, upd_ne nx1, upd_same] at hw; cases hw
    have f1 : H m = none := by rw [upd_ne nx2, upd_ne mg1] at hm; exact hm
    have f2 : H t = none := by rw [upd_ne nx3, upd_ne tm1, upd_ne nx3, upd_ne tg1] at ht; exact ht
    have f3 : H w = none := by rw [upd_ne nx4, upd_ne wt1, upd_ne nx4, upd_ne wm1, upd_ne nx4, upd_ne wg1] at hw; exact hw
    refine k _ g m t w ?_ ?_ ?_ ?_ ?_ ?_ ⟨hg, f1, f2, f3⟩ ?_
    · rw [upd_same]
      rcases hf with h | ⟨_, _, _, _, h⟩ <;> subst h <;> rfl
    · rw [upd_ne nx1, upd_ne wg1.symm, upd_ne nx1, upd_ne tg1.symm, upd_ne nx1, upd_ne mg1.symm, upd_ne nx1, upd_same]
    · rw [upd_ne nx2, upd_ne wm1.symm, upd_ne nx2, upd_ne tm1.symm, upd_ne nx2, upd_same]
    · rw [upd_ne nx3, upd_ne wt1.symm, upd_ne nx3, upd_same]
    · rw [upd_ne nx4, upd_same]
    · simp [mg1.symm, tg1.symm, wg1.symm, tm1.symm, wm1.symm, wt1.symm]
    · intro a o e ha
      rw [upd_ne ha, upd_ne (ne_of_none e f3), upd_ne ha, upd_ne (ne_of_none e f2), upd_ne ha, upd_ne (ne_of_none e f1), upd_ne ha, upd_ne (ne_of_none e hg)]
      exact e
def spWkI (CW : Addr) : Sp := fun vs H Q _ => ∃ x dx, vs = [.ref x] ∧ H x = some (.ins CW dx []) ∧
  ∀ H' g m t w, H' x = some (.ins CW dx (wf false g m t w)) → H' g = some (.lst []) → H' m = some (.lst []) → H' t = some (.lst []) → H' w = some (.lst []) → [g, m, t, w].Nodup → (H g = none ∧ H m = none ∧ H t = none ∧ H w = none) → (∀ a o, H a = some o → a ≠ x → H' a = some o) → Q .non H'
theorem scWkI : FnScope ["self"] ["self"] (defScope sWkI) := ⟨rfl, rfl, rfl, by decide +kernel, rfl, by decide +kernel, by decide +kernel⟩
theorem ok_WkI {f fE : Addr} {fd fdE : FuncData} (F : Fun K "__init__" "Works.__init__" sWkI f fd) (T : Txt2 K mg CW CT) (E : FnOk P w K mg base CX0 1 fE fdE ["self"] (spEO CW)) (bE : Binds K fdE ["self"] []) (mE : Meth K CW "empty_out" fE) : FnOk P w K mg base CX0 2 f fd ["self"] (spWkI CW) := by
  refine F.ok scWkI (fun vs H Q E h => ?_) (fun cdv A outer s H vs Q E hr h => ?_)
  · obtain ⟨x, dx, rfl, _⟩ := h
    rfl
  · obtain ⟨x, dx, rfl, hp, k⟩ := h
    refine ⟨_, pss_cons (ps_fld (pv 0) pe_bl rfl) (pss_one (ps_expr (pe_meth0 (pv 0) T.clW mE ‹FnOk P w K mg base CX0 1 fE fdE ["self"] (spEO CW)› hr bE .nil pass0))), ?_⟩
    refine ⟨_, rfl, x, CW, dx, [], rfl, hp, T.clW, T.nb, (by show 0 < 1000; decide), ?_⟩
    refine ⟨_, rfl, x, dx, _, rfl, upd_same, rfl, x, dx, _, false, rfl, upd_same, .inl rfl, fun H' g m t w h1 h2 h3 h4 h5 h6 h7 h8 => ?_⟩
    have fr : ∀ {a : Addr}, upd H x (.ins CW dx [(("begun" : Str), V.bl false)]) a = none → H a = none := fun {a} e => by
      by_cases hax : a = x
      · rw [hax, upd_same] at e; cases e
      · rw [upd_ne hax] at e; exact e
    exact k H' g m t w h1 h2 h3 h4 h5 h6 ⟨fr h7.1, fr h7.2.1, fr h7.2.2.1, fr h7.2.2.2⟩ fun a o e ha => h8 a o (by rw [upd_ne ha]; exact e) ha
end
end Ty

end
section
set_option Elab.async false
set_option linter.all false
set_option maxRecDepth 100000
set_option maxHeartbeats 2000000
namespace Ty
open PySem PySem.Spec PyProof.Rows L2
section
variable {P : Program} {w : World} {K : PySem.W.Frag} {mg : Str → Option Value} {base : Heap}
variable {CW CT : Addr}
/-! ### the works on the heap -/
structure Wk where
  dx : Addr
  g : Addr
  m : Addr
  t : Addr
  w : Addr
  ga : List Addr
  ma : List Addr
  ta : List Addr
  wa : List Addr
def Wk.own (k : Wk) (p : Addr) : List Addr := p :: k.g :: k.m :: k.t :: k.w :: k.ta
def gI (g : Su68.Grade) : List Int := [(g.peak : Int), (g.jump : Int), (g.wave : Int)]
structure AbsOk (a : Su68.Abs) : Prop where
  g4 : a.grades.length ≤ 4
  m3 : a.machines.length ≤ 3
  t60 : a.tyres.length ≤ 60
  w10 : a.wheels.length ≤ 10
  mach : ∀ r ∈ a.machines, r.length = 12 ∧ ∀ x ∈ r, -2000 ≤ x ∧ x ≤ 2000
  tyre : ∀ t ∈ a.tyres, Row t.at_ ∧ t.mould < 8
  wheel : ∀ r ∈ a.wheels, r.length = 12
structure Rep (CW CT : Addr) (H : Hp) (p : Addr) (k : Wk) (b : Bool) (a : Su68.Abs) : Prop where
  ins : H p = some (.ins CW k.dx (wf b k.g k.m k.t k.w))
  gl : LLx H k.g k.ga (a.grades.map gI)
  ml : LLx H k.m k.ma a.machines
  wl : LLx H k.w k.wa a.wheels
  tl : H k.t = some (.lst (k.ta.map V.ref))
  tlen : k.ta.length = a.tyres.length
  tat : ∀ (j : Nat) (c : Addr), k.ta[j]? = some c → ∃ dt ra ty, a.tyres[j]? = some ty ∧ H c = some (.ins CT dt (tf (ty.mould : Int) ra)) ∧ At H ra ty.at_
  nd : [k.g, k.m, k.t, k.w].Nodup
  tnd : k.ta.Nodup
  ok : AbsOk a
theorem Rep.same {H H' : Hp} {p : Addr} {k : Wk} {b : Bool} {a : Su68.Abs} (R : Rep CW CT H p k b a) (s : Same H H') : Rep CW CT H' p k b a :=
  ⟨s _ _ R.ins, R.gl.same s, R.ml.same s, R.wl.same s, s _ _ R.tl, R.tlen, fun j c e => by
    obtain ⟨dt, ra, ty, e1, e2, e3⟩ := R.tat j c e
    exact ⟨dt, ra, ty, e1, s _ _ e2, s _ _ e3⟩, R.nd, R.tnd, R.ok⟩
theorem Rep.tyre {H : Hp} {p : Addr} {k : Wk} {b : Bool} {a : Su68.Abs} (R : Rep CW CT H p k b a) {t : Nat} (h : t < a.tyres.length) :
    ∃ c dt ra, k.ta[t]? = some c ∧ (k.ta.map V.ref)[t]? = some (V.ref c) ∧ H c = some (.ins CT dt (tf ((a.tyre t).mould : Int) ra)) ∧ At H ra (a.row t) ∧ Row (a.row t) ∧ (a.tyre t).mould < 8 := by
  have hj : t < k.ta.length := by rw [R.tlen]; exact h
  obtain ⟨dt, ra, ty, e1, e2, e3⟩ := R.tat t _ (List.getElem?_eq_getElem hj)
  have e : a.tyre t = ty := by unfold Su68.Abs.tyre; rw [List.getD_eq_getElem?_getD, e1]; rfl
  refine ⟨k.ta[t], dt, ra, List.getElem?_eq_getElem hj, by rw [List.getElem?_map, List.getElem?_eq_getElem hj]; rfl, ?_, ?_, ?_⟩
  · rw [e]; exact e2
  · unfold Su68.Abs.row; rw [e]; exact e3
  · unfold Su68.Abs.row; rw [e]; exact R.ok.tyre ty (List.mem_of_getElem? e1)
/-! ### are_measured -/
def meas (r : List Int) (n : Nat) : Bool := decide (r.length = n) && r.all fun x => decide (x ≤ 2000)
def spAM : Sp := fun vs H Q _ => ∃ a r n, vs = [.ref a, .int ((n : Nat) : Int)] ∧ At H a r ∧ 0 < n ∧ Q (.bl (meas r n)) H
abbrev s_are_measured : Stmt := top 44
theorem sc_are_measured : FnScope ["told", "size"] ["told", "size"] (defScope s_are_measured) := ⟨rfl, rfl, rfl, by decide +kernel, rfl, by decide +kernel, by decide +kernel⟩
theorem ok_are_measured (D : Def K mg "are_measured" s_are_measured) (T : Txt2 K mg CW CT) : FnAt P w K mg base 1 "are_measured" ["told", "size"] (spAM) := by
  obtain ⟨f, fd, hm, F⟩ := D
  refine ⟨f, fd, hm, F.kp, F.binds (ps := ["told", "size"]) (fun _ _ _ _ _ _ us hl => match us, hl with | [_, _], _ => rfl), F.ok sc_are_measured (fun vs H Q E h => ?_) (fun cdv A outer s H vs Q E hr h => ?_)⟩
  · obtain ⟨a, r, n, rfl, _⟩ := h; rfl
  · obtain ⟨a, r, n, rfl, ha, h0, q⟩ := h
    refine ⟨_, (pss_one (ps_ret (pe_and (pe_cmpR op_eq (pe_callB call_len_seq (by rfl) T.len PySem.boot_len (pa_cons (pv 0) pa_nil)) (pv 1) (nomark _)) (pe_one (pe_cmpR op_le (pe_callB (cr_max rfl) (by rfl) T.max boot_max (pa_cons (pv 0) pa_nil)) (pg T.MOST) (nomark _)))))), ?_⟩
    refine ⟨_, rfl, a, _, rfl, .inl (SqL.of ha), _, rfl, rfl, _, rfl, ?_⟩
    rw [vi_len, L2.dec_int]
    by_cases h : r.length = n
    · have e : (((r.length : Nat) : Int) == ((n : Nat) : Int)) = true := by rw [h]; exact beq_self_eq_true _
      rw [e]
      refine iteT ⟨_, rfl, a, r, rfl, SqL.of ha, by omega, fun m m1 m2 => ⟨_, _, rfl, rfl, ?_⟩⟩
      have e2 : meas r n = decide (m ≤ 2000) := by
        unfold meas
        rw [decide_eq_true h, Bool.true_and]
        by_cases hm : m ≤ 2000
        · rw [decide_eq_true hm, List.all_eq_true]
          exact fun x hx => decide_eq_true (Int.le_trans (m2 x hx) hm)
        · rw [decide_eq_false hm, List.all_eq_false]
          exact ⟨m, m1, by simpa using hm⟩
      rw [e2] at q
      exact q
    · have e : (((r.length : Nat) : Int) == ((n : Nat) : Int)) = false := by
        rw [beq_eq_false_iff_ne]
        intro z
        omega
      rw [e]
      refine iteF ?_
      have e2 : meas r n = false := by
        unfold meas
        rw [decide_eq_false h, Bool.false_and]
      rw [e2] at q
      exact q
def spCO (CW CT : Addr) : Sp := fun vs H Q _ => ∃ p k b a j c r, vs = [.ref p, .int ((j : Nat) : Int), .ref c] ∧ Rep CW CT H p k b a ∧ At H c r ∧ (r.length = 12 ∧ j < a.machines.length) ∧ ∀ H' q, Same H H' → H q = Option.none → At H' q (Su68.plus r (a.machines.getD j [])) → Q (.ref q) H'
abbrev s_corrected : Stmt := top 45
theorem sc_corrected : FnScope ["works", "machine", "points"] ["works", "machine", "points"] (defScope s_corrected) := ⟨rfl, rfl, rfl, by decide +kernel, rfl, by decide +kernel, by decide +kernel⟩
theorem ok_corrected (D : Def K mg "corrected" s_corrected) (T : Txt2 K mg CW CT) (Tg : FnAt P w K mg base 1 "together" ["row", "other"] (spRRR (fun r s => r.length = 12 ∧ s.length = 12) Su68.plus)) : FnAt P w K mg base 2 "corrected" ["works", "machine", "points"] (spCO CW CT) := by
  obtain ⟨f, fd, hm, F⟩ := D
  refine ⟨f, fd, hm, F.kp, F.binds (ps := ["works", "machine", "points"]) (fun _ _ _ _ _ _ us hl => match us, hl with | [_, _, _], _ => rfl), F.ok sc_corrected (fun vs H Q E h => ?_) (fun cdv A outer s H vs Q E hr h => ?_)⟩
  · obtain ⟨p, k, b, a, j, c, r, rfl, _⟩ := h; rfl
  · obtain ⟨p, k, b, a, j, c, r, rfl, R, hc, ⟨h12, hj⟩, q⟩ := h
    refine ⟨_, (pss_one (ps_ret (pf Tg (hr.mono (by decide)) (pa_cons (pv 2) (pa_cons (pe_ix ix_list (pe_fld (pv 0) rfl) (pv 1) (fun _ _ => rfl)) pa_nil))))), ?_⟩
    obtain ⟨d, hd1, hd2, hd3⟩ := R.ml.get (List.getElem?_eq_getElem hj)
    have e : a.machines.getD j [] = a.machines[j] := by rw [List.getD_eq_getElem?_getD, List.getElem?_eq_getElem hj]; rfl
    rw [e] at q
    exact ⟨_, rfl, _, rfl, p, CW, k.dx, _, _, rfl, R.ins, T.clW, T.nm, wf_machines .., _, rfl, k.m, _, _, _, rfl, rfl, SqL.of R.ml.lst, atI_nat hd2, c, d, r, _, rfl, hc, hd3, ⟨h12, (R.ok.mach _ (List.getElem_mem hj)).1⟩, fun H' z s z0 hz => q H' z s z0 hz⟩
theorem why_zero (a : Su68.Abs) (l : List Int) (g : Nat) : (a.why l g == 0) = (decide (Su68.peak l ≤ (a.grade g).peak) && (decide (Su68.jump l ≤ (a.grade g).jump) && decide (Su68.wave l ≤ (a.grade g).wave))) := by
  unfold Su68.Abs.why
  by_cases h1 : (a.grade g).peak < Su68.peak l
  · rw [if_pos h1, decide_eq_false (by omega)]; rfl
  · rw [if_neg h1, decide_eq_true (show Su68.peak l ≤ (a.grade g).peak by omega), Bool.true_and]
    by_cases h2 : (a.grade g).jump < Su68.jump l
    · rw [if_pos h2, decide_eq_false (by omega)]; rfl
    · rw [if_neg h2, decide_eq_true (show Su68.jump l ≤ (a.grade g).jump by omega), Bool.true_and]
      by_cases h3 : (a.grade g).wave < Su68.wave l
      · rw [if_pos h3, decide_eq_false (by omega)]; rfl
      · rw [if_neg h3, decide_eq_true (by omega)]; rfl
theorem grade_found {a : Su68.Abs} {l : List Int} {g : Nat} (hg : g < a.grades.length) (h : (a.why l g == 0) = true) (hb : ∀ i, i < g → (a.why l i == 0) = false) : Su68.gradeOf a l = (g : Int) + 1 := by
  unfold Su68.gradeOf Su68.Abs.graded
  rw [find_first hg h hb]
theorem grade_none {a : Su68.Abs} {l : List Int} (hb : ∀ i, i < a.grades.length → (a.why l i == 0) = false) : Su68.gradeOf a l = 0 := by
  unfold Su68.gradeOf Su68.Abs.graded
  rw [find_none fun x hx => hb x (List.mem_range.mp hx)]
@[irreducible] def pkI (r : List Int) : Int := (Su68.peak r : Int)
@[irreducible] def jpI (r : List Int) : Int := (Su68.jump r : Int)
@[irreducible] def wvI (r : List Int) : Int := (Su68.wave r : Int)
theorem pkI_is (r : List Int) : pkI r = (Su68.peak r : Int) := by unfold pkI; rfl
theorem jpI_is (r : List Int) : jpI r = (Su68.jump r : Int) := by unfold jpI; rfl
theorem wvI_is (r : List Int) : wvI r = (Su68.wave r : Int) := by unfold wvI; rfl
theorem pkI_fun : (fun r => (Su68.peak r : Int)) = pkI := funext fun r => (pkI_is r).symm
theorem jpI_fun : (fun r => (Su68.jump r : Int)) = jpI := funext fun r => (jpI_is r).symm
theorem wvI_fun : (fun r => (Su68.wave r : Int)) = wvI := funext fun r => (wvI_is r).symm
def jdI (r : List Int) : List Int := [pkI r, jpI r, wvI r]
abbrev s_judged : Stmt := top 46
theorem sc_judged : FnScope ["row"] ["row"] (defScope s_judged) := ⟨rfl, rfl, rfl, by decide +kernel, rfl, by decide +kernel, by decide +kernel⟩
theorem ok_judged (D : Def K mg "judged" s_judged) (Pk : FnAt P w K mg base 1 "peak" ["row"] (spRI (fun r => r.length = 12) fun r => (Su68.peak r : Int))) (St : FnAt P w K mg base 2 "greatest_step" ["row"] (spRI (fun r => r.length = 12) fun r => (Su68.jump r : Int))) (Wv : FnAt P w K mg base 4 "wave" ["row"] (spRI Row fun r => (Su68.wave r : Int))) : FnAt P w K mg base 5 "judged" ["row"] (spRR Row jdI) := by
  obtain ⟨f, fd, hm, F⟩ := D
  refine ⟨f, fd, hm, F.kp, F.binds (ps := ["row"]) (fun _ _ _ _ _ _ us hl => match us, hl with | [_], _ => rfl), F.ok sc_judged (fun vs H Q E h => ?_) (fun cdv A outer s H vs Q E hr h => ?_)⟩
  · obtain ⟨c, r, rfl, _⟩ := h; rfl
  · obtain ⟨c, r, rfl, hc, hR, q⟩ := h
    rw [pkI_fun] at Pk
    rw [jpI_fun] at St
    rw [wvI_fun] at Wv
    refine ⟨_, (pss_one (ps_ret (pe_lst (pa_cons (pf Pk (hr.mono (by decide)) (pa_cons (pv 0) pa_nil)) (pa_cons (pf St (hr.mono (by decide)) (pa_cons (pv 0) pa_nil)) (pa_cons (pf Wv (hr.mono (by decide)) (pa_cons (pv 0) pa_nil)) pa_nil)))))), ?_⟩
    refine ⟨_, rfl, c, r, rfl, hc, hR.1, fun H1 s1 => ⟨_, rfl, c, r, rfl, s1 _ _ hc, hR.1, fun H2 s2 => ⟨_, rfl, c, r, rfl, s2 _ _ (s1 _ _ hc), hR, fun H3 s3 => ?_⟩⟩⟩
    have s4 := s1.trans (s2.trans s3)
    exact ⟨line (by simp), fun z hz => q _ z (s4.trans (Same.new hz)) (s4.free hz) upd_same⟩
def firstAb (v m : List Int) : Int := match (List.range 3).find? (fun i => decide (m.getD i 0 < v.getD i 0)) with
  | none => 0
  | some i => (i : Int) + 1
theorem firstAb_found {v m : List Int} {g : Nat} (hg : g < 3) (h : m.getD g 0 < v.getD g 0) (hb : ∀ i, i < g → ¬ m.getD i 0 < v.getD i 0) : firstAb v m = (g : Int) + 1 := by
  unfold firstAb
  rw [find_first (p := fun i => decide (m.getD i 0 < v.getD i 0)) hg (decide_eq_true h) (fun i hi => decide_eq_false (hb i hi))]
theorem firstAb_none {v m : List Int} (hb : ∀ i, i < 3 → ¬ m.getD i 0 < v.getD i 0) : firstAb v m = 0 := by
  unfold firstAb
  rw [find_none fun x hx => decide_eq_false (hb x (List.mem_range.mp hx))]
theorem why_first (a : Su68.Abs) (r : List Int) (g : Nat) : firstAb (jdI r) (gI (a.grade g)) = (a.why r g : Int) := by
  unfold Su68.Abs.why jdI
  have e0 : (gI (a.grade g)).getD 0 0 = ((a.grade g).peak : Int) := rfl
  have e1 : (gI (a.grade g)).getD 1 0 = ((a.grade g).jump : Int) := rfl
  have e2 : (gI (a.grade g)).getD 2 0 = ((a.grade g).wave : Int) := rfl
  have f0 : ([pkI r, jpI r, wvI r] : List Int).getD 0 0 = (Su68.peak r : Int) := pkI_is r
  have f1 : ([pkI r, jpI r, wvI r] : List Int).getD 1 0 = (Su68.jump r : Int) := jpI_is r
  have f2 : ([pkI r, jpI r, wvI r] : List Int).getD 2 0 = (Su68.wave r : Int) := wvI_is r
  have c3 : ∀ i, i < 3 → i = 0 ∨ i = 1 ∨ i = 2 := fun i h => by omega
  by_cases h1 : (a.grade g).peak < Su68.peak r
  · rw [if_pos h1]
    exact firstAb_found (g := 0) (by decide) (by rw [e0, f0]; omega) (fun i hi => absurd hi (Nat.not_lt_zero _))
  · rw [if_neg h1]
    by_cases h2 : (a.grade g).jump < Su68.jump r
    · rw [if_pos h2]
      refine firstAb_found (g := 1) (by decide) (by rw [e1, f1]; omega) (fun i hi => ?_)
      obtain rfl : i = 0 := by omega
      rw [e0, f0]; omega
    · rw [if_neg h2]
      by_cases h3 : (a.grade g).wave < Su68.wave r
      · rw [if_pos h3]
        refine firstAb_found (g := 2) (by decide) (by rw [e2, f2]; omega) (fun i hi => ?_)
        rcases (show i = 0 ∨ i = 1 by omega) with rfl | rfl
        · rw [e0, f0]; omega
        · rw [e1, f1]; omega
      · rw [if_neg h3]
        refine firstAb_none fun i hi => ?_
        rcases c3 i hi with rfl | rfl | rfl
        · rw [e0, f0]; omega
        · rw [e1, f1]; omega
        · rw [e2, f2]; omega
def spFA : Sp := fun vs H Q _ => ∃ a b v m, vs = [.ref a, .ref b] ∧ At H a v ∧ At H b m ∧ (v.length = 3 ∧ m.length = 3) ∧ ∀ H', Same H H' → Q (.int (firstAb v m)) H'
abbrev s_first_above : Stmt := top 47
theorem sc_first_above : FnScope ["values", "mosts", "i"] ["values", "mosts"] (defScope s_first_above) := ⟨rfl, rfl, rfl, by decide +kernel, rfl, by decide +kernel, by decide +kernel⟩
theorem ok_first_above (D : Def K mg "first_above" s_first_above) (T : Txt2 K mg CW CT) : FnAt P w K mg base 1 "first_above" ["values", "mosts"] (spFA) := by
  obtain ⟨f, fd, hm, F⟩ := D
  refine ⟨f, fd, hm, F.kp, F.binds (ps := ["values", "mosts"]) (fun _ _ _ _ _ _ us hl => match us, hl with | [_, _], _ => rfl), F.ok sc_first_above (fun vs H Q E h => ?_) (fun cdv A outer s H vs Q E hr h => ?_)⟩
  · obtain ⟨a, b, v, m, rfl, _⟩ := h; rfl
  · obtain ⟨a, b, v, m, rfl, ha, hb, ⟨hv3, hm3⟩, q⟩ := h
    refine ⟨_, (pss_cons (ps_for PassesOwn.never rfl (pi_range1 rfl T.range (pa_cons (pe_callB call_len_seq (by rfl) T.len PySem.boot_len (pa_cons (pv 1) pa_nil)) pa_nil)) (pg_name (i := 2) sc_first_above.nd rfl (Or.inl rfl)) (pss_one (ps_if (pt_cmpR op_gt (pe_ix ix_list (pv 0) (pv 2) (fun _ _ => rfl)) (pe_ix ix_list (pv 1) (pv 2) (fun _ _ => rfl)) (nomark _)) (pss_one (ps_ret (pe_op op_add (pv 2) pe_int))) pss_nil))) (pss_one (ps_ret pe_int))), ?_⟩
    refine ⟨_, rfl, b, _, rfl, .inl (SqL.of hb), _, rfl, by rw [vi_len, hm3]; decide, by rw [vi_len, hm3]; decide, ?_⟩
    rw [vi_len, hm3, show (((3 : Nat) : Int)).toNat = 3 from rfl]
    have gv : ∀ {i : Nat}, i < 3 → atI (vi v) (0 + (i : Int)) = some (V.int (v.getD i 0)) := fun {i} hi => by
      rw [Int.zero_add]
      refine atI_nat (vi_get ?_)
      rw [List.getD_eq_getElem?_getD, List.getElem?_eq_getElem (by omega)]
      rfl
    have gm : ∀ {i : Nat}, i < 3 → atI (vi m) (0 + (i : Int)) = some (V.int (m.getD i 0)) := fun {i} hi => by
      rw [Int.zero_add]
      refine atI_nat (vi_get ?_)
      rw [List.getD_eq_getElem?_getD, List.getElem?_eq_getElem (by omega)]
      rfl
    refine for_range (lo := 0) (n := 3) (fun i σ H' => ∃ v2, σ = [some (.ref a), some (.ref b), v2] ∧ Same H H' ∧ ∀ j, j < i → ¬ m.getD j 0 < v.getD j 0)
      ⟨none, rfl, Same.refl _, fun j hj => absurd hj (Nat.not_lt_zero _)⟩ ?_ ?_
    · rintro i σ H' hi ⟨v2, rfl, s5, hno⟩
      refine ⟨_, rfl, _, rfl, a, _, _, _, rfl, rfl, SqL.of (s5 _ _ ha), gv hi, _, rfl, _, rfl, b, _, _, _, rfl, rfl, SqL.of (s5 _ _ hb), gm hi, _, _, rfl, rfl, _, rfl, ?_⟩
      by_cases h : m.getD i 0 < v.getD i 0
      · rw [decide_eq_true h]
        refine iteT ⟨_, rfl, _, _, rfl, rfl, ?_⟩
        rw [firstAb_found hi h hno] at q
        rw [Int.zero_add]
        exact q _ s5
      · rw [decide_eq_false h]
        refine iteF ⟨_, rfl, s5, fun j hj => ?_⟩
        rcases Nat.lt_succ_iff_lt_or_eq.mp hj with z | z
        · exact hno j z
        · rw [z]; exact h
    · rintro σ H' ⟨v2, rfl, s5, hno⟩
      rw [firstAb_none hno] at q
      exact q _ s5
def spGO (CW CT : Addr) : Sp := fun vs H Q _ => ∃ p k b a c r, vs = [.ref p, .ref c] ∧ Rep CW CT H p k b a ∧ At H c r ∧ Row r ∧ ∀ H', Same H H' → Q (.int (Su68.gradeOf a r)) H'
abbrev s_grade_and_one : Stmt := top 48
theorem sc_grade_and_one : FnScope ["works", "row", "values", "number", "mosts"] ["works", "row"] (defScope s_grade_and_one) := ⟨rfl, rfl, rfl, by decide +kernel, rfl, by decide +kernel, by decide +kernel⟩
theorem ok_grade_and_one (D : Def K mg "grade_and_one" s_grade_and_one) (T : Txt2 K mg CW CT) (Jd : FnAt P w K mg base 5 "judged" ["row"] (spRR Row jdI)) (Fa : FnAt P w K mg base 1 "first_above" ["values", "mosts"] spFA) : FnAt P w K mg base 6 "grade_and_one" ["works", "row"] (spGO CW CT) := by
  obtain ⟨f, fd, hm, F⟩ := D
  refine ⟨f, fd, hm, F.kp, F.binds (ps := ["works", "row"]) (fun _ _ _ _ _ _ us hl => match us, hl with | [_, _], _ => rfl), F.ok sc_grade_and_one (fun vs H Q E h => ?_) (fun cdv A outer s H vs Q E hr h => ?_)⟩
  · obtain ⟨p, k, b, a, c, r, rfl, _⟩ := h; rfl
  · obtain ⟨p, k, b, a, c, r, rfl, R, hc, hR, q⟩ := h
    refine ⟨_, (pss_cons (ps_set (i := 2) sc_grade_and_one.nd rfl (by first | exact Or.inl rfl | exact Or.inr rfl) (pf Jd (hr.mono (by decide)) (pa_cons (pv 1) pa_nil))) (pss_cons (ps_for PassesOwn.never rfl (pi_enum rfl T.enumerate (pa_cons (pe_fld (pv 0) rfl) pa_nil)) (pg_tup rfl (pgs_cons (pg_name (i := 3) sc_grade_and_one.nd rfl (Or.inl rfl)) (pgs_cons (pg_name (i := 4) sc_grade_and_one.nd rfl (Or.inl rfl)) pgs_nil))) (pss_one (ps_if (pt_cmpR op_eq (pf Fa (hr.mono (by decide)) (pa_cons (pv 2) (pa_cons (pv 4) pa_nil))) pe_int (nomark _)) (pss_one (ps_ret (pe_op op_add (pv 3) pe_int))) pss_nil))) (pss_one (ps_ret pe_int)))), ?_⟩
    refine ⟨_, rfl, c, r, rfl, hc, hR, fun H3 va s4 va0 hva => ?_⟩
    have R4 := R.same s4
    refine ⟨_, rfl, p, CW, k.dx, _, _, rfl, R4.ins, T.clW, T.ng, wf_grades .., k.g, _, rfl, SqL.of R4.gl.lst, for_enum (K := K) (a := k.g) (xs := k.ga.map V.ref) (j1 := 3) (j2 := 4) (fun i σ H' => ∃ v3 v4, σ = [some (.ref p), some (.ref c), some (.ref va), v3, v4] ∧ Same H3 H' ∧ ∀ j, j < i → (a.why r j == 0) = false)
      ⟨none, none, rfl, Same.refl _, fun j hj => absurd hj (Nat.not_lt_zero _)⟩ (fun i σ H' _ ⟨_, _, _, s5, _⟩ => SqL.of (s5 _ _ R4.gl.lst)) ?_ ?_⟩
    · rintro i y σ H' tp hi htp ⟨v3, v4, rfl, s5, hno⟩
      have hi' : i < k.ga.length := by have := (List.getElem?_eq_some_iff.mp hi).1; simpa using this
      have hig : i < a.grades.length := by rw [← List.length_map (as := a.grades) gI, ← R.gl.len]; exact hi'
      have hg : (a.grades.map gI)[i]? = some (gI (a.grade i)) := by
        rw [List.getElem?_map, List.getElem?_eq_getElem hig]
        unfold Su68.Abs.grade
        rw [List.getD_eq_getElem?_getD, List.getElem?_eq_getElem hig]
        rfl
      obtain ⟨d, hd1, hd2, hd3⟩ := R4.gl.get hg
      rw [hd2] at hi
      obtain rfl := Option.some.inj hi
      have s6 : Same H3 (upd H' tp (.tup [.int (i : Nat), V.ref d])) := s5.trans (Same.new htp)
      refine ⟨_, rfl, _, rfl, va, d, jdI r, gI (a.grade i), rfl, s6 _ _ hva, s6 _ _ hd3, ⟨rfl, rfl⟩, fun H7 s7 => ⟨rfl, _, rfl, ?_⟩⟩
      rw [L2.dec_int, why_first]
      cases hz : (a.why r i == 0) with
      | true =>
        have e : (((a.why r i : Nat) : Int) == 0) = true := by rw [beq_iff_eq] at hz ⊢; omega
        rw [e]
        refine iteT ⟨_, rfl, _, _, rfl, rfl, ?_⟩
        rw [grade_found hig hz hno] at q
        exact q _ (s4.trans (s6.trans s7))
      | false =>
        have e : (((a.why r i : Nat) : Int) == 0) = false := by rw [beq_eq_false_iff_ne] at hz ⊢; omega
        rw [e]
        refine iteF ⟨_, _, rfl, s6.trans s7, fun j hj => ?_⟩
        rcases Nat.lt_succ_iff_lt_or_eq.mp hj with z | z
        · exact hno j z
        · rw [z]; exact hz
    · rintro σ H' ⟨v3, v4, rfl, s5, hno⟩
      have e : (k.ga.map V.ref).length = a.grades.length := by rw [List.length_map, R.gl.len, List.length_map]
      rw [e] at hno
      rw [grade_none hno] at q
      exact q _ (s4.trans s5)
def spOM : Sp := fun vs H Q _ => ∃ l xs n x, vs = [.ref l, .int ((n : Nat) : Int), x] ∧ H l = some (.lst xs) ∧ xs.length ≤ 60 ∧ (xs.length = n → ∀ H' q, Same H H' → H q = Option.none → At H' q [-28] → Q (.ref q) H') ∧
  (xs.length ≠ n → ∀ H' q, H' l = some (.lst (xs ++ [x])) → (∀ b o, H b = some o → b ≠ l → H' b = some o) → H q = Option.none → At H' q [(xs.length : Int)] → Q (.ref q) H')
abbrev s_one_more : Stmt := top 52
theorem sc_one_more : FnScope ["kept", "limit", "thing"] ["kept", "limit", "thing"] (defScope s_one_more) := ⟨rfl, rfl, rfl, by decide +kernel, rfl, by decide +kernel, by decide +kernel⟩
theorem ok_one_more (D : Def K mg "one_more" s_one_more) (T : Txt2 K mg CW CT) : FnAt P w K mg base 1 "one_more" ["kept", "limit", "thing"] (spOM) := by
  obtain ⟨f, fd, hm, F⟩ := D
  refine ⟨f, fd, hm, F.kp, F.binds (ps := ["kept", "limit", "thing"]) (fun _ _ _ _ _ _ us hl => match us, hl with | [_, _, _], _ => rfl), F.ok sc_one_more (fun vs H Q E h => ?_) (fun cdv A outer s H vs Q E hr h => ?_)⟩
  · obtain ⟨l, xs, n, x, rfl, _⟩ := h; rfl
  · obtain ⟨l, xs, n, x, rfl, hl, h60, q1, q2⟩ := h
    refine ⟨_, (pss_cons (ps_if (pt_cmpR op_eq (pe_callB call_len_seq (by rfl) T.len PySem.boot_len (pa_cons (pv 0) pa_nil)) (pv 1) (nomark _)) (pss_one (ps_ret (pe_lst (pa_cons (pg T.TOO_MANY) pa_nil)))) pss_nil) (pss_cons (ps_expr (pe_bm PySem.F.plainAttrs_list PySem.F.slot_list_append PySem.F.type_list_append mt_append (pv 0) (pa_cons (pv 2) pa_nil))) (pss_one (ps_ret (pe_lst (pa_cons (pe_op op_sub (pe_callB call_len_seq (by rfl) T.len PySem.boot_len (pa_cons (pv 0) pa_nil)) pe_int) pa_nil)))))), ?_⟩
    refine ⟨_, rfl, l, _, rfl, .inl (SqL.of hl), _, rfl, rfl, _, rfl, ?_⟩
    rw [L2.dec_int]
    by_cases h : xs.length = n
    · have e : (((xs.length : Nat) : Int) == ((n : Nat) : Int)) = true := by rw [h]; exact beq_self_eq_true _
      rw [e]
      exact iteT ⟨line (by simp), fun z hz => q1 h _ z (Same.new hz) hz upd_same⟩
    · have e : (((xs.length : Nat) : Int) == ((n : Nat) : Int)) = false := by
        rw [beq_eq_false_iff_ne]
        intro z
        omega
      rw [e]
      refine iteF ⟨_, rfl, .inl ⟨rfl, _, SqL.of hl⟩, _, rfl, l, xs, x, rfl, rfl, hl, lineLt (by omega), ?_⟩
      refine ⟨_, rfl, l, _, rfl, .inl (SqL.of upd_same), _, _, rfl, rfl, line (by simp), fun z hz => ?_⟩
      have hz0 : H z = Option.none := by
        by_cases hzl : z = l
        · rw [hzl, upd_same] at hz; cases hz
        · rw [upd_ne hzl] at hz; exact hz
      refine q2 h _ z (Same.new hz _ _ upd_same) (fun b o e hb => Same.new hz _ _ (by rw [upd_ne hb]; exact e)) hz0 ?_
      show upd _ z _ z = _
      rw [upd_same, List.length_append]
      show some (HO.lst [V.int (((xs.length + 1 : Nat) : Int) - 1)]) = some (HO.lst [V.int (xs.length : Int)])
      rw [show (((xs.length + 1 : Nat) : Int) - 1) = (xs.length : Int) by omega]
end
end Ty

end
section
set_option Elab.async false
set_option linter.all false
set_option maxRecDepth 100000
set_option maxHeartbeats 2000000
namespace Ty
open PySem PySem.Spec PyProof.Rows L2
section
variable {P : Program} {w : World} {K : PySem.W.Frag} {mg : Str → Option Value} {base : Heap}
variable {CW CT : Addr}
/-! ### changes of the works -/
def Keeps (own : List Addr) (H H' : Hp) : Prop := ∀ b o, H b = some o → b ∉ own → H' b = some o
def ans (x : Su68.Ans) : List Int := x.value :: x.out
theorem at_ne {H : Hp} {x a : Addr} {ys : List Addr} {r : List Int} (hx : H x = some (.lst (ys.map V.ref))) (ha : At H a r) (hr : r ≠ []) : a ≠ x := by
  intro e
  subst e
  have h : some (HO.lst (vi r)) = some (HO.lst (ys.map V.ref)) := ha.symm.trans hx
  have h : vi r = ys.map V.ref := by injection h with h; injection h
  cases r with
  | nil => exact hr rfl
  | cons z r =>
    cases ys with
    | nil => cases h
    | cons y ys => injection h with h1 _; cases h1
theorem at_ni {H : Hp} {x a C dx : Addr} {fs : List (Str × V)} {r : List Int} (hx : H x = some (.ins C dx fs)) (ha : At H a r) : a ≠ x := by
  intro e
  subst e
  have h : some (HO.lst (vi r)) = some (HO.ins C dx fs) := ha.symm.trans hx
  injection h with h; cases h
theorem li_ne {H : Hp} {x a C dx : Addr} {fs : List (Str × V)} {ys : List V} (hx : H x = some (.ins C dx fs)) (ha : H a = some (.lst ys)) : a ≠ x := by
  intro e
  subst e
  have h := ha.symm.trans hx
  injection h with h; cases h
theorem LLx.push' {H H' : Hp} {l z : Addr} {as : List Addr} {ws : List (List Int)} {way : List Int} (h : LLx H l as ws) (hl : H' l = some (.lst (as.map V.ref ++ [V.ref z]))) (kp : ∀ b o, H b = some o → b ≠ l → H' b = some o) (hz : At H' z way) (hzl : z ≠ l) : LLx H' l (as ++ [z]) (ws ++ [way]) := by
  refine ⟨by rw [hl, List.map_append]; rfl, by rw [List.length_append, List.length_append, h.len]; rfl, fun j b e => ?_⟩
  by_cases hj : j < as.length
  · rw [List.getElem?_append_left hj] at e
    obtain ⟨n, w2, e1, e2⟩ := h.at_ j b e
    refine ⟨n, w2, ?_, kp _ _ e2 n⟩
    rw [List.getElem?_append_left (by rw [← h.len]; exact hj)]; exact e1
  · rw [List.getElem?_append_right (by omega)] at e
    have ej : j = as.length := by
      have := (List.getElem?_eq_some_iff.mp e).1
      simp at this
      omega
    subst ej
    simp at e
    subst e
    refine ⟨hzl, way, ?_, hz⟩
    rw [h.len]; simp
theorem LLx.keepL {H H' : Hp} {l x : Addr} {as ys : List Addr} {ws : List (List Int)} (h : LLx H l as ws) (hx : H x = some (.lst (ys.map V.ref))) (hne : ∀ w ∈ ws, w ≠ []) (hl : l ≠ x) (kp : ∀ b o, H b = some o → b ≠ x → H' b = some o) : LLx H' l as ws :=
  ⟨kp _ _ h.lst hl, h.len, fun j b e => by
    obtain ⟨n, w2, e1, e2⟩ := h.at_ j b e
    exact ⟨n, w2, e1, kp _ _ e2 (at_ne hx e2 (hne _ (List.mem_of_getElem? e1)))⟩⟩
theorem LLx.keepI {H H' : Hp} {l x C dx : Addr} {as : List Addr} {fs : List (Str × V)} {ws : List (List Int)} (h : LLx H l as ws) (hx : H x = some (.ins C dx fs)) (kp : ∀ b o, H b = some o → b ≠ x → H' b = some o) : LLx H' l as ws :=
  ⟨kp _ _ h.lst (li_ne hx h.lst), h.len, fun j b e => by
    obtain ⟨n, w2, e1, e2⟩ := h.at_ j b e
    exact ⟨n, w2, e1, kp _ _ e2 (at_ni hx e2)⟩⟩
section
variable {H H' : Hp} {p : Addr} {k : Wk} {b : Bool} {a : Su68.Abs}
theorem mod_at {l : List Su68.Tyre} {F : Su68.Tyre → Su68.Tyre} {i j : Nat} {y : Su68.Tyre} (h : l[i]? = some y) : (l.modify j F)[i]? = some (if j = i then F y else y) := by
  rw [List.getElem?_modify, h]
  rfl
theorem Rep.gne (R : Rep CW CT H p k b a) : ∀ w ∈ a.grades.map gI, w ≠ [] := fun w hw => by
  obtain ⟨g, _, rfl⟩ := List.mem_map.mp hw
  simp [gI]
theorem Rep.mne (R : Rep CW CT H p k b a) : ∀ w ∈ a.machines, w ≠ [] := fun w hw e => by
  have := (R.ok.mach w hw).1
  rw [e] at this; cases this
theorem Rep.wne (R : Rep CW CT H p k b a) : ∀ w ∈ a.wheels, w ≠ [] := fun w hw e => by
  have := R.ok.wheel w hw
  rw [e] at this; cases this
theorem Rep.tatL (R : Rep CW CT H p k b a) {x : Addr} {ys : List Addr} (hx : H x = some (.lst (ys.map V.ref))) (kp : ∀ b o, H b = some o → b ≠ x → H' b = some o) :
    ∀ (j : Nat) (c : Addr), k.ta[j]? = some c → ∃ dt ra ty, a.tyres[j]? = some ty ∧ H' c = some (.ins CT dt (tf (ty.mould : Int) ra)) ∧ At H' ra ty.at_ := fun j c e => by
  obtain ⟨dt, ra, ty, e1, e2, e3⟩ := R.tat j c e
  have hr := (R.ok.tyre ty (List.mem_of_getElem? e1)).1.1
  exact ⟨dt, ra, ty, e1, kp _ _ e2 (li_ne e2 hx).symm, kp _ _ e3 (at_ne hx e3 (by intro z; rw [z] at hr; cases hr))⟩
theorem nd4 {g m t w : Addr} (h : [g, m, t, w].Nodup) : g ≠ m ∧ g ≠ t ∧ g ≠ w ∧ m ≠ t ∧ m ≠ w ∧ t ≠ w := by
  simp at h
  exact ⟨h.1.1, h.1.2.1, h.1.2.2, h.2.1.1, h.2.1.2, h.2.2⟩
theorem Rep.pushG (R : Rep CW CT H p k b a) {z : Addr} {gr : Su68.Grade} (h4 : a.grades.length ≠ 4) (hl : H' k.g = some (.lst (k.ga.map V.ref ++ [V.ref z]))) (kp : ∀ b o, H b = some o → b ≠ k.g → H' b = some o) (hz : At H z (gI gr)) :
    Rep CW CT H' p { k with ga := k.ga ++ [z] } b { a with grades := a.grades ++ [gr] } := by
  obtain ⟨n1, n2, n3, n4, n5, n6⟩ := nd4 R.nd
  have hzg : z ≠ k.g := at_ne R.gl.lst hz (by simp [gI])
  refine ⟨kp _ _ R.ins (li_ne R.ins R.gl.lst).symm, ?_, R.ml.keepL R.gl.lst R.mne n1.symm kp, R.wl.keepL R.gl.lst R.wne n3.symm kp, kp _ _ R.tl n2.symm, R.tlen, R.tatL R.gl.lst kp, R.nd, R.tnd, ?_⟩
  · show LLx H' k.g (k.ga ++ [z]) ((a.grades ++ [gr]).map gI)
    rw [List.map_append]
    exact R.gl.push' hl kp (kp _ _ hz hzg) hzg
  · have := R.ok.g4
    exact { R.ok with g4 := by show (a.grades ++ [gr]).length ≤ 4; rw [List.length_append]; simp; omega }
theorem Rep.pushM (R : Rep CW CT H p k b a) {z : Addr} {r : List Int} (h3 : a.machines.length ≠ 3) (hr : r.length = 12 ∧ ∀ x ∈ r, -2000 ≤ x ∧ x ≤ 2000) (hl : H' k.m = some (.lst (k.ma.map V.ref ++ [V.ref z]))) (kp : ∀ b o, H b = some o → b ≠ k.m → H' b = some o) (hz : At H z r) :
    Rep CW CT H' p { k with ma := k.ma ++ [z] } b { a with machines := a.machines ++ [r] } := by
  obtain ⟨n1, n2, n3, n4, n5, n6⟩ := nd4 R.nd
  have hzg : z ≠ k.m := at_ne R.ml.lst hz (by intro e; rw [e] at hr; exact absurd hr.1 (by decide))
  refine ⟨kp _ _ R.ins (li_ne R.ins R.ml.lst).symm, R.gl.keepL R.ml.lst R.gne n1 kp, R.ml.push' hl kp (kp _ _ hz hzg) hzg, R.wl.keepL R.ml.lst R.wne n5.symm kp, kp _ _ R.tl n4.symm, R.tlen, R.tatL R.ml.lst kp, R.nd, R.tnd, ?_⟩
  have := R.ok.m3
  exact { R.ok with
    m3 := by show (a.machines ++ [r]).length ≤ 3; rw [List.length_append]; simp; omega
    mach := fun x hx => by
      rcases List.mem_append.mp hx with h | h
      · exact R.ok.mach x h
      · rw [List.mem_singleton.mp h]; exact hr }
theorem Rep.pushW (R : Rep CW CT H p k b a) {z : Addr} {r : List Int} (h3 : a.wheels.length ≠ 10) (hr : r.length = 12) (hl : H' k.w = some (.lst (k.wa.map V.ref ++ [V.ref z]))) (kp : ∀ b o, H b = some o → b ≠ k.w → H' b = some o) (hz : At H z r) :
    Rep CW CT H' p { k with wa := k.wa ++ [z] } b { a with wheels := a.wheels ++ [r] } := by
  obtain ⟨n1, n2, n3, n4, n5, n6⟩ := nd4 R.nd
  have hzg : z ≠ k.w := at_ne R.wl.lst hz (by intro e; rw [e] at hr; cases hr)
  refine ⟨kp _ _ R.ins (li_ne R.ins R.wl.lst).symm, R.gl.keepL R.wl.lst R.gne n3 kp, R.ml.keepL R.wl.lst R.mne n5 kp, R.wl.push' hl kp (kp _ _ hz hzg) hzg, kp _ _ R.tl n6, R.tlen, R.tatL R.wl.lst kp, R.nd, R.tnd, ?_⟩
  have := R.ok.w10
  exact { R.ok with
    w10 := by show (a.wheels ++ [r]).length ≤ 10; rw [List.length_append]; simp; omega
    wheel := fun x hx => by
      rcases List.mem_append.mp hx with h | h
      · exact R.ok.wheel x h
      · rw [List.mem_singleton.mp h]; exact hr }
theorem Rep.pushT (R : Rep CW CT H p k b a) {z dt ra : Addr} {ty : Su68.Tyre} (h3 : a.tyres.length ≠ 60) (hr : Row ty.at_ ∧ ty.mould < 8) (hl : H' k.t = some (.lst (k.ta.map V.ref ++ [V.ref z]))) (kp : ∀ b o, H b = some o → b ≠ k.t → H' b = some o)
    (hz : H z = some (.ins CT dt (tf (ty.mould : Int) ra))) (hra : At H ra ty.at_) (hnew : z ∉ k.ta) : Rep CW CT H' p { k with ta := k.ta ++ [z] } b { a with tyres := a.tyres ++ [ty] } := by
  obtain ⟨n1, n2, n3, n4, n5, n6⟩ := nd4 R.nd
  have e12 := hr.1.1
  refine ⟨kp _ _ R.ins (li_ne R.ins R.tl).symm, R.gl.keepL R.tl R.gne n2 kp, R.ml.keepL R.tl R.mne n4 kp, R.wl.keepL R.tl R.wne n6.symm kp, by rw [hl]; show _ = some (HO.lst ((k.ta ++ [z]).map V.ref)); rw [List.map_append]; rfl, ?_, fun j c e => ?_, R.nd, nd_snoc R.tnd hnew, ?_⟩
  · show (k.ta ++ [z]).length = (a.tyres ++ [ty]).length
    rw [List.length_append, List.length_append, R.tlen]; rfl
  · have e : (k.ta ++ [z])[j]? = some c := e
    show ∃ dt ra ty', (a.tyres ++ [ty])[j]? = some ty' ∧ _
    by_cases hj : j < k.ta.length
    · rw [List.getElem?_append_left hj] at e
      obtain ⟨dt, ra, ty', e1, e2, e3⟩ := R.tatL R.tl kp j c e
      exact ⟨dt, ra, ty', by rw [List.getElem?_append_left (by rw [← R.tlen]; exact hj)]; exact e1, e2, e3⟩
    · rw [List.getElem?_append_right (by omega)] at e
      have ej : j = k.ta.length := by
        have := (List.getElem?_eq_some_iff.mp e).1
        simp at this
        omega
      subst ej
      simp at e
      subst e
      exact ⟨dt, ra, ty, by rw [R.tlen]; simp, kp _ _ hz (li_ne hz R.tl).symm, kp _ _ hra (at_ne R.tl hra (by intro z; rw [z] at e12; cases e12))⟩
  · have := R.ok.t60
    exact { R.ok with
      t60 := by show (a.tyres ++ [ty]).length ≤ 60; rw [List.length_append]; simp; omega
      tyre := fun x hx => by
        rcases List.mem_append.mp hx with h | h
        · exact R.ok.tyre x h
        · rw [List.mem_singleton.mp h]; exact hr }
/-- a tyre has another row -/
theorem Rep.setT (R : Rep CW CT H p k b a) {j : Nat} {c dt ra' : Addr} {r : List Int} (hc : k.ta[j]? = some c) (hH : H' c = some (.ins CT dt (tf ((a.tyre j).mould : Int) ra'))) (kp : ∀ b o, H b = some o → b ≠ c → H' b = some o) (hr : Row r) (hra : At H' ra' r) :
    Rep CW CT H' p k b { a with tyres := a.tyres.modify j fun x => { x with at_ := r } } := by
  obtain ⟨dt0, ra0, ty0, f1, f2, f3⟩ := R.tat j c hc
  have ety : a.tyre j = ty0 := by unfold Su68.Abs.tyre; rw [List.getD_eq_getElem?_getD, f1]; rfl
  have hpc : p ≠ c := fun e => by
    have h := (e ▸ R.ins).symm.trans f2
    injection h with h
    injection h with _ _ h
    cases h
  refine ⟨kp _ _ R.ins hpc, R.gl.keepI f2 kp, R.ml.keepI f2 kp, R.wl.keepI f2 kp, kp _ _ R.tl (li_ne f2 R.tl), by rw [R.tlen]; simp, fun i d e => ?_, R.nd, R.tnd, ?_⟩
  · show ∃ dt ra ty', (a.tyres.modify j _)[i]? = some ty' ∧ _
    by_cases hij : j = i
    · subst hij
      rw [hc] at e
      cases e
      rw [mod_at f1, if_pos rfl]
      refine ⟨dt, ra', _, rfl, ?_, hra⟩
      rw [ety] at hH
      exact hH
    · obtain ⟨dt, ra, ty', e1, e2, e3⟩ := R.tat i d e
      rw [mod_at e1, if_neg hij]
      have hdc : d ≠ c := fun z => hij (nd_ix R.tnd hc (z ▸ e))
      exact ⟨dt, ra, ty', rfl, kp _ _ e2 hdc, kp _ _ e3 (at_ni f2 e3)⟩
  · exact { R.ok with
      t60 := by show (a.tyres.modify j _).length ≤ 60; rw [List.length_modify]; exact R.ok.t60
      tyre := fun x hx => by
        obtain ⟨i, hi⟩ := List.mem_iff_getElem?.mp hx
        have hi : (a.tyres.modify j fun x => { x with at_ := r })[i]? = some x := hi
        cases ei : a.tyres[i]? with
        | none => rw [List.getElem?_modify, ei] at hi; cases hi
        | some y =>
          rw [mod_at ei] at hi
          have hy := R.ok.tyre y (List.mem_of_getElem? ei)
          by_cases hij : j = i
          · rw [if_pos hij] at hi
            cases hi
            exact ⟨hr, hy.2⟩
          · rw [if_neg hij] at hi
            cases hi
            exact hy }
/-- an address whose list the works read but do not change -/
def Elt (CT : Addr) (H : Hp) (k : Wk) (x : Addr) : Prop := x ∈ k.ga ∨ x ∈ k.ma ∨ x ∈ k.wa ∨ ∃ c dt m, c ∈ k.ta ∧ H c = some (.ins CT dt (tf m x))
/-- what is new in the works was new in the heap, or is one of the two lists handed in -/
structure Fresh (CT : Addr) (H : Hp) (p : Addr) (k : Wk) (n tl : Addr) (H' : Hp) (k' : Wk) : Prop where
  own : ∀ b, b ∈ k'.own p → b ∈ k.own p ∨ H b = Option.none
  elt : ∀ x, Elt CT H' k' x → Elt CT H k x ∨ x = n ∨ x = tl ∨ H x = Option.none
theorem Rep.ta_some (R : Rep CW CT H p k b a) {c : Addr} (h : c ∈ k.ta) : ∃ o, H c = some o := by
  obtain ⟨i, hi⟩ := List.mem_iff_getElem?.mp h
  obtain ⟨dt, ra, ty, _, e, _⟩ := R.tat i c hi
  exact ⟨_, e⟩
theorem Fresh.mk' {n tl : Addr} {k' : Wk} (hown : ∀ b, b ∈ k'.own p → b ∈ k.own p ∨ H b = Option.none) (hg : ∀ x, x ∈ k'.ga → x ∈ k.ga ∨ x = n ∨ x = tl ∨ H x = Option.none) (hm : ∀ x, x ∈ k'.ma → x ∈ k.ma ∨ x = n ∨ x = tl ∨ H x = Option.none) (hw : ∀ x, x ∈ k'.wa → x ∈ k.wa ∨ x = n ∨ x = tl ∨ H x = Option.none)
    (ht : ∀ c, c ∈ k'.ta → (c ∈ k.ta ∧ H' c = H c) ∨ ∀ dt m x, H' c = some (.ins CT dt (tf m x)) → x = n ∨ x = tl ∨ H x = Option.none) : Fresh CT H p k n tl H' k' := by
  refine ⟨hown, fun x hx => ?_⟩
  rcases hx with h | h | h | ⟨c, dt, m, h1, h2⟩
  · rcases hg x h with z | z
    · exact .inl (.inl z)
    · exact .inr z
  · rcases hm x h with z | z
    · exact .inl (.inr (.inl z))
    · exact .inr z
  · rcases hw x h with z | z
    · exact .inl (.inr (.inr (.inl z)))
    · exact .inr z
  · rcases ht c h1 with ⟨z1, z2⟩ | z
    · exact .inl (.inr (.inr (.inr ⟨c, dt, m, z1, z2 ▸ h2⟩)))
    · exact .inr (z dt m x h2)
theorem Rep.keptT (R : Rep CW CT H p k b a) (kp : ∀ c o, c ∈ k.ta → H c = some o → H' c = some o) : ∀ c, c ∈ k.ta → H' c = H c := fun c hc => by
  obtain ⟨o, e⟩ := R.ta_some hc
  rw [e]; exact kp c o hc e
theorem Fresh.same {n tl : Addr} (R : Rep CW CT H p k b a) (s : Same H H') : Fresh CT H p k n tl H' k :=
  Fresh.mk' (fun _ h => .inl h) (fun _ h => .inl h) (fun _ h => .inl h) (fun _ h => .inl h) fun c hc => .inl ⟨hc, R.keptT (fun c o _ e => s c o e) c hc⟩
theorem Rep.ta_lst (R : Rep CW CT H p k b a) {c l : Addr} {ys : List V} (h : c ∈ k.ta) (hl : H l = some (.lst ys)) : c ≠ l := by
  obtain ⟨i, hi⟩ := List.mem_iff_getElem?.mp h
  obtain ⟨dt, ra, ty, _, e, _⟩ := R.tat i c hi
  exact (li_ne e hl).symm
end
end
end Ty

end
section
set_option Elab.async false
set_option linter.all false
set_option maxRecDepth 100000
set_option maxHeartbeats 2000000
namespace Ty
open PySem PySem.Spec PyProof.Rows L2
section
variable {P : Program} {w : World} {K : PySem.W.Frag} {mg : Str → Option Value} {base : Heap}
variable {CW CT : Addr}
/-- a call's def: the works, its numbers, its list; what is due comes out -/
def spDo (CW CT : Addr) (ok : Su68.Abs → List Nat → List Nat → Prop) (c : List Nat → List Nat → Su68.Call) : Sp := fun vs H Q _ => ∃ p n tl ns told k a, vs = [.ref p, .ref n, .ref tl] ∧ Rep CW CT H p k true a ∧ At H n (Su68.ints ns) ∧ At H tl (Su68.ints told) ∧ ok a ns told ∧
  ∀ H' q k', Rep CW CT H' p k' true (Su68.does a (c ns told)).1 → Keeps (k.own p) H H' → Fresh CT H p k n tl H' k' → H q = Option.none → At H' q (ans (Su68.does a (c ns told)).2) → Q (.ref q) H'
theorem ro {H : Hp} {Q : VK} {p n tl : Addr} {k : Wk} {a : Su68.Abs} {c : Su68.Call} (R : Rep CW CT H p k true a) 
    (post : ∀ H' q k', Rep CW CT H' p k' true (Su68.does a c).1 → Keeps (k.own p) H H' → Fresh CT H p k n tl H' k' → H q = Option.none → At H' q (ans (Su68.does a c).2) → Q (.ref q) H')
    (x : Su68.Ans) (hd : Su68.does a c = (a, x)) {H' : Hp} {q : Addr} (s : Same H H') (q0 : H q = Option.none) (hq : At H' q (ans x)) : Q (.ref q) H' :=
  post H' q k (by rw [hd]; exact R.same s) (fun b o e _ => s b o e) (Fresh.same R s) q0 (by rw [hd]; exact hq)
theorem own_p {k : Wk} {p : Addr} : p ∈ k.own p := List.mem_cons_self
theorem own_g {k : Wk} {p : Addr} : k.g ∈ k.own p := by simp [Wk.own]
theorem own_m {k : Wk} {p : Addr} : k.m ∈ k.own p := by simp [Wk.own]
theorem own_t {k : Wk} {p : Addr} : k.t ∈ k.own p := by simp [Wk.own]
theorem own_w {k : Wk} {p : Addr} : k.w ∈ k.own p := by simp [Wk.own]
theorem own_ta {k : Wk} {p c : Addr} {j : Nat} (h : k.ta[j]? = some c) : c ∈ k.own p := by
  have := List.mem_of_getElem? h
  simp [Wk.own, this]
theorem Keeps.of {own : List Addr} {H H' : Hp} {x : Addr} (kp : ∀ b o, H b = some o → b ≠ x → H' b = some o) (h : x ∈ own) : Keeps own H H' := fun b o e hb => kp b o e fun z => hb (z ▸ h)
theorem meas_is (l : List Nat) (n : Nat) : meas (Su68.ints l) n = (decide (l.length = n) && l.all fun x => decide (x ≤ 2000)) := by
  unfold meas Su68.ints
  rw [List.length_map, List.all_map]
  congr 2
  funext x
  show decide ((x : Int) ≤ 2000) = decide (x ≤ 2000)
  exact decide_eq_decide.mpr (by omega)
theorem meas_ok (l : List Nat) : meas (Su68.ints l) 12 = Su68.okAll l := by
  rw [meas_is]
  unfold Su68.okAll Su68.POINTS Su68.HIGH
  congr 1
theorem ints_len (l : List Nat) : (Su68.ints l).length = l.length := List.length_map ..
theorem ok_row {l : List Nat} (h : Su68.okAll l = true) : l.length = 12 ∧ ∀ x ∈ Su68.ints l, 0 ≤ x ∧ x ≤ 2000 := by
  rw [← meas_ok, meas_is, Bool.and_eq_true, decide_eq_true_eq, List.all_eq_true] at h
  refine ⟨h.1, fun x hx => ?_⟩
  obtain ⟨n, hn, rfl⟩ := List.mem_map.mp hx
  have := of_decide_eq_true (h.2 n hn)
  exact ⟨Int.natCast_nonneg n, by show (n : Int) ≤ 2000; omega⟩
theorem Row.plus {r s : List Int} (h1 : r.length = 12) (h2 : s.length = 12) (hr : ∀ x ∈ r, 0 ≤ x ∧ x ≤ 2000) (hs : ∀ x ∈ s, -2000 ≤ x ∧ x ≤ 2000) : Row (Su68.plus r s) := by
  refine ⟨len_plus r s, fun x hx => ?_⟩
  obtain ⟨i, hi, e⟩ := List.mem_map.mp hx
  have h3 := hr _ (at_mem h1 i)
  have h4 := hs _ (at_mem h2 i)
  rw [← e]
  omega
theorem Rep.mach {H : Hp} {p : Addr} {k : Wk} {b : Bool} {a : Su68.Abs} (R : Rep CW CT H p k b a) {j : Nat} (h : j < a.machines.length) : (a.machines.getD j []).length = 12 ∧ ∀ x ∈ a.machines.getD j [], -2000 ≤ x ∧ x ≤ 2000 := by
  rw [List.getD_eq_getElem?_getD, List.getElem?_eq_getElem h]
  exact R.ok.mach _ (List.getElem_mem h)
def spBG (CW CT : Addr) : Sp := fun vs H Q _ => ∃ p n tl k b a, vs = [.ref p, .ref n, .ref tl] ∧ Rep CW CT H p k b a ∧
  ∀ H' q k', Rep CW CT H' p k' true Su68.empty → Keeps (k.own p) H H' → Fresh CT H p k n tl H' k' → H q = Option.none → At H' q [0] → Q (.ref q) H'
abbrev s_begin : Stmt := top 53
theorem sc_begin : FnScope ["works", "numbers", "told"] ["works", "numbers", "told"] (defScope s_begin) := ⟨rfl, rfl, rfl, by decide +kernel, rfl, by decide +kernel, by decide +kernel⟩
theorem ok_begin (D : Def K mg "begin" s_begin) {fE : Addr} {fdE : FuncData} (T : Txt2 K mg CW CT) (Eo : FnOk P w K mg base CX0 1 fE fdE ["self"] (spEO CW)) (bE : Binds K fdE ["self"] []) (mE : Meth K CW "empty_out" fE) : FnAt P w K mg base 2 "begin" ["works", "numbers", "told"] (spBG CW CT) := by
  obtain ⟨f, fd, hm, F⟩ := D
  refine ⟨f, fd, hm, F.kp, F.binds (ps := ["works", "numbers", "told"]) (fun _ _ _ _ _ _ us hl => match us, hl with | [_, _, _], _ => rfl), F.ok sc_begin (fun vs H Q E h => ?_) (fun cdv A outer s H vs Q E hr h => ?_)⟩
  · obtain ⟨p, n, tl, k, b, a, rfl, _⟩ := h; rfl
  · obtain ⟨p, n, tl, k, b, a, rfl, R, post⟩ := h
    refine ⟨_, (pss_cons (ps_fld (pv 0) pe_bl rfl) (pss_cons (ps_expr (pe_meth0 (pv 0) T.clW mE Eo hr bE .nil pass0)) (pss_one (ps_ret (pe_lst (pa_cons pe_int pa_nil)))))), ?_⟩
    refine ⟨_, rfl, p, CW, k.dx, _, rfl, R.ins, T.clW, T.nb, (by show 5 < 1000; decide), ?_⟩
    rw [wf_put]
    refine ⟨_, rfl, p, k.dx, _, rfl, upd_same, wf_no .., p, k.dx, _, true, rfl, upd_same, .inr ⟨_, _, _, _, rfl⟩, fun H' g m t w h1 h2 h3 h4 h5 h6 h7 h8 => ⟨line (by simp), fun z hz => ?_⟩⟩
    have fr : ∀ {x : Addr}, upd H p (.ins CW k.dx (wf true k.g k.m k.t k.w)) x = none → H x = none := fun {x} e => by
      by_cases hx : x = p
      · rw [hx, upd_same] at e; cases e
      · rw [upd_ne hx] at e; exact e
    have s : Same H' (upd H' z (.lst [V.int 0])) := Same.new hz
    have hz0 : H z = Option.none := by
      cases e : H z with
      | none => rfl
      | some o =>
        exfalso
        by_cases ez : z = p
        · rw [ez, h1] at hz; cases hz
        · rw [h8 z o (by rw [upd_ne ez]; exact e) ez] at hz; cases hz
    refine post _ z ⟨k.dx, g, m, t, w, [], [], [], []⟩ ⟨s _ _ h1, ⟨s _ _ h2, rfl, fun j b e => by simp at e⟩, ⟨s _ _ h3, rfl, fun j b e => by simp at e⟩, ⟨s _ _ h5, rfl, fun j b e => by simp at e⟩, s _ _ h4, rfl, fun j c e => by simp at e, h6, List.nodup_nil, ?_⟩ ?_ ?_ hz0 upd_same
    · exact ⟨by decide, by decide, by decide, by decide, fun r hr => absurd hr (by simp [Su68.empty]), fun r hr => absurd hr (by simp [Su68.empty]), fun r hr => absurd hr (by simp [Su68.empty])⟩
    · intro b o e hb
      have hbp : b ≠ p := fun z => hb (by rw [z]; exact own_p)
      exact s _ _ (h8 b o (by rw [upd_ne hbp]; exact e) hbp)
    · refine Fresh.mk' (fun b hb => ?_) (fun x hx => absurd hx (by simp)) (fun x hx => absurd hx (by simp)) (fun x hx => absurd hx (by simp)) (fun x hx => absurd hx (by simp))
      have hb : b = p ∨ b = g ∨ b = m ∨ b = t ∨ b = w := by simpa [Wk.own] using hb
      rcases hb with e | e | e | e | e
      · exact .inl (e ▸ own_p)
      · exact .inr (e ▸ fr h7.1)
      · exact .inr (e ▸ fr h7.2.1)
      · exact .inr (e ▸ fr h7.2.2.1)
      · exact .inr (e ▸ fr h7.2.2.2)
abbrev s_add_grade : Stmt := top 54
theorem sc_add_grade : FnScope ["works", "numbers", "told"] ["works", "numbers", "told"] (defScope s_add_grade) := ⟨rfl, rfl, rfl, by decide +kernel, rfl, by decide +kernel, by decide +kernel⟩
theorem ok_add_grade (D : Def K mg "add_grade" s_add_grade) (T : Txt2 K mg CW CT) (Om : FnAt P w K mg base 1 "one_more" ["kept", "limit", "thing"] spOM) : FnAt P w K mg base 2 "add_grade" ["works", "numbers", "told"] (spDo CW CT (fun _ ns _ => ns.length = 3) (fun ns _ => .grade (ns.getD 0 0) (ns.getD 1 0) (ns.getD 2 0))) := by
  obtain ⟨f, fd, hm, F⟩ := D
  refine ⟨f, fd, hm, F.kp, F.binds (ps := ["works", "numbers", "told"]) (fun _ _ _ _ _ _ us hl => match us, hl with | [_, _, _], _ => rfl), F.ok sc_add_grade (fun vs H Q E h => ?_) (fun cdv A outer s H vs Q E hr h => ?_)⟩
  · obtain ⟨p, n, tl, ns, told, k, a, rfl, _⟩ := h; rfl
  · obtain ⟨p, n, tl, ns, told, k, a, rfl, R, hn, ht, h3, post⟩ := h
    refine ⟨_, (pss_cons (ps_if (pt_cmpR op_gt (pe_callB (cr_max rfl) (by rfl) T.max boot_max (pa_cons (pv 1) pa_nil)) (pg T.MOST) (nomark _)) (pss_one (ps_ret (pe_lst (pa_cons (pg T.OUT_OF_RANGE) pa_nil)))) pss_nil) (pss_one (ps_ret (pf Om (hr.mono (by decide)) (pa_cons (pe_fld (pv 0) rfl) (pa_cons (pg T.MOST_GRADES) (pa_cons (pv 1) pa_nil))))))), ?_⟩
    match ns, h3 with
    | [x, y, z], _ =>
    have post := post
    refine ⟨_, rfl, n, Su68.ints [x, y, z], rfl, SqL.of hn, by simp [Su68.ints], fun m m1 m2 => ⟨_, _, rfl, rfl, _, rfl, ?_⟩⟩
    have b1 := m2 (x : Int) (by simp [Su68.ints])
    have b2 := m2 (y : Int) (by simp [Su68.ints])
    have b3 := m2 (z : Int) (by simp [Su68.ints])
    have m1 : m = (x : Int) ∨ m = (y : Int) ∨ m = (z : Int) := by simpa [Su68.ints] using m1
    refine ite2 (fun h => ?_) (fun h => ?_)
    · have h := of_decide_eq_true h
      refine ⟨line (by simp), fun q hq => ro R post (Su68.no (-22)) ?_ (Same.new hq) hq upd_same⟩
      show (if 2000 < x ∨ 2000 < y ∨ 2000 < z then (a, Su68.no (-22)) else _) = _
      rw [if_pos (by omega)]
    · have h : ¬ (2000 : Int) < m := fun e => h (decide_eq_true e)
      have hd : Su68.does a (.grade x y z) = (if 4 ≤ a.grades.length then (a, Su68.no (-28)) else ({ a with grades := a.grades ++ [⟨x, y, z⟩] }, Su68.num a.grades.length [])) := by
        show (if 2000 < x ∨ 2000 < y ∨ 2000 < z then (a, Su68.no (-22)) else _) = _
        rw [if_neg (by omega)]
        rfl
      have hlen : (k.ga.map V.ref).length = a.grades.length := by rw [List.length_map, R.gl.len, List.length_map]
      refine ⟨_, rfl, p, CW, k.dx, _, _, rfl, R.ins, T.clW, T.ng, wf_grades .., _, rfl, k.g, k.ga.map V.ref, 4, V.ref n, rfl, R.gl.lst, by rw [hlen]; have := R.ok.g4; omega, fun e H' q s q0 hq => ?_, fun e H' q h1 kp q0 hq => ?_⟩
      · rw [hlen] at e
        refine ro R post (Su68.no (-28)) ?_ s q0 hq
        exact hd.trans (if_pos (by omega))
      · rw [hlen] at e hq
        have := R.ok.g4
        have hd2 := hd.trans (if_neg (by omega))
        have R' := R.pushG (gr := ⟨x, y, z⟩) e h1 kp hn
        refine post H' q { k with ga := k.ga ++ [n] } ?_ (Keeps.of kp own_g) (Fresh.mk' (fun b hb => .inl hb) (fun x hx => (List.mem_append.mp hx).imp id fun h => .inl (List.mem_singleton.mp h)) (fun _ h => .inl h) (fun _ h => .inl h) fun c hc => .inl ⟨hc, R.keptT (fun c o h e => kp c o e (R.ta_lst h R.gl.lst)) c hc⟩) q0 ?_
        · show Rep CW CT H' p _ true (Su68.does a (.grade x y z)).1
          rw [hd2]; exact R'
        · show At H' q (ans (Su68.does a (.grade x y z)).2)
          rw [hd2]; exact hq
abbrev s_add_wheel : Stmt := top 59
theorem sc_add_wheel : FnScope ["works", "numbers", "told"] ["works", "numbers", "told"] (defScope s_add_wheel) := ⟨rfl, rfl, rfl, by decide +kernel, rfl, by decide +kernel, by decide +kernel⟩
theorem ok_add_wheel (D : Def K mg "add_wheel" s_add_wheel) (T : Txt2 K mg CW CT) (Am : FnAt P w K mg base 1 "are_measured" ["told", "size"] spAM) (Om : FnAt P w K mg base 1 "one_more" ["kept", "limit", "thing"] spOM) : FnAt P w K mg base 2 "add_wheel" ["works", "numbers", "told"] (spDo CW CT (fun _ _ _ => True) (fun _ told => .wheel told)) := by
  obtain ⟨f, fd, hm, F⟩ := D
  refine ⟨f, fd, hm, F.kp, F.binds (ps := ["works", "numbers", "told"]) (fun _ _ _ _ _ _ us hl => match us, hl with | [_, _, _], _ => rfl), F.ok sc_add_wheel (fun vs H Q E h => ?_) (fun cdv A outer s H vs Q E hr h => ?_)⟩
  · obtain ⟨p, n, tl, ns, told, k, a, rfl, _⟩ := h; rfl
  · obtain ⟨p, n, tl, ns, told, k, a, rfl, R, hn, ht, _, post⟩ := h
    refine ⟨_, (pss_cons (ps_if (pt_not (pt_val (pf Am (hr.mono (by decide)) (pa_cons (pv 2) (pa_cons (pg T.POINTS) pa_nil))))) (pss_one (ps_ret (pe_lst (pa_cons (pg T.OUT_OF_RANGE) pa_nil)))) pss_nil) (pss_one (ps_ret (pf Om (hr.mono (by decide)) (pa_cons (pe_fld (pv 0) rfl) (pa_cons (pg T.MOST_WHEELS) (pa_cons (pv 2) pa_nil))))))), ?_⟩
    refine ⟨_, rfl, tl, Su68.ints told, 12, rfl, ht, by decide, _, rfl, ?_⟩
    rw [meas_ok]
    cases hok : Su68.okAll told with
    | false =>
      refine iteT ⟨line (by simp), fun q hq => ro R post (Su68.no (-22)) ?_ (Same.new hq) hq upd_same⟩
      show (if Su68.okAll told = false then (a, Su68.no (-22)) else _) = _
      rw [if_pos hok]
    | true =>
      have h12 := (ok_row hok).1
      have hd : Su68.does a (.wheel told) = (if 10 ≤ a.wheels.length then (a, Su68.no (-28)) else ({ a with wheels := a.wheels ++ [Su68.ints told] }, Su68.num a.wheels.length [])) := by
        show (if Su68.okAll told = false then (a, Su68.no (-22)) else _) = _
        rw [if_neg (by rw [hok]; decide)]
        rfl
      have hlen : (k.wa.map V.ref).length = a.wheels.length := by rw [List.length_map, R.wl.len]
      refine iteF ⟨_, rfl, p, CW, k.dx, _, _, rfl, R.ins, T.clW, T.nw, wf_wheels .., _, rfl, k.w, k.wa.map V.ref, 10, V.ref tl, rfl, R.wl.lst, by rw [hlen]; have := R.ok.w10; omega, fun e H' q s q0 hq => ?_, fun e H' q h1 kp q0 hq => ?_⟩
      · rw [hlen] at e
        exact ro R post (Su68.no (-28)) (hd.trans (if_pos (by omega))) s q0 hq
      · rw [hlen] at e hq
        have := R.ok.w10
        have hd2 := hd.trans (if_neg (by omega))
        have R' := R.pushW (r := Su68.ints told) e (by rw [ints_len]; exact h12) h1 kp ht
        refine post H' q { k with wa := k.wa ++ [tl] } ?_ (Keeps.of kp own_w) (Fresh.mk' (fun b hb => .inl hb) (fun _ h => .inl h) (fun _ h => .inl h) (fun x hx => (List.mem_append.mp hx).imp id fun h => .inr (.inl (List.mem_singleton.mp h))) fun c hc => .inl ⟨hc, R.keptT (fun c o h e => kp c o e (R.ta_lst h R.wl.lst)) c hc⟩) q0 ?_
        · rw [hd2]; exact R'
        · rw [hd2]; exact hq
theorem minus_is {l : List Nat} (h : l.length = 24) : minus ((Su68.ints l).take 12) ((Su68.ints l).drop 12) = (List.range Su68.POINTS).map fun i => (l.getD i 0 : Int) - (l.getD (Su68.POINTS + i) 0 : Int) := by
  unfold minus Su68.POINTS
  refine List.map_congr_left fun i hi => ?_
  have hi := List.mem_range.mp hi
  have e1 : Su68.at_ ((Su68.ints l).take 12) i = (l.getD i 0 : Int) := by
    have := at_get (r := (Su68.ints l).take 12) (by rw [List.length_take, ints_len, h]; rfl) hi
    rw [List.getElem?_take, if_pos hi] at this
    unfold Su68.ints at this
    rw [List.getElem?_map, List.getElem?_eq_getElem (by omega)] at this
    rw [List.getD_eq_getElem?_getD, List.getElem?_eq_getElem (by omega)]
    exact (Option.some.inj this).symm
  have e2 : Su68.at_ ((Su68.ints l).drop 12) i = (l.getD (12 + i) 0 : Int) := by
    have := at_get (r := (Su68.ints l).drop 12) (by rw [List.length_drop, ints_len, h]) hi
    rw [List.getElem?_drop] at this
    unfold Su68.ints at this
    rw [List.getElem?_map, List.getElem?_eq_getElem (by omega)] at this
    rw [List.getD_eq_getElem?_getD, List.getElem?_eq_getElem (by omega)]
    exact (Option.some.inj this).symm
  rw [e1, e2]
abbrev s_add_machine : Stmt := top 55
theorem sc_add_machine : FnScope ["works", "numbers", "told", "correction"] ["works", "numbers", "told"] (defScope s_add_machine) := ⟨rfl, rfl, rfl, by decide +kernel, rfl, by decide +kernel, by decide +kernel⟩
theorem ok_add_machine (D : Def K mg "add_machine" s_add_machine) (T : Txt2 K mg CW CT) (Am : FnAt P w K mg base 1 "are_measured" ["told", "size"] spAM) (Om : FnAt P w K mg base 1 "one_more" ["kept", "limit", "thing"] spOM) (To : FnAt P w K mg base 1 "taken_off" ["row", "other"] (spRRR (fun r s => r.length = 12 ∧ s.length = 12) minus)) : FnAt P w K mg base 2 "add_machine" ["works", "numbers", "told"] (spDo CW CT (fun _ _ _ => True) (fun _ told => .machine told)) := by
  obtain ⟨f, fd, hm, F⟩ := D
  refine ⟨f, fd, hm, F.kp, F.binds (ps := ["works", "numbers", "told"]) (fun _ _ _ _ _ _ us hl => match us, hl with | [_, _, _], _ => rfl), F.ok sc_add_machine (fun vs H Q E h => ?_) (fun cdv A outer s H vs Q E hr h => ?_)⟩
  · obtain ⟨p, n, tl, ns, told, k, a, rfl, _⟩ := h; rfl
  · obtain ⟨p, n, tl, ns, told, k, a, rfl, R, hn, ht, _, post⟩ := h
    refine ⟨_, (pss_cons (ps_if (pt_not (pt_val (pf Am (hr.mono (by decide)) (pa_cons (pv 2) (pa_cons (pe_op op_mul pe_int (pg T.POINTS)) pa_nil))))) (pss_one (ps_ret (pe_lst (pa_cons (pg T.OUT_OF_RANGE) pa_nil)))) pss_nil) (pss_cons (ps_set (i := 3) sc_add_machine.nd rfl (by first | exact Or.inl rfl | exact Or.inr rfl) (pf To (hr.mono (by decide)) (pa_cons (pe_slice sl_list (pv 2) po_none (po_some (pg T.POINTS))) (pa_cons (pe_slice sl_list (pv 2) (po_some (pg T.POINTS)) po_none) pa_nil)))) (pss_one (ps_ret (pf Om (hr.mono (by decide)) (pa_cons (pe_fld (pv 0) rfl) (pa_cons (pg T.MOST_MACHINES) (pa_cons (pv 3) pa_nil)))))))), ?_⟩
    refine ⟨_, rfl, _, _, rfl, rfl, .inl ⟨by decide, by decide⟩, tl, Su68.ints told, 24, rfl, ht, by decide, _, rfl, ?_⟩
    cases hok : meas (Su68.ints told) 24 with
    | false =>
      refine iteT ⟨line (by simp), fun q hq => ro R post (Su68.no (-22)) ?_ (Same.new hq) hq upd_same⟩
      show (if told.length ≠ 24 ∨ told.any (fun x => decide (2000 < x)) = true then (a, Su68.no (-22)) else _) = _
      rw [if_pos]
      rw [meas_is] at hok
      by_cases h : told.length = 24
      · right
        rw [decide_eq_true h, Bool.true_and, List.all_eq_false] at hok
        obtain ⟨x, hx, hx2⟩ := hok
        exact List.any_eq_true.mpr ⟨x, hx, decide_eq_true (by have : ¬ x ≤ 2000 := fun e => hx2 (decide_eq_true e); omega)⟩
      · exact .inl h
    | true =>
      rw [meas_is, Bool.and_eq_true, decide_eq_true_eq, List.all_eq_true] at hok
      obtain ⟨h24, hall⟩ := hok
      have hd : Su68.does a (.machine told) = (if 3 ≤ a.machines.length then (a, Su68.no (-28)) else ({ a with machines := a.machines ++ [minus ((Su68.ints told).take 12) ((Su68.ints told).drop 12)] }, Su68.num a.machines.length [])) := by
        show (if told.length ≠ 24 ∨ told.any (fun x => decide (2000 < x)) = true then (a, Su68.no (-22)) else _) = _
        rw [if_neg, minus_is h24]
        · rfl
        · intro h
          rcases h with h | h
          · exact h h24
          · obtain ⟨x, hx, hx2⟩ := List.any_eq_true.mp h
            have := of_decide_eq_true hx2
            have := of_decide_eq_true (hall x hx)
            omega
      have hlen : (k.ma.map V.ref).length = a.machines.length := by rw [List.length_map, R.ml.len]
      have l24 : (Su68.ints told).length = 24 := by rw [ints_len]; exact h24
      have ct : cutV (vi (Su68.ints told)) none (some 12) = vi ((Su68.ints told).take 12) := cut_to (k := 12) (by omega)
      have cf : cutV (vi (Su68.ints told)) (some 12) none = vi ((Su68.ints told).drop 12) := cut_from (k := 12) (by omega)
      refine iteF ⟨_, rfl, _, rfl, tl, _, rfl, SqL.of ht, fun c hc => ⟨_, rfl, _, rfl, tl, _, rfl, SqL.of (Same.new hc _ _ ht), fun d hd' => ?_⟩⟩
      rw [ct, cf] at *
      have s1 : Same H (upd H c (.lst (vi ((Su68.ints told).take 12)))) := Same.new hc
      have s2 := s1.trans (Same.new (o := .lst (vi ((Su68.ints told).drop 12))) hd')
      refine ⟨c, d, (Su68.ints told).take 12, (Su68.ints told).drop 12, rfl, Same.new hd' _ _ upd_same, upd_same, ⟨by rw [List.length_take, l24]; rfl, by rw [List.length_drop, l24]⟩, fun H3 e s3 he0 he => ?_⟩
      have s4 := s2.trans s3
      have R4 := R.same s4
      have hrow : (minus ((Su68.ints told).take 12) ((Su68.ints told).drop 12)).length = 12 ∧ ∀ x ∈ minus ((Su68.ints told).take 12) ((Su68.ints told).drop 12), -2000 ≤ x ∧ x ≤ 2000 := by
        refine ⟨by simp [minus], fun x hx => ?_⟩
        obtain ⟨i, hi, e⟩ := List.mem_map.mp hx
        have g : ∀ y ∈ Su68.ints told, 0 ≤ y ∧ y ≤ 2000 := fun y hy => by
          obtain ⟨n, hn, rfl⟩ := List.mem_map.mp hy
          have := of_decide_eq_true (hall n hn)
          exact ⟨Int.natCast_nonneg n, by show (n : Int) ≤ 2000; omega⟩
        have h1 := g _ (List.mem_of_mem_take (at_mem (r := (Su68.ints told).take 12) (by rw [List.length_take, l24]; rfl) i))
        have h2 := g _ (List.mem_of_mem_drop (at_mem (r := (Su68.ints told).drop 12) (by rw [List.length_drop, l24]) i))
        rw [← e]
        omega
      refine ⟨_, rfl, p, CW, k.dx, _, _, rfl, R4.ins, T.clW, T.nm, wf_machines .., _, rfl, k.m, k.ma.map V.ref, 3, V.ref e, rfl, R4.ml.lst, by rw [hlen]; have := R.ok.m3; omega, fun e1 H' q s q0 hq => ?_, fun e1 H' q h1 kp q0 hq => ?_⟩
      · rw [hlen] at e1
        exact ro R post (Su68.no (-28)) (hd.trans (if_pos (by omega))) (s4.trans s) (s4.free q0) hq
      · rw [hlen] at e1 hq
        have := R.ok.m3
        have hd2 := hd.trans (if_neg (by omega))
        have R' := R4.pushM e1 hrow h1 kp he
        refine post H' q { k with ma := k.ma ++ [e] } ?_ (fun b o eb hb => kp b o (s4 b o eb) (fun z => hb (by rw [z]; exact own_m))) (Fresh.mk' (fun b hb => .inl hb) (fun _ h => .inl h) (fun x hx => (List.mem_append.mp hx).imp id fun h => .inr (.inr (by rw [List.mem_singleton.mp h]; exact s2.free he0))) (fun _ h => .inl h) fun c hc => .inl ⟨hc, R.keptT (fun c o h e => kp c o (s4 c o e) (R4.ta_lst h R4.ml.lst)) c hc⟩) (s4.free q0) ?_
        · rw [hd2]; exact R'
        · rw [hd2]; exact hq
end
end Ty

end
section
set_option Elab.async false
set_option linter.all false
set_option maxRecDepth 100000
set_option maxHeartbeats 2000000
namespace Ty
open PySem PySem.Spec PyProof.Rows L2
section
variable {P : Program} {w : World} {K : PySem.W.Frag} {mg : Str → Option Value} {base : Heap}
variable {CW CT : Addr}
theorem fresh_set {H H3 H' : Hp} {p n tl : Addr} {k : Wk} {b : Bool} {a : Su68.Abs} {c dt z : Addr} {m : Int} (R : Rep CW CT H p k b a) (s : Same H H3) (kp : ∀ b o, H3 b = some o → b ≠ c → H' b = some o) (hc : H' c = some (.ins CT dt (tf m z))) (hz : H z = Option.none) : Fresh CT H p k n tl H' k :=
  Fresh.mk' (fun _ h => .inl h) (fun _ h => .inl h) (fun _ h => .inl h) (fun _ h => .inl h) fun d hd => by
    by_cases e : d = c
    · right
      intro dt' m' x h
      rw [e, hc] at h
      injection h with h
      injection h with _ _ h
      injection h with _ h
      injection h with h _
      injection h with _ h
      injection h with h
      exact .inr (.inr (h ▸ hz))
    · left
      refine ⟨hd, ?_⟩
      obtain ⟨o, eo⟩ := R.ta_some hd
      rw [eo]
      exact kp _ _ (s _ _ eo) e
theorem ix0 {ns : List Nat} {x : Nat} (h : ns[0]? = some x) : atI (vi (Su68.ints ns)) 0 = some (V.int (x : Int)) := atI_nat (j := 0) (vi_get (by unfold Su68.ints; rw [List.getElem?_map, h]; rfl))
theorem ix1 {ns : List Nat} {x : Nat} (h : ns[1]? = some x) : atI (vi (Su68.ints ns)) 1 = some (V.int (x : Int)) := atI_nat (j := 1) (vi_get (by unfold Su68.ints; rw [List.getElem?_map, h]; rfl))
theorem tlen' {H : Hp} {p : Addr} {k : Wk} {b : Bool} {a : Su68.Abs} (R : Rep CW CT H p k b a) : (k.ta.map V.ref).length = a.tyres.length := by rw [List.length_map, R.tlen]
theorem isT_of {a : Su68.Abs} {t : Nat} (h : t < a.tyres.length) : ¬ a.isT t = false := by
  unfold Su68.Abs.isT
  rw [decide_eq_true h]
  decide
theorem mod_same {a : Su68.Abs} {t : Nat} (h : t < a.tyres.length) {f g : Su68.Tyre → Su68.Tyre} (e : ∀ x : Su68.Tyre, x = a.tyre t → f x = g x) : a.tyres.modify t f = a.tyres.modify t g := by
  apply List.ext_getElem?
  intro i
  rw [List.getElem?_modify, List.getElem?_modify]
  by_cases hi : t = i
  · subst hi
    have h1 : a.tyres[t]? = some (a.tyre t) := by unfold Su68.Abs.tyre; rw [List.getD_eq_getElem?_getD, List.getElem?_eq_getElem h]; rfl
    rw [h1]
    show some (if t = t then f (a.tyre t) else a.tyre t) = some (if t = t then g (a.tyre t) else a.tyre t)
    rw [if_pos rfl, if_pos rfl, e _ rfl]
  · cases a.tyres[i]? with
    | none => rfl
    | some y =>
      show some (if t = i then f y else y) = some (if t = i then g y else y)
      rw [if_neg hi, if_neg hi]
theorem not_isT {a : Su68.Abs} {t : Nat} (h : a.tyres.length ≤ t) : a.isT t = false := decide_eq_false (by omega)
abbrev s_tell_step : Stmt := top 65
theorem sc_tell_step : FnScope ["works", "numbers", "told"] ["works", "numbers", "told"] (defScope s_tell_step) := ⟨rfl, rfl, rfl, by decide +kernel, rfl, by decide +kernel, by decide +kernel⟩
theorem ok_tell_step (D : Def K mg "tell_step" s_tell_step) (T : Txt2 K mg CW CT) (Gs : FnAt P w K mg base 2 "greatest_step" ["row"] (spRI (fun r => r.length = 12) fun r => (Su68.jump r : Int))) : FnAt P w K mg base 3 "tell_step" ["works", "numbers", "told"] (spDo CW CT (fun a ns _ => ∃ t, ns = [t] ∧ t < a.tyres.length) (fun ns _ => .jump (ns.getD 0 0))) := by
  obtain ⟨f, fd, hm, F⟩ := D
  refine ⟨f, fd, hm, F.kp, F.binds (ps := ["works", "numbers", "told"]) (fun _ _ _ _ _ _ us hl => match us, hl with | [_, _, _], _ => rfl), F.ok sc_tell_step (fun vs H Q E h => ?_) (fun cdv A outer s H vs Q E hr h => ?_)⟩
  · obtain ⟨p, n, tl, ns, told, k, a, rfl, _⟩ := h; rfl
  · obtain ⟨p, n, tl, ns, told, k, a, rfl, R, hn, ht, ⟨t, rfl, hlt⟩, post⟩ := h
    refine ⟨_, (pss_one (ps_ret (pe_lst (pa_cons (pf Gs (hr.mono (by decide)) (pa_cons (pe_fld (pe_ix ix_list (pe_fld (pv 0) rfl) (pe_ix ix_list (pv 1) pe_int (fun _ _ => rfl)) (fun _ _ => rfl)) rfl) pa_nil)) pa_nil)))), ?_⟩
    have post := post
    obtain ⟨c, dt, ra, hc1, hc2, hc3, hc4, hR, hm8⟩ := R.tyre hlt
    have hd : ∀ x, (if a.isT t = false then (a, Su68.no (-2)) else x) = x := fun x => if_neg (isT_of hlt)
    exact ⟨_, rfl, p, CW, k.dx, _, _, rfl, R.ins, T.clW, T.nt, wf_tyres .., _, rfl, n, _, _, _, rfl, rfl, SqL.of hn, ix0 rfl, k.t, _, _, _, rfl, rfl, SqL.of R.tl, atI_nat hc2, c, CT, dt, _, _, rfl, hc3, T.clT, T.tr, tf_row .., ra, _, rfl, hc4, hR.1, fun H1 s1 => ⟨line (by simp), fun q hq => ro R post (Su68.num (Su68.jump (a.row t)) []) (hd _) (s1.trans (Same.new hq)) (s1.free hq) upd_same⟩⟩
abbrev s_tell_peak : Stmt := top 64
theorem sc_tell_peak : FnScope ["works", "numbers", "told", "row"] ["works", "numbers", "told"] (defScope s_tell_peak) := ⟨rfl, rfl, rfl, by decide +kernel, rfl, by decide +kernel, by decide +kernel⟩
theorem ok_tell_peak (D : Def K mg "tell_peak" s_tell_peak) (T : Txt2 K mg CW CT) (Pk : FnAt P w K mg base 1 "peak" ["row"] (spRI (fun r => r.length = 12) fun r => (Su68.peak r : Int))) : FnAt P w K mg base 2 "tell_peak" ["works", "numbers", "told"] (spDo CW CT (fun a ns _ => ∃ t, ns = [t] ∧ t < a.tyres.length) (fun ns _ => .peak (ns.getD 0 0))) := by
  obtain ⟨f, fd, hm, F⟩ := D
  refine ⟨f, fd, hm, F.kp, F.binds (ps := ["works", "numbers", "told"]) (fun _ _ _ _ _ _ us hl => match us, hl with | [_, _, _], _ => rfl), F.ok sc_tell_peak (fun vs H Q E h => ?_) (fun cdv A outer s H vs Q E hr h => ?_)⟩
  · obtain ⟨p, n, tl, ns, told, k, a, rfl, _⟩ := h; rfl
  · obtain ⟨p, n, tl, ns, told, k, a, rfl, R, hn, ht, ⟨t, rfl, hlt⟩, post⟩ := h
    refine ⟨_, (pss_cons (ps_set (i := 3) sc_tell_peak.nd rfl (by first | exact Or.inl rfl | exact Or.inr rfl) (pe_fld (pe_ix ix_list (pe_fld (pv 0) rfl) (pe_ix ix_list (pv 1) pe_int (fun _ _ => rfl)) (fun _ _ => rfl)) rfl)) (pss_one (ps_ret (pe_lst (pa_cons (pf Pk (hr.mono (by decide)) (pa_cons (pv 3) pa_nil)) (pa_cons (pe_callB (cr_max rfl) (by rfl) T.max boot_max (pa_cons (pv 3) pa_nil)) (pa_cons (pe_callB (cr_min rfl) (by rfl) T.min boot_min (pa_cons (pv 3) pa_nil)) pa_nil))))))), ?_⟩
    have post := post
    obtain ⟨c, dt, ra, hc1, hc2, hc3, hc4, hR, hm8⟩ := R.tyre hlt
    have hd : ∀ x, (if a.isT t = false then (a, Su68.no (-2)) else x) = x := fun x => if_neg (isT_of hlt)
    refine ⟨_, rfl, p, CW, k.dx, _, _, rfl, R.ins, T.clW, T.nt, wf_tyres .., _, rfl, n, _, _, _, rfl, rfl, SqL.of hn, ix0 rfl, k.t, _, _, _, rfl, rfl, SqL.of R.tl, atI_nat hc2, c, CT, dt, _, _, rfl, hc3, T.clT, T.tr, tf_row .., _, rfl, ra, _, rfl, hc4, hR.1, fun H1 s1 => ⟨_, rfl, ra, a.row t, rfl, SqL.of (s1 _ _ hc4), by rw [hR.1]; decide, fun m m1 m2 => ⟨_, rfl, ra, a.row t, rfl, SqL.of (s1 _ _ hc4), by rw [hR.1]; decide, fun l l1 l2 => ⟨line (by simp), fun q hq => ?_⟩⟩⟩⟩
    refine ro R post (Su68.num (Su68.peak (a.row t)) [Su68.most (a.row t), Su68.least (a.row t)]) (hd _) (s1.trans (Same.new hq)) (s1.free hq) ?_
    rw [← most_is m1 m2, ← least_is l1 l2]
    exact upd_same
abbrev s_weigh_tyre : Stmt := top 63
theorem sc_weigh_tyre : FnScope ["works", "numbers", "told"] ["works", "numbers", "told"] (defScope s_weigh_tyre) := ⟨rfl, rfl, rfl, by decide +kernel, rfl, by decide +kernel, by decide +kernel⟩
theorem ok_weigh_tyre (D : Def K mg "weigh_tyre" s_weigh_tyre) (T : Txt2 K mg CW CT) (Bw : FnAt P w K mg base 4 "best_weight" ["row"] spBW) : FnAt P w K mg base 5 "weigh_tyre" ["works", "numbers", "told"] (spDo CW CT (fun a ns _ => ∃ t, ns = [t] ∧ t < a.tyres.length) (fun ns _ => .weight (ns.getD 0 0))) := by
  obtain ⟨f, fd, hm, F⟩ := D
  refine ⟨f, fd, hm, F.kp, F.binds (ps := ["works", "numbers", "told"]) (fun _ _ _ _ _ _ us hl => match us, hl with | [_, _, _], _ => rfl), F.ok sc_weigh_tyre (fun vs H Q E h => ?_) (fun cdv A outer s H vs Q E hr h => ?_)⟩
  · obtain ⟨p, n, tl, ns, told, k, a, rfl, _⟩ := h; rfl
  · obtain ⟨p, n, tl, ns, told, k, a, rfl, R, hn, ht, ⟨t, rfl, hlt⟩, post⟩ := h
    refine ⟨_, (pss_one (ps_ret (pe_callTy call_list_of (by rfl) T.list PyProof.Rows.boot_list (pa_cons (pf Bw (hr.mono (by decide)) (pa_cons (pe_fld (pe_ix ix_list (pe_fld (pv 0) rfl) (pe_ix ix_list (pv 1) pe_int (fun _ _ => rfl)) (fun _ _ => rfl)) rfl) pa_nil)) pa_nil)))), ?_⟩
    have post := post
    obtain ⟨c, dt, ra, hc1, hc2, hc3, hc4, hR, hm8⟩ := R.tyre hlt
    have hd : ∀ x, (if a.isT t = false then (a, Su68.no (-2)) else x) = x := fun x => if_neg (isT_of hlt)
    refine ⟨_, rfl, p, CW, k.dx, _, _, rfl, R.ins, T.clW, T.nt, wf_tyres .., _, rfl, n, _, _, _, rfl, rfl, SqL.of hn, ix0 rfl, k.t, _, _, _, rfl, rfl, SqL.of R.tl, atI_nat hc2, c, CT, dt, _, _, rfl, hc3, T.clT, T.tr, tf_row .., ra, _, rfl, hc4, hR, fun H1 z s1 hz0 hz => ⟨z, _, rfl, .inr (SqT.of hz), fun q hq => ?_⟩⟩
    exact ro R post (Su68.num (Su68.weighed (a.row t)).1 [((Su68.weighed (a.row t)).2 : Int), (Su68.left (a.row t) (Su68.weighed (a.row t)).1 (Su68.weighed (a.row t)).2 : Int)]) (hd _) (s1.trans (Same.new hq)) (s1.free hq) upd_same
abbrev s_turn_tyre : Stmt := top 58
theorem sc_turn_tyre : FnScope ["works", "numbers", "told", "k", "tyre", "answer"] ["works", "numbers", "told"] (defScope s_turn_tyre) := ⟨rfl, rfl, rfl, by decide +kernel, rfl, by decide +kernel, by decide +kernel⟩
theorem ok_turn_tyre (D : Def K mg "turn_tyre" s_turn_tyre) (T : Txt2 K mg CW CT) (Go : FnAt P w K mg base 6 "grade_and_one" ["works", "row"] (spGO CW CT)) (Tu : FnAt P w K mg base 1 "turned" ["row", "k"] (spRIR (fun r k => r.length = 12 ∧ 0 ≤ k ∧ k ≤ 12) fun r k => Su68.turned r k.toNat)) : FnAt P w K mg base 7 "turn_tyre" ["works", "numbers", "told"] (spDo CW CT (fun a ns _ => ∃ t j, ns = [t, j] ∧ t < a.tyres.length) (fun ns _ => .turn (ns.getD 0 0) (ns.getD 1 0))) := by
  obtain ⟨f, fd, hm, F⟩ := D
  refine ⟨f, fd, hm, F.kp, F.binds (ps := ["works", "numbers", "told"]) (fun _ _ _ _ _ _ us hl => match us, hl with | [_, _, _], _ => rfl), F.ok sc_turn_tyre (fun vs H Q E h => ?_) (fun cdv A outer s H vs Q E hr h => ?_)⟩
  · obtain ⟨p, n, tl, ns, told, k, a, rfl, _⟩ := h; rfl
  · obtain ⟨p, n, tl, ns, told, k, a, rfl, R, hn, ht, ⟨t, j, rfl, hlt⟩, post⟩ := h
    refine ⟨_, (pss_cons (ps_set (i := 3) sc_turn_tyre.nd rfl (by first | exact Or.inl rfl | exact Or.inr rfl) (pe_ix ix_list (pv 1) pe_int (fun _ _ => rfl))) (pss_cons (ps_if (pt_cmpR op_ge (pv 3) (pg T.POINTS) (nomark _)) (pss_one (ps_ret (pe_lst (pa_cons (pg T.OUT_OF_RANGE) pa_nil)))) pss_nil) (pss_cons (ps_set (i := 4) sc_turn_tyre.nd rfl (by first | exact Or.inl rfl | exact Or.inr rfl) (pe_ix ix_list (pe_fld (pv 0) rfl) (pe_ix ix_list (pv 1) pe_int (fun _ _ => rfl)) (fun _ _ => rfl))) (pss_cons (ps_set (i := 5) sc_turn_tyre.nd rfl (by first | exact Or.inl rfl | exact Or.inr rfl) (pe_lst (pa_cons (pf Go (hr.mono (by decide)) (pa_cons (pv 0) (pa_cons (pe_fld (pv 4) rfl) pa_nil))) pa_nil))) (pss_cons (ps_fld (pv 4) (pf Tu (hr.mono (by decide)) (pa_cons (pe_fld (pv 4) rfl) (pa_cons (pv 3) pa_nil))) rfl) (pss_one (ps_ret (pv 5)))))))), ?_⟩
    have post := post
    obtain ⟨c, dt, ra, hc1, hc2, hc3, hc4, hR, hm8⟩ := R.tyre hlt
    have hd : ∀ x, (if a.isT t = false then (a, Su68.no (-2)) else x) = x := fun x => if_neg (isT_of hlt)
    refine ⟨_, rfl, n, _, _, _, rfl, rfl, SqL.of hn, ix1 rfl, ?_⟩
    refine ⟨_, rfl, _, _, rfl, rfl, _, rfl, ?_⟩
    by_cases hj : j < 12
    · rw [decide_eq_false (show ¬ (12 : Int) ≤ (j : Int) by omega)]
      have hd2 : Su68.does a (.turn t j) = ({ a with tyres := a.tyres.modify t fun x => { x with at_ := Su68.turned x.at_ j } }, ⟨Su68.gradeOf a (a.row t), []⟩) := (hd _).trans (if_neg (by unfold Su68.POINTS; omega))
      refine iteF ⟨_, rfl, p, CW, k.dx, _, _, rfl, R.ins, T.clW, T.nt, wf_tyres .., _, rfl, n, _, _, _, rfl, rfl, SqL.of hn, ix0 rfl, k.t, _, _, _, rfl, rfl, SqL.of R.tl, atI_nat hc2, ?_⟩
      refine ⟨_, rfl, _, rfl, c, CT, dt, _, _, rfl, hc3, T.clT, T.tr, tf_row .., p, k, true, a, ra, a.row t, rfl, R, hc4, hR, fun H1 s1 => ⟨line (by simp), fun q hq => ?_⟩⟩
      have s2 := s1.trans (Same.new (o := .lst [V.int (Su68.gradeOf a (a.row t))]) hq)
      refine ⟨_, rfl, c, CT, dt, _, _, rfl, s2 _ _ hc3, T.clT, T.tr, tf_row .., _, rfl, ra, a.row t, (j : Int), rfl, s2 _ _ hc4, ⟨hR.1, by omega, by omega⟩, fun H3 z s3 hz0 hz => ?_⟩
      have s4 := s2.trans s3
      refine ⟨_, rfl, c, CT, dt, _, rfl, s4 _ _ hc3, T.clT, T.tr, (by show 2 < 1000; decide), ?_⟩
      rw [tf_put]
      refine ⟨_, rfl, ?_⟩
      have kp : ∀ b o, H3 b = some o → b ≠ c → upd H3 c (.ins CT dt (tf ((a.tyre t).mould : Int) z)) b = some o := fun b o e hb => by rw [upd_ne hb]; exact e
      have R' := (R.same s4).setT hc1 upd_same kp (hR.turned j) (kp _ _ hz (at_ni (s4 _ _ hc3) hz))
      have em : (a.tyres.modify t fun x => { x with at_ := Su68.turned x.at_ j }) = a.tyres.modify t fun x => { x with at_ := Su68.turned (a.row t) j } := mod_same hlt fun x hx => by rw [hx]; rfl
      refine post _ q k ?_ (fun b o e hb => kp b o (s4 b o e) fun z => hb (z ▸ own_ta hc1)) (fresh_set R s4 kp upd_same (s2.free hz0)) (s1.free hq) ?_
      · show Rep CW CT _ p k true (Su68.does a (.turn t j)).1
        rw [hd2]
        show Rep CW CT _ p k true { a with tyres := a.tyres.modify t fun x => { x with at_ := Su68.turned x.at_ j } }
        rw [em]
        exact R'
      · show At _ q (ans (Su68.does a (.turn t j)).2)
        rw [hd2]
        exact kp _ _ (s3 _ _ upd_same) (li_ne (s4 _ _ hc3) (s3 _ _ upd_same))
    · rw [decide_eq_true (show (12 : Int) ≤ (j : Int) by omega)]
      refine iteT ⟨line (by simp), fun q hq => ro R post (Su68.no (-22)) ?_ (Same.new hq) hq upd_same⟩
      exact (hd _).trans (if_pos (show 12 ≤ j by omega))
abbrev s_measure_again : Stmt := top 57
theorem sc_measure_again : FnScope ["works", "numbers", "told", "tyre"] ["works", "numbers", "told"] (defScope s_measure_again) := ⟨rfl, rfl, rfl, by decide +kernel, rfl, by decide +kernel, by decide +kernel⟩
theorem ok_measure_again (D : Def K mg "measure_again" s_measure_again) (T : Txt2 K mg CW CT) (Am : FnAt P w K mg base 1 "are_measured" ["told", "size"] spAM) (Co : FnAt P w K mg base 2 "corrected" ["works", "machine", "points"] (spCO CW CT)) (Tg : FnAt P w K mg base 1 "together" ["row", "other"] (spRRR (fun r s => r.length = 12 ∧ s.length = 12) Su68.plus)) (Ha : FnAt P w K mg base 1 "halved" ["row"] (spRR (fun r => r.length = 12) fun r => r.map (· / 2))) (Go : FnAt P w K mg base 6 "grade_and_one" ["works", "row"] (spGO CW CT)) : FnAt P w K mg base 7 "measure_again" ["works", "numbers", "told"] (spDo CW CT (fun a ns _ => ∃ t j, ns = [t, j] ∧ t < a.tyres.length ∧ j < a.machines.length) (fun ns told => .again (ns.getD 0 0) (ns.getD 1 0) told)) := by
  obtain ⟨f, fd, hm, F⟩ := D
  refine ⟨f, fd, hm, F.kp, F.binds (ps := ["works", "numbers", "told"]) (fun _ _ _ _ _ _ us hl => match us, hl with | [_, _, _], _ => rfl), F.ok sc_measure_again (fun vs H Q E h => ?_) (fun cdv A outer s H vs Q E hr h => ?_)⟩
  · obtain ⟨p, n, tl, ns, told, k, a, rfl, _⟩ := h; rfl
  · obtain ⟨p, n, tl, ns, told, k, a, rfl, R, hn, ht, ⟨t, j, rfl, hlt, hj⟩, post⟩ := h
    refine ⟨_, (pss_cons (ps_if (pt_not (pt_val (pf Am (hr.mono (by decide)) (pa_cons (pv 2) (pa_cons (pg T.POINTS) pa_nil))))) (pss_one (ps_ret (pe_lst (pa_cons (pg T.OUT_OF_RANGE) pa_nil)))) pss_nil) (pss_cons (ps_set (i := 3) sc_measure_again.nd rfl (by first | exact Or.inl rfl | exact Or.inr rfl) (pe_ix ix_list (pe_fld (pv 0) rfl) (pe_ix ix_list (pv 1) pe_int (fun _ _ => rfl)) (fun _ _ => rfl))) (pss_cons (ps_fld (pv 3) (pf Ha (hr.mono (by decide)) (pa_cons (pf Tg (hr.mono (by decide)) (pa_cons (pe_fld (pv 3) rfl) (pa_cons (pf Co (hr.mono (by decide)) (pa_cons (pv 0) (pa_cons (pe_ix ix_list (pv 1) pe_int (fun _ _ => rfl)) (pa_cons (pv 2) pa_nil)))) pa_nil))) pa_nil)) rfl) (pss_one (ps_ret (pe_lst (pa_cons (pf Go (hr.mono (by decide)) (pa_cons (pv 0) (pa_cons (pe_fld (pv 3) rfl) pa_nil))) pa_nil))))))), ?_⟩
    have post := post
    obtain ⟨c, dt, ra, hc1, hc2, hc3, hc4, hR, hm8⟩ := R.tyre hlt
    have hd : ∀ x, (if a.isT t = false ∨ a.machines.length ≤ j then (a, Su68.no (-2)) else x) = x := fun x => if_neg (by
      intro z
      rcases z with z | z
      · exact isT_of hlt z
      · omega)
    refine ⟨_, rfl, tl, Su68.ints told, 12, rfl, ht, by decide, _, rfl, ?_⟩
    rw [meas_ok]
    cases hok : Su68.okAll told with
    | false =>
      refine iteT ⟨line (by simp), fun q hq => ro R post (Su68.no (-22)) ?_ (Same.new hq) hq upd_same⟩
      exact (hd _).trans (if_pos hok)
    | true =>
      obtain ⟨h12, hall⟩ := ok_row hok
      obtain ⟨m1, m2⟩ := R.mach hj
      have hd2 : Su68.does a (.again t j told) = ({ a with tyres := a.tyres.modify t fun x => { x with at_ := Su68.mean x.at_ (a.corrected j told) } }, ⟨Su68.gradeOf a (Su68.mean (a.row t) (a.corrected j told)), []⟩) := (hd _).trans (if_neg (by rw [hok]; decide))
      have hRc : Row (a.corrected j told) := Row.plus (by rw [ints_len]; exact h12) m1 hall m2
      refine iteF ⟨_, rfl, p, CW, k.dx, _, _, rfl, R.ins, T.clW, T.nt, wf_tyres .., _, rfl, n, _, _, _, rfl, rfl, SqL.of hn, ix0 rfl, k.t, _, _, _, rfl, rfl, SqL.of R.tl, atI_nat hc2, ?_⟩
      refine ⟨_, rfl, c, CT, dt, _, _, rfl, hc3, T.clT, T.tr, tf_row .., _, rfl, _, rfl, n, _, _, _, rfl, rfl, SqL.of hn, ix1 rfl, _, rfl, p, k, true, a, j, tl, Su68.ints told, rfl, R, ht, ⟨by rw [ints_len]; exact h12, hj⟩, fun H1 e s1 he0 he => ?_⟩
      refine ⟨ra, e, a.row t, _, rfl, s1 _ _ hc4, he, ⟨hR.1, hRc.1⟩, fun H2 d s2 hd0 hd' => ⟨d, _, rfl, hd', len_plus _ _, fun H3 z s3 hz0 hz => ?_⟩⟩
      have s4 := s1.trans (s2.trans s3)
      refine ⟨_, rfl, c, CT, dt, _, rfl, s4 _ _ hc3, T.clT, T.tr, (by show 2 < 1000; decide), ?_⟩
      rw [tf_put]
      have kp : ∀ b o, H3 b = some o → b ≠ c → upd H3 c (.ins CT dt (tf ((a.tyre t).mould : Int) z)) b = some o := fun b o e hb => by rw [upd_ne hb]; exact e
      have hz : At H3 z (Su68.mean (a.row t) (a.corrected j told)) := by rw [mean_is]; exact hz
      have hRm := hR.mean hRc
      have hz' := kp _ _ hz (at_ni (s4 _ _ hc3) hz)
      have R' := (R.same s4).setT hc1 upd_same kp hRm hz'
      have em : (a.tyres.modify t fun x => { x with at_ := Su68.mean x.at_ (a.corrected j told) }) = a.tyres.modify t fun x => { x with at_ := Su68.mean (a.row t) (a.corrected j told) } := mod_same hlt fun x hx => by rw [hx]; rfl
      refine ⟨_, rfl, _, rfl, c, CT, dt, _, _, rfl, upd_same, T.clT, T.tr, tf_row .., p, k, true, _, z, _, rfl, R', hz', hRm, fun H5 s5 => ⟨line (by simp), fun q hq => ?_⟩⟩
      have s6 := s5.trans (Same.new (o := .lst [V.int (Su68.gradeOf a (Su68.mean (a.row t) (a.corrected j told)))]) hq)
      have hq0 : H q = Option.none := by
        cases e : H q with
        | none => rfl
        | some o =>
          exfalso
          by_cases ez : q = c
          · rw [ez, s5 _ _ upd_same] at hq; cases hq
          · rw [s5 _ _ (kp _ _ (s4 _ _ e) ez)] at hq; cases hq
      refine post _ q k ?_ (fun b o e hb => s6 _ _ (kp b o (s4 b o e) fun z => hb (z ▸ own_ta hc1))) (fresh_set R s4 (fun b o e hb => s6 _ _ (kp b o e hb)) (s6 _ _ upd_same) ((s1.trans s2).free hz0)) hq0 ?_
      · show Rep CW CT _ p k true (Su68.does a (.again t j told)).1
        rw [hd2]
        show Rep CW CT _ p k true { a with tyres := a.tyres.modify t fun x => { x with at_ := Su68.mean x.at_ (a.corrected j told) } }
        rw [em]
        exact R'.same s6
      · show At _ q (ans (Su68.does a (.again t j told)).2)
        rw [hd2]
        exact upd_same
abbrev s_mount_tyre : Stmt := top 60
theorem sc_mount_tyre : FnScope ["works", "numbers", "told", "row", "wheel", "best"] ["works", "numbers", "told"] (defScope s_mount_tyre) := ⟨rfl, rfl, rfl, by decide +kernel, rfl, by decide +kernel, by decide +kernel⟩
theorem ok_mount_tyre (D : Def K mg "mount_tyre" s_mount_tyre) (T : Txt2 K mg CW CT) (Bt : FnAt P w K mg base 2 "best_turn" ["tyre", "wheel"] spBT) (Pk : FnAt P w K mg base 1 "peak" ["row"] (spRI (fun r => r.length = 12) fun r => (Su68.peak r : Int))) (Tg : FnAt P w K mg base 1 "together" ["row", "other"] (spRRR (fun r s => r.length = 12 ∧ s.length = 12) Su68.plus)) : FnAt P w K mg base 3 "mount_tyre" ["works", "numbers", "told"] (spDo CW CT (fun a ns _ => ∃ t j, ns = [t, j] ∧ t < a.tyres.length ∧ j < a.wheels.length) (fun ns _ => .mount (ns.getD 0 0) (ns.getD 1 0))) := by
  obtain ⟨f, fd, hm, F⟩ := D
  refine ⟨f, fd, hm, F.kp, F.binds (ps := ["works", "numbers", "told"]) (fun _ _ _ _ _ _ us hl => match us, hl with | [_, _, _], _ => rfl), F.ok sc_mount_tyre (fun vs H Q E h => ?_) (fun cdv A outer s H vs Q E hr h => ?_)⟩
  · obtain ⟨p, n, tl, ns, told, k, a, rfl, _⟩ := h; rfl
  · obtain ⟨p, n, tl, ns, told, k, a, rfl, R, hn, ht, ⟨t, j, rfl, hlt, hj⟩, post⟩ := h
    refine ⟨_, (pss_cons (ps_set (i := 3) sc_mount_tyre.nd rfl (by first | exact Or.inl rfl | exact Or.inr rfl) (pe_fld (pe_ix ix_list (pe_fld (pv 0) rfl) (pe_ix ix_list (pv 1) pe_int (fun _ _ => rfl)) (fun _ _ => rfl)) rfl)) (pss_cons (ps_set (i := 4) sc_mount_tyre.nd rfl (by first | exact Or.inl rfl | exact Or.inr rfl) (pe_ix ix_list (pe_fld (pv 0) rfl) (pe_ix ix_list (pv 1) pe_int (fun _ _ => rfl)) (fun _ _ => rfl))) (pss_cons (ps_set (i := 5) sc_mount_tyre.nd rfl (by first | exact Or.inl rfl | exact Or.inr rfl) (pf Bt (hr.mono (by decide)) (pa_cons (pv 3) (pa_cons (pv 4) pa_nil)))) (pss_one (ps_ret (pe_lst (pa_cons (pe_ix ix_tup (pv 5) pe_int (fun _ _ => rfl)) (pa_cons (pe_ix ix_tup (pv 5) pe_int (fun _ _ => rfl)) (pa_cons (pf Pk (hr.mono (by decide)) (pa_cons (pf Tg (hr.mono (by decide)) (pa_cons (pv 3) (pa_cons (pv 4) pa_nil))) pa_nil)) pa_nil))))))))), ?_⟩
    have post := post
    obtain ⟨c, dt, ra, hc1, hc2, hc3, hc4, hR, hm8⟩ := R.tyre hlt
    have hd : ∀ x, (if a.isT t = false ∨ a.isW j = false then (a, Su68.no (-2)) else x) = x := fun x => if_neg (by
      intro z
      rcases z with z | z
      · exact isT_of hlt z
      · unfold Su68.Abs.isW at z
        rw [decide_eq_true hj] at z
        cases z)
    obtain ⟨v, hv1, hv2, hv3⟩ := R.wl.get (List.getElem?_eq_getElem hj)
    have ew : a.wheel j = a.wheels[j] := by unfold Su68.Abs.wheel; rw [List.getD_eq_getElem?_getD, List.getElem?_eq_getElem hj]; rfl
    rw [← ew] at hv3
    have hw12 : (a.wheel j).length = 12 := by rw [ew]; exact R.ok.wheel _ (List.getElem_mem hj)
    refine ⟨_, rfl, p, CW, k.dx, _, _, rfl, R.ins, T.clW, T.nt, wf_tyres .., _, rfl, n, _, _, _, rfl, rfl, SqL.of hn, ix0 rfl, k.t, _, _, _, rfl, rfl, SqL.of R.tl, atI_nat hc2, c, CT, dt, _, _, rfl, hc3, T.clT, T.tr, tf_row .., ?_⟩
    refine ⟨_, rfl, p, CW, k.dx, _, _, rfl, R.ins, T.clW, T.nw, wf_wheels .., _, rfl, n, _, _, _, rfl, rfl, SqL.of hn, ix1 rfl, k.w, _, _, _, rfl, rfl, SqL.of R.wl.lst, atI_nat hv2, ?_⟩
    refine ⟨_, rfl, _, rfl, ra, v, a.row t, a.wheel j, rfl, hc4, hv3, ⟨hR.1, hw12⟩, fun H1 b s1 hb0 hb => ?_⟩
    refine ⟨_, rfl, b, _, _, _, rfl, rfl, SqT.of hb, atT0, _, rfl, b, _, _, _, rfl, rfl, SqT.of hb, atT2, _, rfl, _, rfl, ra, v, a.row t, a.wheel j, rfl, s1 _ _ hc4, s1 _ _ hv3, ⟨hR.1, hw12⟩, fun H2 d s2 hd0 hd' => ⟨d, _, rfl, hd', len_plus _ _, fun H3 s3 => ⟨line (by simp), fun q hq => ?_⟩⟩⟩
    exact ro R post (Su68.num (Su68.best (a.row t) (a.wheel j)) [(Su68.evened (a.row t) (a.wheel j) : Int), (Su68.peak (Su68.plus (a.row t) (a.wheel j)) : Int)]) (hd _) ((s1.trans (s2.trans s3)).trans (Same.new hq)) ((s1.trans (s2.trans s3)).free hq) upd_same
end
end Ty

end
section
set_option Elab.async false
set_option linter.all false
set_option maxRecDepth 100000
set_option maxHeartbeats 2000000
namespace Ty
open PySem PySem.Spec PyProof.Rows L2
section
variable {P : Program} {w : World} {K : PySem.W.Frag} {mg : Str → Option Value} {base : Heap}
variable {CW CT : Addr}
abbrev s_add_tyre : Stmt := top 56
theorem sc_add_tyre : FnScope ["works", "numbers", "told", "mould", "row", "answer"] ["works", "numbers", "told"] (defScope s_add_tyre) := ⟨rfl, rfl, rfl, by decide +kernel, rfl, by decide +kernel, by decide +kernel⟩
theorem ok_add_tyre (D : Def K mg "add_tyre" s_add_tyre) (T : Txt2 K mg CW CT) (Am : FnAt P w K mg base 1 "are_measured" ["told", "size"] spAM) (Co : FnAt P w K mg base 2 "corrected" ["works", "machine", "points"] (spCO CW CT)) (Om : FnAt P w K mg base 1 "one_more" ["kept", "limit", "thing"] spOM) (Go : FnAt P w K mg base 6 "grade_and_one" ["works", "row"] (spGO CW CT)) {fT : Addr} {fdT : FuncData} (Mt : Mk K CT fT) (Ti : FnOk P w K mg base CX0 1 fT fdT ["self", "mould", "row"] (spTyI CT)) (bT : Binds K fdT ["self", "mould", "row"] []) : FnAt P w K mg base 7 "add_tyre" ["works", "numbers", "told"] (spDo CW CT (fun a ns _ => ∃ j m, ns = [j, m] ∧ j < a.machines.length) (fun ns told => .tyre (ns.getD 0 0) (ns.getD 1 0) told)) := by
  obtain ⟨f, fd, hm, F⟩ := D
  refine ⟨f, fd, hm, F.kp, F.binds (ps := ["works", "numbers", "told"]) (fun _ _ _ _ _ _ us hl => match us, hl with | [_, _, _], _ => rfl), F.ok sc_add_tyre (fun vs H Q E h => ?_) (fun cdv A outer s H vs Q E hr h => ?_)⟩
  · obtain ⟨p, n, tl, ns, told, k, a, rfl, _⟩ := h; rfl
  · obtain ⟨p, n, tl, ns, told, k, a, rfl, R, hn, ht, ⟨j, m, rfl, hj⟩, post⟩ := h
    refine ⟨_, (pss_cons (ps_set (i := 3) sc_add_tyre.nd rfl (by first | exact Or.inl rfl | exact Or.inr rfl) (pe_ix ix_list (pv 1) pe_int (fun _ _ => rfl))) (pss_cons (ps_if (pw_or (pt_cmpR op_gt (pv 3) (pg T.LAST_MOULD) (nomark _)) (pw_or1 (pt_not (pt_val (pf Am (hr.mono (by decide)) (pa_cons (pv 2) (pa_cons (pg T.POINTS) pa_nil))))))).pt (pss_one (ps_ret (pe_lst (pa_cons (pg T.OUT_OF_RANGE) pa_nil)))) pss_nil) (pss_cons (ps_set (i := 4) sc_add_tyre.nd rfl (by first | exact Or.inl rfl | exact Or.inr rfl) (pf Co (hr.mono (by decide)) (pa_cons (pv 0) (pa_cons (pe_ix ix_list (pv 1) pe_int (fun _ _ => rfl)) (pa_cons (pv 2) pa_nil))))) (pss_cons (ps_set (i := 5) sc_add_tyre.nd rfl (by first | exact Or.inl rfl | exact Or.inr rfl) (pf Om (hr.mono (by decide)) (pa_cons (pe_fld (pv 0) rfl) (pa_cons (pg T.MOST_TYRES) (pa_cons (pe_make Mt Ti (hr.mono (by decide)) rfl T.mgT bT .nil pass0 (pa_cons (pv 3) (pa_cons (pv 4) pa_nil))) pa_nil))))) (pss_cons (ps_if (pt_cmpR op_lt (pe_ix ix_list (pv 5) pe_int (fun _ _ => rfl)) pe_int (nomark _)) (pss_one (ps_ret (pv 5))) pss_nil) (pss_one (ps_ret (pe_op op_cat (pv 5) (pe_lst (pa_cons (pf Go (hr.mono (by decide)) (pa_cons (pv 0) (pa_cons (pv 4) pa_nil))) pa_nil)))))))))), ?_⟩
    have post := post
    have hd : ∀ x, (if a.machines.length ≤ j then (a, Su68.no (-2)) else x) = x := fun x => if_neg (by omega)
    refine ⟨_, rfl, n, _, _, _, rfl, rfl, SqL.of hn, ix1 rfl, ?_⟩
    · skip
      refine ⟨_, rfl, _, _, rfl, rfl, _, rfl, ?_⟩
      by_cases hm7 : 7 < m
      · rw [decide_eq_true (show (7 : Int) < (m : Int) by omega)]
        refine iteT (iteT ⟨line (by simp), fun q hq => ro R post (Su68.no (-22)) ?_ (Same.new hq) hq upd_same⟩)
        exact (hd _).trans (if_pos (Or.inl (show 8 ≤ m by omega)))
      · rw [decide_eq_false (show ¬ (7 : Int) < (m : Int) by omega)]
        refine iteF ⟨_, rfl, tl, Su68.ints told, 12, rfl, ht, by decide, _, rfl, ?_⟩
        rw [meas_ok]
        cases hok : Su68.okAll told with
        | false =>
          refine iteT ⟨line (by simp), fun q hq => ro R post (Su68.no (-22)) ?_ (Same.new hq) hq upd_same⟩
          exact (hd _).trans (if_pos (Or.inr hok))
        | true =>
          obtain ⟨h12, hall⟩ := ok_row hok
          obtain ⟨m1, m2⟩ := R.mach hj
          have hRc : Row (a.corrected j told) := Row.plus (by rw [ints_len]; exact h12) m1 hall m2
          have hd2 : Su68.does a (.tyre j m told) = (if 60 ≤ a.tyres.length then (a, Su68.no (-28)) else ({ a with tyres := a.tyres ++ [⟨m, a.corrected j told⟩] }, Su68.num a.tyres.length [Su68.gradeOf a (a.corrected j told)])) := (hd _).trans (if_neg (by
            intro z
            rcases z with z | z
            · have : 8 ≤ m := z
              omega
            · rw [hok] at z; cases z))
          refine iteF ⟨_, rfl, _, rfl, n, _, _, _, rfl, rfl, SqL.of hn, ix0 rfl, _, rfl, p, k, true, a, j, tl, Su68.ints told, rfl, R, ht, ⟨by rw [ints_len]; exact h12, hj⟩, fun H1 e s1 he0 he => ?_⟩
          have R1 := R.same s1
          refine ⟨_, rfl, p, CW, k.dx, _, _, rfl, R1.ins, T.clW, T.nt, wf_tyres .., _, rfl, _, rfl, fun x dx nx ndx nex => ⟨x, dx, (m : Int), e, rfl, upd_same, fun H2 hx kp2 => ⟨rfl, ?_⟩⟩⟩
          have s2 : Same H1 H2 := Same.made nx ndx kp2
          have s12 := s1.trans s2
          have R2 := R1.same s2
          have h60 := R.ok.t60
          refine ⟨k.t, k.ta.map V.ref, 60, V.ref x, rfl, R2.tl, by rw [tlen' R]; exact h60, fun el H3 q s3 q0 hq => ?_, fun el H3 q h1 kp q0 hq => ?_⟩
          · rw [tlen' R] at el
            refine ⟨_, rfl, q, _, _, _, rfl, rfl, SqL.of hq, atI_nat (j := 0) rfl, _, _, rfl, rfl, _, rfl, ?_⟩
            refine iteT ⟨_, rfl, ?_⟩
            exact ro R post (Su68.no (-28)) (hd2.trans (if_pos (by omega))) (s12.trans s3) (s12.free q0) hq
          · rw [tlen' R] at el hq
            refine ⟨_, rfl, q, _, _, _, rfl, rfl, SqL.of hq, atI_nat (j := 0) rfl, _, _, rfl, rfl, _, rfl, ?_⟩
            rw [decide_eq_false (show ¬ ((a.tyres.length : Nat) : Int) < 0 by omega)]
            have hx1 : H x = Option.none := s1.free nx
            have hnew : x ∉ k.ta := fun z => by
              obtain ⟨i, hi⟩ := List.mem_iff_getElem?.mp z
              obtain ⟨_, _, _, _, f2, _⟩ := R1.tat i x hi
              rw [nx] at f2
              cases f2
            have R3 : Rep CW CT H3 p { k with ta := k.ta ++ [x] } true { a with tyres := a.tyres ++ [⟨m, a.corrected j told⟩] } := R2.pushT (ty := ⟨m, a.corrected j told⟩) el ⟨hRc, by show m < 8; omega⟩ h1 kp hx (s2 _ _ he) hnew
            have he3 : At H3 e (a.corrected j told) := kp _ _ (s2 _ _ he) (at_ne R2.tl (s2 _ _ he) (by intro z; have := hRc.1; rw [show a.corrected j told = [] from z] at this; cases this))
            refine iteF ⟨_, rfl, _, rfl, _, rfl, p, _, true, _, e, a.corrected j told, rfl, R3, he3, hRc, fun H5 s5 => ⟨line (by simp), fun z hz => ?_⟩⟩
            have s6 := s5.trans (Same.new (o := .lst [V.int (Su68.gradeOf a (a.corrected j told))]) hz)
            refine ⟨q, z, _, _, rfl, rfl, s6 _ _ hq, upd_same, line (by simp), fun y hy => ?_⟩
            have s7 := s6.trans (Same.new (o := .lst ([V.int (a.tyres.length : Int)] ++ [V.int (Su68.gradeOf a (a.corrected j told))])) hy)
            have hd3 := hd2.trans (if_neg (by omega))
            have hy0 : H y = Option.none := by
              cases e' : H y with
              | none => rfl
              | some o =>
                exfalso
                by_cases ez : y = k.t
                · rw [ez] at hy
                  have z := (s6 _ _ h1).symm.trans hy
                  cases z
                · have z := (s6 _ _ (kp _ _ (s12 _ _ e') ez)).symm.trans hy
                  cases z
            refine post _ y { k with ta := k.ta ++ [x] } ?_ ?_ ?_ hy0 ?_
            · show Rep CW CT _ p _ true (Su68.does a (.tyre j m told)).1
              rw [hd3]
              exact R3.same s7
            · exact fun b o eb hb => s7 _ _ (kp b o (s12 b o eb) fun z => hb (by rw [z]; exact own_t))
            · refine Fresh.mk' (fun b hb => ?_) (fun _ h => .inl h) (fun _ h => .inl h) (fun _ h => .inl h) (fun c hc => ?_)
              rotate_left
              · rcases List.mem_append.mp hc with h | h
                · exact .inl ⟨h, R.keptT (fun c o h e => s7 _ _ (kp c o (s12 c o e) (R2.ta_lst h R2.tl))) c h⟩
                · right
                  intro dt' m' x' h'
                  have h3 : H3 x = some (.ins CT dx (tf (m : Int) e)) := kp _ _ hx (li_ne hx R2.tl).symm
                  rw [List.mem_singleton.mp h] at h'
                  have h' := (s7 _ _ h3).symm.trans h'
                  injection h' with h'
                  injection h' with _ _ h'
                  injection h' with _ h'
                  injection h' with h' _
                  injection h' with _ h'
                  injection h' with h'
                  exact .inr (.inr (h' ▸ he0))
              have hb : b ∈ k.own p ∨ b = x := by
                simp only [Wk.own, List.mem_cons, List.mem_append, List.not_mem_nil, or_false] at hb ⊢
                rcases hb with h | h | h | h | h | h | h <;> simp [h]
              rcases hb with h | h
              · exact .inl h
              · exact .inr (h ▸ hx1)
            · show At _ y (ans (Su68.does a (.tyre j m told)).2)
              rw [hd3]
              exact upd_same
end
end Ty

end
section
set_option Elab.async false
set_option linter.all false
set_option maxRecDepth 100000
set_option maxHeartbeats 2000000
namespace Ty
open PySem PySem.Spec PyProof.Rows L2
section
variable {P : Program} {w : World} {K : PySem.W.Frag} {mg : Str → Option Value} {base : Heap}
variable {CW CT : Addr}
/-! ### len(set(list)) -/
def distinct (ns : List Int) : Nat := (firstMet (fun i => ns.getD i 0) ns.length).length
theorem pe_lenset {X : Cx} {e : Expr} {t : TA} {p1 p2 pos pos2 : Pos} (hc : X.calm = true) (ha : PA X [e] t) (hgl : Gl X "len") (hml : X.mg "len" = none) (hgs : Gl X "set") (hms : X.mg "set" = none)
    (h1 : starEach [.Call (.Name "set" p2) [e] [] pos2] X.env = [(false, eval (.Call (.Name "set" p2) [e] [] pos2) X.env)] := by rfl) (h2 : starEach [e] X.env = (false, eval e X.env) :: starEach [] X.env := by rfl) :
    PE X (.Call (.Name "len" p1) [.Call (.Name "set" p2) [e] [] pos2] [] pos) (tCB (fun vs H1 Q => ∃ a ns, vs = [V.ref a] ∧ SqL X.K H1 a (vi ns) ∧ ns.length ≤ 30 ∧ Q (.int (distinct ns : Nat)) H1) t) := by
  intro pins s σ H Q I h
  refine wpAny_Call_Name_kw (ld_blt I hgl hml PySem.boot_len ?_)
  refine PyProof.Rows.callWith_builtin1 ?_ h1 rfl
  rw [h1]
  show wpAny _ _ (spliced ((false, eval (.Call (.Name "set" p2) [e] [] pos2) X.env) :: backTo pos [])) _ _ s
  refine Calls.spliced_cons ?_
  refine wpAny_Call_Name_kw (ld_blt I hgs hms PyProof.Rows.boot_set ?_)
  refine PyProof.Rows.callWith_type1 (thn (ha pos2 pins s σ H _ I h) fun us s1 ⟨vs, H1, I1, r1, a, ns, ev, hs, hl, q⟩ => ?_) h2 rfl
  obtain ⟨its, rv, hL, _⟩ := I1.list hs
  subst ev
  rw [Vals.ref1 r1]
  have hlen : its.length = ns.length := by rw [← rv.length, vi_len]
  refine PySem.call_set_list (items := its.toArray) (ns := ns) (I1.ok.hd hc) hL.isList (by simpa using rv.ints) (by unfold scanBound; simp; omega) fun h' tk hS hk => ?_
  have hk' : ∀ b o, s1.heap.get? b = some o → h'.get? b = some o := fun b o e => hk b o (Heap.lt_size e) e
  refine Calls.spliced_nil ?_
  obtain ⟨o, ho, hso⟩ := hS.objOf
  obtain ⟨hex, es, ep, t, hd, _, _, hn, hf⟩ := hso
  have hsz : es.size = distinct ns := by rw [hn, List.size_toArray, hlen]; rfl
  have hle : distinct ns ≤ ns.length := firstMet_length_le _ _
  refine call_len_set (s := { s1 with heap := h', toks := tk }) ho hex hd hf (by rw [hsz]; omega) ?_
  rw [hsz]
  exact ⟨.int (distinct ns : Nat), H1, I1.kept hk', ⟨_, rfl⟩, q⟩
theorem fm_len (val : Nat → Int) : ∀ n, ((firstMet val n).length = n ↔ ((List.range n).map val).Nodup)
  | 0 => by simp [firstMet_zero]
  | n + 1 => by
    have ih := fm_len val n
    have hle := firstMet_length_le val n
    have ha := firstMet_any val n (val n)
    rw [firstMet_succ, step_length, ha, List.range_succ, List.map_append]
    have hm : (((List.range n).map val).any (· == val n)) = decide (val n ∈ (List.range n).map val) := by
      by_cases h : val n ∈ (List.range n).map val
      · rw [decide_eq_true h]
        exact List.any_eq_true.mpr ⟨_, h, beq_self_eq_true _⟩
      · rw [decide_eq_false h, List.any_eq_false]
        intro x hx hb
        exact h (eq_of_beq hb ▸ hx)
    rw [hm]
    show _ ↔ (((List.range n).map val) ++ [val n]).Nodup
    by_cases h : val n ∈ (List.range n).map val
    · rw [decide_eq_true h, if_pos rfl]
      constructor
      · intro e; omega
      · intro hN
        rw [List.nodup_append] at hN
        exact absurd rfl (hN.2.2 _ h _ (List.mem_singleton.mpr rfl))
    · rw [decide_eq_false h, if_neg (by decide)]
      constructor
      · intro e
        exact nd_snoc (ih.mp (by omega)) h
      · intro hN
        rw [List.nodup_append] at hN
        have := ih.mpr hN.1
        omega
theorem range_getD (ns : List Int) : (List.range ns.length).map (fun i => ns.getD i 0) = ns := by
  apply List.ext_getElem?
  intro i
  by_cases h : i < ns.length
  · rw [List.getElem?_map, List.getElem?_range h, List.getElem?_eq_getElem h]
    show some (ns.getD i 0) = _
    rw [List.getD_eq_getElem?_getD, List.getElem?_eq_getElem h]
    rfl
  · rw [List.getElem?_eq_none (by simp; omega), List.getElem?_eq_none (by omega)]
theorem distinct_lt (ns : List Int) : distinct ns < ns.length ↔ ¬ ns.Nodup := by
  have h := fm_len (fun i => ns.getD i 0) ns.length
  rw [range_getD] at h
  have hle : distinct ns ≤ ns.length := firstMet_length_le _ _
  rw [← h]
  show _ ↔ ¬ distinct ns = ns.length
  omega
def spTT : Sp := fun vs H Q _ => ∃ a ns, vs = [.ref a] ∧ At H a ns ∧ ns.length ≤ 30 ∧ Q (.bl (decide (¬ ns.Nodup))) H
abbrev s_is_told_twice : Stmt := top 61
theorem sc_is_told_twice : FnScope ["numbers"] ["numbers"] (defScope s_is_told_twice) := ⟨rfl, rfl, rfl, by decide +kernel, rfl, by decide +kernel, by decide +kernel⟩
theorem ok_is_told_twice (D : Def K mg "is_told_twice" s_is_told_twice) (T : Txt2 K mg CW CT) : FnAt P w K mg base 1 "is_told_twice" ["numbers"] (spTT) := by
  obtain ⟨f, fd, hm, F⟩ := D
  refine ⟨f, fd, hm, F.kp, F.binds (ps := ["numbers"]) (fun _ _ _ _ _ _ us hl => match us, hl with | [_], _ => rfl), F.ok sc_is_told_twice (fun vs H Q E h => ?_) (fun cdv A outer s H vs Q E hr h => ?_)⟩
  · obtain ⟨a, ns, rfl, _⟩ := h; rfl
  · obtain ⟨a, ns, rfl, ha, h30, q⟩ := h
    refine ⟨_, (pss_one (ps_ret (pe_cmpR op_lt (pe_lenset rfl (pa_cons (pv 0) pa_nil) rfl T.len rfl T.set) (pe_callB call_len_seq (by rfl) T.len PySem.boot_len (pa_cons (pv 0) pa_nil)) (nomark _)))), ?_⟩
    refine ⟨_, rfl, a, ns, rfl, SqL.of ha, h30, _, rfl, a, _, rfl, .inl (SqL.of ha), _, _, rfl, rfl, ?_⟩
    have e : decide (¬ ns.Nodup) = decide (((distinct ns : Nat) : Int) < (((vi ns).length : Nat) : Int)) := by
      rw [vi_len]
      refine decide_eq_decide.mpr ?_
      rw [← distinct_lt]
      omega
    rw [e] at q
    exact q
/-! ### the mathematics of match -/
def mat (a : Su68.Abs) (ts ws : List Nat) : List (List Int) := ts.map fun t => ws.map fun w => (Su68.evened (a.row t) (a.wheel w) : Int)
theorem mat_sq (a : Su68.Abs) {ts ws : List Nat} {n : Nat} (h1 : ts.length = n) (h2 : ws.length = n) : Sq n (mat a ts ws) := by
  refine ⟨by unfold mat; rw [List.length_map]; exact h1, fun r hr => ?_⟩
  obtain ⟨t, _, rfl⟩ := List.mem_map.mp hr
  rw [List.length_map]; exact h2
def toI (w : List Nat) : List Int := w.map fun p : Nat => (p : Int)
def toW (ws w : List Nat) : List Nat := w.map fun p => ws.getD p 0
theorem mu_is (a : Su68.Abs) {ts ws w : List Nat} {n : Nat} (h1 : ts.length = n) (h2 : ws.length = n) (hw : w.length = n) (hp : ∀ p ∈ w, p < n) (h0 : 0 < n) : mu (mat a ts ws) (toI w) = (a.worst ts (toW ws w) : Int) := by
  have e : pick (mat a ts ws) (toI w) = ((ts.zip (toW ws w)).map fun x => Su68.evened (a.tyre x.1).at_ (a.wheel x.2)).map (fun n : Nat => (n : Int)) := by
    apply List.ext_getElem?
    intro i
    by_cases hi : i < n
    · have hiw : i < w.length := by omega
      have hit : i < ts.length := by omega
      have hpi : w[i] < ws.length := by rw [h2]; exact hp _ (List.getElem_mem hiw)
      have ez : (ts.zip (toW ws w))[i]? = some (ts[i], ws[w[i]]) := by
        refine List.getElem?_zip_eq_some.mpr ⟨List.getElem?_eq_getElem hit, ?_⟩
        unfold toW
        rw [List.getElem?_map, List.getElem?_eq_getElem hiw]
        show some (ws.getD w[i] 0) = _
        rw [List.getD_eq_getElem?_getD, List.getElem?_eq_getElem hpi]
        rfl
      unfold pick
      rw [List.getElem?_map, List.getElem?_range (by unfold toI; rw [List.length_map]; exact hiw), List.getElem?_map, List.getElem?_map, ez]
      have e1 : (toI w).getD i 0 = (w[i] : Int) := by
        unfold toI
        rw [List.getD_eq_getElem?_getD, List.getElem?_map, List.getElem?_eq_getElem hiw]
        rfl
      have e2 : (mat a ts ws).getD i [] = ws.map fun w => (Su68.evened (a.row ts[i]) (a.wheel w) : Int) := by
        unfold mat
        rw [List.getD_eq_getElem?_getD, List.getElem?_map, List.getElem?_eq_getElem hit]
        rfl
      show some (((mat a ts ws).getD i []).getD ((toI w).getD i 0).toNat 0) = some (Su68.evened (a.tyre ts[i]).at_ (a.wheel ws[w[i]]) : Int)
      rw [e1, e2, List.getD_eq_getElem?_getD, List.getElem?_map, show ((w[i] : Int)).toNat = w[i] from rfl, List.getElem?_eq_getElem hpi]
      rfl
    · rw [List.getElem?_eq_none (by unfold pick toI; simp; omega), List.getElem?_eq_none (by unfold toW; simp; omega)]
  unfold mu
  rw [e]
  have hne : ((ts.zip (toW ws w)).map fun x => Su68.evened (a.tyre x.1).at_ (a.wheel x.2)).map (fun n : Nat => (n : Int)) ≠ [] := by
    intro z
    have := congrArg List.length z
    unfold toW at this
    simp at this
    rcases this with h | h
    · rw [h] at h1; simp at h1; omega
    · rw [h] at hw; simp at hw; omega
  exact nmax_is (most_mem hne) fun y hy => most_ge y hy
theorem fold_way {M : List (List Int)} {wo : List Nat → Nat} {ψ : List Nat → List Nat} : ∀ (L : List (List Nat)) (b : List Nat), (∀ w ∈ b :: L, mu M (toI w) = (wo (ψ w) : Int)) →
    ∃ g ∈ b :: L, bestWay M (toI b) (L.map toI) = toI g ∧ (L.map ψ).foldl (fun b r => if wo r < wo b then r else b) (ψ b) = ψ g
  | [], b, _ => ⟨b, by simp, rfl, rfl⟩
  | x :: L, b, h => by
    have hx := h x (by simp)
    have hb := h b (by simp)
    by_cases c : wo (ψ x) < wo (ψ b)
    · obtain ⟨g, hg, e1, e2⟩ := fold_way L x fun w hw => h w (by rcases List.mem_cons.mp hw with z | z <;> simp [z])
      refine ⟨g, by rcases List.mem_cons.mp hg with z | z <;> simp [z], ?_, ?_⟩
      · show bestWay M (if mu M (toI x) < mu M (toI b) then toI x else toI b) (L.map toI) = toI g
        rw [if_pos (by rw [hx, hb]; omega)]
        exact e1
      · show (L.map ψ).foldl _ (if wo (ψ x) < wo (ψ b) then ψ x else ψ b) = ψ g
        rw [if_pos c]
        exact e2
    · obtain ⟨g, hg, e1, e2⟩ := fold_way L b fun w hw => h w (by rcases List.mem_cons.mp hw with z | z <;> simp [z])
      refine ⟨g, by rcases List.mem_cons.mp hg with z | z <;> simp [z], ?_, ?_⟩
      · show bestWay M (if mu M (toI x) < mu M (toI b) then toI x else toI b) (L.map toI) = toI g
        rw [if_neg (by rw [hx, hb]; omega)]
        exact e1
      · show (L.map ψ).foldl _ (if wo (ψ x) < wo (ψ b) then ψ x else ψ b) = ψ g
        rw [if_neg c]
        exact e2
/-- the best way is the matched one -/
theorem match_is (a : Su68.Abs) {ts ws : List Nat} {n : Nat} (h1 : ts.length = n) (h2 : ws.length = n) (h0 : 0 < n) (h4 : n ≤ 4) (hN : ws.Nodup) :
    ∃ g : List Nat, g.length = n ∧ (∀ p ∈ g, p < n) ∧ bestWay (mat a ts ws) ((waysI n n).headD []) (waysI n n) = toI g ∧ a.matched ts ws = toW ws g ∧ mu (mat a ts ws) (toI g) = (a.worst ts (a.matched ts ws) : Int) := by
  obtain ⟨hne, hok⟩ := ways_ok (n := n) (by omega) h4
  have hr : Su68.rows n ws = (waysTo n n).map (toW ws) := by
    have := rows_is (ws := ws) (by omega) (by omega) hN
    rw [h2] at this
    exact this
  have hI : waysI n n = (waysTo n n).map toI := waysI_is n (by omega)
  generalize waysTo n n = L at *
  cases L with
  | nil => exact absurd rfl hne
  | cons x L =>
    have hm : ∀ w ∈ x :: L, mu (mat a ts ws) (toI w) = (a.worst ts (toW ws w) : Int) := fun w hw => mu_is a h1 h2 (hok w hw).1 (hok w hw).2 h0
    obtain ⟨g, hg, e1, e2⟩ := fold_way (wo := a.worst ts) (ψ := toW ws) L x hm
    have em : a.matched ts ws = toW ws g := by
      unfold Su68.Abs.matched
      rw [h1, hr]
      exact e2
    refine ⟨g, (hok g hg).1, (hok g hg).2, ?_, em, ?_⟩
    · rw [hI]
      show bestWay (mat a ts ws) (if mu (mat a ts ws) (toI x) < mu (mat a ts ws) (toI x) then toI x else toI x) (L.map toI) = toI g
      rw [if_neg (Int.lt_irrefl _)]
      exact e1
    · rw [em]
      exact hm g hg
end
end Ty

end
section
set_option Elab.async false
set_option linter.all false
set_option maxRecDepth 100000
set_option maxHeartbeats 2000000
namespace Ty
open PySem PySem.Spec PyProof.Rows L2
section
variable {P : Program} {w : World} {K : PySem.W.Frag} {mg : Str → Option Value} {base : Heap}
variable {CW CT : Addr}
theorem mem_ints {x : Nat} {l : List Nat} : Int.ofNat x ∈ Su68.ints l ↔ x ∈ l := by
  unfold Su68.ints
  rw [List.mem_map]
  constructor
  · rintro ⟨y, hy, e⟩
    have : y = x := by injection e
    exact this ▸ hy
  · exact fun h => ⟨x, h, rfl⟩
theorem ints_nodup : ∀ l : List Nat, (Su68.ints l).Nodup ↔ l.Nodup
  | [] => by simp [Su68.ints]
  | x :: l => by
    show (Int.ofNat x :: Su68.ints l).Nodup ↔ _
    rw [List.nodup_cons, List.nodup_cons, ints_nodup l, mem_ints]
theorem ints_get {l : List Nat} {i x : Nat} (h : l[i]? = some x) : (vi (Su68.ints l))[i]? = some (V.int (x : Int)) := vi_get (by unfold Su68.ints; rw [List.getElem?_map, h]; rfl)
theorem get_ints {l : List Nat} {i : Nat} {y : V} (h : (vi (Su68.ints l))[i]? = some y) : ∃ x, l[i]? = some x ∧ y = V.int (x : Int) := by
  have hi : i < l.length := by have := (List.getElem?_eq_some_iff.mp h).1; simpa [Su68.ints] using this
  have e := ints_get (List.getElem?_eq_getElem hi)
  rw [h] at e
  exact ⟨_, List.getElem?_eq_getElem hi, Option.some.inj e⟩
theorem max_any {l : List Nat} {m : Int} {n : Nat} (m1 : m ∈ Su68.ints l) (m2 : ∀ y, y ∈ Su68.ints l → y ≤ m) : (l.any fun t => !decide (t < n)) = decide ((n : Int) ≤ m) := by
  obtain ⟨x, hx, rfl⟩ := List.mem_map.mp m1
  by_cases h : (n : Int) ≤ Int.ofNat x
  · rw [decide_eq_true h]
    exact List.any_eq_true.mpr ⟨x, hx, by rw [decide_eq_false (by have : (n : Int) ≤ (x : Int) := h; omega)]; rfl⟩
  · rw [decide_eq_false h, List.any_eq_false]
    intro t ht hb
    have : (Int.ofNat t) ≤ Int.ofNat x := m2 _ (mem_ints.mpr ht)
    have h1 : (t : Int) ≤ (x : Int) := this
    have h2 : ¬ (n : Int) ≤ (x : Int) := h
    rw [decide_eq_true (by omega)] at hb
    exact absurd hb (by decide)
abbrev s_match_tyres : Stmt := top 62
theorem sc_match_tyres : FnScope ["works", "numbers", "told", "tyres", "wheels", "evened", "tyre", "row", "best", "wheel", "place"] ["works", "numbers", "told"] (defScope s_match_tyres) := ⟨rfl, rfl, rfl, by decide +kernel, rfl, by decide +kernel, by decide +kernel⟩
theorem ok_match_tyres (D : Def K mg "match_tyres" s_match_tyres) (T : Txt2 K mg CW CT) (Tt : FnAt P w K mg base 1 "is_told_twice" ["numbers"] spTT) (Bt : FnAt P w K mg base 2 "best_turn" ["tyre", "wheel"] spBT) (Wy : FnAt P w K mg base 3 "best_way" ["evened"] spWY) : FnAt P w K mg base 4 "match_tyres" ["works", "numbers", "told"] (spDo CW CT (fun _ _ told => told.length ≤ 30) (fun _ told => .match_ told)) := by
  obtain ⟨f, fd, hm, F⟩ := D
  refine ⟨f, fd, hm, F.kp, F.binds (ps := ["works", "numbers", "told"]) (fun _ _ _ _ _ _ us hl => match us, hl with | [_, _, _], _ => rfl), F.ok sc_match_tyres (fun vs H Q E h => ?_) (fun cdv A outer s H vs Q E hr h => ?_)⟩
  · obtain ⟨p, n, tl, ns, told, k, a, rfl, _⟩ := h; rfl
  · obtain ⟨p, n, tl, ns, told, k, a, rfl, R, hn, ht, h30, post⟩ := h
    obtain ⟨mlA, hML, hMS⟩ := T.MATCH_LENGTHS
    refine ⟨_, (pss_cons (ps_set (i := 3) sc_match_tyres.nd rfl (by first | exact Or.inl rfl | exact Or.inr rfl) (pe_slice sl_list (pv 2) po_none (po_some (pe_op op_fdiv (pe_callB call_len_seq (by rfl) T.len PySem.boot_len (pa_cons (pv 2) pa_nil)) pe_int)))) (pss_cons (ps_set (i := 4) sc_match_tyres.nd rfl (by first | exact Or.inl rfl | exact Or.inr rfl) (pe_slice sl_list (pv 2) (po_some (pe_op op_fdiv (pe_callB call_len_seq (by rfl) T.len PySem.boot_len (pa_cons (pv 2) pa_nil)) pe_int)) po_none)) (pss_cons (ps_if (pw_or (pt_cmpR op_notIn_seq (pe_callB call_len_seq (by rfl) T.len PySem.boot_len (pa_cons (pv 2) pa_nil)) (pg hML) (by rfl)) (pw_or (pt_val (pf Tt (hr.mono (by decide)) (pa_cons (pv 3) pa_nil))) (pw_or1 (pt_val (pf Tt (hr.mono (by decide)) (pa_cons (pv 4) pa_nil)))))).pt (pss_one (ps_ret (pe_lst (pa_cons (pg T.OUT_OF_RANGE) pa_nil)))) pss_nil) (pss_cons (ps_if (pw_or (pt_cmpR op_ge (pe_callB (cr_max rfl) (by rfl) T.max boot_max (pa_cons (pv 3) pa_nil)) (pe_callB call_len_seq (by rfl) T.len PySem.boot_len (pa_cons (pe_fld (pv 0) rfl) pa_nil)) (nomark _)) (pw_or1 (pt_cmpR op_ge (pe_callB (cr_max rfl) (by rfl) T.max boot_max (pa_cons (pv 4) pa_nil)) (pe_callB call_len_seq (by rfl) T.len PySem.boot_len (pa_cons (pe_fld (pv 0) rfl) pa_nil)) (nomark _)))).pt (pss_one (ps_ret (pe_lst (pa_cons (pg T.NO_SUCH) pa_nil)))) pss_nil) (pss_cons (ps_set (i := 5) sc_match_tyres.nd rfl (by first | exact Or.inl rfl | exact Or.inr rfl) (pe_lst pa_nil)) (pss_cons (ps_for PassesOwn.never rfl (pi_list (pv 3)) (pg_name (i := 6) sc_match_tyres.nd rfl (Or.inl rfl)) (pss_cons (ps_set (i := 7) sc_match_tyres.nd rfl (by first | exact Or.inl rfl | exact Or.inr rfl) (pe_fld (pe_ix ix_list (pe_fld (pv 0) rfl) (pv 6) (fun _ _ => rfl)) rfl)) (pss_one (ps_expr (pe_bm PySem.F.plainAttrs_list PySem.F.slot_list_append PySem.F.type_list_append mt_append (pv 5) (pa_cons (pe_lc (own := [("wheel", 9)]) rfl sc_match_tyres.nd (pi_list (pv 4)) (blkOk_by (by show blkC ["works", "numbers", "told", "tyres", "wheels", "evened", "tyre", "row", "best", "wheel", "place"] (defScope s_match_tyres) _ _ = true; decide +kernel)) (fun _ _ _ _ _ => pg_name (i := 9) sc_match_tyres.nd rfl (Or.inl rfl)) (fun _ _ _ _ _ => pts_nil)
      (fun _ _ _ _ _ => (pe_ix (r := rIxT K) ix_tup (pf Bt (hr.mono (by decide)) (pa_cons (pv 7) (pa_cons (pe_ix (r := rIxL K) ix_list (show PE _ _ (tFld K _ _) from pe_fld (pv 0) rfl) (pv 9) (fun _ _ => rfl)) pa_nil))) pe_int (fun _ _ => rfl)))) pa_nil)))))) (pss_cons (ps_set (i := 8) sc_match_tyres.nd rfl (by first | exact Or.inl rfl | exact Or.inr rfl) (pf Wy (hr.mono (by decide)) (pa_cons (pv 5) pa_nil))) (pss_one (ps_ret (pe_op op_cat (pe_lst (pa_cons (pe_ix ix_tup (pv 8) pe_int (fun _ _ => rfl)) pa_nil)) (pe_lc (own := [("place", 10)]) rfl sc_match_tyres.nd (pi_list (pe_ix ix_tup (pv 8) pe_int (fun _ _ => rfl))) (blkOk_by (by show blkC ["works", "numbers", "told", "tyres", "wheels", "evened", "tyre", "row", "best", "wheel", "place"] (defScope s_match_tyres) _ _ = true; decide +kernel)) (fun _ _ _ _ _ => pg_name (i := 10) sc_match_tyres.nd rfl (Or.inl rfl)) (fun _ _ _ _ _ => pts_nil)
      (fun _ _ _ _ _ => (pe_ix (r := rIxL K) ix_list (pv 4) (pv 10) (fun _ _ => rfl)))))))))))))), ?_⟩
    have eh : (((vi (Su68.ints told)).length : Nat) : Int) / 2 = ((told.length / 2 : Nat) : Int) := by rw [vi_len, ints_len]; omega
    have hle : told.length / 2 ≤ (Su68.ints told).length := by rw [ints_len]; omega
    refine ⟨_, rfl, _, rfl, tl, _, rfl, .inl (SqL.of ht), _, _, rfl, rfl, ⟨by decide, by decide⟩, _, rfl, tl, _, rfl, SqL.of ht, fun tA htA => ?_⟩
    rw [eh, cut_to hle]
    have s1 : Same H (upd H tA (.lst (vi ((Su68.ints told).take (told.length / 2))))) := Same.new htA
    refine ⟨_, rfl, _, rfl, tl, _, rfl, .inl (SqL.of (s1 _ _ ht)), _, _, rfl, rfl, ⟨by decide, by decide⟩, _, rfl, tl, _, rfl, SqL.of (s1 _ _ ht), fun wA hwA => ?_⟩
    rw [eh, cut_from hle]
    have s2 := s1.trans (Same.new (o := .lst (vi ((Su68.ints told).drop (told.length / 2)))) hwA)
    have hts : At (upd (upd H tA (.lst (vi ((Su68.ints told).take (told.length / 2))))) wA (.lst (vi ((Su68.ints told).drop (told.length / 2))))) tA (Su68.ints (Su68.halves told).1) := by
      have := Same.new hwA (o := .lst (vi ((Su68.ints told).drop (told.length / 2)))) _ _ (upd_same (H := H) (a := tA))
      unfold Su68.halves Su68.ints
      rw [List.map_take]
      exact this
    have hws : At (upd (upd H tA (.lst (vi ((Su68.ints told).take (told.length / 2))))) wA (.lst (vi ((Su68.ints told).drop (told.length / 2))))) wA (Su68.ints (Su68.halves told).2) := by
      unfold Su68.halves Su68.ints
      rw [List.map_drop]
      exact upd_same
    generalize upd (upd H tA (.lst (vi ((Su68.ints told).take (told.length / 2))))) wA (.lst (vi ((Su68.ints told).drop (told.length / 2)))) = H2 at *
    have l1 : (Su68.halves told).1.length = told.length / 2 := by unfold Su68.halves; simp; omega
    have l2 : (Su68.halves told).2.length = told.length - told.length / 2 := by unfold Su68.halves; simp
    generalize hts' : (Su68.halves told).1 = ts at *
    generalize hws' : (Su68.halves told).2 = ws at *
    have R2 := R.same s2
    have refuse : ∀ {H3 : Hp}, Same H2 H3 → Su68.does a (.match_ told) = (a, Su68.no (-22)) → ∀ q, H3 q = Option.none → Q (.ref q) (upd H3 q (.lst [V.int (-22)])) := fun s hd q hq => ro R post (Su68.no (-22)) hd ((s2.trans s).trans (Same.new hq)) ((s2.trans s).free hq) upd_same
    have dm : Su68.does a (.match_ told) = (if told = [] ∨ told.length % 2 ≠ 0 ∨ 8 < told.length ∨ ¬ ts.Nodup ∨ ¬ ws.Nodup then (a, Su68.no (-22)) else if ts.any (fun t => !(a.isT t)) ∨ ws.any (fun w => !(a.isW w)) then (a, Su68.no (-2)) else (a, Su68.num (a.worst ts (a.matched ts ws)) (Su68.ints (a.matched ts ws)))) := by
      rw [← hts', ← hws']
      rfl
    refine ⟨_, rfl, tl, _, rfl, .inl (SqL.of (s2 _ _ ht)), mlA, vi [2, 4, 6, 8], rfl, .inr (hMS _), rfl, rfl, _, rfl, ?_⟩
    rw [inV_is, vi_len, ints_len]
    by_cases hlen : told.length = 2 ∨ told.length = 4 ∨ told.length = 6 ∨ told.length = 8
    rotate_left
    · rw [decide_eq_false (show ¬ ((told.length : Nat) : Int) ∈ [2, 4, 6, 8] by simp; omega)]
      refine iteT (iteT ⟨line (by simp), refuse (Same.refl _) (dm.trans (if_pos ?_))⟩)
      by_cases h1 : told = []
      · exact .inl h1
      · have : told.length ≠ 0 := fun z => h1 (List.length_eq_zero_iff.mp z)
        right
        by_cases h2 : told.length % 2 ≠ 0
        · exact .inl h2
        · right; left; omega
    · rw [decide_eq_true (show ((told.length : Nat) : Int) ∈ [2, 4, 6, 8] by simp; omega)]
      refine iteF ⟨_, rfl, tA, _, rfl, hts, by rw [ints_len]; omega, _, rfl, ?_⟩
      by_cases hN1 : ts.Nodup
      rotate_left
      · rw [decide_eq_true (show ¬ (Su68.ints ts).Nodup from fun z => hN1 ((ints_nodup ts).mp z))]
        exact iteT (iteT ⟨line (by simp), refuse (Same.refl _) (dm.trans (if_pos (.inr (.inr (.inr (.inl hN1))))))⟩)
      · rw [decide_eq_false (show ¬ ¬ (Su68.ints ts).Nodup from fun z => z ((ints_nodup ts).mpr hN1))]
        refine iteF ⟨_, rfl, wA, _, rfl, hws, by rw [ints_len]; omega, _, rfl, ?_⟩
        by_cases hN2 : ws.Nodup
        rotate_left
        · rw [decide_eq_true (show ¬ (Su68.ints ws).Nodup from fun z => hN2 ((ints_nodup ws).mp z))]
          exact iteT ⟨line (by simp), refuse (Same.refl _) (dm.trans (if_pos (.inr (.inr (.inr (.inr hN2))))))⟩
        · rw [decide_eq_false (show ¬ ¬ (Su68.ints ws).Nodup from fun z => z ((ints_nodup ws).mpr hN2))]
          have dm2 := dm.trans (if_neg (by
            intro z
            rcases z with z | z | z | z | z
            · rw [z] at hlen; simp at hlen
            · omega
            · omega
            · exact z hN1
            · exact z hN2))
          clear dm refuse
          obtain ⟨m, hm1, hm4, e1, e2⟩ : ∃ m : Nat, 0 < m ∧ m ≤ 4 ∧ ts.length = m ∧ ws.length = m := ⟨ts.length, by omega, by omega, rfl, by omega⟩
          have wlen : (k.wa.map V.ref).length = a.wheels.length := by rw [List.length_map, R.wl.len]
          refine iteF ⟨_, rfl, tA, Su68.ints ts, rfl, SqL.of hts, by rw [ints_len]; omega, fun mt mt1 mt2 => ⟨_, rfl, p, CW, k.dx, _, _, rfl, R2.ins, T.clW, T.nt, wf_tyres .., k.t, _, rfl, .inl (SqL.of R2.tl), _, _, rfl, rfl, _, rfl, ?_⟩⟩
          rw [tlen' R]
          have a1 : (ts.any fun t => !(a.isT t)) = decide ((a.tyres.length : Int) ≤ mt) := max_any mt1 mt2
          rw [← a1]
          by_cases hT : (ts.any fun t => !(a.isT t)) = true
          · rw [hT]
            exact iteT (iteT ⟨line (by simp), fun q hq => ro R post (Su68.no (-2)) (dm2.trans (if_pos (.inl hT))) (s2.trans (Same.new hq)) (s2.free hq) upd_same⟩)
          · rw [Bool.not_eq_true] at hT
            rw [hT]
            refine iteF ⟨_, rfl, wA, Su68.ints ws, rfl, SqL.of hws, by rw [ints_len]; omega, fun mw mw1 mw2 => ⟨_, rfl, p, CW, k.dx, _, _, rfl, R2.ins, T.clW, T.nw, wf_wheels .., k.w, _, rfl, .inl (SqL.of R2.wl.lst), _, _, rfl, rfl, _, rfl, ?_⟩⟩
            rw [wlen]
            have a2 : (ws.any fun w => !(a.isW w)) = decide ((a.wheels.length : Int) ≤ mw) := max_any mw1 mw2
            rw [← a2]
            by_cases hW : (ws.any fun w => !(a.isW w)) = true
            · rw [hW]
              exact iteT ⟨line (by simp), fun q hq => ro R post (Su68.no (-2)) (dm2.trans (if_pos (.inr hW))) (s2.trans (Same.new hq)) (s2.free hq) upd_same⟩
            · rw [Bool.not_eq_true] at hW
              rw [hW]
              have dm3 := dm2.trans (if_neg (by rw [hT, hW]; simp))
              have okT : ∀ t ∈ ts, t < a.tyres.length := fun t h => by
                have := List.any_eq_false.mp hT t h
                unfold Su68.Abs.isT at this
                by_cases z : t < a.tyres.length
                · exact z
                · rw [decide_eq_false z] at this; exact absurd rfl this
              have okW : ∀ t ∈ ws, t < a.wheels.length := fun t h => by
                have := List.any_eq_false.mp hW t h
                unfold Su68.Abs.isW at this
                by_cases z : t < a.wheels.length
                · exact z
                · rw [decide_eq_false z] at this; exact absurd rfl this
              refine iteF ⟨line (by simp), fun ev hev => ?_⟩
              have s3 : Same H2 (upd H2 ev (.lst [])) := Same.new hev
              refine ⟨_, rfl, tA, rfl, ⟨_, SqL.of (s3 _ _ hts)⟩, for_list (K := K) (a := tA) (xs := vi (Su68.ints ts)) (fun i σ H' => ∃ v6 v7, σ = [some (.ref p), some (.ref n), some (.ref tl), some (.ref tA), some (.ref wA), some (.ref ev), v6, v7, none, none, none] ∧ Same H2 H' ∧ LL H' ev (mat a (ts.take i) ws))
                ⟨none, none, rfl, s3, [], LLx.nil⟩ (fun i σ H' _ ⟨_, _, _, s5, _⟩ => SqL.of (s5 _ _ hts)) ?_ ?_⟩
              · rintro i y σ H' hi ⟨v6, v7, rfl, s5, as, hl5⟩
                obtain ⟨t, ht1, rfl⟩ := get_ints hi
                have R5 := R2.same s5
                obtain ⟨c, dt, ra, hc1, hc2, hc3, hc4, hR, hm8⟩ := R5.tyre (okT t (List.mem_of_getElem? ht1))
                refine ⟨_, rfl, p, CW, k.dx, _, _, rfl, R5.ins, T.clW, T.nt, wf_tyres .., _, rfl, k.t, _, _, _, rfl, rfl, SqL.of R5.tl, atI_nat hc2, c, CT, dt, _, _, rfl, hc3, T.clT, T.tr, tf_row .., ?_⟩
                refine ⟨_, rfl, .inl ⟨rfl, _, SqL.of hl5.lst⟩, _, rfl, wA, rfl, ⟨_, SqL.of (s5 _ _ hws)⟩, fun Dd hD => lc_mapL (xs := vi (Su68.ints ws)) (SqL.of (s5 _ _ hws)) hD (fun x => match x with | .int z => .int (Su68.evened (a.row t) (a.wheel z.toNat) : Int) | x => x) (by rw [vi_len, ints_len]; omega) (fun _ => rfl) (fun j x H6 Q' hj hs kk => ?_) (fun H6 hs hd => ?_)⟩
                · obtain ⟨v, hv, rfl⟩ := get_ints hj
                  have hvl := okW v (List.mem_of_getElem? hv)
                  have R6 := R5.same hs
                  obtain ⟨d, hd1, hd2, hd3⟩ := R6.wl.get (List.getElem?_eq_getElem hvl)
                  have ew : a.wheel v = a.wheels[v] := by unfold Su68.Abs.wheel; rw [List.getD_eq_getElem?_getD, List.getElem?_eq_getElem hvl]; rfl
                  rw [← ew] at hd3
                  have hw12 : (a.wheel v).length = 12 := by rw [ew]; exact R.ok.wheel _ (List.getElem_mem hvl)
                  exact ⟨_, rfl, _, rfl, p, CW, k.dx, _, _, rfl, R6.ins, T.clW, T.nw, wf_wheels .., _, rfl, k.w, _, _, _, rfl, rfl, SqL.of R6.wl.lst, atI_nat hd2, ra, d, a.row t, a.wheel v, rfl, hs _ _ hc4, hd3, ⟨hR.1, hw12⟩, fun H7 b s7 hb0 hb => ⟨b, _, _, _, rfl, rfl, SqT.of hb, atT2, kk _ s7⟩⟩
                · have hDe : Dd ≠ ev := fun e => by
                    have := hl5.lst
                    rw [← e, hD] at this
                    cases this
                  have hal : as.length ≤ 4 := by rw [hl5.len]; unfold mat; rw [List.length_map, List.length_take]; omega
                  refine ⟨ev, as.map V.ref, _, rfl, rfl, hs _ _ hl5.lst, lineLt (by rw [List.length_map]; omega), _, _, rfl, ?_, as ++ [Dd], ?_⟩
                  · exact fun b o e => by
                      rw [upd_ne (ne_of_none e hev)]
                      exact hs _ _ (s5 _ _ e)
                  · have em : mat a (ts.take (i + 1)) ws = mat a (ts.take i) ws ++ [ws.map fun w => (Su68.evened (a.row t) (a.wheel w) : Int)] := by
                      unfold mat
                      rw [List.take_add_one, ht1, List.map_append]
                      rfl
                    rw [em]
                    refine hl5.push hs ?_ hDe
                    refine hd.trans ?_
                    unfold vi Su68.ints
                    rw [List.map_map, List.map_map, List.map_map]
                    rfl
              · rintro σ H' ⟨v6, v7, rfl, s5, hl5⟩
                rw [vi_len, ints_len, List.take_length] at hl5
                obtain ⟨g, g1, g2, g3, g4, g5⟩ := match_is a e1 e2 hm1 hm4 hN2
                refine ⟨_, rfl, ev, mat a ts ws, m, rfl, hl5, ⟨mat_sq a e1 e2, hm1, hm4⟩, fun H6 b wy s6 hb hwy => ?_⟩
                rw [g3] at hb hwy
                rw [g5] at hb
                refine ⟨_, rfl, b, _, _, _, rfl, rfl, SqT.of hb, atT0, line (by simp), fun z hz => ?_⟩
                have s7 : Same H6 (upd H6 z (.lst [V.int (a.worst ts (a.matched ts ws) : Int)])) := Same.new hz
                refine ⟨_, rfl, b, _, _, _, rfl, rfl, SqT.of (s7 _ _ hb), atT2, wy, rfl, ⟨_, SqL.of (s7 _ _ hwy)⟩, fun Dd hD => lc_mapL (xs := vi (toI g)) (SqL.of (s7 _ _ hwy)) hD (fun x => match x with | .int q => .int (ws.getD q.toNat 0 : Int) | x => x) (by rw [vi_len]; unfold toI; rw [List.length_map]; omega) (fun _ => rfl) (fun j x H8 Q' hj hs kk => ?_) (fun H8 hs hd => ?_)⟩
                · have hj' : j < g.length := by have := (List.getElem?_eq_some_iff.mp hj).1; simpa [toI] using this
                  have hgj : (vi (toI g))[j]? = some (V.int (g[j] : Int)) := vi_get (by unfold toI; rw [List.getElem?_map, List.getElem?_eq_getElem hj']; rfl)
                  rw [hgj] at hj
                  obtain rfl := Option.some.inj hj
                  have hgw : g[j] < ws.length := by rw [e2]; exact g2 _ (List.getElem_mem hj')
                  have s8 := s5.trans (s6.trans (s7.trans hs))
                  refine ⟨_, rfl, _, rfl, wA, _, _, _, rfl, rfl, SqL.of (s8 _ _ hws), atI_nat (ints_get (List.getElem?_eq_getElem hgw)), ?_⟩
                  have := kk _ (Same.refl _)
                  dsimp only at this
                  rw [show ((g[j] : Int)).toNat = g[j] from rfl, List.getD_eq_getElem?_getD, List.getElem?_eq_getElem hgw] at this
                  exact this
                · refine ⟨z, Dd, [V.int (a.worst ts (a.matched ts ws) : Int)], _, rfl, rfl, hs _ _ upd_same, hd, line (by simp [toI, g1]; omega), fun q hq => ?_⟩
                  refine ro R post (Su68.num (a.worst ts (a.matched ts ws)) (Su68.ints (a.matched ts ws))) dm3 (s2.trans (s5.trans (s6.trans (s7.trans (hs.trans (Same.new hq)))))) ((s2.trans (s5.trans (s6.trans (s7.trans hs)))).free hq) ?_
                  show upd _ q _ q = some (HO.lst (vi (_ :: Su68.ints (a.matched ts ws))))
                  rw [upd_same, g4]
                  unfold vi toI toW Su68.ints
                  rw [List.map_map, List.map_map, List.map_cons, List.map_map, List.map_map]
                  rfl
end
end Ty

end
section
set_option Elab.async false
set_option linter.all false
set_option maxRecDepth 100000
set_option maxHeartbeats 2000000
namespace Ty
open PySem PySem.Spec PyProof.Rows L2
section
variable {P : Program} {w : World} {K : PySem.W.Frag} {mg : Str → Option Value} {base : Heap}
variable {CW CT : Addr}
/-! ### how long an answer is -/
theorem rows_len : ∀ (n : Nat) (l r : List Nat), r ∈ Su68.rows n l → r.length = n
  | 0, l, r, h => by
    rw [List.mem_singleton.mp h]
    rfl
  | n + 1, l, r, h => by
    obtain ⟨x, _, h⟩ := List.mem_flatMap.mp h
    obtain ⟨r', h', rfl⟩ := List.mem_map.mp h
    rw [List.length_cons, rows_len n _ r' h']
theorem fold_mem {α : Type} (c : α → α → Prop) [∀ x y, Decidable (c x y)] : ∀ (L : List α) (b : α), L.foldl (fun b r => if c r b then r else b) b = b ∨ L.foldl (fun b r => if c r b then r else b) b ∈ L
  | [], b => .inl rfl
  | x :: L, b => by
    rw [List.foldl_cons]
    by_cases h : c x b
    · rw [if_pos h]
      rcases fold_mem c L x with e | e
      · rw [e]; right; simp
      · right; exact List.mem_cons_of_mem _ e
    · rw [if_neg h]
      rcases fold_mem c L b with e | e
      · exact .inl e
      · right; exact List.mem_cons_of_mem _ e
theorem matched_len (a : Su68.Abs) (ts ws : List Nat) : (a.matched ts ws).length ≤ ts.length := by
  unfold Su68.Abs.matched
  have hd : ((Su68.rows ts.length ws).headD []).length ≤ ts.length := by
    cases e : Su68.rows ts.length ws with
    | nil => simp
    | cons x r =>
      show x.length ≤ ts.length
      rw [rows_len ts.length ws x (by rw [e]; simp)]
      exact Nat.le_refl _
  rcases fold_mem (fun r b => a.worst ts r < a.worst ts b) ((Su68.rows ts.length ws).drop 1) ((Su68.rows ts.length ws).headD []) with e | e
  · rw [e]; exact hd
  · rw [rows_len _ _ _ (List.mem_of_mem_drop e)]
    exact Nat.le_refl _
theorem filter_range (n : Nat) (p : Nat → Bool) : ((List.range n).filter p).length ≤ n := Nat.le_trans (List.length_filter_le _ _) (by simp)
theorem out_len {a : Su68.Abs} (h : AbsOk a) (c : Su68.Call) : (Su68.does a c).2.out.length ≤ 60 := by
  have h1 := h.g4
  have h2 := h.t60
  have no_ : ∀ (x : Su68.Abs) (v : Int), (x, Su68.no v).2.out.length ≤ 60 := fun _ _ => Nat.zero_le _
  have num_ : ∀ (x : Su68.Abs) (n : Nat) (l : List Int), l.length ≤ 60 → (x, Su68.num n l).2.out.length ≤ 60 := fun _ _ _ h => h
  cases c with
  | begin_ => exact no_ _ _
  | grade p j w =>
    show (if _ then _ else if _ then _ else _ : Su68.Abs × Su68.Ans).2.out.length ≤ 60
    split
    · exact no_ _ _
    · split
      · exact no_ _ _
      · exact num_ _ _ _ (by simp)
  | machine l =>
    show (if _ then _ else if _ then _ else _ : Su68.Abs × Su68.Ans).2.out.length ≤ 60
    split
    · exact no_ _ _
    · split
      · exact no_ _ _
      · exact num_ _ _ _ (by simp)
  | tyre k m l =>
    show (if _ then _ else if _ then _ else if _ then _ else _ : Su68.Abs × Su68.Ans).2.out.length ≤ 60
    split
    · exact no_ _ _
    · split
      · exact no_ _ _
      · split
        · exact no_ _ _
        · exact num_ _ _ _ (by simp)
  | again t k l =>
    show (if _ then _ else if _ then _ else _ : Su68.Abs × Su68.Ans).2.out.length ≤ 60
    split
    · exact no_ _ _
    · split
      · exact no_ _ _
      · exact Nat.zero_le _
  | turn t k =>
    show (if _ then _ else if _ then _ else _ : Su68.Abs × Su68.Ans).2.out.length ≤ 60
    split
    · exact no_ _ _
    · split
      · exact no_ _ _
      · exact Nat.zero_le _
  | wheel l =>
    show (if _ then _ else if _ then _ else _ : Su68.Abs × Su68.Ans).2.out.length ≤ 60
    split
    · exact no_ _ _
    · split
      · exact no_ _ _
      · exact num_ _ _ _ (by simp)
  | match_ l =>
    show (if _ then _ else if _ then _ else _ : Su68.Abs × Su68.Ans).2.out.length ≤ 60
    split
    · exact no_ _ _
    · rename_i hc
      split
      · exact no_ _ _
      · have h8 : l.length ≤ 8 := by
          by_cases z : 8 < l.length
          · exact absurd (.inr (.inr (.inl z))) hc
          · omega
        refine num_ _ _ _ ?_
        unfold Su68.ints
        rw [List.length_map]
        refine Nat.le_trans (matched_len a _ _) ?_
        unfold Su68.halves
        rw [List.length_take]
        omega
  | mount t w =>
    show (if _ then _ else _ : Su68.Abs × Su68.Ans).2.out.length ≤ 60
    split
    · exact no_ _ _
    · exact num_ _ _ _ (by simp)
  | weight t =>
    show (if _ then _ else _ : Su68.Abs × Su68.Ans).2.out.length ≤ 60
    split
    · exact no_ _ _
    · exact num_ _ _ _ (by simp)
  | peak t =>
    show (if _ then _ else _ : Su68.Abs × Su68.Ans).2.out.length ≤ 60
    split
    · exact no_ _ _
    · exact num_ _ _ _ (by simp)
  | jump t =>
    show (if _ then _ else _ : Su68.Abs × Su68.Ans).2.out.length ≤ 60
    split
    · exact no_ _ _
    · exact num_ _ _ _ (by simp)
  | wave t =>
    show (if _ then _ else _ : Su68.Abs × Su68.Ans).2.out.length ≤ 60
    split
    · exact no_ _ _
    · exact num_ _ _ _ (by simp)
  | graded t =>
    show (if _ then _ else _ : Su68.Abs × Su68.Ans).2.out.length ≤ 60
    split
    · exact no_ _ _
    · cases a.graded (a.row t) with
      | none => exact no_ _ _
      | some g => exact num_ _ _ _ (by simp)
  | why t g =>
    show (if _ then _ else _ : Su68.Abs × Su68.Ans).2.out.length ≤ 60
    split
    · exact no_ _ _
    · exact num_ _ _ _ (by simp)
  | of g =>
    show (if _ then _ else _ : Su68.Abs × Su68.Ans).2.out.length ≤ 60
    split
    · exact no_ _ _
    · refine num_ _ _ _ ?_
      unfold Su68.ints
      rw [List.length_map]
      exact Nat.le_trans (filter_range _ _) h2
  | mould m =>
    show (if _ then _ else _ : Su68.Abs × Su68.Ans).2.out.length ≤ 60
    split
    · exact no_ _ _
    · exact num_ _ _ _ (by simp)
  | uneven =>
    show (match a.uneven with | none => _ | some m => _ : Su68.Abs × Su68.Ans).2.out.length ≤ 60
    cases a.uneven with
    | none => exact no_ _ _
    | some m => exact num_ _ _ _ (by simp)
  | alarm m n =>
    show (if _ then _ else if _ then _ else _ : Su68.Abs × Su68.Ans).2.out.length ≤ 60
    split
    · exact no_ _ _
    · split
      · exact no_ _ _
      · exact num_ _ _ _ (by simp)
  | look t =>
    show (if _ then _ else _ : Su68.Abs × Su68.Ans).2.out.length ≤ 60
    split
    · exact no_ _ _
    · exact num_ _ _ _ (by simp)
  | points t =>
    show (if _ then _ else _ : Su68.Abs × Su68.Ans).2.out.length ≤ 60
    split
    · exact no_ _ _
    · rename_i hc
      refine num_ _ _ _ ?_
      have ht : t < a.tyres.length := by
        by_cases z : t < a.tyres.length
        · exact z
        · exact absurd (not_isT (by omega)) hc
      have : Row (a.row t) := by
        unfold Su68.Abs.row Su68.Abs.tyre
        rw [List.getD_eq_getElem?_getD, List.getElem?_eq_getElem ht]
        exact (h.tyre _ (List.getElem_mem ht)).1
      rw [this.1]
      decide
  | sums =>
    refine num_ _ _ _ ?_
    simp
    omega
  | state => exact num_ _ _ _ (by simp [Su68.ints])
/-! ### one call -/
def stB (s : Option Su68.Abs) : Bool := s.isSome
def stA (s : Option Su68.Abs) : Su68.Abs := s.getD Su68.empty
def spAO (CW CT : Addr) : Sp := fun vs H Q _ => ∃ p c n tl ns told k s cl, vs = [.ref p, .int ((c : Nat) : Int), .ref n, .ref tl] ∧ Rep CW CT H p k (stB s) (stA s) ∧ At H n (Su68.ints ns) ∧ At H tl (Su68.ints told) ∧ (callAt c ns told = some cl ∧ told.length ≤ 30) ∧
  ∀ H' q k', Rep CW CT H' p k' (stB (Su68.step s cl).1) (stA (Su68.step s cl).1) → Keeps (k.own p) H H' → Fresh CT H p k n tl H' k' → H q = Option.none → At H' q (ans (Su68.step s cl).2) → Q (.ref q) H'
theorem step_len {s : Option Su68.Abs} {H : Hp} {p : Addr} {k : Wk} (R : Rep CW CT H p k (stB s) (stA s)) (cl : Su68.Call) : (ans (Su68.step s cl).2).length ≤ 61 := by
  unfold ans
  rw [List.length_cons]
  refine Nat.succ_le_succ ?_
  cases s with
  | none => cases cl <;> exact Nat.zero_le _
  | some a => exact out_len R.ok cl
end
end Ty

end
section
set_option Elab.async false
set_option linter.all false
set_option maxRecDepth 100000
set_option maxHeartbeats 2000000
namespace Ty
open PySem PySem.Spec PyProof.Rows L2
section
variable {P : Program} {w : World} {K : PySem.W.Frag} {mg : Str → Option Value} {base : Heap}
variable {CW CT : Addr}
/-- the letters of a call's numbers: t, k, w, g, n -/
def lets : List (List Nat) := [[], [110, 110, 110], [], [107, 110], [116, 107], [116, 110], [], [116, 119], [], [116], [116], [116], [116], [116], [116, 103], [103], [110], [], [110, 110], [116], [116], [], []]
def letV (l : List Nat) : V := .str ⟨l.toArray⟩
theorem lets_at : ∀ c, c < 23 → (lets.getD c []).length = numsOf.getD c 0 := by decide
structure Txt3 (K : PySem.W.Frag) (mg : Str → Option Value) : Prop where
  NUMBERS_OF : ∃ a, GI mg "NUMBERS_OF" (.ref a) ∧ ∀ H : Hp, SqT K H a (lets.map letV)
  WITH_LIST : ∃ a, GI mg "WITH_LIST" (.ref a) ∧ ∀ H : Hp, SqT K H a (vi [2, 3, 4, 6, 8])
theorem cut_mid {r : List Int} {i j : Nat} (hi : i ≤ j) (hj : j ≤ r.length) : cutV (vi r) (some (i : Int)) (some (j : Int)) = vi ((r.drop i).take (j - i)) := by
  unfold cutV
  rw [HT.sIx_nat, HT.sIx_nat, vi_len, Nat.min_eq_left hj, Nat.min_eq_left (by omega), ← List.map_drop, ← List.map_take]
section
variable {H : Hp} {p x : Addr} {k : Wk} {b : Bool} {a : Su68.Abs} {o : HO}
theorem LLx.updL {l : Addr} {as : List Addr} {ws : List (List Int)} (h : LLx H l as ws) (hl : l ≠ x) (ha : x ∉ as) : LLx (upd H x o) l as ws :=
  ⟨by rw [upd_ne hl]; exact h.lst, h.len, fun j b e => by
    obtain ⟨n, w2, e1, e2⟩ := h.at_ j b e
    have hb : b ≠ x := fun z => ha (z ▸ List.mem_of_getElem? e)
    exact ⟨n, w2, e1, by show upd H x o b = _; rw [upd_ne hb]; exact e2⟩⟩
theorem Rep.updL (R : Rep CW CT H p k b a) (h1 : x ∉ k.own p) (h2 : ¬ Elt CT H k x) : Rep CW CT (upd H x o) p k b a := by
  have np : p ≠ x := fun e => h1 (e ▸ own_p)
  have ng : k.g ≠ x := fun e => h1 (e ▸ own_g)
  have nm : k.m ≠ x := fun e => h1 (e ▸ own_m)
  have nt : k.t ≠ x := fun e => h1 (e ▸ own_t)
  have nw : k.w ≠ x := fun e => h1 (e ▸ own_w)
  refine ⟨by rw [upd_ne np]; exact R.ins, R.gl.updL ng fun z => h2 (.inl z), R.ml.updL nm fun z => h2 (.inr (.inl z)), R.wl.updL nw fun z => h2 (.inr (.inr (.inl z))), by rw [upd_ne nt]; exact R.tl, R.tlen, fun j c e => ?_, R.nd, R.tnd, R.ok⟩
  obtain ⟨dt, ra, ty, e1, e2, e3⟩ := R.tat j c e
  have hc : c ≠ x := fun z => h1 (z ▸ own_ta e)
  have hr : ra ≠ x := fun z => h2 (.inr (.inr (.inr ⟨c, dt, _, List.mem_of_getElem? e, z ▸ e2⟩)))
  exact ⟨dt, ra, ty, e1, by rw [upd_ne hc]; exact e2, by show upd H x o ra = _; rw [upd_ne hr]; exact e3⟩
theorem Elt.updL (h1 : x ∉ k.own p) (h2 : ¬ Elt CT H k x) : ¬ Elt CT (upd H x o) k x := by
  intro h
  rcases h with h | h | h | ⟨c, dt, m, e1, e2⟩
  · exact h2 (.inl h)
  · exact h2 (.inr (.inl h))
  · exact h2 (.inr (.inr (.inl h)))
  · have hc : c ≠ x := fun z => by
      obtain ⟨i, hi⟩ := List.mem_iff_getElem?.mp e1
      exact h1 (z ▸ own_ta hi)
    rw [upd_ne hc] at e2
    exact h2 (.inr (.inr (.inr ⟨c, dt, m, e1, e2⟩)))
end
abbrev stepF : Su68Neutral.S → List (List Int) → Su68Neutral.S × List Int := fun s c => Su68Neutral.step s (c.headD [])
theorem stepF_is {s : Su68Neutral.S} {cc : List (List Int)} {cl : Su68.Call} (h : Su68Neutral.callOf ((PySu68.whole cc).headD []) = some cl) : stepF s (PySu68.whole cc) = ((Su68.step s cl).1, ans (Su68.step s cl).2) := by
  unfold stepF Su68Neutral.step
  rw [h]
  rfl
theorem told_cons (x : List Int) (l : List (List Int)) : PyFlat.told (x :: l) = (x.length : Int) :: x ++ PyFlat.told l := by
  unfold PyFlat.told
  rw [List.flatMap_cons]
def spAns (K : PySem.W.Frag) : Sp := fun vs H Q _ => ∃ (a : Addr) (l : List Int), vs = [.ref a] ∧ SqL K H a (vi l) ∧ (l.length ≤ 14000 ∧ (∀ x ∈ l, 0 ≤ x) ∧ PySu68.answers_asked l = true) ∧ ∀ (H' : Hp) (p : Addr), H' p = some (.lst (vi (PySu68.answers l))) → Q (.ref p) H'
abbrev s_answers : Stmt := top 84
theorem sc_answers : FnScope ["calls", "works", "answered", "at", "call", "behind", "numbers", "told", "answer"] ["calls"] (defScope s_answers) := ⟨rfl, rfl, rfl, by decide +kernel, rfl, by decide +kernel, by decide +kernel⟩
theorem ok_answers {f : Addr} {fd : FuncData} (F : Fun K "answers" "answers" s_answers f fd) {fW : Addr} {fdW : FuncData} (T : Txt2 K mg CW CT) (T3 : Txt3 K mg) (Mw : Mk K CW fW) (Wi : FnOk P w K mg base CX0 2 fW fdW ["self"] (spWkI CW)) (bW : Binds K fdW ["self"] []) (Ao : FnAt P w K mg base 9 "answer_of" ["works", "call", "numbers", "told"] (spAO CW CT)) : FnOk P w K mg base CX0 10 f fd ["calls"] (spAns K) := by
  refine F.ok sc_answers (fun vs H Q E h => ?_) (fun cdv A outer s H vs Q E hr h => ?_)
  · obtain ⟨a, l, rfl, _⟩ := h; rfl
  · obtain ⟨ca, l, rfl, hca, ⟨h14, h0, hask⟩, q⟩ := h
    obtain ⟨noA, hNO, hNS⟩ := T3.NUMBERS_OF
    obtain ⟨wlA, hWL, hWS⟩ := T3.WITH_LIST
    refine ⟨_, (pss_cons (ps_set (i := 1) sc_answers.nd rfl (by first | exact Or.inl rfl | exact Or.inr rfl) (pe_make0 Mw Wi (hr.mono (by decide)) rfl T.mgW bW .nil pass0)) (pss_cons (ps_set (i := 2) sc_answers.nd rfl (by first | exact Or.inl rfl | exact Or.inr rfl) (pe_lst pa_nil)) (pss_cons (ps_set (i := 3) sc_answers.nd rfl (by first | exact Or.inl rfl | exact Or.inr rfl) pe_int) (pss_cons (ps_while PassesOwn.never (pt_cmpR op_lt (pv 3) (pe_callB call_len_seq (by rfl) T.len PySem.boot_len (pa_cons (pv 0) pa_nil)) (nomark _)) (pss_cons (ps_set (i := 4) sc_answers.nd rfl (by first | exact Or.inl rfl | exact Or.inr rfl) (pe_ix ix_list (pv 0) (pv 3) (fun _ _ => rfl))) (pss_cons (ps_set (i := 5) sc_answers.nd rfl (by first | exact Or.inl rfl | exact Or.inr rfl) (pe_op op_add (pe_op op_add (pv 3) pe_int) (pe_callB call_len_str (by rfl) T.len PySem.boot_len (pa_cons (pe_ix ix_tup (pg hNO) (pv 4) (fun _ _ => rfl)) pa_nil)))) (pss_cons (ps_set (i := 6) sc_answers.nd rfl (by first | exact Or.inl rfl | exact Or.inr rfl) (pe_slice sl_list (pv 0) (po_some (pe_op op_add (pv 3) pe_int)) (po_some (pv 5)))) (pss_cons (ps_set (i := 7) sc_answers.nd rfl (by first | exact Or.inl rfl | exact Or.inr rfl) (pe_lst pa_nil)) (pss_cons (ps_if (pt_cmpR op_in_seq (pv 4) (pg hWL) (by rfl)) (pss_cons (ps_set (i := 7) sc_answers.nd rfl (by first | exact Or.inl rfl | exact Or.inr rfl) (pe_slice sl_list (pv 0) (po_some (pe_op op_add (pv 5) pe_int)) (po_some (pe_op op_add (pe_op op_add (pv 5) pe_int) (pe_ix ix_list (pv 0) (pv 5) (fun _ _ => rfl)))))) (pss_one (ps_set (i := 5) sc_answers.nd rfl (by first | exact Or.inl rfl | exact Or.inr rfl) (pe_op op_add (pe_op op_add (pv 5) pe_int) (pe_ix ix_list (pv 0) (pv 5) (fun _ _ => rfl)))))) pss_nil) (pss_cons (ps_set (i := 8) sc_answers.nd rfl (by first | exact Or.inl rfl | exact Or.inr rfl) (pf Ao (hr.mono (by decide)) (pa_cons (pv 1) (pa_cons (pv 4) (pa_cons (pv 6) (pa_cons (pv 7) pa_nil)))))) (pss_cons (ps_expr (pe_bm PySem.F.plainAttrs_list PySem.F.slot_list_append PySem.F.type_list_append mt_append (pv 2) (pa_cons (pe_callB call_len_seq (by rfl) T.len PySem.boot_len (pa_cons (pv 8) pa_nil)) pa_nil))) (pss_cons (ps_expr (pe_bm PySem.F.plainAttrs_list PySem.F.slot_list_extend PySem.F.type_list_extend mt_extend (pv 2) (pa_cons (pv 8) pa_nil))) (pss_one (ps_set (i := 3) sc_answers.nd rfl (by first | exact Or.inl rfl | exact Or.inr rfl) (pv 5)))))))))))) (pss_one (ps_ret (pv 2))))))), ?_⟩
    intro p dp np ndp nep
    refine ⟨p, dp, rfl, upd_same, fun H1 g m t w k1 k2 k3 k4 k5 k6 k7 k8 => ⟨rfl, ?_⟩⟩
    have s1 : Same H H1 := Same.made np ndp k8
    have fr : ∀ {x : Addr}, upd (upd H dp (.own p)) p (.ins CW dp []) x = none → H x = none := fun {x} e => by
      by_cases hx : x = p
      · rw [hx, upd_same] at e; cases e
      · rw [upd_ne hx] at e
        by_cases hx2 : x = dp
        · rw [hx2, upd_same] at e; cases e
        · rw [upd_ne hx2] at e; exact e
    have R1 : Rep CW CT H1 p ⟨dp, g, m, t, w, [], [], [], []⟩ (stB none) (stA none) := ⟨k1, ⟨k2, rfl, fun j b e => by simp at e⟩, ⟨k3, rfl, fun j b e => by simp at e⟩, ⟨k5, rfl, fun j b e => by simp at e⟩, k4, rfl, fun j c e => by simp at e, k6, List.nodup_nil,
      ⟨by decide, by decide, by decide, by decide, fun r hr => absurd hr (by simp [stA, Su68.empty]), fun r hr => absurd hr (by simp [stA, Su68.empty]), fun r hr => absurd hr (by simp [stA, Su68.empty])⟩⟩
    refine ⟨line (by simp), fun an han => ?_⟩
    have s2 : Same H1 (upd H1 an (.lst [])) := Same.new han
    have hn0 : H an = Option.none := s1.free han
    have own1 : ∀ b, b ∈ (⟨dp, g, m, t, w, [], [], [], []⟩ : Wk).own p → H b = Option.none ∧ b ≠ an := by
      intro b hb
      have hb : b = p ∨ b = g ∨ b = m ∨ b = t ∨ b = w := by simpa [Wk.own] using hb
      rcases hb with e | e | e | e | e
      · exact ⟨e ▸ np, fun z => by rw [← z, e, k1] at han; cases han⟩
      · exact ⟨e ▸ fr k7.1, fun z => by rw [← z, e, k2] at han; cases han⟩
      · exact ⟨e ▸ fr k7.2.1, fun z => by rw [← z, e, k3] at han; cases han⟩
      · exact ⟨e ▸ fr k7.2.2.1, fun z => by rw [← z, e, k4] at han; cases han⟩
      · exact ⟨e ▸ fr k7.2.2.2, fun z => by rw [← z, e, k5] at han; cases han⟩
    have hraw : ∃ raw, PyFlat.calls PySu68.shape l.length l = some raw := by
      unfold PySu68.answers_asked at hask
      cases e : PyFlat.calls PySu68.shape l.length l with
      | none => rw [e] at hask; cases hask
      | some raw => exact ⟨raw, rfl⟩
    obtain ⟨raw, hraw⟩ := hraw
    have hask : raw.length ≤ 400 ∧ PyInside.calls PySu68.bound raw = true := by
      simp only [PySu68.answers_asked, hraw, Bool.and_eq_true, PyFlat.atMost, decide_eq_true_eq] at hask
      exact ⟨hask.1.1.1.2, hask.1.1.2⟩
    have hans : PyFlat.told (PyFlat.played stepF Su68Neutral.start (raw.map PySu68.whole)) = PySu68.answers l := by
      simp only [PySu68.answers, PySu68.calls, hraw]
    refine ⟨fun md σ H' => ∃ (i : Nat) (k : Wk) (s : Option Su68.Abs) (acc : List Int) (raw : List (List (List Int))) (fuel : Nat) (v4 v5 v6 v7 v8 : Option V), md = raw.length ∧ σ = [some (.ref ca), some (.ref p), some (.ref an), some (.int (i : Int)), v4, v5, v6, v7, v8] ∧ Same H H' ∧ Rep CW CT H' p k (stB s) (stA s) ∧
      (∀ b, b ∈ k.own p → H b = Option.none ∧ b ≠ an) ∧ ¬ Elt CT H' k an ∧ At H' an acc ∧ i ≤ l.length ∧ PyFlat.calls PySu68.shape fuel (l.drop i) = some raw ∧ PyInside.calls PySu68.bound raw = true ∧ acc ++ PyFlat.told (PyFlat.played stepF s (raw.map PySu68.whole)) = PySu68.answers l ∧ acc.length + raw.length * 64 ≤ 25600,
      ⟨raw.length, 0, ⟨dp, g, m, t, w, [], [], [], []⟩, none, [], raw, l.length, none, none, none, none, none, rfl, rfl, s1.trans s2, R1.same s2, own1, ?_, upd_same, Nat.zero_le _, hraw, hask.2, hans, by simp; omega⟩, ?_⟩
    · intro z
      rcases z with z | z | z | ⟨c, _, _, z, _⟩ <;> simp at z
    · rintro md σ H' ⟨i, k, s, acc, raw, fuel, v4, v5, v6, v7, v8, rfl, rfl, s5, R, own, nel, hacc, hi, hcalls, hins, heq, hlen⟩
      have hca5 := s5.seq hca
      refine ⟨_, rfl, _, rfl, ca, _, rfl, .inl hca5, _, _, rfl, rfl, _, rfl, ?_⟩
      rw [vi_len]
      by_cases hlt : i < l.length
      · rw [decide_eq_true (show ((i : Nat) : Int) < ((l.length : Nat) : Int) by omega)]
        refine iteT ?_
        -- the call read off
        obtain ⟨c, rest, hdrop⟩ : ∃ c rest, l.drop i = c :: rest := by
          cases e : l.drop i with
          | nil =>
            have := congrArg List.length e
            rw [List.length_drop] at this
            simp at this
            omega
          | cons c rest => exact ⟨c, rest, rfl⟩
        rw [hdrop] at hcalls
        cases fuel with
        | zero => simp [PyFlat.calls] at hcalls
        | succ fuel =>
        obtain ⟨cc, t', cs, hcall, hcs, rfl⟩ : ∃ cc t' cs, PyFlat.call PySu68.shape (c :: rest) = some (cc, t') ∧ PyFlat.calls PySu68.shape fuel t' = some cs ∧ raw = cc :: cs := by
          simp only [PyFlat.calls] at hcalls
          cases e : PyFlat.call PySu68.shape (c :: rest) with
          | none => rw [e] at hcalls; cases hcalls
          | some y =>
            obtain ⟨cc, t'⟩ := y
            rw [e] at hcalls
            cases e2 : PyFlat.calls PySu68.shape fuel t' with
            | none => simp only [e2] at hcalls; cases hcalls
            | some cs =>
              simp only [e2, Option.some.injEq] at hcalls
              exact ⟨cc, t', cs, rfl, e2, hcalls.symm⟩
        have hl1 : l.drop (i + 1) = rest := by rw [← List.drop_drop, hdrop]; rfl
        have hrest : ∀ x ∈ rest, 0 ≤ x := fun x hx => h0 x (List.mem_of_mem_drop (by rw [hl1]; exact hx))
        obtain ⟨cn, ns, told, cl, RD⟩ := read_call hcall hrest
        have hin2 : PyInside.call PySu68.bound cc = true ∧ PyInside.calls PySu68.bound cs = true := by
          simp only [PyInside.calls, List.all_cons, Bool.and_eq_true] at hins
          exact hins
        have hci : l[i]? = some (cn : Int) := by
          have : (l.drop i)[0]? = some c := by rw [hdrop]; rfl
          rw [List.getElem?_drop] at this
          rw [← RD.num]
          exact this
        have hlr : rest.length = l.length - (i + 1) := by rw [← hl1, List.length_drop]
        have hrl := congrArg List.length RD.rest_
        rw [List.length_append, List.length_append, ints_len] at hrl
        have hcn : cn < lets.length := RD.lt
        have hnum : (lets.map letV)[cn]? = some (letV lets[cn]) := by rw [List.getElem?_map, List.getElem?_eq_getElem hcn]; rfl
        have hln : (⟨lets[cn].toArray⟩ : Str).length = ns.length := by
          have h1 := lets_at cn RD.lt
          have h2 := RD.nums
          rw [List.getD_eq_getElem?_getD, List.getD_eq_getElem?_getD, h2, List.getElem?_eq_getElem hcn] at h1
          exact h1
        have hns3 : ns.length ≤ 3 := by
          have h1 : ∀ c, c < 23 → numsOf.getD c 0 ≤ 3 := by decide
          have h2 := h1 cn RD.lt
          rw [List.getD_eq_getElem?_getD, RD.nums] at h2
          exact h2
        refine ⟨fun σ' H6 => ∃ (i : Nat) (k : Wk) (s : Option Su68.Abs) (acc : List Int) (v4 v5 v6 v7 v8 : Option V), σ' = [some (.ref ca), some (.ref p), some (.ref an), some (.int (i : Int)), v4, v5, v6, v7, v8] ∧ Same H H6 ∧ Rep CW CT H6 p k (stB s) (stA s) ∧
            (∀ b, b ∈ k.own p → H b = Option.none ∧ b ≠ an) ∧ ¬ Elt CT H6 k an ∧ At H6 an acc ∧ i ≤ l.length ∧ l.drop i = t' ∧ acc ++ PyFlat.told (PyFlat.played stepF s (cs.map PySu68.whole)) = PySu68.answers l ∧ acc.length + cs.length * 64 ≤ 25600,
          fun σ' H6 ⟨i', k', s', acc', u4, u5, u6, u7, u8, e1, e2, e3, e4, e5, e6, e7, e8, e9, e10⟩ => ⟨cs.length, by simp, i', k', s', acc', cs, fuel, u4, u5, u6, u7, u8, rfl, e1, e2, e3, e4, e5, e6, e7, by rw [e8]; exact hcs, hin2.2, e9, e10⟩, ?_⟩
        -- call = calls[at]; behind; numbers
        refine ⟨_, rfl, _, rfl, ca, _, _, _, rfl, rfl, hca5, atI_nat (vi_get hci), ?_⟩
        refine ⟨_, rfl, _, _, rfl, rfl, _, rfl, noA, _, _, _, rfl, rfl, hNS _, atI_nat hnum, _, rfl, by rw [hln]; exact line (by omega), _, _, rfl, rfl, ?_⟩
        rw [hln]
        have eb : ((i : Int) + 1 + (ns.length : Int)) = ((i + 1 + ns.length : Nat) : Int) := by omega
        dsimp only
        rw [eb]
        refine ⟨_, rfl, _, rfl, _, _, rfl, rfl, _, rfl, _, rfl, _, rfl, ca, _, rfl, hca5, fun nA hnA => ?_⟩
        have ecut : cutV (vi l) (some ((i : Int) + 1)) (some ((i + 1 + ns.length : Nat) : Int)) = vi (Su68.ints ns) := by
          rw [show ((i : Int) + 1) = ((i + 1 : Nat) : Int) by omega, cut_mid (by omega) (by omega), hl1, Nat.add_sub_cancel_left]
          conv => lhs; rw [RD.rest_]
          rw [List.take_left' (ints_len _)]
        rw [ecut]
        have sA : Same H' (upd H' nA (.lst (vi (Su68.ints ns)))) := Same.new hnA
        have fnA : ¬ an = nA := fun z => by rw [← z, hacc] at hnA; cases hnA
        refine ⟨line (by simp), fun tA htA => ?_⟩
        have sT := sA.trans (Same.new (o := .lst []) htA)
        have hn6 : At (upd (upd H' nA (.lst (vi (Su68.ints ns)))) tA (.lst [])) nA (Su68.ints ns) := Same.new htA _ _ upd_same
        have ftA : ¬ an = tA := fun z => by rw [← z, sA _ _ hacc] at htA; cases htA
        refine ⟨_, rfl, wlA, vi [2, 3, 4, 6, 8], rfl, .inr (hWS _), rfl, rfl, _, rfl, ?_⟩
        have ew : inV (V.int (cn : Int)) (vi [2, 3, 4, 6, 8]) = withL cn := by
          rw [inV_is]
          have : ∀ c : Nat, c < 23 → decide ((c : Int) ∈ ([2, 3, 4, 6, 8] : List Int)) = withL c := by decide
          exact this cn RD.lt
        rw [ew]
        cases hwl : withL cn with
        | false =>
          refine iteF ?_
          have hrest' := RD.rest_
          have hrl' := hrl
          rw [hwl] at hrest' hrl'
          have etold := RD.none_ hwl
          have hdr : l.drop (i + 1 + ns.length) = t' := by
            rw [← List.drop_drop, hl1, hrest', List.drop_left' (ints_len _)]
            rfl
          have ht6 : At (upd (upd H' nA (.lst (vi (Su68.ints ns)))) tA (.lst [])) tA (Su68.ints told) := by rw [etold]; exact upd_same
          refine ⟨_, rfl, _, rfl, _, rfl, _, rfl, p, cn, nA, tA, ns, told, k, s, cl, rfl, R.same sT, hn6, ht6, ⟨RD.at_, RD.len30 hin2.1⟩, fun H7 q k' R7 kp7 f7 q0 hq => ?_⟩
          have nan : an ∉ k.own p := fun z => (own an z).2 rfl
          have hacc6 := sT _ _ hacc
          have hacc7 : At H7 an acc := kp7 _ _ hacc6 nan
          have qne : q ≠ an := fun z => by rw [z, hacc6] at q0; cases q0
          have own' : ∀ b, b ∈ k'.own p → H b = Option.none ∧ b ≠ an := fun b hb => by
            rcases f7.own b hb with z | z
            · exact own b z
            · exact ⟨(s5.trans sT).free z, fun e => by rw [e, hacc6] at z; cases z⟩
          have nan' : an ∉ k'.own p := fun z => (own' an z).2 rfl
          have nel' : ¬ Elt CT H7 k' an := by
            intro z
            rcases f7.elt an z with z | z | z | z
            · refine nel ?_
              rcases z with z | z | z | ⟨c, dt, m, z1, z2⟩
              · exact .inl z
              · exact .inr (.inl z)
              · exact .inr (.inr (.inl z))
              · refine .inr (.inr (.inr ⟨c, dt, m, z1, ?_⟩))
                rw [← R.keptT (fun c o _ e => sT c o e) c z1]
                exact z2
            · exact fnA z
            · exact ftA z
            · rw [hacc6] at z; cases z
          have s7 : Same H H7 := fun b o e => kp7 b o (sT b o (s5 b o e)) (fun z => by rw [(own b z).1] at e; cases e)
          have hsl := step_len R cl
          have hlen' : acc.length + (cs.length + 1) * 64 ≤ 25600 := hlen
          refine ⟨_, rfl, .inl ⟨rfl, _, SqL.of hacc7⟩, _, rfl, q, _, rfl, .inl (SqL.of hq), an, _, _, rfl, rfl, hacc7, lineLt (by rw [vi_len]; omega), ?_⟩
          refine ⟨_, rfl, .inl ⟨rfl, _, SqL.of upd_same⟩, _, rfl, an, q, _, _, rfl, rfl, upd_same, (by rw [upd_ne qne]; exact hq), line (by rw [List.length_append, vi_len, vi_len]; simp; omega), ?_⟩
          refine ⟨_, rfl, i + 1 + ns.length, k', (Su68.step s cl).1, acc ++ (((ans (Su68.step s cl).2).length : Int) :: ans (Su68.step s cl).2), _, _, _, _, _, rfl, ?_, (R7.updL nan' nel').updL nan' (Elt.updL nan' nel'), own', Elt.updL nan' (Elt.updL nan' nel'), ?_, (by omega), hdr, ?_, ?_⟩
          · exact fun b o e => by
              have hb : b ≠ an := ne_of_none e hn0
              rw [upd_ne hb, upd_ne hb]
              exact s7 _ _ e
          · show upd _ an _ an = some (HO.lst (vi (acc ++ _)))
            rw [upd_same, vi_len]
            unfold vi
            rw [List.map_append, List.map_cons, List.append_assoc]
            rfl
          · have e1 : PyFlat.played stepF s ((cc :: cs).map PySu68.whole) = (stepF s (PySu68.whole cc)).2 :: PyFlat.played stepF (stepF s (PySu68.whole cc)).1 (cs.map PySu68.whole) := rfl
            rw [e1, stepF_is RD.of_, told_cons] at heq
            rw [List.append_assoc]
            exact heq
          · rw [List.length_append, List.length_cons]
            omega
          
        | true =>
          have hrest' := RD.rest_
          have hrl' := hrl
          rw [hwl] at hrest' hrl'
          have hrl2 : rest.length = ns.length + ((told.length + 1) + t'.length) := by
            rw [hrl', if_pos rfl, List.length_cons, ints_len]
          have hd1 : l.drop (i + 1 + ns.length) = (told.length : Int) :: (Su68.ints told ++ t') := by
            rw [← List.drop_drop, hl1, hrest', List.drop_left' (ints_len _)]
            rfl
          have hd2 : l.drop (i + 1 + ns.length + 1) = Su68.ints told ++ t' := by rw [← List.drop_drop, hd1]; rfl
          have hat : l[i + 1 + ns.length]? = some (told.length : Int) := by
            have : (l.drop (i + 1 + ns.length))[0]? = some (told.length : Int) := by rw [hd1]; rfl
            rw [List.getElem?_drop] at this
            exact this
          have hca6 := sT.seq hca5
          have eb2 : (((i + 1 + ns.length : Nat) : Int) + 1 + (told.length : Int)) = ((i + 1 + ns.length + 1 + told.length : Nat) : Int) := by omega
          refine iteT ⟨_, rfl, _, rfl, _, _, rfl, rfl, _, rfl, _, rfl, _, _, rfl, rfl, _, rfl, _, rfl, ca, _, _, _, rfl, rfl, hca6, atI_nat (vi_get hat), _, _, rfl, rfl, _, rfl, ca, _, rfl, hca6, fun tB htB => ?_⟩
          have ecut2 : cutV (vi l) (some (((i + 1 + ns.length : Nat) : Int) + 1)) (some (((i + 1 + ns.length : Nat) : Int) + 1 + (told.length : Int))) = vi (Su68.ints told) := by
            rw [eb2, show (((i + 1 + ns.length : Nat) : Int) + 1) = ((i + 1 + ns.length + 1 : Nat) : Int) by omega, cut_mid (by omega) (by omega), hd2, Nat.add_sub_cancel_left, List.take_left' (ints_len _)]
          rw [ecut2]
          have sB := sT.trans (Same.new (o := .lst (vi (Su68.ints told))) htB)
          have hn7 : At _ nA (Su68.ints ns) := Same.new (o := .lst (vi (Su68.ints told))) htB _ _ hn6
          have ht7 : At (upd (upd (upd H' nA (.lst (vi (Su68.ints ns)))) tA (.lst [])) tB (.lst (vi (Su68.ints told)))) tB (Su68.ints told) := upd_same
          have ftB : ¬ an = tB := fun z => by rw [← z, sT _ _ hacc] at htB; cases htB
          have hdr : l.drop (i + 1 + ns.length + 1 + told.length) = t' := by rw [← List.drop_drop, hd2, List.drop_left' (ints_len _)]
          refine ⟨_, rfl, _, _, rfl, rfl, _, rfl, _, rfl, ca, _, _, _, rfl, rfl, sB.seq hca5, atI_nat (vi_get hat), _, _, rfl, rfl, ?_⟩
          dsimp only
          rw [eb2]
          refine ⟨_, rfl, _, rfl, _, rfl, _, rfl, p, cn, nA, tB, ns, told, k, s, cl, rfl, R.same sB, hn7, ht7, ⟨RD.at_, RD.len30 hin2.1⟩, fun H7 q k' R7 kp7 f7 q0 hq => ?_⟩
          have nan : an ∉ k.own p := fun z => (own an z).2 rfl
          have hacc6 := sB _ _ hacc
          have hacc7 : At H7 an acc := kp7 _ _ hacc6 nan
          have qne : q ≠ an := fun z => by rw [z, hacc6] at q0; cases q0
          have own' : ∀ b, b ∈ k'.own p → H b = Option.none ∧ b ≠ an := fun b hb => by
            rcases f7.own b hb with z | z
            · exact own b z
            · exact ⟨(s5.trans sB).free z, fun e => by rw [e, hacc6] at z; cases z⟩
          have nan' : an ∉ k'.own p := fun z => (own' an z).2 rfl
          have nel' : ¬ Elt CT H7 k' an := by
            intro z
            rcases f7.elt an z with z | z | z | z
            · refine nel ?_
              rcases z with z | z | z | ⟨c, dt, m, z1, z2⟩
              · exact .inl z
              · exact .inr (.inl z)
              · exact .inr (.inr (.inl z))
              · refine .inr (.inr (.inr ⟨c, dt, m, z1, ?_⟩))
                rw [← R.keptT (fun c o _ e => sB c o e) c z1]
                exact z2
            · exact fnA z
            · exact ftB z
            · rw [hacc6] at z; cases z
          have s7 : Same H H7 := fun b o e => kp7 b o (sB b o (s5 b o e)) (fun z => by rw [(own b z).1] at e; cases e)
          have hsl := step_len R cl
          have hlen' : acc.length + (cs.length + 1) * 64 ≤ 25600 := hlen
          refine ⟨_, rfl, .inl ⟨rfl, _, SqL.of hacc7⟩, _, rfl, q, _, rfl, .inl (SqL.of hq), an, _, _, rfl, rfl, hacc7, lineLt (by rw [vi_len]; omega), ?_⟩
          refine ⟨_, rfl, .inl ⟨rfl, _, SqL.of upd_same⟩, _, rfl, an, q, _, _, rfl, rfl, upd_same, (by rw [upd_ne qne]; exact hq), line (by rw [List.length_append, vi_len, vi_len]; simp; omega), ?_⟩
          refine ⟨_, rfl, i + 1 + ns.length + 1 + told.length, k', (Su68.step s cl).1, acc ++ (((ans (Su68.step s cl).2).length : Int) :: ans (Su68.step s cl).2), _, _, _, _, _, rfl, ?_, (R7.updL nan' nel').updL nan' (Elt.updL nan' nel'), own', Elt.updL nan' (Elt.updL nan' nel'), ?_, (by omega), hdr, ?_, ?_⟩
          · exact fun b o e => by
              have hb : b ≠ an := ne_of_none e hn0
              rw [upd_ne hb, upd_ne hb]
              exact s7 _ _ e
          · show upd _ an _ an = some (HO.lst (vi (acc ++ _)))
            rw [upd_same, vi_len]
            unfold vi
            rw [List.map_append, List.map_cons, List.append_assoc]
            rfl
          · have e1 : PyFlat.played stepF s ((cc :: cs).map PySu68.whole) = (stepF s (PySu68.whole cc)).2 :: PyFlat.played stepF (stepF s (PySu68.whole cc)).1 (cs.map PySu68.whole) := rfl
            rw [e1, stepF_is RD.of_, told_cons] at heq
            rw [List.append_assoc]
            exact heq
          · rw [List.length_append, List.length_cons]
            omega
          
      · rw [decide_eq_false (show ¬ ((i : Nat) : Int) < ((l.length : Nat) : Int) by omega)]
        have ei : i = l.length := by omega
        rw [ei, List.drop_length] at hcalls
        have er : raw = [] := by
          cases fuel <;> simp [PyFlat.calls] at hcalls <;> exact hcalls
        rw [er] at heq
        have heq : acc = PySu68.answers l := by simpa [PyFlat.told, PyFlat.played] using heq
        refine iteF ⟨_, rfl, ?_⟩
        exact q _ an (heq ▸ hacc)
end
end Ty

end
section
set_option Elab.async false
set_option linter.all false
set_option maxRecDepth 100000
set_option maxHeartbeats 2000000
namespace Ty
open PySem PySem.Spec PyProof.Rows L2
/-! ### comprehensions with a test -/
theorem filt_snoc {p : Nat → Bool} {f : Nat → V} (i : Nat) : ((List.range (i + 1)).filter p).map f = ((List.range i).filter p).map f ++ (if p i = true then [f i] else []) := by
  rw [List.range_succ, List.filter_append, List.map_append]
  congr 1
  by_cases h : p i = true
  · simp [h]
  · simp [h]
theorem filt_len (p : Nat → Bool) (f : Nat → V) (i : Nat) : (((List.range i).filter p).map f).length ≤ i := by
  rw [List.length_map]
  exact Nat.le_trans (List.length_filter_le _ _) (by simp)
theorem lc_filtL {K : PySem.W.Frag} {a : Addr} {xs : List V} {j : Nat} {tt : TT} {te : TE} {vs : List Nat} {σ : L2.St} {H1 : Hp} {D : Addr} {Qd : Hp → Prop} (ha : SqL K H1 a xs) (hD : H1 D = Option.none) (p : Nat → Bool) (f : Nat → V) (hn : xs.length ≤ 30000) (hw : ∀ x, wipe ((wipe σ vs).set j (some x)) vs = wipe σ vs)
    (test : ∀ (i : Nat) (x : V) (H' : Hp) (Q' : Bool → Hp → Prop), xs[i]? = some x → Same H1 H' → (∀ H4, Same H' H4 → Q' (p i) H4) → tt ((wipe σ vs).set j (some x)) H' Q')
    (body : ∀ (i : Nat) (x : V) (H' : Hp) (Q' : VK), xs[i]? = some x → p i = true → Same H1 H' → (∀ H4, Same H' H4 → Q' (f i) H4) → te ((wipe σ vs).set j (some x)) H' Q')
    (hd : ∀ H', Same H1 H' → H' D = some (.lst (((List.range xs.length).filter p).map f)) → Qd H') :
    ∃ W : Nat → Nat → Hp → Prop, (∃ m, W 0 m (upd H1 D (.lst []))) ∧ ∀ i m H, W i m H →
      ((Itl K a).stop i H ∧ Qd H) ∨ ((Itl K a).go i H ∧ ∃ Nx : Hp → Prop, (∀ H', Nx H' → ∃ m', m' < m ∧ W (i + 1) m' H') ∧ ∀ x H', (Itl K a).yld i H x H' → (gName j) x (wipe σ vs) H' fun σ2 H2 => wipe σ2 vs = wipe σ vs ∧ tt σ2 H2 fun b H3 =>
        if b = true then te σ2 H3 fun y H4 => ∃ acc, H4 D = some (.lst acc) ∧ acc.length < sizeLine ∧ Nx (upd H4 D (.lst (acc ++ [y]))) else Nx H3) := by
  refine lc_list (xs := xs) (fun i H' => Same H1 H' ∧ H' D = some (.lst (((List.range i).filter p).map f))) ⟨Same.new hD, upd_same⟩ (fun i H' _ q => q.1.seq ha) (fun i x H' hx q => ?_) (fun H' q => hd H' q.1 q.2)
  obtain ⟨hs, hD'⟩ := q
  have hi : i < xs.length := (List.getElem?_eq_some_iff.mp hx).1
  refine ⟨hw _, test i x H' _ hx hs fun H3 h3 => ?_⟩
  have e := filt_snoc (p := p) (f := f) i
  cases hp : p i with
  | true =>
    rw [hp, if_pos rfl] at e
    refine iteT (body i x H3 _ hx hp (hs.trans h3) fun H4 h4 => ⟨_, h4 _ _ (h3 _ _ hD'), lineLt (Nat.le_trans (filt_len p f i) (by omega)), ?_, ?_⟩)
    · exact fun b o eb => by
        rw [upd_ne (ne_of_none eb hD)]
        exact h4 _ _ (h3 _ _ (hs _ _ eb))
    · rw [upd_same, e]
  | false =>
    rw [hp, if_neg (by decide), List.append_nil] at e
    refine iteF ⟨hs.trans h3, ?_⟩
    rw [e]
    exact h3 _ _ hD'
theorem lc_filtR {lo : Int} {n j : Nat} {tt : TT} {te : TE} {vs : List Nat} {σ : L2.St} {H1 : Hp} {D : Addr} {Qd : Hp → Prop} (hD : H1 D = Option.none) (p : Nat → Bool) (f : Nat → V) (hn : n ≤ 30000) (hw : ∀ x, wipe ((wipe σ vs).set j (some x)) vs = wipe σ vs)
    (test : ∀ (i : Nat) (H' : Hp) (Q' : Bool → Hp → Prop), i < n → Same H1 H' → (∀ H4, Same H' H4 → Q' (p i) H4) → tt ((wipe σ vs).set j (some (.int (lo + i)))) H' Q')
    (body : ∀ (i : Nat) (H' : Hp) (Q' : VK), i < n → p i = true → Same H1 H' → (∀ H4, Same H' H4 → Q' (f i) H4) → te ((wipe σ vs).set j (some (.int (lo + i)))) H' Q')
    (hd : ∀ H', Same H1 H' → H' D = some (.lst (((List.range n).filter p).map f)) → Qd H') :
    ∃ W : Nat → Nat → Hp → Prop, (∃ m, W 0 m (upd H1 D (.lst []))) ∧ ∀ i m H, W i m H →
      ((Itr lo n).stop i H ∧ Qd H) ∨ ((Itr lo n).go i H ∧ ∃ Nx : Hp → Prop, (∀ H', Nx H' → ∃ m', m' < m ∧ W (i + 1) m' H') ∧ ∀ x H', (Itr lo n).yld i H x H' → (gName j) x (wipe σ vs) H' fun σ2 H2 => wipe σ2 vs = wipe σ vs ∧ tt σ2 H2 fun b H3 =>
        if b = true then te σ2 H3 fun y H4 => ∃ acc, H4 D = some (.lst acc) ∧ acc.length < sizeLine ∧ Nx (upd H4 D (.lst (acc ++ [y]))) else Nx H3) := by
  refine lc_range (fun i H' => Same H1 H' ∧ H' D = some (.lst (((List.range i).filter p).map f))) ⟨Same.new hD, upd_same⟩ (fun i H' hi q => ?_) (fun H' q => hd H' q.1 q.2)
  obtain ⟨hs, hD'⟩ := q
  refine ⟨hw _, test i H' _ hi hs fun H3 h3 => ?_⟩
  have e := filt_snoc (p := p) (f := f) i
  cases hp : p i with
  | true =>
    rw [hp, if_pos rfl] at e
    refine iteT (body i H3 _ hi hp (hs.trans h3) fun H4 h4 => ⟨_, h4 _ _ (h3 _ _ hD'), lineLt (Nat.le_trans (filt_len p f i) (by omega)), ?_, ?_⟩)
    · exact fun b o eb => by
        rw [upd_ne (ne_of_none eb hD)]
        exact h4 _ _ (h3 _ _ (hs _ _ eb))
    · rw [upd_same, e]
  | false =>
    rw [hp, if_neg (by decide), List.append_nil] at e
    refine iteF ⟨hs.trans h3, ?_⟩
    rw [e]
    exact h3 _ _ hD'
theorem lc_filtE {K : PySem.W.Frag} {b : Addr} {xs : List V} {j1 j2 : Nat} {tt : TT} {te : TE} {vs : List Nat} {σ : L2.St} {H1 : Hp} {D : Addr} {Qd : Hp → Prop} (hb : SqL K H1 b xs) (hD : H1 D = Option.none) (p : Nat → Bool) (f : Nat → V) (hn : xs.length ≤ 30000)
    (hw : ∀ x y, wipe (((wipe σ vs).set j1 (some x)).set j2 (some y)) vs = wipe σ vs)
    (test : ∀ (i : Nat) (x : V) (H' : Hp) (Q' : Bool → Hp → Prop), xs[i]? = some x → Same H1 H' → (∀ H4, Same H' H4 → Q' (p i) H4) → tt (((wipe σ vs).set j1 (some (.int (i : Nat)))).set j2 (some x)) H' Q')
    (body : ∀ (i : Nat) (x : V) (H' : Hp) (Q' : VK), xs[i]? = some x → p i = true → Same H1 H' → (∀ H4, Same H' H4 → Q' (f i) H4) → te (((wipe σ vs).set j1 (some (.int (i : Nat)))).set j2 (some x)) H' Q')
    (hd : ∀ H', Same H1 H' → H' D = some (.lst (((List.range xs.length).filter p).map f)) → Qd H') :
    ∃ W : Nat → Nat → Hp → Prop, (∃ m, W 0 m (upd H1 D (.lst []))) ∧ ∀ i m H, W i m H →
      ((Ite K b).stop i H ∧ Qd H) ∨ ((Ite K b).go i H ∧ ∃ Nx : Hp → Prop, (∀ H', Nx H' → ∃ m', m' < m ∧ W (i + 1) m' H') ∧ ∀ x H', (Ite K b).yld i H x H' → (gTwo K j1 j2) x (wipe σ vs) H' fun σ2 H2 => wipe σ2 vs = wipe σ vs ∧ tt σ2 H2 fun b H3 =>
        if b = true then te σ2 H3 fun y H4 => ∃ acc, H4 D = some (.lst acc) ∧ acc.length < sizeLine ∧ Nx (upd H4 D (.lst (acc ++ [y]))) else Nx H3) := by
  refine ⟨fun i m H => m = xs.length - i ∧ i ≤ xs.length ∧ Same H1 H ∧ H D = some (.lst (((List.range i).filter p).map f)), ⟨_, rfl, Nat.zero_le _, Same.new hD, upd_same⟩, ?_⟩
  rintro i m H ⟨rfl, hi, hs, hDD⟩
  have q := hs.seq hb
  by_cases hlt : i < xs.length
  · refine .inr ⟨⟨xs, xs[i], q, by simp [hlt]⟩, fun H' => i + 1 ≤ xs.length ∧ Same H1 H' ∧ H' D = some (.lst (((List.range (i + 1)).filter p).map f)), fun H' p' => ⟨xs.length - (i + 1), by omega, rfl, p'⟩, fun x H' y => ?_⟩
    obtain ⟨T, x', rfl, hT, rfl, y⟩ := y
    have hx := y xs q
    have sT : Same H (upd H T (.tup [.int (i : Nat), x'])) := Same.new hT
    refine two_in ⟨hw _ _, test i x' _ _ hx (hs.trans sT) fun H3 h3 => ?_⟩
    have e := filt_snoc (p := p) (f := f) i
    cases hp : p i with
    | true =>
      rw [hp, if_pos rfl] at e
      refine iteT (body i x' H3 _ hx hp (hs.trans (sT.trans h3)) fun H4 h4 => ⟨_, h4 _ _ (h3 _ _ (sT _ _ hDD)), lineLt (Nat.le_trans (filt_len p f i) (by omega)), hlt, ?_, ?_⟩)
      · exact fun b o eb => by
          rw [upd_ne (ne_of_none eb hD)]
          exact h4 _ _ (h3 _ _ (sT _ _ (hs _ _ eb)))
      · rw [upd_same, e]
    | false =>
      rw [hp, if_neg (by decide), List.append_nil] at e
      refine iteF ⟨hlt, hs.trans (sT.trans h3), ?_⟩
      rw [e]
      exact h3 _ _ (sT _ _ hDD)
  · have e : i = xs.length := by omega
    subst e
    exact .inl ⟨⟨xs, q, Nat.le_refl _⟩, hd H hs hDD⟩
/-! ### the crest -/
def cstep (l : List Int) (b i : Nat) : Nat := if Su68.waveA l * Su68.across b + Su68.waveB l * Su68.upwards b < Su68.waveA l * Su68.across i + Su68.waveB l * Su68.upwards i then i else b
def crestTo (l : List Int) (n : Nat) : Nat := (List.range n).foldl (cstep l) 0
theorem crestTo_succ (l : List Int) (n : Nat) : crestTo l (n + 1) = cstep l (crestTo l n) n := by
  unfold crestTo
  rw [List.range_succ, List.foldl_append]
  rfl
theorem crestTo_one (l : List Int) : crestTo l 1 = 0 := by
  show cstep l 0 0 = 0
  unfold cstep
  rw [if_neg (Int.lt_irrefl _)]
theorem crestTo_all (l : List Int) : crestTo l 12 = Su68.crest l := rfl
/-- the first of the greatest -/
theorem crest_first (l : List Int) : ∀ n, crestTo l (n + 1) ≤ n ∧ (∀ j, j ≤ n → Su68.waveA l * Su68.across j + Su68.waveB l * Su68.upwards j ≤ Su68.waveA l * Su68.across (crestTo l (n + 1)) + Su68.waveB l * Su68.upwards (crestTo l (n + 1))) ∧
    ∀ j, j < crestTo l (n + 1) → Su68.waveA l * Su68.across j + Su68.waveB l * Su68.upwards j < Su68.waveA l * Su68.across (crestTo l (n + 1)) + Su68.waveB l * Su68.upwards (crestTo l (n + 1))
  | 0 => by
    rw [crestTo_one]
    exact ⟨Nat.le_refl _, fun j hj => by rw [Nat.le_zero.mp hj]; exact Int.le_refl _, fun j hj => absurd hj (Nat.not_lt_zero _)⟩
  | n + 1 => by
    obtain ⟨h1, h2, h3⟩ := crest_first l n
    rw [crestTo_succ l (n + 1)]
    generalize crestTo l (n + 1) = b at *
    unfold cstep
    by_cases h : Su68.waveA l * Su68.across b + Su68.waveB l * Su68.upwards b < Su68.waveA l * Su68.across (n + 1) + Su68.waveB l * Su68.upwards (n + 1)
    · rw [if_pos h]
      refine ⟨Nat.le_refl _, fun j hj => ?_, fun j hj => ?_⟩
      · rcases Nat.lt_or_ge j (n + 1) with z | z
        · have := h2 j (by omega); omega
        · rw [show j = n + 1 by omega]; exact Int.le_refl _
      · have := h2 j (by omega); omega
    · rw [if_neg h]
      refine ⟨by omega, fun j hj => ?_, h3⟩
      rcases Nat.lt_or_ge j (n + 1) with z | z
      · exact h2 j (by omega)
      · rw [show j = n + 1 by omega]; omega
end Ty

end
section
set_option Elab.async false
set_option linter.all false
set_option maxRecDepth 100000
set_option maxHeartbeats 2000000
namespace Ty
open PySem PySem.Spec PyProof.Rows L2
/-! ### a tyre's grade and one, and the grade -/
theorem grade_some (a : Su68.Abs) (l : List Int) (g : Nat) : (a.graded l == some g) = decide (Su68.gradeOf a l = (g : Int) + 1) := by
  unfold Su68.gradeOf
  cases e : a.graded l with
  | none =>
    show false = decide ((0 : Int) = (g : Int) + 1)
    rw [decide_eq_false (by omega)]
  | some k =>
    show (some k == some g) = decide ((k : Int) + 1 = (g : Int) + 1)
    by_cases h : k = g
    · subst h; simp
    · rw [decide_eq_false (by omega)]; simp [h]
theorem grade_isNone (a : Su68.Abs) (l : List Int) : (a.graded l).isNone = decide (Su68.gradeOf a l = 0) := by
  unfold Su68.gradeOf
  cases e : a.graded l with
  | none => rfl
  | some k =>
    show false = decide ((k : Int) + 1 = 0)
    rw [decide_eq_false (by omega)]
theorem grade_case (a : Su68.Abs) (l : List Int) : (a.graded l = none ∧ Su68.gradeOf a l = 0) ∨ ∃ g, a.graded l = some g ∧ Su68.gradeOf a l = (g : Int) + 1 ∧ g < a.grades.length := by
  unfold Su68.gradeOf
  cases e : a.graded l with
  | none => exact .inl ⟨rfl, rfl⟩
  | some g =>
    refine .inr ⟨g, rfl, rfl, ?_⟩
    unfold Su68.Abs.graded at e
    exact List.mem_range.mp (List.mem_of_find?_eq_some e)
/-! ### moulds -/
theorem sum_cast : ∀ l : List Nat, ((l.sum : Nat) : Int) = (l.map fun n : Nat => (n : Int)).sum
  | [] => rfl
  | x :: l => by
    rw [List.sum_cons, List.map_cons, List.sum_cons, ← sum_cast l]
    omega
def ustep (a : Su68.Abs) (b : Option Nat) (m : Nat) : Option Nat := if a.ofMould m = [] then b else match b with
  | none => some m
  | some n => if a.sumPeaks n * (a.ofMould m).length < a.sumPeaks m * (a.ofMould n).length then some m else some n
def unevenTo (a : Su68.Abs) (n : Nat) : Option Nat := (List.range n).foldl (ustep a) none
theorem unevenTo_succ (a : Su68.Abs) (n : Nat) : unevenTo a (n + 1) = ustep a (unevenTo a n) n := by
  unfold unevenTo
  rw [List.range_succ, List.foldl_append]
  rfl
theorem unevenTo_zero (a : Su68.Abs) : unevenTo a 0 = none := rfl
theorem unevenTo_all (a : Su68.Abs) : unevenTo a 8 = a.uneven := rfl
theorem ofMould_len (a : Su68.Abs) (m : Nat) : (a.ofMould m).length ≤ a.tyres.length := by
  unfold Su68.Abs.ofMould
  exact Nat.le_trans (List.length_filter_le _ _) (by simp)
theorem ofMould_mem {a : Su68.Abs} {m t : Nat} : t ∈ a.ofMould m ↔ t < a.tyres.length ∧ (a.tyre t).mould = m := by
  unfold Su68.Abs.ofMould
  rw [List.mem_filter, List.mem_range, beq_iff_eq]
/-- where there are tyres, some mould has one -/
theorem uneven_some {a : Su68.Abs} (h : AbsOk a) (ht : a.tyres ≠ []) : ∃ m, a.uneven = some m ∧ m < 8 ∧ a.ofMould m ≠ [] := by
  have key : ∀ n, (unevenTo a n = none → ∀ m, m < n → a.ofMould m = []) ∧ ∀ m, unevenTo a n = some m → m < n ∧ a.ofMould m ≠ [] := by
    intro n
    induction n with
    | zero => exact ⟨fun _ m hm => absurd hm (Nat.not_lt_zero _), fun m e => by cases e⟩
    | succ n ih =>
      rw [unevenTo_succ]
      unfold ustep
      by_cases hm : a.ofMould n = []
      · rw [if_pos hm]
        refine ⟨fun e m hlt => ?_, fun m e => ?_⟩
        · rcases Nat.lt_succ_iff_lt_or_eq.mp hlt with z | z
          · exact ih.1 e m z
          · rw [z]; exact hm
        · have := ih.2 m e
          exact ⟨by omega, this.2⟩
      · rw [if_neg hm]
        cases e : unevenTo a n with
        | none => exact ⟨fun z => (by cases z), fun m z => (by cases z; exact ⟨by omega, hm⟩)⟩
        | some k =>
          have hk := ih.2 k e
          dsimp only
          split
          · exact ⟨fun z => (by cases z), fun m z => (by cases z; exact ⟨by omega, hm⟩)⟩
          · exact ⟨fun z => (by cases z), fun m z => (by cases z; exact ⟨by omega, hk.2⟩)⟩
  obtain ⟨k1, k2⟩ := key 8
  rw [unevenTo_all] at k1 k2
  cases e : a.uneven with
  | some m => exact ⟨m, rfl, k2 m e⟩
  | none =>
    exfalso
    have ht0 : 0 < a.tyres.length := List.length_pos_iff.mpr ht
    have hm := (h.tyre _ (List.getElem_mem ht0)).2
    have he : a.tyre 0 = a.tyres[0] := by unfold Su68.Abs.tyre; rw [List.getD_eq_getElem?_getD, List.getElem?_eq_getElem ht0]; rfl
    have hmem : 0 ∈ a.ofMould (a.tyre 0).mould := ofMould_mem.mpr ⟨ht0, rfl⟩
    rw [k1 e _ (by rw [he]; exact hm)] at hmem
    cases hmem
theorem uneven_none {a : Su68.Abs} (ht : a.tyres = []) : a.uneven = none := by
  have h0 : ∀ m, a.ofMould m = [] := fun m => by
    unfold Su68.Abs.ofMould
    rw [ht]
    rfl
  rw [← unevenTo_all]
  have : ∀ n, unevenTo a n = none := by
    intro n
    induction n with
    | zero => rfl
    | succ n ih => rw [unevenTo_succ, ih]; unfold ustep; rw [if_pos (h0 n)]
  exact this 8
/-! ### a walk over the works' tyres -/
theorem Rep.tyre_at {CW CT : Addr} {H : Hp} {p : Addr} {k : Wk} {b : Bool} {a : Su68.Abs} (R : Rep CW CT H p k b a) {i : Nat} {x : V} (h : (k.ta.map V.ref)[i]? = some x) :
    i < a.tyres.length ∧ ∃ c dt ra, x = V.ref c ∧ k.ta[i]? = some c ∧ H c = some (.ins CT dt (tf ((a.tyre i).mould : Int) ra)) ∧ At H ra (a.row i) ∧ Row (a.row i) ∧ (a.tyre i).mould < 8 := by
  have hi : i < a.tyres.length := by
    have := (List.getElem?_eq_some_iff.mp h).1
    rw [List.length_map, R.tlen] at this
    exact this
  obtain ⟨c, dt, ra, e1, e2, e3, e4, e5, e6⟩ := R.tyre hi
  rw [e2] at h
  exact ⟨hi, c, dt, ra, (Option.some.inj h).symm, e1, e3, e4, e5, e6⟩
end Ty

end
section
set_option Elab.async false
set_option linter.all false
set_option maxRecDepth 100000
set_option maxHeartbeats 2000000
namespace Ty
open PySem PySem.Spec PyProof.Rows L2
section
variable {P : Program} {w : World} {K : PySem.W.Frag} {mg : Str → Option Value} {base : Heap}
variable {CW CT : Addr}
structure Txt4 (mg : Str → Option Value) : Prop where
  sorted : mg "sorted" = none
  all : mg "all" = none
  zip : mg "zip" = none
  NONE_THERE : GI mg "NONE_THERE" (.int (-6))
  TOO_FEW : GI mg "TOO_FEW" (.int (-12))
  OF_NONE : GI mg "OF_NONE" (.int (-33))
/-! ### the crest -/
def htI (r : List Int) (i : Nat) : Int := Su68.waveA r * Su68.across i + Su68.waveB r * Su68.upwards i
theorem crest_is (r : List Int) : Su68.crest r < 12 ∧ (∀ j, j < 12 → htI r j ≤ htI r (Su68.crest r)) ∧ ∀ j, j < Su68.crest r → htI r j < htI r (Su68.crest r) := by
  obtain ⟨h1, h2, h3⟩ := crest_first r 11
  rw [show crestTo r (11 + 1) = Su68.crest r from crestTo_all r] at h1 h2 h3
  exact ⟨by omega, fun j hj => h2 j (by omega), h3⟩
abbrev s_crest : Stmt := top 19
theorem sc_crest : FnScope ["row", "row_across", "row_upwards", "heights", "i"] ["row"] (defScope s_crest) := ⟨rfl, rfl, rfl, by decide +kernel, rfl, by decide +kernel, by decide +kernel⟩
theorem ok_crest (D : Def K mg "crest" s_crest) (T : Txt K mg) (Ac : FnAt P w K mg base 2 "across" ["row"] (spRI Row Su68.waveA)) (Up : FnAt P w K mg base 2 "upwards" ["row"] (spRI Row Su68.waveB)) (Ca : FnAt P w K mg base 1 "circle_across" ["point"] (spII (fun k => 0 ≤ k ∧ k < 12) fun k => Su68.across k.toNat)) (Cu : FnAt P w K mg base 1 "circle_upwards" ["point"] (spII (fun k => 0 ≤ k ∧ k < 12) fun k => Su68.upwards k.toNat)) : FnAt P w K mg base 3 "crest" ["row"] (spRI Row fun r => (Su68.crest r : Int)) := by
  obtain ⟨f, fd, hm, F⟩ := D
  refine ⟨f, fd, hm, F.kp, F.binds (ps := ["row"]) (fun _ _ _ _ _ _ us hl => match us, hl with | [_], _ => rfl), F.ok sc_crest (fun vs H Q E h => ?_) (fun cdv A outer s H vs Q E hr h => ?_)⟩
  · obtain ⟨a, r, rfl, _⟩ := h; rfl
  · obtain ⟨a, r, rfl, ha, hR, q⟩ := h
    refine ⟨_, (pss_cons (ps_set (i := 1) sc_crest.nd rfl (by first | exact Or.inl rfl | exact Or.inr rfl) (pf Ac (hr.mono (by decide)) (pa_cons (pv 0) pa_nil))) (pss_cons (ps_set (i := 2) sc_crest.nd rfl (by first | exact Or.inl rfl | exact Or.inr rfl) (pf Up (hr.mono (by decide)) (pa_cons (pv 0) pa_nil))) (pss_cons (ps_setLc (i := 3) (own := [("i", 4)]) rfl sc_crest.nd rfl rfl rfl (pi_range1 rfl T.range (pa_cons (pg T.POINTS) pa_nil)) (blkOk_by (by show blkC ["row", "row_across", "row_upwards", "heights", "i"] (defScope s_crest) _ _ = true; decide +kernel)) (fun _ _ _ _ _ => pg_name (i := 4) sc_crest.nd rfl (Or.inl rfl)) (fun _ _ _ _ _ => pts_nil)
      (fun _ _ _ _ _ => (pe_op op_add (pe_op op_mul (pv 1) (pf Ca (hr.mono (by decide)) (pa_cons (pv 4) pa_nil))) (pe_op op_mul (pv 2) (pf Cu (hr.mono (by decide)) (pa_cons (pv 4) pa_nil)))))) (pss_one (ps_ret (pe_bm PySem.F.plainAttrs_list PySem.F.slot_list_index PySem.F.type_list_index mt_index (pv 3) (pa_cons (pe_callB (cr_max rfl) (by rfl) T.max boot_max (pa_cons (pv 3) pa_nil)) pa_nil))))))), ?_⟩
    have b1 := hR.waveA
    have b2 := hR.waveB
    obtain ⟨g1, g2, g3⟩ := crest_is r
    refine ⟨_, rfl, a, r, rfl, ha, hR, fun H1 s1 => ⟨_, rfl, a, r, rfl, s1 _ _ ha, hR, fun H2 s2 => ?_⟩⟩
    refine ⟨12, rfl, by decide, by decide, fun Dd hD => lc_mapR (n := 12) hD (fun i => V.int (htI r i)) (by decide) (fun _ => rfl) (fun i H' Q' hi hs k => ?_) (fun H' hs hd => ?_)⟩
    · have ei : (0 + (i : Int)).toNat = i := by omega
      refine ⟨_, rfl, _, rfl, 0 + (i : Int), rfl, ⟨by omega, by omega⟩, fun H7 s7 => ⟨_, _, rfl, rfl, .inl ⟨by omega, by omega⟩, _, rfl, _, rfl, 0 + (i : Int), rfl, ⟨by omega, by omega⟩, fun H8 s8 => ⟨_, _, rfl, rfl, .inl ⟨by omega, by omega⟩, _, _, rfl, rfl, ?_⟩⟩⟩
      dsimp only
      rw [ei]
      exact k _ (s7.trans s8)
    · have hl : H' Dd = some (.lst (vi ((List.range 12).map (htI r)))) := hd.trans (by unfold vi; rw [List.map_map]; rfl)
      refine ⟨_, rfl, .inl ⟨rfl, _, SqL.of hl⟩, _, rfl, Dd, (List.range 12).map (htI r), rfl, SqL.of hl, by simp, fun m m1 m2 => ?_⟩
      have gt : ∀ j, j < 12 → (vi ((List.range 12).map (htI r)))[j]? = some (V.int (htI r j)) := fun j hj => vi_get (by rw [List.getElem?_map, List.getElem?_range hj]; rfl)
      have em : m = htI r (Su68.crest r) := by
        obtain ⟨j, hj, rfl⟩ := List.mem_map.mp m1
        have h1 := g2 j (List.mem_range.mp hj)
        have h2 := m2 _ (List.mem_map.mpr ⟨Su68.crest r, List.mem_range.mpr g1, rfl⟩)
        omega
      refine ⟨Dd, _, V.int m, Su68.crest r, V.int (htI r (Su68.crest r)), rfl, rfl, SqL.of hl, rfl, vi_flat _, gt _ g1, ?_, fun j z hj hz => ?_, ?_⟩
      · rw [em]
        exact beq_self_eq_true _
      · rw [gt j (by omega)] at hz
        obtain rfl := Option.some.inj hz
        have h3 := g3 j hj
        show (htI r j == m) = false
        rw [beq_eq_false_iff_ne]
        omega
      · exact q _ (s1.trans (s2.trans hs))
abbrev s_tell_wave : Stmt := top 66
theorem sc_tell_wave : FnScope ["works", "numbers", "told", "row"] ["works", "numbers", "told"] (defScope s_tell_wave) := ⟨rfl, rfl, rfl, by decide +kernel, rfl, by decide +kernel, by decide +kernel⟩
theorem ok_tell_wave (D : Def K mg "tell_wave" s_tell_wave) (T : Txt2 K mg CW CT) (Wv : FnAt P w K mg base 4 "wave" ["row"] (spRI Row fun r => (Su68.wave r : Int))) (Cr : FnAt P w K mg base 3 "crest" ["row"] (spRI Row fun r => (Su68.crest r : Int))) (Ac : FnAt P w K mg base 2 "across" ["row"] (spRI Row Su68.waveA)) (Up : FnAt P w K mg base 2 "upwards" ["row"] (spRI Row Su68.waveB)) : FnAt P w K mg base 5 "tell_wave" ["works", "numbers", "told"] (spDo CW CT (fun a ns _ => ∃ t, ns = [t] ∧ t < a.tyres.length) (fun ns _ => .wave (ns.getD 0 0))) := by
  obtain ⟨f, fd, hm, F⟩ := D
  refine ⟨f, fd, hm, F.kp, F.binds (ps := ["works", "numbers", "told"]) (fun _ _ _ _ _ _ us hl => match us, hl with | [_, _, _], _ => rfl), F.ok sc_tell_wave (fun vs H Q E h => ?_) (fun cdv A outer s H vs Q E hr h => ?_)⟩
  · obtain ⟨p, n, tl, ns, told, k, a, rfl, _⟩ := h; rfl
  · obtain ⟨p, n, tl, ns, told, k, a, rfl, R, hn, ht, ⟨t, rfl, hlt⟩, post⟩ := h
    rw [wvI_fun] at Wv
    refine ⟨_, (pss_cons (ps_set (i := 3) sc_tell_wave.nd rfl (by first | exact Or.inl rfl | exact Or.inr rfl) (pe_fld (pe_ix ix_list (pe_fld (pv 0) rfl) (pe_ix ix_list (pv 1) pe_int (fun _ _ => rfl)) (fun _ _ => rfl)) rfl)) (pss_one (ps_ret (pe_lst (pa_cons (pf Wv (hr.mono (by decide)) (pa_cons (pv 3) pa_nil)) (pa_cons (pf Cr (hr.mono (by decide)) (pa_cons (pv 3) pa_nil)) (pa_cons (pf Ac (hr.mono (by decide)) (pa_cons (pv 3) pa_nil)) (pa_cons (pf Up (hr.mono (by decide)) (pa_cons (pv 3) pa_nil)) pa_nil)))))))), ?_⟩
    have post := post
    obtain ⟨c, dt, ra, hc1, hc2, hc3, hc4, hR, hm8⟩ := R.tyre hlt
    have hd : ∀ x, (if a.isT t = false then (a, Su68.no (-2)) else x) = x := fun x => if_neg (isT_of hlt)
    refine ⟨_, rfl, p, CW, k.dx, _, _, rfl, R.ins, T.clW, T.nt, wf_tyres .., _, rfl, n, _, _, _, rfl, rfl, SqL.of hn, ix0 rfl, k.t, _, _, _, rfl, rfl, SqL.of R.tl, atI_nat hc2, c, CT, dt, _, _, rfl, hc3, T.clT, T.tr, tf_row .., _, rfl, ra, _, rfl, hc4, hR, fun H1 s1 => ⟨_, rfl, ra, _, rfl, s1 _ _ hc4, hR, fun H2 s2 => ⟨_, rfl, ra, _, rfl, s2 _ _ (s1 _ _ hc4), hR, fun H3 s3 => ⟨_, rfl, ra, _, rfl, s3 _ _ (s2 _ _ (s1 _ _ hc4)), hR, fun H4 s4 => ⟨line (by simp), fun q hq => ?_⟩⟩⟩⟩⟩
    have s5 := s1.trans (s2.trans (s3.trans s4))
    refine ro R post (Su68.num (Su68.wave (a.row t)) [(Su68.crest (a.row t) : Int), Su68.waveA (a.row t), Su68.waveB (a.row t)]) (hd _) (s5.trans (Same.new hq)) (s5.free hq) ?_
    rw [wvI_is]
    exact upd_same
abbrev s_tell_grade : Stmt := top 67
theorem sc_tell_grade : FnScope ["works", "numbers", "told", "found"] ["works", "numbers", "told"] (defScope s_tell_grade) := ⟨rfl, rfl, rfl, by decide +kernel, rfl, by decide +kernel, by decide +kernel⟩
theorem ok_tell_grade (D : Def K mg "tell_grade" s_tell_grade) (T : Txt2 K mg CW CT) (T4 : Txt4 mg) (Go : FnAt P w K mg base 6 "grade_and_one" ["works", "row"] (spGO CW CT)) : FnAt P w K mg base 7 "tell_grade" ["works", "numbers", "told"] (spDo CW CT (fun a ns _ => ∃ t, ns = [t] ∧ t < a.tyres.length) (fun ns _ => .graded (ns.getD 0 0))) := by
  obtain ⟨f, fd, hm, F⟩ := D
  refine ⟨f, fd, hm, F.kp, F.binds (ps := ["works", "numbers", "told"]) (fun _ _ _ _ _ _ us hl => match us, hl with | [_, _, _], _ => rfl), F.ok sc_tell_grade (fun vs H Q E h => ?_) (fun cdv A outer s H vs Q E hr h => ?_)⟩
  · obtain ⟨p, n, tl, ns, told, k, a, rfl, _⟩ := h; rfl
  · obtain ⟨p, n, tl, ns, told, k, a, rfl, R, hn, ht, ⟨t, rfl, hlt⟩, post⟩ := h
    refine ⟨_, (pss_cons (ps_set (i := 3) sc_tell_grade.nd rfl (by first | exact Or.inl rfl | exact Or.inr rfl) (pf Go (hr.mono (by decide)) (pa_cons (pv 0) (pa_cons (pe_fld (pe_ix ix_list (pe_fld (pv 0) rfl) (pe_ix ix_list (pv 1) pe_int (fun _ _ => rfl)) (fun _ _ => rfl)) rfl) pa_nil)))) (pss_cons (ps_if (pt_cmpR op_eq (pv 3) pe_int (nomark _)) (pss_one (ps_ret (pe_lst (pa_cons (pg T4.OF_NONE) pa_nil)))) pss_nil) (pss_one (ps_ret (pe_lst (pa_cons (pe_op op_sub (pv 3) pe_int) pa_nil)))))), ?_⟩
    have post := post
    obtain ⟨c, dt, ra, hc1, hc2, hc3, hc4, hR, hm8⟩ := R.tyre hlt
    have hd : ∀ x, (if a.isT t = false then (a, Su68.no (-2)) else x) = x := fun x => if_neg (isT_of hlt)
    refine ⟨_, rfl, _, rfl, p, CW, k.dx, _, _, rfl, R.ins, T.clW, T.nt, wf_tyres .., _, rfl, n, _, _, _, rfl, rfl, SqL.of hn, ix0 rfl, k.t, _, _, _, rfl, rfl, SqL.of R.tl, atI_nat hc2, c, CT, dt, _, _, rfl, hc3, T.clT, T.tr, tf_row .., p, k, true, a, ra, a.row t, rfl, R, hc4, hR, fun H1 s1 => ⟨_, rfl, rfl, _, rfl, ?_⟩⟩
    rw [L2.dec_int]
    have hm : Su68.does a (.graded t) = (match a.graded (a.row t) with
      | none => (a, Su68.no (-33))
      | some g => (a, Su68.num g [])) := hd _
    rcases grade_case a (a.row t) with ⟨g1, g2⟩ | ⟨g, g1, g2, g3⟩
    · rw [g2]
      rw [g1] at hm
      exact iteT ⟨line (by simp), fun q hq => ro R post (Su68.no (-33)) hm (s1.trans (Same.new hq)) (s1.free hq) upd_same⟩
    · rw [g2, show (((g : Int) + 1) == 0) = false by rw [beq_eq_false_iff_ne]; omega]
      rw [g1] at hm
      refine iteF ⟨_, rfl, _, _, rfl, rfl, line (by simp), fun q hq => ro R post (Su68.num g []) hm (s1.trans (Same.new hq)) (s1.free hq) ?_⟩
      show upd _ q _ q = some (.lst [V.int (g : Int)])
      rw [upd_same]
      dsimp only
      rw [show ((g : Int) + 1 - 1) = (g : Int) by omega]
abbrev s_tell_why : Stmt := top 68
theorem sc_tell_why : FnScope ["works", "numbers", "told", "values"] ["works", "numbers", "told"] (defScope s_tell_why) := ⟨rfl, rfl, rfl, by decide +kernel, rfl, by decide +kernel, by decide +kernel⟩
theorem ok_tell_why (D : Def K mg "tell_why" s_tell_why) (T : Txt2 K mg CW CT) (Jd : FnAt P w K mg base 5 "judged" ["row"] (spRR Row jdI)) (Fa : FnAt P w K mg base 1 "first_above" ["values", "mosts"] spFA) : FnAt P w K mg base 6 "tell_why" ["works", "numbers", "told"] (spDo CW CT (fun a ns _ => ∃ t g, ns = [t, g] ∧ t < a.tyres.length ∧ g < a.grades.length) (fun ns _ => .why (ns.getD 0 0) (ns.getD 1 0))) := by
  obtain ⟨f, fd, hm, F⟩ := D
  refine ⟨f, fd, hm, F.kp, F.binds (ps := ["works", "numbers", "told"]) (fun _ _ _ _ _ _ us hl => match us, hl with | [_, _, _], _ => rfl), F.ok sc_tell_why (fun vs H Q E h => ?_) (fun cdv A outer s H vs Q E hr h => ?_)⟩
  · obtain ⟨p, n, tl, ns, told, k, a, rfl, _⟩ := h; rfl
  · obtain ⟨p, n, tl, ns, told, k, a, rfl, R, hn, ht, ⟨t, g, rfl, hlt, hg⟩, post⟩ := h
    refine ⟨_, (pss_cons (ps_set (i := 3) sc_tell_why.nd rfl (by first | exact Or.inl rfl | exact Or.inr rfl) (pf Jd (hr.mono (by decide)) (pa_cons (pe_fld (pe_ix ix_list (pe_fld (pv 0) rfl) (pe_ix ix_list (pv 1) pe_int (fun _ _ => rfl)) (fun _ _ => rfl)) rfl) pa_nil))) (pss_one (ps_ret (pe_lst (pa_cons (pf Fa (hr.mono (by decide)) (pa_cons (pv 3) (pa_cons (pe_ix ix_list (pe_fld (pv 0) rfl) (pe_ix ix_list (pv 1) pe_int (fun _ _ => rfl)) (fun _ _ => rfl)) pa_nil))) pa_nil))))), ?_⟩
    have post := post
    obtain ⟨c, dt, ra, hc1, hc2, hc3, hc4, hR, hm8⟩ := R.tyre hlt
    have hd : ∀ x, (if a.isT t = false ∨ a.grades.length ≤ g then (a, Su68.no (-2)) else x) = x := fun x => if_neg (by
      intro z
      rcases z with z | z
      · exact isT_of hlt z
      · omega)
    have hgg : (a.grades.map gI)[g]? = some (gI (a.grade g)) := by
      rw [List.getElem?_map, List.getElem?_eq_getElem hg]
      unfold Su68.Abs.grade
      rw [List.getD_eq_getElem?_getD, List.getElem?_eq_getElem hg]
      rfl
    refine ⟨_, rfl, p, CW, k.dx, _, _, rfl, R.ins, T.clW, T.nt, wf_tyres .., _, rfl, n, _, _, _, rfl, rfl, SqL.of hn, ix0 rfl, k.t, _, _, _, rfl, rfl, SqL.of R.tl, atI_nat hc2, c, CT, dt, _, _, rfl, hc3, T.clT, T.tr, tf_row .., ra, a.row t, rfl, hc4, hR, fun H1 va s1 va0 hva => ?_⟩
    have R1 := R.same s1
    obtain ⟨d, hd1, hd2, hd3⟩ := R1.gl.get hgg
    refine ⟨_, rfl, _, rfl, p, CW, k.dx, _, _, rfl, R1.ins, T.clW, T.ng, wf_grades .., _, rfl, n, _, _, _, rfl, rfl, SqL.of (s1 _ _ hn), ix1 rfl, k.g, _, _, _, rfl, rfl, SqL.of R1.gl.lst, atI_nat hd2, va, d, jdI (a.row t), gI (a.grade g), rfl, hva, hd3, ⟨rfl, rfl⟩, fun H2 s2 => ⟨line (by simp), fun q hq => ?_⟩⟩
    have s3 := s1.trans s2
    refine ro R post (Su68.num (a.why (a.row t) g) []) (hd _) (s3.trans (Same.new hq)) (s3.free hq) ?_
    rw [why_first]
    exact upd_same
abbrev s_look_at_tyre : Stmt := top 74
theorem sc_look_at_tyre : FnScope ["works", "numbers", "told", "tyre"] ["works", "numbers", "told"] (defScope s_look_at_tyre) := ⟨rfl, rfl, rfl, by decide +kernel, rfl, by decide +kernel, by decide +kernel⟩
theorem ok_look_at_tyre (D : Def K mg "look_at_tyre" s_look_at_tyre) (T : Txt2 K mg CW CT) (Go : FnAt P w K mg base 6 "grade_and_one" ["works", "row"] (spGO CW CT)) : FnAt P w K mg base 7 "look_at_tyre" ["works", "numbers", "told"] (spDo CW CT (fun a ns _ => ∃ t, ns = [t] ∧ t < a.tyres.length) (fun ns _ => .look (ns.getD 0 0))) := by
  obtain ⟨f, fd, hm, F⟩ := D
  refine ⟨f, fd, hm, F.kp, F.binds (ps := ["works", "numbers", "told"]) (fun _ _ _ _ _ _ us hl => match us, hl with | [_, _, _], _ => rfl), F.ok sc_look_at_tyre (fun vs H Q E h => ?_) (fun cdv A outer s H vs Q E hr h => ?_)⟩
  · obtain ⟨p, n, tl, ns, told, k, a, rfl, _⟩ := h; rfl
  · obtain ⟨p, n, tl, ns, told, k, a, rfl, R, hn, ht, ⟨t, rfl, hlt⟩, post⟩ := h
    refine ⟨_, (pss_cons (ps_set (i := 3) sc_look_at_tyre.nd rfl (by first | exact Or.inl rfl | exact Or.inr rfl) (pe_ix ix_list (pe_fld (pv 0) rfl) (pe_ix ix_list (pv 1) pe_int (fun _ _ => rfl)) (fun _ _ => rfl))) (pss_one (ps_ret (pe_lst (pa_cons (pe_fld (pv 3) rfl) (pa_cons (pf Go (hr.mono (by decide)) (pa_cons (pv 0) (pa_cons (pe_fld (pv 3) rfl) pa_nil))) pa_nil)))))), ?_⟩
    have post := post
    obtain ⟨c, dt, ra, hc1, hc2, hc3, hc4, hR, hm8⟩ := R.tyre hlt
    have hd : ∀ x, (if a.isT t = false then (a, Su68.no (-2)) else x) = x := fun x => if_neg (isT_of hlt)
    refine ⟨_, rfl, p, CW, k.dx, _, _, rfl, R.ins, T.clW, T.nt, wf_tyres .., _, rfl, n, _, _, _, rfl, rfl, SqL.of hn, ix0 rfl, k.t, _, _, _, rfl, rfl, SqL.of R.tl, atI_nat hc2, ?_⟩
    exact ⟨_, rfl, c, CT, dt, _, _, rfl, hc3, T.clT, T.tm, tf_mould .., _, rfl, _, rfl, c, CT, dt, _, _, rfl, hc3, T.clT, T.tr, tf_row .., p, k, true, a, ra, a.row t, rfl, R, hc4, hR, fun H1 s1 => ⟨line (by simp), fun q hq => ro R post (Su68.num (a.tyre t).mould [Su68.gradeOf a (a.row t)]) (hd _) (s1.trans (Same.new hq)) (s1.free hq) upd_same⟩⟩
abbrev s_tell_points : Stmt := top 75
theorem sc_tell_points : FnScope ["works", "numbers", "told"] ["works", "numbers", "told"] (defScope s_tell_points) := ⟨rfl, rfl, rfl, by decide +kernel, rfl, by decide +kernel, by decide +kernel⟩
theorem ok_tell_points (D : Def K mg "tell_points" s_tell_points) (T : Txt2 K mg CW CT)  : FnAt P w K mg base 1 "tell_points" ["works", "numbers", "told"] (spDo CW CT (fun a ns _ => ∃ t, ns = [t] ∧ t < a.tyres.length) (fun ns _ => .points (ns.getD 0 0))) := by
  obtain ⟨f, fd, hm, F⟩ := D
  refine ⟨f, fd, hm, F.kp, F.binds (ps := ["works", "numbers", "told"]) (fun _ _ _ _ _ _ us hl => match us, hl with | [_, _, _], _ => rfl), F.ok sc_tell_points (fun vs H Q E h => ?_) (fun cdv A outer s H vs Q E hr h => ?_)⟩
  · obtain ⟨p, n, tl, ns, told, k, a, rfl, _⟩ := h; rfl
  · obtain ⟨p, n, tl, ns, told, k, a, rfl, R, hn, ht, ⟨t, rfl, hlt⟩, post⟩ := h
    refine ⟨_, (pss_one (ps_ret (pe_op op_cat (pe_lst (pa_cons (pg T.POINTS) pa_nil)) (pe_fld (pe_ix ix_list (pe_fld (pv 0) rfl) (pe_ix ix_list (pv 1) pe_int (fun _ _ => rfl)) (fun _ _ => rfl)) rfl)))), ?_⟩
    have post := post
    obtain ⟨c, dt, ra, hc1, hc2, hc3, hc4, hR, hm8⟩ := R.tyre hlt
    have hd : ∀ x, (if a.isT t = false then (a, Su68.no (-2)) else x) = x := fun x => if_neg (isT_of hlt)
    refine ⟨line (by simp), fun z hz => ?_⟩
    have s1 : Same H (upd H z (.lst [V.int 12])) := Same.new hz
    have R1 := R.same s1
    refine ⟨_, rfl, p, CW, k.dx, _, _, rfl, R1.ins, T.clW, T.nt, wf_tyres .., _, rfl, n, _, _, _, rfl, rfl, SqL.of (s1 _ _ hn), ix0 rfl, k.t, _, _, _, rfl, rfl, SqL.of R1.tl, atI_nat hc2, c, CT, dt, _, _, rfl, s1 _ _ hc3, T.clT, T.tr, tf_row .., z, ra, _, _, rfl, rfl, upd_same, s1 _ _ hc4, line (by rw [vi_len, hR.1]; decide), fun q hq => ?_⟩
    exact ro R post (Su68.num Su68.POINTS (a.row t)) (hd _) (s1.trans (Same.new hq)) (s1.free hq) upd_same
abbrev s_tell_state : Stmt := top 77
theorem sc_tell_state : FnScope ["works", "numbers", "told"] ["works", "numbers", "told"] (defScope s_tell_state) := ⟨rfl, rfl, rfl, by decide +kernel, rfl, by decide +kernel, by decide +kernel⟩
theorem ok_tell_state (D : Def K mg "tell_state" s_tell_state) (T : Txt2 K mg CW CT)  : FnAt P w K mg base 1 "tell_state" ["works", "numbers", "told"] (spDo CW CT (fun _ _ _ => True) (fun _ _ => .state)) := by
  obtain ⟨f, fd, hm, F⟩ := D
  refine ⟨f, fd, hm, F.kp, F.binds (ps := ["works", "numbers", "told"]) (fun _ _ _ _ _ _ us hl => match us, hl with | [_, _, _], _ => rfl), F.ok sc_tell_state (fun vs H Q E h => ?_) (fun cdv A outer s H vs Q E hr h => ?_)⟩
  · obtain ⟨p, n, tl, ns, told, k, a, rfl, _⟩ := h; rfl
  · obtain ⟨p, n, tl, ns, told, k, a, rfl, R, hn, ht, _, post⟩ := h
    refine ⟨_, (pss_one (ps_ret (pe_lst (pa_cons (pe_callB call_len_seq (by rfl) T.len PySem.boot_len (pa_cons (pe_fld (pv 0) rfl) pa_nil)) (pa_cons (pe_callB call_len_seq (by rfl) T.len PySem.boot_len (pa_cons (pe_fld (pv 0) rfl) pa_nil)) (pa_cons (pe_callB call_len_seq (by rfl) T.len PySem.boot_len (pa_cons (pe_fld (pv 0) rfl) pa_nil)) (pa_cons (pe_callB call_len_seq (by rfl) T.len PySem.boot_len (pa_cons (pe_fld (pv 0) rfl) pa_nil)) pa_nil))))))), ?_⟩
    have post := post
    have glen : (k.ga.map V.ref).length = a.grades.length := by rw [List.length_map, R.gl.len, List.length_map]
    have mlen : (k.ma.map V.ref).length = a.machines.length := by rw [List.length_map, R.ml.len]
    have wlen : (k.wa.map V.ref).length = a.wheels.length := by rw [List.length_map, R.wl.len]
    refine ⟨_, rfl, p, CW, k.dx, _, _, rfl, R.ins, T.clW, T.nt, wf_tyres .., k.t, _, rfl, .inl (SqL.of R.tl), _, rfl, p, CW, k.dx, _, _, rfl, R.ins, T.clW, T.ng, wf_grades .., k.g, _, rfl, .inl (SqL.of R.gl.lst), _, rfl, p, CW, k.dx, _, _, rfl, R.ins, T.clW, T.nm, wf_machines .., k.m, _, rfl, .inl (SqL.of R.ml.lst), _, rfl, p, CW, k.dx, _, _, rfl, R.ins, T.clW, T.nw, wf_wheels .., k.w, _, rfl, .inl (SqL.of R.wl.lst), line (by simp), fun q hq => ?_⟩
    refine ro R post (Su68.num a.tyres.length (Su68.ints [a.grades.length, a.machines.length, a.wheels.length])) rfl (Same.new hq) hq ?_
    rw [tlen' R, glen, mlen, wlen]
    exact upd_same
end
end Ty

end
section
set_option Elab.async false
set_option linter.all false
set_option maxRecDepth 100000
set_option maxHeartbeats 2000000
namespace Ty
open PySem PySem.Spec PyProof.Rows L2
section
variable {P : Program} {w : World} {K : PySem.W.Frag} {mg : Str → Option Value} {base : Heap}
variable {CW CT : Addr}
/-- one item for each of a list, by places -/
theorem lc_mapI {K : PySem.W.Frag} {a : Addr} {xs : List V} {j : Nat} {te : TE} {vs : List Nat} {σ : L2.St} {H1 : Hp} {D : Addr} {Qd : Hp → Prop} (ha : SqL K H1 a xs) (hD : H1 D = Option.none) (f : Nat → V) (hn : xs.length ≤ 30000) (hw : ∀ x, wipe ((wipe σ vs).set j (some x)) vs = wipe σ vs)
    (body : ∀ (i : Nat) (x : V) (H' : Hp) (Q' : VK), xs[i]? = some x → Same H1 H' → (∀ H4, Same H' H4 → Q' (f i) H4) → te ((wipe σ vs).set j (some x)) H' Q')
    (hd : ∀ H', Same H1 H' → H' D = some (.lst ((List.range xs.length).map f)) → Qd H') :
    ∃ W : Nat → Nat → Hp → Prop, (∃ m, W 0 m (upd H1 D (.lst []))) ∧ ∀ i m H, W i m H →
      ((Itl K a).stop i H ∧ Qd H) ∨ ((Itl K a).go i H ∧ ∃ Nx : Hp → Prop, (∀ H', Nx H' → ∃ m', m' < m ∧ W (i + 1) m' H') ∧ ∀ x H', (Itl K a).yld i H x H' → (gName j) x (wipe σ vs) H' fun σ2 H2 => wipe σ2 vs = wipe σ vs ∧ tYes σ2 H2 fun b H3 =>
        if b = true then te σ2 H3 fun y H4 => ∃ acc, H4 D = some (.lst acc) ∧ acc.length < sizeLine ∧ Nx (upd H4 D (.lst (acc ++ [y]))) else Nx H3) := by
  refine lc_list (xs := xs) (fun i H' => Same H1 H' ∧ H' D = some (.lst ((List.range i).map f))) ⟨Same.new hD, upd_same⟩ (fun i H' _ p => p.1.seq ha) (fun i x H' hx p => ?_) (fun H' p => hd H' p.1 p.2)
  obtain ⟨hs, hD'⟩ := p
  have hi : i < xs.length := (List.getElem?_eq_some_iff.mp hx).1
  refine ⟨hw _, tyes ?_⟩
  refine body i x H' _ hx hs fun H4 h4 => ⟨_, h4 _ _ hD', lineLt (by simp; omega), ?_, ?_⟩
  · exact fun b o e => by
      rw [upd_ne (ne_of_none e hD)]
      exact h4 _ _ (hs _ _ e)
  · rw [upd_same, List.range_succ, List.map_append]
    rfl
/-! ### the grades of all tyres -/
def gradesI (a : Su68.Abs) : List Int := (List.range a.tyres.length).map fun t => Su68.gradeOf a (a.row t)
theorem gradesI_len (a : Su68.Abs) : (gradesI a).length = a.tyres.length := by unfold gradesI; simp
theorem gradesI_get {a : Su68.Abs} {t : Nat} (h : t < a.tyres.length) : (gradesI a)[t]? = some (Su68.gradeOf a (a.row t)) := by
  unfold gradesI
  rw [List.getElem?_map, List.getElem?_range h]
  rfl
theorem gradesI_count (a : Su68.Abs) (g : Nat) : (gradesI a).count ((g : Int) + 1) = ((List.range a.tyres.length).filter fun t => a.graded (a.row t) == some g).length := by
  unfold gradesI
  rw [List.count_eq_countP, List.countP_map, List.countP_eq_length_filter]
  congr 1
  refine List.filter_congr fun t _ => ?_
  rw [grade_some]
  show (Su68.gradeOf a (a.row t) == ((g : Int) + 1)) = _
  by_cases h : Su68.gradeOf a (a.row t) = (g : Int) + 1
  · rw [h, decide_eq_true rfl]; exact beq_self_eq_true _
  · rw [decide_eq_false h, beq_eq_false_iff_ne]; exact h
def spGA (CW CT : Addr) : Sp := fun vs H Q _ => ∃ p k b a, vs = [.ref p] ∧ Rep CW CT H p k b a ∧ ∀ H' q, Same H H' → H q = Option.none → At H' q (gradesI a) → Q (.ref q) H'
abbrev s_grades_and_one : Stmt := top 49
theorem sc_grades_and_one : FnScope ["works", "tyre"] ["works"] (defScope s_grades_and_one) := ⟨rfl, rfl, rfl, by decide +kernel, rfl, by decide +kernel, by decide +kernel⟩
theorem ok_grades_and_one (D : Def K mg "grades_and_one" s_grades_and_one) (T : Txt2 K mg CW CT) (Go : FnAt P w K mg base 6 "grade_and_one" ["works", "row"] (spGO CW CT)) : FnAt P w K mg base 7 "grades_and_one" ["works"] (spGA CW CT) := by
  obtain ⟨f, fd, hm, F⟩ := D
  refine ⟨f, fd, hm, F.kp, F.binds (ps := ["works"]) (fun _ _ _ _ _ _ us hl => match us, hl with | [_], _ => rfl), F.ok sc_grades_and_one (fun vs H Q E h => ?_) (fun cdv A outer s H vs Q E hr h => ?_)⟩
  · obtain ⟨p, k, b, a, rfl, _⟩ := h; rfl
  · obtain ⟨p, k, b, a, rfl, R, q⟩ := h
    refine ⟨_, (pss_one (ps_ret (pe_lc (own := [("tyre", 1)]) rfl sc_grades_and_one.nd (pi_list (pe_fld (pv 0) rfl)) (blkOk_by (by show blkC ["works", "tyre"] (defScope s_grades_and_one) _ _ = true; decide +kernel)) (fun _ _ _ _ _ => pg_name (i := 1) sc_grades_and_one.nd rfl (Or.inl rfl)) (fun _ _ _ _ _ => pts_nil)
      (fun _ _ _ _ _ => (pf Go (hr.mono (by decide)) (pa_cons (pv 0) (pa_cons (show PE _ _ (tFld K _ _) from pe_fld (pv 1) rfl) pa_nil))))))), ?_⟩
    have h60 := R.ok.t60
    refine ⟨_, rfl, p, CW, k.dx, _, _, rfl, R.ins, T.clW, T.nt, wf_tyres .., k.t, rfl, ⟨_, SqL.of R.tl⟩, fun Dd hD => lc_mapI (K := K) (a := k.t) (xs := k.ta.map V.ref) (SqL.of R.tl) hD (fun i => V.int (Su68.gradeOf a (a.row i))) (by rw [tlen' R]; omega) (fun _ => rfl) (fun i x H' Q' hx hs kk => ?_) (fun H' hs hd => ?_)⟩
    · obtain ⟨hi, c, dt, ra, rfl, e1, e2, e3, e4, e5⟩ := (R.same hs).tyre_at hx
      exact ⟨_, rfl, _, rfl, c, CT, dt, _, _, rfl, e2, T.clT, T.tr, tf_row .., p, k, b, a, ra, a.row i, rfl, R.same hs, e3, e4, fun H4 s4 => kk _ s4⟩
    · refine q _ Dd hs hD (hd.trans ?_)
      unfold gradesI vi
      rw [List.map_map, tlen' R]
      rfl
abbrev s_tell_tyres_of_grade : Stmt := top 69
theorem sc_tell_tyres_of_grade : FnScope ["works", "numbers", "told", "tyres", "i", "found"] ["works", "numbers", "told"] (defScope s_tell_tyres_of_grade) := ⟨rfl, rfl, rfl, by decide +kernel, rfl, by decide +kernel, by decide +kernel⟩
theorem ok_tell_tyres_of_grade (D : Def K mg "tell_tyres_of_grade" s_tell_tyres_of_grade) (T : Txt2 K mg CW CT) (Ga : FnAt P w K mg base 7 "grades_and_one" ["works"] (spGA CW CT)) : FnAt P w K mg base 8 "tell_tyres_of_grade" ["works", "numbers", "told"] (spDo CW CT (fun a ns _ => ∃ g, ns = [g] ∧ g < a.grades.length) (fun ns _ => .of (ns.getD 0 0))) := by
  obtain ⟨f, fd, hm, F⟩ := D
  refine ⟨f, fd, hm, F.kp, F.binds (ps := ["works", "numbers", "told"]) (fun _ _ _ _ _ _ us hl => match us, hl with | [_, _, _], _ => rfl), F.ok sc_tell_tyres_of_grade (fun vs H Q E h => ?_) (fun cdv A outer s H vs Q E hr h => ?_)⟩
  · obtain ⟨p, n, tl, ns, told, k, a, rfl, _⟩ := h; rfl
  · obtain ⟨p, n, tl, ns, told, k, a, rfl, R, hn, ht, ⟨g, rfl, hg⟩, post⟩ := h
    refine ⟨_, (pss_cons (ps_setLc (i := 3) (own := [("i", 4), ("found", 5)]) rfl sc_tell_tyres_of_grade.nd rfl rfl rfl (pi_enum rfl T.enumerate (pa_cons (pf Ga (hr.mono (by decide)) (pa_cons (pv 0) pa_nil)) pa_nil)) (blkOk_by (by show blkC ["works", "numbers", "told", "tyres", "i", "found"] (defScope s_tell_tyres_of_grade) _ _ = true; decide +kernel)) (g := gTwo K 4 5) (fun _ _ _ _ _ => pg_tup rfl (pgs_cons (pg_name (i := 4) sc_tell_tyres_of_grade.nd rfl (Or.inl rfl)) (pgs_cons (pg_name (i := 5) sc_tell_tyres_of_grade.nd rfl (Or.inl rfl)) pgs_nil))) (fun _ _ _ _ _ => pts_one (pt_cmpR op_eq (pv 5) (pe_op op_add (pe_ix (r := rIxL K) ix_list (pv 1) pe_int (fun _ _ => rfl)) pe_int) (nomark _)))
      (fun _ _ _ _ _ => (pv 4))) (pss_one (ps_ret (pe_op op_cat (pe_lst (pa_cons (pe_callB call_len_seq (by rfl) T.len PySem.boot_len (pa_cons (pv 3) pa_nil)) pa_nil)) (pv 3))))), ?_⟩
    have post := post
    have h60 := R.ok.t60
    have hd : ∀ x, (if a.grades.length ≤ g then (a, Su68.no (-2)) else x) = x := fun x => if_neg (by omega)
    refine ⟨_, rfl, p, k, true, a, rfl, R, fun H1 ga s1 ga0 hga => ⟨ga, _, rfl, SqL.of hga, fun Dd hD => lc_filtE (K := K) (b := ga) (xs := vi (gradesI a)) (SqL.of hga) hD (fun t => a.graded (a.row t) == some g) (fun i => V.int (i : Int)) (by rw [vi_len, gradesI_len]; omega) (fun _ _ => rfl) (fun i x H' Q' hx hs kk => ?_) (fun i x H' Q' hx hp hs kk => ?_) (fun H' hs hdd => ?_)⟩⟩
    · have hi : i < a.tyres.length := by have := (List.getElem?_eq_some_iff.mp hx).1; rw [vi_len, gradesI_len] at this; exact this
      rw [vi_get (gradesI_get hi)] at hx
      obtain rfl := Option.some.inj hx
      refine ⟨_, rfl, _, rfl, n, _, _, _, rfl, rfl, SqL.of (hs _ _ (s1 _ _ hn)), ix0 rfl, _, _, rfl, rfl, rfl, _, rfl, ?_⟩
      dsimp only
      rw [L2.dec_int]
      have e : (Su68.gradeOf a (a.row i) == ((g : Int) + 1)) = (a.graded (a.row i) == some g) := by
        rw [grade_some]
        by_cases h : Su68.gradeOf a (a.row i) = (g : Int) + 1
        · rw [decide_eq_true h, h]; exact beq_self_eq_true _
        · rw [decide_eq_false h, beq_eq_false_iff_ne]; exact h
      rw [e]
      exact kk _ (Same.refl _)
    · exact ⟨_, rfl, kk _ (Same.refl _)⟩
    · rw [vi_len, gradesI_len] at hdd
      have hl : At H' Dd (Su68.ints ((List.range a.tyres.length).filter fun t => a.graded (a.row t) == some g)) := hdd.trans (by unfold vi Su68.ints; rw [List.map_map]; rfl)
      have hle : ((List.range a.tyres.length).filter fun t => a.graded (a.row t) == some g).length ≤ 60 := Nat.le_trans (filter_range _ _) h60
      have s2 := s1.trans hs
      refine ⟨_, rfl, Dd, _, rfl, .inl (SqL.of hl), line (by simp), fun z hz => ?_⟩
      have s3 := s2.trans (Same.new (o := .lst [V.int (((vi (Su68.ints ((List.range a.tyres.length).filter fun t => a.graded (a.row t) == some g))).length : Nat) : Int)]) hz)
      refine ⟨_, rfl, z, Dd, _, _, rfl, rfl, upd_same, Same.new hz _ _ hl, line (by rw [vi_len, ints_len]; simp; omega), fun q hq => ?_⟩
      refine ro R post (Su68.list ((List.range a.tyres.length).filter fun t => a.graded (a.row t) == some g)) (hd _) (s3.trans (Same.new hq)) (s3.free hq) ?_
      rw [vi_len, ints_len]
      exact upd_same
/-! ### moulds -/
theorem Rep.rows {H : Hp} {p : Addr} {k : Wk} {b : Bool} {a : Su68.Abs} (R : Rep CW CT H p k b a) : ∃ ra : Nat → Addr, ∀ i, i < a.tyres.length → At H (ra i) (a.row i) ∧ ∃ c dt, k.ta[i]? = some c ∧ H c = some (.ins CT dt (tf ((a.tyre i).mould : Int) (ra i))) := by
  have key : ∀ i : Nat, ∃ x : Addr, i < a.tyres.length → (At H x (a.row i) ∧ ∃ c dt, k.ta[i]? = some c ∧ H c = some (.ins CT dt (tf ((a.tyre i).mould : Int) x))) := fun i => by
   by_cases h : i < a.tyres.length
   · obtain ⟨c, dt, ra, e1, _, e3, e4, _⟩ := R.tyre h
     exact ⟨ra, fun _ => ⟨e4, c, dt, e1, e3⟩⟩
   · exact ⟨(0 : Nat), fun z => absurd z h⟩
  exact ⟨fun i => Classical.choose (key i), fun i => Classical.choose_spec (key i)⟩
def rowsM (a : Su68.Abs) (m : Nat) : List (List Int) := (a.ofMould m).map a.row
theorem rowsM_len (a : Su68.Abs) (m : Nat) : (rowsM a m).length = (a.ofMould m).length := List.length_map ..
theorem ofMould_lt {a : Su68.Abs} {m i t : Nat} (h : (a.ofMould m)[i]? = some t) : t < a.tyres.length := (ofMould_mem.mp (List.mem_of_getElem? h)).1
def spRM (CW CT : Addr) : Sp := fun vs H Q _ => ∃ p k b a m, vs = [.ref p, .int ((m : Nat) : Int)] ∧ Rep CW CT H p k b a ∧ ∀ H' q rs, Same H H' → H q = Option.none → LLx H' q rs (rowsM a m) → Q (.ref q) H'
abbrev s_rows_of_mould : Stmt := top 50
theorem sc_rows_of_mould : FnScope ["works", "mould", "tyre"] ["works", "mould"] (defScope s_rows_of_mould) := ⟨rfl, rfl, rfl, by decide +kernel, rfl, by decide +kernel, by decide +kernel⟩
theorem ok_rows_of_mould (D : Def K mg "rows_of_mould" s_rows_of_mould) (T : Txt2 K mg CW CT) : FnAt P w K mg base 1 "rows_of_mould" ["works", "mould"] (spRM CW CT) := by
  obtain ⟨f, fd, hm, F⟩ := D
  refine ⟨f, fd, hm, F.kp, F.binds (ps := ["works", "mould"]) (fun _ _ _ _ _ _ us hl => match us, hl with | [_, _], _ => rfl), F.ok sc_rows_of_mould (fun vs H Q E h => ?_) (fun cdv A outer s H vs Q E hr h => ?_)⟩
  · obtain ⟨p, k, b, a, m, rfl, _⟩ := h; rfl
  · obtain ⟨p, k, b, a, m, rfl, R, q⟩ := h
    refine ⟨_, (pss_one (ps_ret (pe_lc (own := [("tyre", 2)]) rfl sc_rows_of_mould.nd (pi_list (pe_fld (pv 0) rfl)) (blkOk_by (by show blkC ["works", "mould", "tyre"] (defScope s_rows_of_mould) _ _ = true; decide +kernel)) (fun _ _ _ _ _ => pg_name (i := 2) sc_rows_of_mould.nd rfl (Or.inl rfl)) (fun _ _ _ _ _ => pts_one (pt_cmpR op_eq (show PE _ _ (tFld K _ _) from pe_fld (pv 2) rfl) (pv 1) (nomark _)))
      (fun _ _ _ _ _ => (show PE _ _ (tFld K _ _) from pe_fld (pv 2) rfl))))), ?_⟩
    have h60 := R.ok.t60
    obtain ⟨ra, hra⟩ := R.rows
    have look : ∀ {i : Nat} {x : V}, (k.ta.map V.ref)[i]? = some x → i < a.tyres.length ∧ ∃ c dt, x = V.ref c ∧ H c = some (.ins CT dt (tf ((a.tyre i).mould : Int) (ra i))) := fun {i x} hx => by
      obtain ⟨hi, c, dt, r', rfl, e1, _⟩ := R.tyre_at hx
      obtain ⟨_, c', dt', e2, e3⟩ := hra i hi
      rw [e1] at e2
      cases e2
      exact ⟨hi, c, dt', rfl, e3⟩
    refine ⟨_, rfl, p, CW, k.dx, _, _, rfl, R.ins, T.clW, T.nt, wf_tyres .., k.t, rfl, ⟨_, SqL.of R.tl⟩, fun Dd hD => lc_filtL (K := K) (a := k.t) (xs := k.ta.map V.ref) (SqL.of R.tl) hD (fun i => (a.tyre i).mould == m) (fun i => V.ref (ra i)) (by rw [tlen' R]; omega) (fun _ => rfl) (fun i x H' Q' hx hs kk => ?_) (fun i x H' Q' hx hp hs kk => ?_) (fun H' hs hd => ?_)⟩
    · obtain ⟨hi, c, dt, rfl, e2⟩ := look hx
      refine ⟨_, rfl, c, CT, dt, _, _, rfl, hs _ _ e2, T.clT, T.tm, tf_mould .., _, rfl, rfl, _, rfl, ?_⟩
      rw [L2.dec_int]
      have e : (((a.tyre i).mould : Int) == (m : Int)) = ((a.tyre i).mould == m) := by
        by_cases h : (a.tyre i).mould = m
        · rw [h, beq_self_eq_true, beq_self_eq_true]
        · rw [beq_eq_false_iff_ne.mpr h, beq_eq_false_iff_ne]; omega
      rw [e]
      exact kk _ (Same.refl _)
    · obtain ⟨hi, c, dt, rfl, e2⟩ := look hx
      exact ⟨_, rfl, c, CT, dt, _, _, rfl, hs _ _ e2, T.clT, T.tr, tf_row .., kk _ (Same.refl _)⟩
    · rw [tlen' R] at hd
      have ha : ∀ t, t ∈ a.ofMould m → H (ra t) ≠ Option.none := fun t ht e => by
        have := (hra t (ofMould_mem.mp ht).1).1
        rw [show H (ra t) = some _ from this] at e
        cases e
      refine q _ Dd ((a.ofMould m).map ra) hs hD ⟨hd.trans (by rw [List.map_map]; rfl), by rw [List.length_map, rowsM_len], fun j b' e => ?_⟩
      rw [List.getElem?_map] at e
      obtain ⟨t', et, rfl⟩ := Option.map_eq_some_iff.mp e
      refine ⟨fun z => ha t' (List.mem_of_getElem? et) (by rw [z]; exact hD), a.row t', ?_, hs _ _ (hra t' (ofMould_lt et)).1⟩
      unfold rowsM
      rw [List.getElem?_map, et]
      rfl
def peaksI (a : Su68.Abs) (m : Nat) : List Int := (a.ofMould m).map fun t => (Su68.peak (a.row t) : Int)
theorem peaksI_len (a : Su68.Abs) (m : Nat) : (peaksI a m).length = (a.ofMould m).length := List.length_map ..
theorem ofMould_60 {a : Su68.Abs} (h : AbsOk a) (m : Nat) : (a.ofMould m).length ≤ 60 := Nat.le_trans (ofMould_len a m) h.t60
theorem row_of {a : Su68.Abs} (h : AbsOk a) {t : Nat} (ht : t < a.tyres.length) : Row (a.row t) := by
  unfold Su68.Abs.row Su68.Abs.tyre
  rw [List.getD_eq_getElem?_getD, List.getElem?_eq_getElem ht]
  exact (h.tyre _ (List.getElem_mem ht)).1
theorem range_map {α β : Type} (l : List α) (d : α) (f : α → β) : (List.range l.length).map (fun i => f (l.getD i d)) = l.map f := by
  apply List.ext_getElem?
  intro i
  rw [List.getElem?_map, List.getElem?_map]
  by_cases h : i < l.length
  · rw [List.getElem?_range h, List.getElem?_eq_getElem h]
    show some (f (l.getD i d)) = some (f l[i])
    rw [List.getD_eq_getElem?_getD, List.getElem?_eq_getElem h]
    rfl
  · rw [List.getElem?_eq_none (by simp; omega), List.getElem?_eq_none (by omega)]
    rfl
def spPM (CW CT : Addr) : Sp := fun vs H Q _ => ∃ p k b a m, vs = [.ref p, .int ((m : Nat) : Int)] ∧ Rep CW CT H p k b a ∧ ∀ H' q, Same H H' → H q = Option.none → At H' q (peaksI a m) → Q (.ref q) H'
/-- an item of the rows of a mould -/
theorem LLx.rowM {H : Hp} {q : Addr} {rs : List Addr} {a : Su68.Abs} {m i : Nat} {x : V} (h : LLx H q rs (rowsM a m)) (hx : (rs.map V.ref)[i]? = some x) : ∃ d t, x = V.ref d ∧ (a.ofMould m)[i]? = some t ∧ At H d (a.row t) ∧ i < (a.ofMould m).length := by
  rw [List.getElem?_map] at hx
  obtain ⟨d, hd, rfl⟩ := Option.map_eq_some_iff.mp hx
  obtain ⟨_, way, e1, e2⟩ := h.at_ i d hd
  unfold rowsM at e1
  rw [List.getElem?_map] at e1
  obtain ⟨t, et, rfl⟩ := Option.map_eq_some_iff.mp e1
  exact ⟨d, t, rfl, et, e2, (List.getElem?_eq_some_iff.mp et).1⟩
abbrev s_peaks_of_mould : Stmt := top 51
theorem sc_peaks_of_mould : FnScope ["works", "mould", "row"] ["works", "mould"] (defScope s_peaks_of_mould) := ⟨rfl, rfl, rfl, by decide +kernel, rfl, by decide +kernel, by decide +kernel⟩
theorem ok_peaks_of_mould (D : Def K mg "peaks_of_mould" s_peaks_of_mould) (T : Txt2 K mg CW CT) (Pk : FnAt P w K mg base 1 "peak" ["row"] (spRI (fun r => r.length = 12) fun r => (Su68.peak r : Int))) (Rm : FnAt P w K mg base 1 "rows_of_mould" ["works", "mould"] (spRM CW CT)) : FnAt P w K mg base 2 "peaks_of_mould" ["works", "mould"] (spPM CW CT) := by
  obtain ⟨f, fd, hm, F⟩ := D
  refine ⟨f, fd, hm, F.kp, F.binds (ps := ["works", "mould"]) (fun _ _ _ _ _ _ us hl => match us, hl with | [_, _], _ => rfl), F.ok sc_peaks_of_mould (fun vs H Q E h => ?_) (fun cdv A outer s H vs Q E hr h => ?_)⟩
  · obtain ⟨p, k, b, a, m, rfl, _⟩ := h; rfl
  · obtain ⟨p, k, b, a, m, rfl, R, q⟩ := h
    rw [pkI_fun] at Pk
    refine ⟨_, (pss_one (ps_ret (pe_lc (own := [("row", 2)]) rfl sc_peaks_of_mould.nd (pi_list (pf Rm (hr.mono (by decide)) (pa_cons (pv 0) (pa_cons (pv 1) pa_nil)))) (blkOk_by (by show blkC ["works", "mould", "row"] (defScope s_peaks_of_mould) _ _ = true; decide +kernel)) (fun _ _ _ _ _ => pg_name (i := 2) sc_peaks_of_mould.nd rfl (Or.inl rfl)) (fun _ _ _ _ _ => pts_nil)
      (fun _ _ _ _ _ => (pf Pk (hr.mono (by decide)) (pa_cons (pv 2) pa_nil)))))), ?_⟩
    have h60 := ofMould_60 R.ok m
    refine ⟨_, rfl, _, rfl, p, k, b, a, m, rfl, R, fun H1 rl rs s1 rl0 hrl => ⟨rl, rfl, ⟨_, SqL.of hrl.lst⟩, fun Dd hD => ?_⟩⟩
    have hlen : (rs.map V.ref).length = (a.ofMould m).length := by rw [List.length_map, hrl.len, rowsM_len]
    refine lc_mapI (K := K) (a := rl) (xs := rs.map V.ref) (SqL.of hrl.lst) hD (fun i => V.int (pkI (a.row ((a.ofMould m).getD i 0)))) (by rw [hlen]; omega) (fun _ => rfl) (fun i x H' Q' hx hs kk => ?_) (fun H' hs hd => ?_)
    · obtain ⟨d, t', rfl, e1, e2, e3⟩ := (hrl.same hs).rowM hx
      refine ⟨_, rfl, d, a.row t', rfl, e2, (row_of R.ok (ofMould_lt e1)).1, fun H4 s4 => ?_⟩
      have e : (a.ofMould m).getD i 0 = t' := by rw [List.getD_eq_getElem?_getD, e1]; rfl
      have := kk _ s4
      rw [e] at this
      exact this
    · refine q _ Dd (s1.trans hs) (s1.free hD) (hd.trans ?_)
      rw [hlen, range_map (a.ofMould m) 0 (fun t => V.int (pkI (a.row t)))]
      unfold peaksI vi
      rw [List.map_map]
      refine congrArg (fun l => some (HO.lst l)) (List.map_congr_left fun t _ => ?_)
      show V.int (pkI (a.row t)) = V.int (Su68.peak (a.row t) : Int)
      rw [pkI_is]
end
end Ty

end
section
set_option Elab.async false
set_option linter.all false
set_option maxRecDepth 100000
set_option maxHeartbeats 200000
namespace Ty
open PySem PySem.Spec PyProof.Rows L2
/-! ### how often an int stands in a list of ints -/
def rCountI (K : PySem.W.Frag) : V → List V → Hp → VK → Prop := fun x xs H Q => ∃ (a : Addr) (ns : List Int) (k : Int), x = V.ref a ∧ xs = [V.int k] ∧ SqL K H a (vi ns) ∧ Q (.int (ns.count k : Nat)) H
theorem mt_countI {X : Cx} : MtR X "list.count" (rCountI X.K) := by
  intro pins s σ H x xs v us Q I rx rxs h
  obtain ⟨a, ns, k, rfl, rfl, hs, q⟩ := h
  cases rx
  obtain ⟨u, rfl, ru⟩ := Vals.one rxs
  obtain ⟨t, rfl⟩ := ru
  obtain ⟨its, rv, hl, _⟩ := I.list hs
  exact count_list_ints hl.isList rv.ints ⟨.int _, H, I.tok _, ⟨_, rfl⟩, q⟩
/-! ### max(list, default=..) -/
section
variable {prog : Program} {w : World} {A : Around} {R : Result → Shared → Prop} {I : Addr} {fp wr : List Addr} {n : Nat} {Pi : Nat → Value → Prop} {St : Nat → Heap → Prop}
/-- a turn of the walk, and the end; so far: nothing, or the best of those that came -/
theorem mx_loop (W : Walks prog w A.in1 I fp wr n Pi St) (bt : Nat → Nat → Bool) (hc : CmpOf prog w A.in1 .Gt Pi bt) (S : Addr) (hSf : S ∉ fp) (d : Value) :
    ∀ (k j : Nat) (s : Shared) (old : Array Value) (c : Nat), n - j = k → j ≤ n → St j s.heap → s.heap.get? S = some { cls := .type "list", dict := none, data := .seq old c, slots := #[] } →
      ((j = 0 ∧ old = #[]) ∨ ∃ i vb, j = i + 1 ∧ old = #[vb, vb] ∧ Pi (argBest bt i) vb) →
      (∀ h' tk, n = 0 → (∀ b o, b ∉ wr → b ≠ S → s.heap.get? b = some o → h'.get? b = some o) → R (.ok (.ret d)) { s with heap := h', toks := tk }) →
      (∀ v h' tk i, n = i + 1 → Pi (argBest bt i) v → (∀ b o, b ∉ wr → b ≠ S → s.heap.get? b = some o → h'.get? b = some o) → R (.ok (.ret v)) { s with heap := h', toks := tk }) →
      codeAny (model prog w) A (.builtin "max.loop" ⟨[.ref I, .none, .ref S], [("default", d)]⟩) R s := by
  have nSw : S ∉ wr := fun z => hSf (W.sub _ z)
  have nm : (toString "max" ++ toString ".loop" : String) = "max.loop" := by decide
  intro k
  induction k with
  | zero =>
    intro j s old c hk hj hst hS ho e0 e1
    obtain rfl : j = n := by omega
    refine codeAny_builtin PySem.F.entry_max_loop ?_
    rw [Around.under_plainId PySem.F.plain_max_loop _]
    show wpAny (model prog w) A.in1 (seqItems? (.ref S) >>= _) _ _ s
    refine wpAny_bind (wpAny_seqItems hS rfl (?_ : wpAny (model prog w) A.in1 (tryCatch (pyNext (.ref I)) _ >>= _) _ _ s))
    refine wpAny_bind (wpAny_tryCatch (W.done s _ _ hst fun h' tk kp => ?_))
    have hS2 := kp S _ nSw hS
    rcases ho with ⟨z, rfl⟩ | ⟨i, vb, z, rfl, hb⟩
    · refine (wpAny_bind (wpAny_rule (wpAny_pure ?_)) : wpAny (model prog w) A.in1 (rule _ >>= fun _ => ret d) _ _ _)
      exact e0 _ tk z fun b o hb _ e => kp b o hb e
    · show wpAny (model prog w) A.in1 (updateSeq S (fun _ => #[]) >>= _) _ _ _
      refine wpAny_bind ?_
      refine wpAny_updateSeq hS2 rfl ?_
      refine wpAny_bind (wpAny_letGo ?_); refine wpAny_pure ?_
      exact e1 vb _ tk i z hb fun b o hw hn e => (Heap.get?_update_other _ _ (Ne.symm hn)).trans (kp b o hw e)
  | succ k ih =>
    intro j s old c hk hj hst hS ho e0 e1
    have hlt : j < n := by omega
    refine codeAny_builtin PySem.F.entry_max_loop ?_
    rw [Around.under_plainId PySem.F.plain_max_loop _]
    show wpAny (model prog w) A.in1 (seqItems? (.ref S) >>= _) _ _ s
    refine wpAny_bind (wpAny_seqItems hS rfl (?_ : wpAny (model prog w) A.in1 (tryCatch (pyNext (.ref I)) _ >>= _) _ _ s))
    refine wpAny_bind (wpAny_tryCatch (W.item j s _ _ hlt hst fun v h' tk hP hst' kp => ?_))
    have hS2 := kp S _ nSw hS
    have nf : ∀ {b : Addr}, b ∈ fp → S ≠ b := fun hb z => hSf (z ▸ hb)
    rcases ho with ⟨z, rfl⟩ | ⟨i, vb, z, rfl, hb⟩
    · show wpAny (model prog w) A.in1 (updateSeq S (fun _ => #[v, v]) >>= _) _ _ _
      refine wpAny_bind ?_
      refine wpAny_updateSeq hS2 rfl ?_
      rw [nm]
      refine wpAny_pure ⟨plainId_quiet PySem.F.plain_max_loop _, ih (j + 1) _ #[v, v] _ (by omega) hlt (W.frame _ _ _ hst' fun b hb o e => (Heap.get?_update_other _ _ (nf hb)).trans e) (Heap.get?_update_self _ hS2 rfl) (.inr ⟨j, v, rfl, rfl, by subst z; exact hP⟩)
        (fun h2 tk2 z0 kp2 => absurd z0 (by omega)) (fun v2 h2 tk2 i2 z2 hP2 kp2 => ?_)⟩
      exact e1 v2 h2 tk2 i2 z2 hP2 fun b o hw hn e => kp2 b o hw hn ((Heap.get?_update_other _ _ (Ne.symm hn)).trans (kp b o hw e))
    · subst z
      show wpAny (model prog w) A.in1 (tryCatch (holding [v, v] (richCompare .Gt v vb >>= _)) _ >>= _) _ _ _
      refine wpAny_bind (wpAny_tryCatch (wpAny_holding (wpAny_bind (hc (i + 1) (argBest bt i) v vb _ _ _ hP hb (wpAny_bind (wpAny_holding (wpAny_truthy_bool (wpAny_bind (wpAny_letGo (wpAny_pure ?_))))))))))
      cases hbt : bt (i + 1) (argBest bt i) with
      | true =>
        rw [if_pos rfl]
        refine wpAny_bind ?_
        refine wpAny_updateSeq hS2 rfl ?_
        refine wpAny_bind (wpAny_letGo ?_)
        rw [nm]
        refine wpAny_pure ⟨plainId_quiet PySem.F.plain_max_loop _, ih (i + 1 + 1) _ #[v, v] _ (by omega) hlt (W.frame _ _ _ hst' fun b hb o e => (Heap.get?_update_other _ _ (nf hb)).trans e) (Heap.get?_update_self _ hS2 rfl) (.inr ⟨i + 1, v, rfl, rfl, by rw [argBest, if_pos hbt]; exact hP⟩)
          (fun h2 tk2 z0 kp2 => absurd z0 (by omega)) (fun v2 h2 tk2 i2 z2 hP2 kp2 => ?_)⟩
        exact e1 v2 h2 tk2 i2 z2 hP2 fun b o hw hn e => kp2 b o hw hn ((Heap.get?_update_other _ _ (Ne.symm hn)).trans (kp b o hw e))
      | false =>
        rw [if_neg (by decide)]
        refine wpAny_bind (wpAny_letGo ?_)
        rw [nm]
        refine wpAny_pure ⟨plainId_quiet PySem.F.plain_max_loop _, ih (i + 1 + 1) _ #[vb, vb] c (by omega) hlt hst' hS2 (.inr ⟨i + 1, vb, rfl, rfl, by rw [argBest, if_neg (by rw [hbt]; decide)]; exact hb⟩)
          (fun h2 tk2 z0 kp2 => absurd z0 (by omega)) (fun v2 h2 tk2 i2 z2 hP2 kp2 => ?_)⟩
        exact e1 v2 h2 tk2 i2 z2 hP2 fun b o hw hn e => kp2 b o hw hn (kp b o hw e)
end
theorem args_maxD (a d : Value) : argsOk "max" ⟨[a], [("default", d)]⟩ := by unfold argsOk; kernel_rfl
theorem mx_tree {prog : Program} {w : World} {A : Around} {E : Value → Shared → Prop} {s : Shared} {id : String} {f : Builtin} {args : Args} {Q : Value → Shared → Prop} (hk : builtinKind id = none) (hp : plainId id = true) (hb : entryFor table id = some f) (ha : argsOk id args)
    (hc : wpAny (model prog w) A.in1 (f args) (fun fin s' => match fin with
      | .done g => (match (Except.ok g : Result) with | .ok (.ret v) => Q v s' | .ok _ => False | .error e => E e s')
      | .again c' => c'.quiet = true ∧ codeAny (model prog w) A c' (fun r s' => match r with | .ok (.ret v) => Q v s' | .ok _ => False | .error e => E e s') s') E s) :
    wpAny (model prog w) A (call (.builtin id) args.pos args.kw) Q E s := by
  refine wpAny_call (codeAny_call_builtin hp hb ?_)
  have hck : checkBuiltinCall id args = pure () := by
    unfold argsOk at ha
    simp only [checkBuiltinCall, hk]
    cases e : Manifest.signature? id with
    | none => rfl
    | some sig => rw [e] at ha; exact ha
  show wpAny _ _ (checkBuiltinCall id args) _ _ s
  rw [hck]; exact wpAny_pure hc
theorem mx_call {prog : Program} {w : World} {A : Around} {E : Value → Shared → Prop} {s : Shared} {l : Addr} {its : List Value} {ns : List Int} {d : Value} {Q : Value → Shared → Prop} (hh : A.handled = none) (hl : s.heap.IsList l its.toArray) (hi : IntsAre its ns)
    (h0 : ∀ h' tk, ns = [] → (∀ b o, s.heap.get? b = some o → h'.get? b = some o) → Q d { s with heap := h', toks := tk })
    (h1 : ∀ h' tk m t', m ∈ ns → (∀ y, y ∈ ns → y ≤ m) → (∀ b o, s.heap.get? b = some o → h'.get? b = some o) → Q (.int m t') { s with heap := h', toks := tk }) :
    wpAny (model prog w) A (call (.builtin "max") [.ref l] [("default", d)]) Q E s := by
  have nm : (toString "max" ++ toString ".loop" : String) = "max.loop" := by decide
  obtain ⟨xs, e⟩ := hi.allInts.items
  have hn : PySem.numsOf (intItems xs).toList = ns := by rw [← e]; exact hi.numsOf
  rw [nums_intItems] at hn
  rw [e] at hl
  have hsz : ns.length = xs.size := by rw [← hn, List.length_map, Array.length_toList]
  have hlt : l < s.heap.objs.size := by obtain ⟨_, e, _⟩ := hl; exact Heap.lt_size e
  refine mx_tree (args := ⟨[.ref l], [("default", d)]⟩) PySem.F.kind_max PySem.F.plain_max PySem.F.entry_max (args_maxD _ _) ?_
  show wpAny _ A.in1 (Builtin.Builtins.bindParams "max" ["key", "default"] 0 ⟨[], [("default", d)]⟩ >>= _) _ _ s
  refine wpAny_bind (wpAny_of_eq (show Builtin.Builtins.bindParams "max" ["key", "default"] 0 ⟨[], [("default", d)]⟩ = pure [none, some d] from rfl) ?_)
  refine wpAny_bind (wpAny_pure (wpAny_bind (wpAny_pyIter_list hl ?_)))
  refine wpAny_bind (wpAny_newObj_type ?_)
  rw [nm]
  have hne : l ≠ s.heap.objs.size := Nat.ne_of_lt hlt
  refine wpAny_pure ⟨plainId_quiet PySem.F.plain_max_loop _, mx_loop (Walks.list (A := A.in1) hh s.heap.objs.size l hne (intItems xs)) (fun i j => decide (numAt xs i > numAt xs j)) (CmpOf.ints_gt (numAt xs) (fun _ _ => intItems_at)) _ ?_ d _ 0 _ #[] 0 rfl (Nat.zero_le _) ?_ (Heap.get?_push_size _ rfl) (.inl ⟨rfl, rfl⟩) ?_ ?_⟩
  · show (s.heap.push _).objs.size ∉ [s.heap.objs.size, l]
    rw [Heap.size_push]
    intro hm
    have hm : s.heap.objs.size + 1 = s.heap.objs.size ∨ s.heap.objs.size + 1 = l := by simpa using hm
    exact hm.elim (fun z => Nat.succ_ne_self _ z) fun z => Nat.lt_irrefl _ (Nat.lt_of_lt_of_eq (Nat.lt_succ_of_lt hlt) z)
  · exact ⟨Heap.IsListIter.at (h := s.heap.push _) ⟨_, Heap.get?_push_size _ rfl, rfl, rfl⟩ fun o q => Heap.get?_push_of_some _ q, (hl.push _).push _⟩
  · intro h' tk z kp
    refine h0 h' tk (List.length_eq_zero_iff.mp (by rw [hsz]; simpa [intItems] using z)) fun b o q => kp b o (fun hm => ?_) (fun hm => ?_) (Heap.get?_push_of_some _ (Heap.get?_push_of_some _ q))
    · rcases List.mem_cons.mp hm with e1 | e1
      · exact absurd (e1 ▸ Heap.lt_size q) (Nat.lt_irrefl _)
      · cases e1
    · have q1 := Heap.lt_size q
      rw [show b = s.heap.objs.size + 1 from hm.trans (Heap.size_push ..)] at q1
      exact Nat.not_lt.mpr (Nat.le_succ _) q1
  · intro v h' tk i z hv kp
    have zi : xs.size = i + 1 := by simpa [intItems] using z
    obtain ⟨t, rfl⟩ := intItems_at hv
    obtain ⟨_, g2⟩ := argBest_gt (numAt xs) i
    have hmem : ∀ j, j < xs.size → numAt xs j ∈ ns := fun j hj => by
      rw [numAt_eq, ← hn]; exact PySem.getD_mem (by rw [List.length_map, Array.length_toList]; exact hj)
    refine h1 h' tk _ t (hmem _ ?_) (fun y hy => ?_) fun b o q => kp b o (fun hm => ?_) (fun hm => ?_) (Heap.get?_push_of_some _ (Heap.get?_push_of_some _ q))
    · have := argBest_gt (numAt xs) i
      omega
    · rw [← hn] at hy
      obtain ⟨j, hj, rfl⟩ := mem_getD hy
      rw [List.length_map, Array.length_toList] at hj
      rw [← numAt_eq]; exact g2 j (by omega)
    · rcases List.mem_cons.mp hm with e1 | e1
      · exact absurd (e1 ▸ Heap.lt_size q) (Nat.lt_irrefl _)
      · cases e1
    · have q1 := Heap.lt_size q
      rw [show b = s.heap.objs.size + 1 from hm.trans (Heap.size_push ..)] at q1
      exact Nat.not_lt.mpr (Nat.le_succ _) q1
def tMaxD (K : PySem.W.Frag) (t : TA) (tv : TE) : TE := fun σ H Q => t σ H fun vs H1 => tv σ H1 fun d H2 => ∃ a ns, vs = [V.ref a] ∧ SqL K H2 a (vi ns) ∧ (ns = [] → Q d H2) ∧ ∀ m, m ∈ ns → (∀ y, y ∈ ns → y ≤ m) → Q (.int m) H2
theorem pe_maxD {X : Cx} {e ev : Expr} {t : TA} {tv : TE} {p pos kp : Pos} (hc : X.calm = true) (hg : Gl X "max") (hm : X.mg "max" = none) (ha : PA X [e] t) (hv : PE X ev tv) (hs : backTo pos (starEach [e] X.env) = (false, eval e X.env) :: backTo pos (starEach [] X.env) := by rfl) :
    PE X (.Call (.Name "max" p) [e] [⟨some "default", ev, kp⟩] pos) (tMaxD X.K t tv) := by
  intro pins s σ H Q I h
  refine wpAny_Call_Name_kw (ld_blt I hg hm boot_max ?_)
  refine callWith_kw (thn (ha pos pins s σ H _ I h) fun us s1 ⟨vs, H1, I1, r1, q1⟩ => ?_) hs (by rw [hs]; rfl) rfl rfl
  refine kws_cons (thn (hv pins s1 σ H1 _ I1 q1) fun u s2 ⟨d, H2, I2, rd, a, ns, ev, hq, q2, q3⟩ => kws_nil ?_)
  subst ev
  obtain ⟨its, rv, hl, _⟩ := I2.list hq
  rw [Vals.ref1 r1]
  exact mx_call (I2.ok.hd hc) hl.isList rv.ints (fun h' tk z kp => ⟨d, H2, I2.kept kp, rd, q2 z⟩) (fun h' tk m t' m1 m2 kp => ⟨.int m, H2, I2.kept kp, ⟨_, rfl⟩, q3 m m1 m2⟩)
end Ty

end
section
set_option Elab.async false
set_option linter.all false
set_option maxRecDepth 100000
set_option maxHeartbeats 2000000
namespace Ty
open PySem PySem.Spec PyProof.Rows L2
section
variable {P : Program} {w : World} {K : PySem.W.Frag} {mg : Str → Option Value} {base : Heap}
variable {CW CT : Addr}
theorem cutV_from {xs : List V} {k : Nat} (h : k ≤ xs.length) : cutV xs (some (k : Int)) none = xs.drop k := by
  unfold cutV
  rw [HT.sIx_nat, HT.sIx_none, Nat.min_eq_left h, List.take_of_length_le (by simp)]
def gradesM (a : Su68.Abs) (m : Nat) : List Int := (a.ofMould m).map fun t => Su68.gradeOf a (a.row t)
theorem gradesM_none (a : Su68.Abs) (m : Nat) : (gradesM a m).count 0 = ((a.ofMould m).filter fun t => (a.graded (a.row t)).isNone).length := by
  unfold gradesM
  rw [List.count_eq_countP, List.countP_map, List.countP_eq_length_filter]
  congr 1
  refine List.filter_congr fun t _ => ?_
  rw [grade_isNone]
  show (Su68.gradeOf a (a.row t) == 0) = _
  by_cases h : Su68.gradeOf a (a.row t) = 0
  · rw [h]; rfl
  · rw [decide_eq_false h, beq_eq_false_iff_ne]; exact h
theorem peaksI_nat (a : Su68.Abs) (m : Nat) : peaksI a m = ((a.ofMould m).map fun t => Su68.peak (a.row t)).map (fun n : Nat => (n : Int)) := by
  unfold peaksI
  rw [List.map_map]
  rfl
theorem peaksI_sum (a : Su68.Abs) (m : Nat) : (peaksI a m).sum = (a.sumPeaks m : Int) := by
  rw [peaksI_nat, ← sum_cast]
  rfl
theorem peaksI_max {a : Su68.Abs} {m : Nat} {x : Int} (h1 : x ∈ peaksI a m) (h2 : ∀ y, y ∈ peaksI a m → y ≤ x) : x = ((((a.ofMould m).map fun t => Su68.peak (a.row t)).foldl max 0 : Nat) : Int) := by
  rw [peaksI_nat] at h1 h2
  exact nmax_is h1 h2
theorem peaksI_nil {a : Su68.Abs} {m : Nat} (h : peaksI a m = []) : (0 : Int) = ((((a.ofMould m).map fun t => Su68.peak (a.row t)).foldl max 0 : Nat) : Int) := by
  have : a.ofMould m = [] := List.map_eq_nil_iff.mp h
  rw [this]
  rfl
abbrev s_tell_mould : Stmt := top 70
theorem sc_tell_mould : FnScope ["works", "numbers", "told", "mould", "peaks", "graded", "row"] ["works", "numbers", "told"] (defScope s_tell_mould) := ⟨rfl, rfl, rfl, by decide +kernel, rfl, by decide +kernel, by decide +kernel⟩
theorem ok_tell_mould (D : Def K mg "tell_mould" s_tell_mould) (T : Txt2 K mg CW CT) (Pm : FnAt P w K mg base 2 "peaks_of_mould" ["works", "mould"] (spPM CW CT)) (Rm : FnAt P w K mg base 1 "rows_of_mould" ["works", "mould"] (spRM CW CT)) (Go : FnAt P w K mg base 6 "grade_and_one" ["works", "row"] (spGO CW CT)) : FnAt P w K mg base 7 "tell_mould" ["works", "numbers", "told"] (spDo CW CT (fun _ ns _ => ∃ m, ns = [m]) (fun ns _ => .mould (ns.getD 0 0))) := by
  obtain ⟨f, fd, hm, F⟩ := D
  refine ⟨f, fd, hm, F.kp, F.binds (ps := ["works", "numbers", "told"]) (fun _ _ _ _ _ _ us hl => match us, hl with | [_, _, _], _ => rfl), F.ok sc_tell_mould (fun vs H Q E h => ?_) (fun cdv A outer s H vs Q E hr h => ?_)⟩
  · obtain ⟨p, n, tl, ns, told, k, a, rfl, _⟩ := h; rfl
  · obtain ⟨p, n, tl, ns, told, k, a, rfl, R, hn, ht, ⟨m, rfl⟩, post⟩ := h
    refine ⟨_, (pss_cons (ps_set (i := 3) sc_tell_mould.nd rfl (by first | exact Or.inl rfl | exact Or.inr rfl) (pe_ix ix_list (pv 1) pe_int (fun _ _ => rfl))) (pss_cons (ps_if (pt_cmpR op_gt (pv 3) (pg T.LAST_MOULD) (nomark _)) (pss_one (ps_ret (pe_lst (pa_cons (pg T.OUT_OF_RANGE) pa_nil)))) pss_nil) (pss_cons (ps_set (i := 4) sc_tell_mould.nd rfl (by first | exact Or.inl rfl | exact Or.inr rfl) (pf Pm (hr.mono (by decide)) (pa_cons (pv 0) (pa_cons (pv 3) pa_nil)))) (pss_cons (ps_setLc (i := 5) (own := [("row", 6)]) rfl sc_tell_mould.nd rfl rfl rfl (pi_list (pf Rm (hr.mono (by decide)) (pa_cons (pv 0) (pa_cons (pv 3) pa_nil)))) (blkOk_by (by show blkC ["works", "numbers", "told", "mould", "peaks", "graded", "row"] (defScope s_tell_mould) _ _ = true; decide +kernel)) (fun _ _ _ _ _ => pg_name (i := 6) sc_tell_mould.nd rfl (Or.inl rfl)) (fun _ _ _ _ _ => pts_nil)
      (fun _ _ _ _ _ => (pf Go (hr.mono (by decide)) (pa_cons (pv 0) (pa_cons (pv 6) pa_nil))))) (pss_one (ps_ret (pe_lst (pa_cons (pe_callB call_len_seq (by rfl) T.len PySem.boot_len (pa_cons (pv 4) pa_nil)) (pa_cons (pe_callB (cr_sum rfl) (by rfl) T.sum boot_sum (pa_cons (pv 4) pa_nil)) (pa_cons (pe_maxD rfl (by rfl) T.max (pa_cons (pv 4) pa_nil) pe_int) (pa_cons (pe_bm PySem.F.plainAttrs_list PySem.F.slot_list_count PySem.F.type_list_count mt_countI (pv 5) (pa_cons pe_int pa_nil)) pa_nil))))))))))), ?_⟩
    have post := post
    have h60 := ofMould_60 R.ok m
    refine ⟨_, rfl, n, _, _, _, rfl, rfl, SqL.of hn, ix0 rfl, ?_⟩
    refine ⟨_, rfl, _, _, rfl, rfl, _, rfl, ?_⟩
    by_cases hm7 : 7 < m
    · rw [decide_eq_true (show (7 : Int) < (m : Int) by omega)]
      refine iteT ⟨line (by simp), fun q hq => ro R post (Su68.no (-22)) ?_ (Same.new hq) hq upd_same⟩
      exact if_pos (show 8 ≤ m by omega)
    · rw [decide_eq_false (show ¬ (7 : Int) < (m : Int) by omega)]
      have hd : Su68.does a (.mould m) = (a, Su68.num (a.ofMould m).length [(a.sumPeaks m : Int), ((((a.ofMould m).map fun t => Su68.peak (a.row t)).foldl max 0 : Nat) : Int), ((((a.ofMould m).filter fun t => (a.graded (a.row t)).isNone).length : Nat) : Int)]) := if_neg (show ¬ 8 ≤ m by omega)
      refine iteF ⟨_, rfl, _, rfl, p, k, true, a, m, rfl, R, fun H1 pA s1 pA0 hpA => ?_⟩
      refine ⟨_, rfl, _, rfl, p, k, true, a, m, rfl, R.same s1, fun H2 rl rs s2 rl0 hrl => ⟨rl, rfl, ⟨_, SqL.of hrl.lst⟩, fun Dd hD => ?_⟩⟩
      have hlen : (rs.map V.ref).length = (a.ofMould m).length := by rw [List.length_map, hrl.len, rowsM_len]
      refine lc_mapI (K := K) (a := rl) (xs := rs.map V.ref) (SqL.of hrl.lst) hD (fun i => V.int (Su68.gradeOf a (a.row ((a.ofMould m).getD i 0)))) (by rw [hlen]; omega) (fun _ => rfl) (fun i x H' Q' hx hs kk => ?_) (fun H' hs hdd => ?_)
      · obtain ⟨d, t', rfl, e1, e2, e3⟩ := (hrl.same hs).rowM hx
        refine ⟨_, rfl, _, rfl, p, k, true, a, d, a.row t', rfl, R.same (s1.trans (s2.trans hs)), e2, row_of R.ok (ofMould_lt e1), fun H4 s4 => ?_⟩
        have e : (a.ofMould m).getD i 0 = t' := by rw [List.getD_eq_getElem?_getD, e1]; rfl
        have := kk _ s4
        rw [e] at this
        exact this
      · have hg : At H' Dd (gradesM a m) := hdd.trans (by
          rw [hlen, range_map (a.ofMould m) 0 (fun t => V.int (Su68.gradeOf a (a.row t)))]
          unfold gradesM vi
          rw [List.map_map]
          rfl)
        have s4 := s1.trans (s2.trans hs)
        have hp4 := hs _ _ (s2 _ _ hpA)
        refine ⟨_, rfl, pA, _, rfl, .inl (SqL.of hp4), _, rfl, pA, peaksI a m, rfl, SqL.of hp4, _, rfl, pA, peaksI a m, rfl, SqL.of hp4, fun z => ?_, fun x m1 m2 => ?_⟩
        · refine ⟨_, rfl, .inl ⟨rfl, _, SqL.of hg⟩, Dd, gradesM a m, 0, rfl, rfl, SqL.of hg, line (by simp), fun q hq => ?_⟩
          refine ro R post (Su68.num (a.ofMould m).length [(a.sumPeaks m : Int), ((((a.ofMould m).map fun t => Su68.peak (a.row t)).foldl max 0 : Nat) : Int), ((((a.ofMould m).filter fun t => (a.graded (a.row t)).isNone).length : Nat) : Int)]) hd (s4.trans (Same.new hq)) (s4.free hq) ?_
          rw [vi_len, peaksI_len, peaksI_sum, gradesM_none, ← peaksI_nil z]
          exact upd_same
        · rw [peaksI_max m1 m2]
          refine ⟨_, rfl, .inl ⟨rfl, _, SqL.of hg⟩, Dd, gradesM a m, 0, rfl, rfl, SqL.of hg, line (by simp), fun q hq => ?_⟩
          refine ro R post (Su68.num (a.ofMould m).length [(a.sumPeaks m : Int), ((((a.ofMould m).map fun t => Su68.peak (a.row t)).foldl max 0 : Nat) : Int), ((((a.ofMould m).filter fun t => (a.graded (a.row t)).isNone).length : Nat) : Int)]) hd (s4.trans (Same.new hq)) (s4.free hq) ?_
          rw [vi_len, peaksI_len, peaksI_sum, gradesM_none]
          exact upd_same
theorem alarm_is (a : Su68.Abs) (l : List Nat) : (l.all fun t => (a.graded (a.row t)) != some 0) = !decide ((1 : Int) ∈ l.map fun t => Su68.gradeOf a (a.row t)) := by
  induction l with
  | nil => rfl
  | cons t l ih =>
    rw [List.all_cons, ih, List.map_cons]
    have e : (a.graded (a.row t) != some 0) = !decide (Su68.gradeOf a (a.row t) = 1) := by
      show (!(a.graded (a.row t) == some 0)) = _
      rw [grade_some]
      rfl
    rw [e]
    by_cases h1 : Su68.gradeOf a (a.row t) = 1
    · simp [h1]
    · by_cases h2 : (1 : Int) ∈ l.map fun t => Su68.gradeOf a (a.row t)
      · simp only [decide_eq_false h1, decide_eq_true h2, decide_eq_true (show (1 : Int) ∈ Su68.gradeOf a (a.row t) :: l.map fun t => Su68.gradeOf a (a.row t) from List.mem_cons_of_mem _ h2), Bool.not_true, Bool.and_false]
      · have h3 : ¬ (1 : Int) ∈ Su68.gradeOf a (a.row t) :: l.map fun t => Su68.gradeOf a (a.row t) := fun z => (List.mem_cons.mp z).elim (fun z => h1 z.symm) h2
        simp only [decide_eq_false h1, decide_eq_false h2, decide_eq_false h3, Bool.not_false, Bool.and_true]
abbrev s_tell_alarm : Stmt := top 73
theorem sc_tell_alarm : FnScope ["works", "numbers", "told", "mould", "size", "made", "graded", "row"] ["works", "numbers", "told"] (defScope s_tell_alarm) := ⟨rfl, rfl, rfl, by decide +kernel, rfl, by decide +kernel, by decide +kernel⟩
theorem ok_tell_alarm (D : Def K mg "tell_alarm" s_tell_alarm) (T : Txt2 K mg CW CT) (T4 : Txt4 mg) (Rm : FnAt P w K mg base 1 "rows_of_mould" ["works", "mould"] (spRM CW CT)) (Go : FnAt P w K mg base 6 "grade_and_one" ["works", "row"] (spGO CW CT)) : FnAt P w K mg base 7 "tell_alarm" ["works", "numbers", "told"] (spDo CW CT (fun _ ns _ => ∃ m j, ns = [m, j]) (fun ns _ => .alarm (ns.getD 0 0) (ns.getD 1 0))) := by
  obtain ⟨f, fd, hm, F⟩ := D
  refine ⟨f, fd, hm, F.kp, F.binds (ps := ["works", "numbers", "told"]) (fun _ _ _ _ _ _ us hl => match us, hl with | [_, _, _], _ => rfl), F.ok sc_tell_alarm (fun vs H Q E h => ?_) (fun cdv A outer s H vs Q E hr h => ?_)⟩
  · obtain ⟨p, n, tl, ns, told, k, a, rfl, _⟩ := h; rfl
  · obtain ⟨p, n, tl, ns, told, k, a, rfl, R, hn, ht, ⟨m, j, rfl⟩, post⟩ := h
    refine ⟨_, (pss_cons (ps_set (i := 3) sc_tell_alarm.nd rfl (by first | exact Or.inl rfl | exact Or.inr rfl) (pe_ix ix_list (pv 1) pe_int (fun _ _ => rfl))) (pss_cons (ps_set (i := 4) sc_tell_alarm.nd rfl (by first | exact Or.inl rfl | exact Or.inr rfl) (pe_ix ix_list (pv 1) pe_int (fun _ _ => rfl))) (pss_cons (ps_if (pw_or (pt_cmpR op_gt (pv 3) (pg T.LAST_MOULD) (nomark _)) (pw_or1 (pt_cmpR op_eq (pv 4) pe_int (nomark _)))).pt (pss_one (ps_ret (pe_lst (pa_cons (pg T.OUT_OF_RANGE) pa_nil)))) pss_nil) (pss_cons (ps_set (i := 5) sc_tell_alarm.nd rfl (by first | exact Or.inl rfl | exact Or.inr rfl) (pf Rm (hr.mono (by decide)) (pa_cons (pv 0) (pa_cons (pv 3) pa_nil)))) (pss_cons (ps_if (pt_cmpR op_lt (pe_callB call_len_seq (by rfl) T.len PySem.boot_len (pa_cons (pv 5) pa_nil)) (pv 4) (nomark _)) (pss_one (ps_ret (pe_lst (pa_cons (pg T4.TOO_FEW) pa_nil)))) pss_nil) (pss_cons (ps_setLc (i := 6) (own := [("row", 7)]) rfl sc_tell_alarm.nd rfl rfl rfl (pi_list (pe_slice sl_list (pv 5) (po_some (pe_op op_sub (pe_callB call_len_seq (by rfl) T.len PySem.boot_len (pa_cons (pv 5) pa_nil)) (pv 4))) po_none)) (blkOk_by (by show blkC ["works", "numbers", "told", "mould", "size", "made", "graded", "row"] (defScope s_tell_alarm) _ _ = true; decide +kernel)) (fun _ _ _ _ _ => pg_name (i := 7) sc_tell_alarm.nd rfl (Or.inl rfl)) (fun _ _ _ _ _ => pts_nil)
      (fun _ _ _ _ _ => (pf Go (hr.mono (by decide)) (pa_cons (pv 0) (pa_cons (pv 7) pa_nil))))) (pss_one (ps_ret (pe_lst (pa_cons (pe_ifExp (pt_cmpR op_in_seq pe_int (pv 6) (by rfl)) pe_int pe_int) pa_nil)))))))))), ?_⟩
    have post := post
    have h60 := ofMould_60 R.ok m
    refine ⟨_, rfl, n, _, _, _, rfl, rfl, SqL.of hn, ix0 rfl, ?_⟩
    refine ⟨_, rfl, n, _, _, _, rfl, rfl, SqL.of hn, ix1 rfl, ?_⟩
    refine ⟨_, rfl, _, _, rfl, rfl, _, rfl, ?_⟩
    have no22 : (8 ≤ m ∨ j = 0) → Su68.does a (.alarm m j) = (a, Su68.no (-22)) := fun z => if_pos z
    by_cases hm7 : 7 < m
    · rw [decide_eq_true (show (7 : Int) < (m : Int) by omega)]
      exact iteT (iteT ⟨line (by simp), fun q hq => ro R post (Su68.no (-22)) (no22 (.inl (by omega))) (Same.new hq) hq upd_same⟩)
    · rw [decide_eq_false (show ¬ (7 : Int) < (m : Int) by omega)]
      refine iteF ⟨_, rfl, rfl, _, rfl, ?_⟩
      rw [L2.dec_int]
      by_cases hj : j = 0
      · rw [show (((j : Nat) : Int) == 0) = true by rw [hj]; rfl]
        exact iteT ⟨line (by simp), fun q hq => ro R post (Su68.no (-22)) (no22 (.inr hj)) (Same.new hq) hq upd_same⟩
      · rw [show (((j : Nat) : Int) == 0) = false by rw [beq_eq_false_iff_ne]; omega]
        have hd : Su68.does a (.alarm m j) = if (a.ofMould m).length < j then (a, Su68.no (-12)) else (a, Su68.num (Su68.bit (((a.ofMould m).drop ((a.ofMould m).length - j)).all fun t => (a.graded (a.row t)) != some 0)) []) := if_neg (fun z => by
          rcases z with z | z
          · exact absurd (show 8 ≤ m from z) (by omega)
          · exact hj z)
        refine iteF ⟨_, rfl, _, rfl, p, k, true, a, m, rfl, R, fun H2 rl rs s2 rl0 hrl => ?_⟩
        have hlen : (rs.map V.ref).length = (a.ofMould m).length := by rw [List.length_map, hrl.len, rowsM_len]
        refine ⟨_, rfl, rl, _, rfl, .inl (SqL.of hrl.lst), _, rfl, _, _, rfl, rfl, _, rfl, ?_⟩
        rw [hlen]
        by_cases hs12 : (a.ofMould m).length < j
        · rw [decide_eq_true (show (((a.ofMould m).length : Nat) : Int) < (j : Int) by omega)]
          exact iteT ⟨line (by simp), fun q hq => ro R post (Su68.no (-12)) (hd.trans (if_pos hs12)) (s2.trans (Same.new hq)) (s2.free hq) upd_same⟩
        · rw [decide_eq_false (show ¬ (((a.ofMould m).length : Nat) : Int) < (j : Int) by omega)]
          refine iteF ⟨_, rfl, _, rfl, rl, _, rfl, .inl (SqL.of hrl.lst), _, rfl, _, _, rfl, rfl, _, rfl, rl, _, rfl, SqL.of hrl.lst, fun sl hsl => ?_⟩
          have hk : (((rs.map V.ref).length : Nat) : Int) - (j : Int) = (((a.ofMould m).length - j : Nat) : Int) := by rw [hlen]; omega
          have ecut : cutV (rs.map V.ref) (some ((((rs.map V.ref).length : Nat) : Int) - (j : Int))) none = (rs.map V.ref).drop ((a.ofMould m).length - j) := by rw [hk]; exact cutV_from (by rw [hlen]; omega)
          dsimp only
          rw [ecut]
          generalize hdd : (a.ofMould m).length - j = d at *
          have s3 : Same H2 (upd H2 sl (.lst ((rs.map V.ref).drop d))) := Same.new hsl
          have hrl3 := hrl.same s3
          have hlen2 : ((rs.map V.ref).drop d).length = ((a.ofMould m).drop d).length := by rw [List.length_drop, List.length_drop, hlen]
          refine ⟨sl, rfl, ⟨_, SqL.of upd_same⟩, fun Dd hD => ?_⟩
          refine lc_mapI (K := K) (a := sl) (xs := (rs.map V.ref).drop d) (SqL.of upd_same) hD (fun i => V.int (Su68.gradeOf a (a.row (((a.ofMould m).drop d).getD i 0)))) (by rw [hlen2, List.length_drop]; omega) (fun _ => rfl) (fun i x H' Q' hx hs kk => ?_) (fun H' hs hde => ?_)
          · rw [List.getElem?_drop] at hx
            obtain ⟨e0, t', rfl, e1, e2, e3⟩ := (hrl3.same hs).rowM hx
            refine ⟨_, rfl, _, rfl, p, k, true, a, e0, a.row t', rfl, R.same (s2.trans (s3.trans hs)), e2, row_of R.ok (ofMould_lt e1), fun H4 s4 => ?_⟩
            have e : ((a.ofMould m).drop d).getD i 0 = t' := by rw [List.getD_eq_getElem?_getD, List.getElem?_drop, e1]; rfl
            have := kk _ s4
            rw [e] at this
            exact this
          · have hg : At H' Dd (((a.ofMould m).drop d).map fun t => Su68.gradeOf a (a.row t)) := hde.trans (by
              rw [hlen2, range_map ((a.ofMould m).drop d) 0 (fun t => V.int (Su68.gradeOf a (a.row t)))]
              unfold vi
              rw [List.map_map]
              rfl)
            have s4 := s2.trans (s3.trans hs)
            have hal := alarm_is a ((a.ofMould m).drop d)
            refine ⟨_, rfl, Dd, vi _, rfl, .inl (SqL.of hg), rfl, vi_flat _, _, rfl, ?_⟩
            rw [inV_is]
            by_cases h : (1 : Int) ∈ ((a.ofMould m).drop d).map fun t => Su68.gradeOf a (a.row t)
            · rw [decide_eq_true h] at hal ⊢
              exact iteT ⟨line (by simp), fun q hq => ro R post (Su68.num 0 []) (hd.trans (by rw [if_neg hs12, hal]; rfl)) (s4.trans (Same.new hq)) (s4.free hq) upd_same⟩
            · rw [decide_eq_false h] at hal ⊢
              exact iteF ⟨line (by simp), fun q hq => ro R post (Su68.num 1 []) (hd.trans (by rw [if_neg hs12, hal]; rfl)) (s4.trans (Same.new hq)) (s4.free hq) upd_same⟩
/-! ### means -/
def spGM : Sp := fun vs H Q _ => ∃ a b v u, vs = [.ref a, .ref b] ∧ At H a v ∧ At H b u ∧ (v.length ≤ 60 ∧ u.length ≤ 60) ∧ Q (.bl (decide (u.sum * (v.length : Int) < v.sum * (u.length : Int)))) H
abbrev s_have_greater_mean : Stmt := top 71
theorem sc_have_greater_mean : FnScope ["peaks", "others"] ["peaks", "others"] (defScope s_have_greater_mean) := ⟨rfl, rfl, rfl, by decide +kernel, rfl, by decide +kernel, by decide +kernel⟩
theorem ok_have_greater_mean (D : Def K mg "have_greater_mean" s_have_greater_mean) (T : Txt2 K mg CW CT) : FnAt P w K mg base 1 "have_greater_mean" ["peaks", "others"] (spGM) := by
  obtain ⟨f, fd, hm, F⟩ := D
  refine ⟨f, fd, hm, F.kp, F.binds (ps := ["peaks", "others"]) (fun _ _ _ _ _ _ us hl => match us, hl with | [_, _], _ => rfl), F.ok sc_have_greater_mean (fun vs H Q E h => ?_) (fun cdv A outer s H vs Q E hr h => ?_)⟩
  · obtain ⟨a, b, v, u, rfl, _⟩ := h; rfl
  · obtain ⟨a, b, v, u, rfl, ha, hb, ⟨h1, h2⟩, q⟩ := h
    refine ⟨_, (pss_one (ps_ret (pe_cmpR op_gt (pe_op op_mul (pe_callB (cr_sum rfl) (by rfl) T.sum boot_sum (pa_cons (pv 0) pa_nil)) (pe_callB call_len_seq (by rfl) T.len PySem.boot_len (pa_cons (pv 1) pa_nil))) (pe_op op_mul (pe_callB (cr_sum rfl) (by rfl) T.sum boot_sum (pa_cons (pv 1) pa_nil)) (pe_callB call_len_seq (by rfl) T.len PySem.boot_len (pa_cons (pv 0) pa_nil))) (nomark _)))), ?_⟩
    refine ⟨_, rfl, a, v, rfl, SqL.of ha, _, rfl, b, _, rfl, .inl (SqL.of hb), _, _, rfl, rfl, .inr ⟨by rw [vi_len]; omega, by rw [vi_len]; omega⟩, _, rfl, b, u, rfl, SqL.of hb, _, rfl, a, _, rfl, .inl (SqL.of ha), _, _, rfl, rfl, .inr ⟨by rw [vi_len]; omega, by rw [vi_len]; omega⟩, _, _, rfl, rfl, ?_⟩
    rw [vi_len, vi_len]
    exact q
abbrev s_tell_sums : Stmt := top 76
theorem sc_tell_sums : FnScope ["works", "numbers", "told", "graded", "number"] ["works", "numbers", "told"] (defScope s_tell_sums) := ⟨rfl, rfl, rfl, by decide +kernel, rfl, by decide +kernel, by decide +kernel⟩
theorem ok_tell_sums (D : Def K mg "tell_sums" s_tell_sums) (T : Txt2 K mg CW CT) (Ga : FnAt P w K mg base 7 "grades_and_one" ["works"] (spGA CW CT)) : FnAt P w K mg base 8 "tell_sums" ["works", "numbers", "told"] (spDo CW CT (fun _ _ _ => True) (fun _ _ => .sums)) := by
  obtain ⟨f, fd, hm, F⟩ := D
  refine ⟨f, fd, hm, F.kp, F.binds (ps := ["works", "numbers", "told"]) (fun _ _ _ _ _ _ us hl => match us, hl with | [_, _, _], _ => rfl), F.ok sc_tell_sums (fun vs H Q E h => ?_) (fun cdv A outer s H vs Q E hr h => ?_)⟩
  · obtain ⟨p, n, tl, ns, told, k, a, rfl, _⟩ := h; rfl
  · obtain ⟨p, n, tl, ns, told, k, a, rfl, R, hn, ht, _, post⟩ := h
    refine ⟨_, (pss_cons (ps_set (i := 3) sc_tell_sums.nd rfl (by first | exact Or.inl rfl | exact Or.inr rfl) (pf Ga (hr.mono (by decide)) (pa_cons (pv 0) pa_nil))) (pss_one (ps_ret (pe_op op_cat (pe_lst (pa_cons pe_int (pa_cons (pe_callB call_len_seq (by rfl) T.len PySem.boot_len (pa_cons (pe_fld (pv 0) rfl) pa_nil)) pa_nil))) (pe_lc (own := [("number", 4)]) rfl sc_tell_sums.nd (pi_range1 rfl T.range (pa_cons (pe_callB call_len_seq (by rfl) T.len PySem.boot_len (pa_cons (pe_fld (pv 0) rfl) pa_nil)) pa_nil)) (blkOk_by (by show blkC ["works", "numbers", "told", "graded", "number"] (defScope s_tell_sums) _ _ = true; decide +kernel)) (fun _ _ _ _ _ => pg_name (i := 4) sc_tell_sums.nd rfl (Or.inl rfl)) (fun _ _ _ _ _ => pts_nil)
      (fun _ _ _ _ _ => (show PE _ _ (tBM K "list" (rCountI K) _ _) from (pe_bm PySem.F.plainAttrs_list PySem.F.slot_list_count PySem.F.type_list_count mt_countI (pv 3) (pa_cons (pe_op op_add (pv 4) pe_int) pa_nil))))))))), ?_⟩
    have post := post
    have g4 := R.ok.g4
    have glen : (k.ga.map V.ref).length = a.grades.length := by rw [List.length_map, R.gl.len, List.length_map]
    refine ⟨_, rfl, p, k, true, a, rfl, R, fun H1 ga s1 ga0 hga => ?_⟩
    have R1 := R.same s1
    refine ⟨_, rfl, p, CW, k.dx, _, _, rfl, R1.ins, T.clW, T.nt, wf_tyres .., k.t, _, rfl, .inl (SqL.of R1.tl), line (by simp), fun z hz => ?_⟩
    have s2 := s1.trans (Same.new (o := .lst [V.int 0, V.int (((k.ta.map V.ref).length : Nat) : Int)]) hz)
    have R2 := R.same s2
    refine ⟨_, rfl, p, CW, k.dx, _, _, rfl, R2.ins, T.clW, T.ng, wf_grades .., k.g, _, rfl, .inl (SqL.of R2.gl.lst), _, rfl, by omega, by rw [glen]; omega, fun Dd hD => ?_⟩
    rw [glen, show (((a.grades.length : Nat) : Int)).toNat = a.grades.length from rfl]
    have hga2 : At (upd H1 z (.lst [V.int 0, V.int (((k.ta.map V.ref).length : Nat) : Int)])) ga (gradesI a) := Same.new hz _ _ hga
    refine lc_mapR (n := a.grades.length) hD (fun g => V.int ((((List.range a.tyres.length).filter fun t => a.graded (a.row t) == some g).length : Nat) : Int)) (by omega) (fun _ => rfl) (fun g H' Q' hi hs kk => ?_) (fun H' hs hdd => ?_)
    · refine ⟨_, rfl, .inl ⟨rfl, _, SqL.of (hs _ _ hga2)⟩, _, rfl, _, _, rfl, rfl, ga, gradesI a, (g : Int) + 1, rfl, by dsimp only; rw [Int.zero_add], SqL.of (hs _ _ hga2), ?_⟩
      rw [gradesI_count]
      exact kk _ (Same.refl _)
    · have s3 := s2.trans hs
      refine ⟨z, Dd, _, _, rfl, rfl, hs _ _ upd_same, hdd, line (by simp; omega), fun q hq => ?_⟩
      refine ro R post (Su68.num 0 ((a.tyres.length : Int) :: ((List.range a.grades.length).map fun g => ((((List.range a.tyres.length).filter fun t => a.graded (a.row t) == some g).length : Nat) : Int)))) rfl (s3.trans (Same.new hq)) (s3.free hq) ?_
      rw [tlen' R]
      refine upd_same.trans ?_
      unfold ans Su68.num vi
      rw [List.map_cons, List.map_cons, List.map_map]
      rfl
end
end Ty

end
section
set_option Elab.async false
set_option linter.all false
set_option maxRecDepth 100000
set_option maxHeartbeats 400000
namespace Ty
open PySem PySem.Spec PyProof.Rows L2
/-! ### zip(text, list): a text of signs below 128 -/
abbrev SIt (h : Heap) (i1 : Addr) (x : Str) (t : Tok) (i : Nat) : Prop := h.IsStrIter i1 "str_ascii_iterator" x t i
section
variable {prog : Program} {w : World} {A : Around} {E : Value → Shared → Prop} {s : Shared} {z TI TO i1 i2 l : Addr} {x : Str} {t : Tok} {i c : Nat} {ys : Array Value} {y u v : Value}
theorem zs_turn {Q : Value → Shared → Prop} (D : ZipApart z TI TO i1 i2 l l) (hz : IsZip s.heap z TI TO .none) (hI : IsPair s.heap TI (.ref i1) (.ref i2)) (hO : IsPair s.heap TO u v)
    (k1 : SIt s.heap i1 x t i) (k2 : s.heap.IsListIter i2 l i) (hl : s.heap.IsList l ys) (hx : x.cps[i]? = some c) (hy : ys[i]? = some y)
    (hQ : ∀ h', IsZip h' z TI TO (rawInt s.heap.objs.size) → IsPair h' TO (.str ⟨#[c]⟩ s.toks) y → SIt h' i1 x t (i + 1) → h'.IsListIter i2 l (i + 1) → IsPair h' s.heap.objs.size (.str ⟨#[c]⟩ s.toks) y → h'.objs.size = s.heap.objs.size + 1 →
      (∀ b o, b ≠ z → b ≠ TO → b ≠ i1 → b ≠ i2 → s.heap.get? b = some o → h'.get? b = some o) → Q (.ref s.heap.objs.size) { s with heap := h', toks := s.toks + 1 }) :
    wpAny (model prog w) A (Builtin.«zip.__next__» ⟨[.ref z], []⟩) (fun fin s' => ∃ r, fin = .done (.ret r) ∧ Q r s') E s := by
  show wpAny (model prog w) A (field (.ref z) 2 >>= _) _ _ s
  refine wpAny_bind (wpAny_field hz rfl (x := .bool false) rfl (?_ : wpAny (model prog w) A (field (.ref z) 3 >>= _) _ _ s))
  refine wpAny_bind (wpAny_field hz rfl (x := .ref TI) rfl (wpAny_bind (wpAny_seqItems hI rfl ?_)))
  show wpAny (model prog w) A (Builtin.SmallTypes.ownedTupleIsFree (.ref z) >>= _) _ _ s
  unfold Builtin.SmallTypes.ownedTupleIsFree
  refine wpAny_bind (wpAny_bind (wpAny_field hz rfl (x := .none) rfl (wpAny_pure ?_)))
  rw [if_pos rfl]
  refine wpAny_bind (wpAny_rule (wpAny_bind (wpAny_field hz rfl (x := .ref TO) rfl (wpAny_bind (wpAny_setField_rec hz (by simp) fun g1 z1 b1 => ?_)))))
  have z1 : IsZip g1 z TI TO .ellipsis := z1
  simp only [List.zipIdx_cons, List.zipIdx_nil, List.forIn_cons, List.forIn_nil]
  refine wpAny_bind (wpAny_bind (wpAny_bind (wpAny_onRaise (?_ : wpAny (model prog w) _ (Builtin.SmallTypes.nextOf (.ref i1) >>= _) _ _ _))))
  refine wpAny_bind (wpAny_nextOf_ascii_item (k1.extBut b1.extBut D.i1z) hx fun g2 s2 b2 => wpAny_pure ?_)
  have o2 : IsPair g2 TO u v := b2.extBut _ _ D.TOi1 (b1.extBut _ _ D.TOz hO)
  refine wpAny_bind (wpAny_seqItems o2 rfl (wpAny_bind (wpAny_updateSeq_pair o2 fun g3 o3 b3 => ?_)))
  have o3 : IsPair g3 TO (.str ⟨#[c]⟩ s.toks) v := o3
  refine wpAny_bind (wpAny_letGo (wpAny_pure (wpAny_bind (wpAny_bind (wpAny_onRaise (?_ : wpAny (model prog w) _ (Builtin.SmallTypes.nextOf (.ref i2) >>= _) _ _ _))))))
  refine wpAny_bind (wpAny_nextOf_list_item (((k2.extBut b1.extBut D.i2z).extBut b2.extBut D.i12.symm).extBut b3.extBut D.TOi2.symm) (((hl.extBut b1.extBut D.l2z).extBut b2.extBut D.l2i1).extBut b3.extBut D.l2TO) hy fun g4 l4 b4 => wpAny_pure ?_)
  have o4 : IsPair g4 TO (.str ⟨#[c]⟩ s.toks) v := b4.extBut _ _ D.TOi2 o3
  refine wpAny_bind (wpAny_seqItems o4 rfl (wpAny_bind (wpAny_updateSeq_pair o4 fun g5 o5 b5 => ?_)))
  have o5 : IsPair g5 TO (.str ⟨#[c]⟩ s.toks) y := o5
  refine wpAny_bind (wpAny_letGo (wpAny_pure (wpAny_pure (wpAny_bind (wpAny_seqItems o5 rfl (wpAny_bind (wpAny_newTuple ?_)))))))
  have n5 : g5.objs.size = s.heap.objs.size := b5.1.trans (b4.1.trans (b3.1.trans (b2.1.trans b1.1)))
  have z5 : IsZip g5 z TI TO .ellipsis := b5.extBut _ _ D.TOz.symm (b4.extBut _ _ D.i2z.symm (b3.extBut _ _ D.TOz.symm (b2.extBut _ _ D.i1z.symm z1)))
  have kp : ∀ b o, b ≠ z → b ≠ TO → b ≠ i1 → b ≠ i2 → s.heap.get? b = some o → g5.get? b = some o := fun b o e1 e2 e3 e4 e => b5.extBut _ _ e2 (b4.extBut _ _ e4 (b3.extBut _ _ e2 (b2.extBut _ _ e3 (b1.extBut _ _ e1 e))))
  have s5 : SIt g5 i1 x t (i + 1) := ((s2.extBut b3.extBut D.TOi1.symm).extBut b4.extBut D.i12).extBut b5.extBut D.TOi1.symm
  have l5 : g5.IsListIter i2 l (i + 1) := l4.extBut b5.extBut D.TOi2.symm
  have zl : z < g5.objs.size := Heap.lt_size z5
  show wpAny (model prog w) A (Builtin.SmallTypes.ownedTupleHandOut (.ref z) (.ref g5.objs.size) >>= _) _ _ _
  unfold Builtin.SmallTypes.ownedTupleHandOut
  have z6 : IsZip (g5.push { cls := .type "tuple", data := .seq #[.str ⟨#[c]⟩ s.toks, y] }) z TI TO .ellipsis := Heap.get?_push_of_some _ z5
  refine wpAny_bind (wpAny_bind (wpAny_setField_rec z6 (by simp) fun g7 z7 b7 => ?_))
  have z7 : IsZip g7 z TI TO (rawInt g5.objs.size) := z7
  refine wpAny_setField_rec z7 (by simp) fun g8 z8 b8 => ?_
  have z8 : IsZip g8 z TI TO (rawInt g5.objs.size) := z8
  have up : ∀ b o, b ≠ z → g5.get? b = some o → g8.get? b = some o := fun b o e1 e => b8.extBut _ _ e1 (b7.extBut _ _ e1 (Heap.get?_push_of_some _ e))
  have nz : g5.objs.size ≠ z := Nat.ne_of_gt zl
  have t8 : IsPair g8 g5.objs.size (.str ⟨#[c]⟩ s.toks) y := b8.extBut _ _ nz (b7.extBut _ _ nz (Heap.get?_push_size _ rfl))
  have n8 : g8.objs.size = g5.objs.size + 1 := b8.1.trans (b7.1.trans (Heap.size_push ..))
  refine wpAny_pure ⟨_, rfl, ?_⟩
  show Q (.ref g5.objs.size) _
  rw [n5] at z8 t8 n8 ⊢
  exact hQ g8 z8 (up _ _ D.TOz o5) (let ⟨o, e, r⟩ := s5; ⟨o, up _ _ D.i1z e, r⟩) (l5.at fun o e => up _ o D.i2z e) t8 n8 fun b o e1 e2 e3 e4 e => up b o e1 (kp b o e1 e2 e3 e4 e)
theorem zs_stop {Q : Fin → Shared → Prop} (hh : A.handled = none) (D : ZipApart z TI TO i1 i2 l l) (hz : IsZip s.heap z TI TO .none) (hI : IsPair s.heap TI (.ref i1) (.ref i2))
    (k1 : SIt s.heap i1 x t i) (hx : x.cps[i]? = none)
    (hE : ∀ h' e, (∀ b o, b ≠ z → b ≠ TO → b ≠ i1 → b ≠ i2 → s.heap.get? b = some o → h'.get? b = some o) → (∃ o, h'.get? e = some o ∧ o.cls = .type "StopIteration") → E (.ref e) { s with heap := h' }) :
    wpAny (model prog w) A (Builtin.«zip.__next__» ⟨[.ref z], []⟩) Q E s := by
  show wpAny (model prog w) A (field (.ref z) 2 >>= _) _ _ s
  refine wpAny_bind (wpAny_field hz rfl (x := .bool false) rfl (?_ : wpAny (model prog w) A (field (.ref z) 3 >>= _) _ _ s))
  refine wpAny_bind (wpAny_field hz rfl (x := .ref TI) rfl (wpAny_bind (wpAny_seqItems hI rfl ?_)))
  show wpAny (model prog w) A (Builtin.SmallTypes.ownedTupleIsFree (.ref z) >>= _) _ _ s
  unfold Builtin.SmallTypes.ownedTupleIsFree
  refine wpAny_bind (wpAny_bind (wpAny_field hz rfl (x := .none) rfl (wpAny_pure ?_)))
  rw [if_pos rfl]
  refine wpAny_bind (wpAny_rule (wpAny_bind (wpAny_field hz rfl (x := .ref TO) rfl (wpAny_bind (wpAny_setField_rec hz (by simp) fun g1 z1 b1 => ?_)))))
  have z1 : IsZip g1 z TI TO .ellipsis := z1
  simp only [List.zipIdx_cons, List.zipIdx_nil, List.forIn_cons, List.forIn_nil]
  refine wpAny_bind (wpAny_bind (wpAny_bind (wpAny_onRaise (?_ : wpAny (model prog w) _ (Builtin.SmallTypes.nextOf (.ref i1) >>= _) _ _ _))))
  refine wpAny_bind (wpAny_nextOf_ascii_end hh (k1.extBut b1.extBut D.i1z) hx fun g2 e b2 he => ?_)
  obtain ⟨oe, e1, e2⟩ := he
  have z2 : IsZip g2 z TI TO .ellipsis := b2 _ _ D.i1z.symm z1
  have ne : e ≠ z := fun q => by rw [q, z2] at e1; cases e1; simp at e2
  exact wpAny_setField_rec z2 (by simp) fun g3 _ b3 => hE g3 e (fun b o c1 _ c3 _ q => b3.extBut _ _ c1 (b2 _ _ c3 (b1.extBut _ _ c1 q))) ⟨oe, b3.extBut _ _ ne e1, e2⟩
theorem zs_next {Q : Option Value → Shared → Prop} (D : ZipApart z TI TO i1 i2 l l) (hz : IsZip s.heap z TI TO .none) (hI : IsPair s.heap TI (.ref i1) (.ref i2)) (hO : IsPair s.heap TO u v)
    (k1 : SIt s.heap i1 x t i) (k2 : s.heap.IsListIter i2 l i) (hl : s.heap.IsList l ys) (hx : x.cps[i]? = some c) (hy : ys[i]? = some y)
    (hQ : ∀ h', IsZip h' z TI TO (rawInt s.heap.objs.size) → IsPair h' TO (.str ⟨#[c]⟩ s.toks) y → SIt h' i1 x t (i + 1) → h'.IsListIter i2 l (i + 1) → IsPair h' s.heap.objs.size (.str ⟨#[c]⟩ s.toks) y → h'.objs.size = s.heap.objs.size + 1 →
      (∀ b o, b ≠ z → b ≠ TO → b ≠ i1 → b ≠ i2 → s.heap.get? b = some o → h'.get? b = some o) → Q (some (.ref s.heap.objs.size)) { s with heap := h', toks := s.toks + 1 }) :
    wpAny (model prog w) A (pyNext (.ref z)) Q E s := by
  have ty : s.TypeIs (.ref z) "zip" := ⟨_, hz, rfl⟩
  unfold pyNext
  refine wpAny_bind (wpAny_attempt (wpAny_callSpecial?_slot (name := Str.ofString "__next__") ty PySem.F.slot_zip_next (wpAny_call_entry PySem.F.slot_zip_next ty PySem.F.entry_zip_next ?_ (PySem.F.args_zip_next_1 _))))
  exact zs_turn D hz hI hO k1 k2 hl hx hy fun h' a1 a2 a3 a4 a5 a6 a7 => wpAny_pure (hQ h' a1 a2 a3 a4 a5 a6 a7)
theorem zs_end {Q : Option Value → Shared → Prop} (hh : A.handled = none) (D : ZipApart z TI TO i1 i2 l l) (hz : IsZip s.heap z TI TO .none) (hI : IsPair s.heap TI (.ref i1) (.ref i2)) (k1 : SIt s.heap i1 x t i) (hx : x.cps[i]? = none)
    (hQ : ∀ h', (∀ b o, b ≠ z → b ≠ TO → b ≠ i1 → b ≠ i2 → s.heap.get? b = some o → h'.get? b = some o) → Q none { s with heap := h' }) : wpAny (model prog w) A (pyNext (.ref z)) Q E s := by
  have ty : s.TypeIs (.ref z) "zip" := ⟨_, hz, rfl⟩
  unfold pyNext
  refine wpAny_bind (wpAny_attempt (wpAny_callSpecial?_slot (name := Str.ofString "__next__") ty PySem.F.slot_zip_next (wpAny_call_entry PySem.F.slot_zip_next ty PySem.F.entry_zip_next (zs_stop hh D hz hI k1 hx fun h' e kp he => ?_) (PySem.F.args_zip_next_1 _))))
  obtain ⟨o, e1, e2⟩ := he
  exact wpAny_bind (wpAny_isInstance (T := "StopIteration") (b := true) ⟨o, e1, e2⟩ isSubtype_stop (wpAny_pure (hQ _ kp)))
end
abbrev zsA (h : Heap) (x : Str) (t : Tok) : Heap := h.push { cls := .type "str_ascii_iterator", data := .fields #[.str x t, .int 0 0] }
abbrev zsB (h : Heap) (x : Str) (t : Tok) (l : Addr) : Heap := (zsA h x t).push { cls := .type "list_iterator", data := .fields #[.ref l, .int 0 0] }
abbrev zsC (h : Heap) (x : Str) (t : Tok) (l : Addr) : Heap := (zsB h x t l).push { cls := .type "tuple", data := .seq #[.ref h.objs.size, .ref (zsA h x t).objs.size] }
abbrev zsD (h : Heap) (x : Str) (t : Tok) (l : Addr) : Heap := (zsC h x t l).push { cls := .type "tuple", data := .seq #[.none, .none] }
abbrev zsE (h : Heap) (x : Str) (t : Tok) (l : Addr) : Heap := (zsD h x t l).push { cls := .type "zip", data := .fields #[.none, .bool false, .bool false, .ref (zsB h x t l).objs.size, .ref (zsC h x t l).objs.size] }
theorem zs_newV (v : Value) (o : Obj) (l : Addr) (ys : Array Value) (hv : ∀ (prog : Program) (w : World) (A : Around) (E : Value → Shared → Prop) (Q : Value → Shared → Prop) (s : Shared), Q (.ref s.heap.objs.size) { s with heap := s.heap.push o } → wpAny (model prog w) A (pyIter v) Q E s) :
    Meets (Builtin.«zip.__new__» ⟨[.type "zip", v, .ref l], []⟩) (fun _ R s => s.heap.IsList l ys ∧ ∀ h1 h2 h3 h4 h5 : Heap, h1 = s.heap.push o → h2 = h1.push { cls := .type "list_iterator", data := .fields #[.ref l, .int 0 0] } → h3 = h2.push { cls := .type "tuple", data := .seq #[.ref s.heap.objs.size, .ref h1.objs.size] } →
      h4 = h3.push { cls := .type "tuple", data := .seq #[.none, .none] } → h5 = h4.push { cls := .type "zip", data := .fields #[.none, .bool false, .bool false, .ref h2.objs.size, .ref h3.objs.size] } → R (.ok (.ret (.ref h4.objs.size))) { s with heap := h5 }) :=
  .of_wp fun prog w A R s h => by
    obtain ⟨hp, g, d, tk, os⟩ := s
    obtain ⟨hl, h⟩ := h
    have h := h _ _ _ _ _ rfl rfl rfl rfl rfl
    have hsub := sub_zip
    have hL : Heap.IsList (Shared.heap ⟨hp.push o, g, d, tk, os⟩) l ys := Heap.IsList.push hl _
    wp_walk using hv, wpAny_pyIter_list hL
    exact ⟨_, rfl, h⟩
theorem zs_call {prog : Program} {w : World} {A : Around} {E : Value → Shared → Prop} {s : Shared} {l : Addr} {x : Str} {t : Tok} {ys : Array Value} {Q : Value → Shared → Prop} (ha : x.cps.all (· < 128) = true) (hl : s.heap.IsList l ys)
    (h : ∀ h', IsZip h' (s.heap.objs.size + 4) (s.heap.objs.size + 2) (s.heap.objs.size + 3) .none → IsPair h' (s.heap.objs.size + 2) (.ref s.heap.objs.size) (.ref (s.heap.objs.size + 1)) → IsPair h' (s.heap.objs.size + 3) .none .none →
      SIt h' s.heap.objs.size x t 0 → h'.IsListIter (s.heap.objs.size + 1) l 0 → (∀ b o, s.heap.get? b = some o → h'.get? b = some o) → Q (.ref (s.heap.objs.size + 4)) { s with heap := h' }) :
    wpAny (model prog w) A (call (.type "zip") [.str x t, .ref l]) Q E s := by
  refine callType_new PySem.F.called_zip (by decide) (PySem.F.typeCall_zip_2 _ _) (PySem.F.newCall_zip_2 _ _) (fun obj => PySem.F.args_object_init_3 obj _ _) PySem.F.entry_zip_new (zs_newV (.str x t) _ l ys (fun _ _ _ _ _ _ q => wpAny_pyIter_ascii ha q)) ⟨hl, ?_⟩
  rintro h1 h2 h3 h4 h5 rfl rfl rfl rfl rfl
  have p : ∀ {h : Heap} {o o' : Obj} {b : Addr}, h.get? b = some o' → (h.push o).get? b = some o' := fun q => Heap.get?_push_of_some _ q
  have n1 : (zsA s.heap x t).objs.size = s.heap.objs.size + 1 := Heap.size_push ..
  have n2 : (zsB s.heap x t l).objs.size = s.heap.objs.size + 2 := (Heap.size_push ..).trans (congrArg (· + 1) n1)
  have n3 : (zsC s.heap x t l).objs.size = s.heap.objs.size + 3 := (Heap.size_push ..).trans (congrArg (· + 1) n2)
  have n4 : (zsD s.heap x t l).objs.size = s.heap.objs.size + 4 := (Heap.size_push ..).trans (congrArg (· + 1) n3)
  have q5 : (zsE s.heap x t l).get? (zsD s.heap x t l).objs.size = some _ := Heap.get?_push_size _ rfl
  have q4 : (zsE s.heap x t l).get? (zsC s.heap x t l).objs.size = some _ := p (Heap.get?_push_size _ rfl)
  have q3 : (zsE s.heap x t l).get? (zsB s.heap x t l).objs.size = some _ := p (p (Heap.get?_push_size _ rfl))
  have q2 : (zsE s.heap x t l).get? (zsA s.heap x t).objs.size = some _ := p (p (p (Heap.get?_push_size _ rfl)))
  have q1 : (zsE s.heap x t l).get? s.heap.objs.size = some _ := p (p (p (p (Heap.get?_push_size _ rfl))))
  rw [n2, n3, n4] at q5
  rw [n1, n2] at q3
  rw [n3] at q4
  rw [n1] at q2
  show _ ∧ _
  rw [n4]
  exact ⟨⟨_, q5, rfl⟩, h _ q5 q3 q4 ⟨_, q1, rfl, rfl⟩ ⟨_, q2, rfl, rfl⟩ fun b o q => p (p (p (p (p q))))⟩
/-- the text x and the list at b as it stands at each turn, the items in new pairs; the text is no longer -/
def Itzs (K : PySem.W.Frag) (x : Str) (b : Addr) : It :=
  ⟨fun i H => ∃ (c : Nat) (ys : List V) (y : V), x.cps[i]? = some c ∧ SqL K H b ys ∧ ys[i]? = some y,
    fun i H v H' => ∃ T c y, v = .ref T ∧ H T = none ∧ H' = upd H T (.tup [.str ⟨#[c]⟩, y]) ∧ x.cps[i]? = some c ∧ ∀ ys, SqL K H b ys → ys[i]? = some y,
    fun i _ => x.cps.size ≤ i⟩
theorem turn_zs {P : Program} {w : World} {K : PySem.W.Frag} {elts : List Expr} {kk : Nat} {tpos : Pos} {b z TI TO i1 i2 : Addr} {x : Str} {t : Tok} (D : ZipApart z TI TO i1 i2 b b) :
    Turn P w K (.Tuple elts kk tpos) (Itzs K x b) [z, TI, TO, i1, i2] z (fun i h => IsZip h z TI TO .none ∧ IsPair h TI (.ref i1) (.ref i2) ∧ (∃ u v, IsPair h TO u v) ∧ SIt h i1 x t i ∧ h.IsListIter i2 b i) where
  mem := by simp
  obj := fun i h st c hc => by
    obtain ⟨hz, hI, ⟨u, v, hO⟩, ⟨o1, e1, _, d1⟩, ⟨o2, e2, _, d2⟩⟩ := st
    simp only [List.mem_cons, List.not_mem_nil, or_false] at hc
    rcases hc with q | q | q | q | q <;> rw [q]
    · exact ⟨_, hz, fun v q => nomatch q⟩
    · exact ⟨_, hI, fun v q => nomatch q⟩
    · exact ⟨_, hO, fun v q => nomatch q⟩
    · exact ⟨o1, e1, fun v q => by rw [d1] at q; cases q⟩
    · exact ⟨o2, e2, fun v q => by rw [d2] at q; cases q⟩
  keep := fun i h h' st k => by
    obtain ⟨hz, hI, ⟨u, v, hO⟩, ⟨o1, e1, r1⟩, h2⟩ := st
    exact ⟨k z (by simp) _ hz, k TI (by simp) _ hI, ⟨u, v, k TO (by simp) _ hO⟩, ⟨o1, k i1 (by simp) _ e1, r1⟩, h2.at fun o q => k i2 (by simp) o q⟩
  item := by
    intro X hP hw hK hc i pins s σ H E I hf st hg
    subst hP hw hK
    obtain ⟨hz, hI, ⟨u0, v0, hO⟩, h1, h2⟩ := st
    obtain ⟨c, ys, y, hx, hq, hy⟩ := hg
    obtain ⟨its, rv, p, _⟩ := I.list hq
    obtain ⟨u, hu, ru⟩ := rv.get hy
    have zl : z < s.heap.objs.size := Heap.lt_size hz
    refine zs_next D hz hI hO h1 h2 p.isList hx (y := u) (by simpa using hu) fun h' z' O' h1' h2' hT hsz kp => ⟨_, rfl, ?_⟩
    refine wpAny_letOwnedTupleGo_zip (s := { s with heap := h', toks := s.toks + 1 }) z' fun g zg bg => ?_
    have hT2 : g.get? s.heap.objs.size = some { cls := .type "tuple", data := .seq #[.str ⟨#[c]⟩ s.toks, u] } := (bg.2 _ (Nat.ne_of_gt zl)).trans hT
    have new : ObjOk X.prog X.w (upd H s.heap.objs.size (.tup [.str ⟨#[c]⟩, y])) g s.heap.objs.size (.tup [.str ⟨#[c]⟩, y]) := ⟨by show 2 ≤ sizeLine; decide, [.str ⟨#[c]⟩ s.toks, u], .cons ⟨_, rfl⟩ (.cons ru .nil), ⟨_, hT2, rfl, _, rfl⟩⟩
    have I1 : Inv X pins σ (upd H s.heap.objs.size (.tup [.str ⟨#[c]⟩, y])) { s with heap := g, toks := s.toks + 1 } :=
      I.turnedNew (t' := s.toks + 1) (ch := [z, TI, TO, i1, i2]) (fun a o hb q => (bg.2 a (fun q' => hb (by simp [q']))).trans (kp a o (fun q' => hb (by simp [q'])) (fun q' => hb (by simp [q'])) (fun q' => hb (by simp [q'])) (fun q' => hb (by simp [q'])) q)) hf (Nat.le_refl _) new
    refine ⟨.ref s.heap.objs.size, _, I1, rfl, ⟨_, c, y, rfl, I.hok.fresh (Nat.le_refl _), rfl, hx, fun ys' hl' => by rw [I.list_inj hl' hq]; exact hy⟩, ⟨zg, (bg.2 _ D.TIz).trans (kp _ _ D.TIz D.TITO D.TIi1 D.TIi2 hI), ⟨_, u, (bg.2 _ D.TOz).trans O'⟩, ?_, h2'.at fun o q => (bg.2 _ D.i2z).trans q⟩, fun a hm => ?_⟩
    · obtain ⟨o1, e1, r1⟩ := h1'
      exact ⟨o1, (bg.2 _ D.i1z).trans e1, r1⟩
    · have hlt : a < s.heap.objs.size := by
        simp only [List.mem_cons, List.not_mem_nil, or_false] at hm
        rcases hm with q | q | q | q | q <;> rw [q]
        · exact zl
        · exact Heap.lt_size hI
        · exact Heap.lt_size hO
        · obtain ⟨_, e1, _⟩ := h1; exact Heap.lt_size e1
        · obtain ⟨_, e2, _⟩ := h2; exact Heap.lt_size e2
      rw [upd_ne (Nat.ne_of_lt hlt)]
      exact (hf a hm).1
  done := by
    intro X hP hw hK hc i pins s σ H E I hf st hg
    subst hP hw hK
    obtain ⟨hz, hI, _, h1, h2⟩ := st
    exact zs_end (I.ok.hd hc) D hz hI h1 (Array.getElem?_eq_none hg) fun h' kp => ⟨rfl, I.turnedL (t' := s.toks) (ch := [z, TI, TO, i1, i2]) (fun a o hb q => kp a o (fun q' => hb (by simp [q'])) (fun q' => hb (by simp [q'])) (fun q' => hb (by simp [q'])) (fun q' => hb (by simp [q'])) q) hf⟩
  self := fun A i s Q E st h => wpAny_pyIter_zip st.1 h
def iZs (K : PySem.W.Frag) (ta : TA) : TI := fun σ H R => ta σ H fun vs H1 => ∃ x b ys, vs = [.str x, .ref b] ∧ x.cps.all (· < 128) = true ∧ SqL K H1 b ys ∧ R (Itzs K x b) H1
theorem pi_zs {X : Cx} {e e2 : Expr} {ta : TA} {p pos tpos : Pos} {elts : List Expr} {kk : Nat} (hg : Gl X "zip") (hm : X.mg "zip" = none) (ha : PA X [e, e2] ta)
    (hs : starEach [e, e2] X.env = (false, eval e X.env) :: starEach [e2] X.env := by rfl) (hpl : (backTo pos (starEach [e2] X.env)).any (·.1) = false := by rfl) :
    PI X (.Tuple elts kk tpos) (.Call (.Name "zip" p) [e, e2] [] pos) (iZs X.K ta) := by
  intro pins s σ H R I h
  refine Call_ (ld_blt I hg hm boot_zip5 (PyProof.Rows.callWith_type1 (thn (ha pos pins s σ H _ I h) fun us s1 ⟨vs, H1, I1, r1, x, b, ys, ex, hx, hq, q⟩ => ?_) hs hpl))
  subst ex
  cases r1 with
  | cons r rr =>
    obtain ⟨u, rfl, r'⟩ := Vals.one rr
    obtain ⟨t, rfl⟩ := r
    cases r'
    obtain ⟨its, rv, p1, _⟩ := I1.list hq
    have lb : b < s1.heap.objs.size := p1.lt
    refine zs_call hx p1.isList fun h' hz hI hO k1 k2 kp => wpAny_pyIter_zip hz ?_
    have I2 : Inv X pins σ H1 { s1 with heap := h' } := I1.kept (t' := s1.toks) kp
    refine ⟨s1.heap.objs.size + 4, [s1.heap.objs.size + 4, s1.heap.objs.size + 2, s1.heap.objs.size + 3, s1.heap.objs.size, s1.heap.objs.size + 1], _, _, H1, rfl, I2, turn_zs (PySem.W.ktu_apart s1.heap.objs.size b b lb lb), ⟨hz, hI, ⟨_, _, hO⟩, k1, k2⟩, fun a hm => ?_, q⟩
    have hle : s1.heap.objs.size ≤ a := by
      simp only [List.mem_cons, List.not_mem_nil, or_false] at hm
      rcases hm with q | q | q | q | q <;> rw [q]
      · exact Nat.le_add_right _ _
      · exact Nat.le_add_right _ _
      · exact Nat.le_add_right _ _
      · exact Nat.le_refl _
      · exact Nat.le_add_right _ _
    exact I1.fpOk hle (I1.hok.fresh hle)
end Ty

end
section
set_option Elab.async false
set_option linter.all false
set_option maxRecDepth 100000
set_option maxHeartbeats 2000000
namespace Ty
open PySem PySem.Spec PyProof.Rows L2
section
variable {P : Program} {w : World} {K : PySem.W.Frag} {mg : Str → Option Value} {base : Heap}
variable {CW CT : Addr}
/-! ### what there is, by a letter -/
def thereL (a : Su68.Abs) (c n : Nat) : Bool := if c = 116 then decide (n < a.tyres.length) else if c = 107 then decide (n < a.machines.length) else if c = 119 then decide (n < a.wheels.length) else if c = 103 then decide (n < a.grades.length) else true
def thereAll (a : Su68.Abs) : List Nat → List Nat → Bool
  | c :: cs, n :: ns => thereL a c n && thereAll a cs ns
  | _, _ => true
theorem there_range (a : Su68.Abs) : ∀ (cs ns : List Nat), cs.length = ns.length → ((List.range cs.length).map fun i => thereL a (cs.getD i 0) (ns.getD i 0)).all id = thereAll a cs ns
  | [], ns, _ => by cases ns <;> rfl
  | c :: cs, [], h => by cases h
  | c :: cs, n :: ns, h => by
    have ih := there_range a cs ns (Nat.succ.inj h)
    show _ = (thereL a c n && thereAll a cs ns)
    rw [List.length_cons, List.range_succ_eq_map, List.map_cons, List.map_map, List.all_cons, ← ih]
    rfl
def isLet (c : Nat) : Prop := c = 116 ∨ c = 107 ∨ c = 119 ∨ c = 103 ∨ c = 110
def spIT (CW CT : Addr) : Sp := fun vs H Q _ => ∃ p k b a ch n, vs = [.ref p, .str ⟨#[ch]⟩, .int ((n : Nat) : Int)] ∧ Rep CW CT H p k b a ∧ isLet ch ∧ ∀ H', Same H H' → Q (.bl (thereL a ch n)) H'
def keptD (k : Wk) : List (Key × V) := [(.inr "t", V.ref k.t), (.inr "k", V.ref k.m), (.inr "w", V.ref k.w), (.inr "g", V.ref k.g)]
theorem keptD_is (k : Wk) : mergeK [] (keptD k) = keptD k := by
  unfold mergeK keptD
  simp only [List.foldl_cons, List.foldl_nil]
  rfl
theorem keptD_t (k : Wk) : valV (keptD k) (.inr ⟨#[116]⟩) = some (V.ref k.t) := rfl
theorem keptD_k (k : Wk) : valV (keptD k) (.inr ⟨#[107]⟩) = some (V.ref k.m) := rfl
theorem keptD_w (k : Wk) : valV (keptD k) (.inr ⟨#[119]⟩) = some (V.ref k.w) := rfl
theorem keptD_g (k : Wk) : valV (keptD k) (.inr ⟨#[103]⟩) = some (V.ref k.g) := rfl
theorem keptD_n (k : Wk) : valV (keptD k) (.inr ⟨#[110]⟩) = none := rfl
abbrev s_is_there : Stmt := top 81
theorem sc_is_there : FnScope ["works", "letter", "number", "kept"] ["works", "letter", "number"] (defScope s_is_there) := ⟨rfl, rfl, rfl, by decide +kernel, rfl, by decide +kernel, by decide +kernel⟩
theorem ok_is_there (D : Def K mg "is_there" s_is_there) (T : Txt2 K mg CW CT) : FnAt P w K mg base 1 "is_there" ["works", "letter", "number"] (spIT CW CT) := by
  obtain ⟨f, fd, hm, F⟩ := D
  refine ⟨f, fd, hm, F.kp, F.binds (ps := ["works", "letter", "number"]) (fun _ _ _ _ _ _ us hl => match us, hl with | [_, _, _], _ => rfl), F.ok sc_is_there (fun vs H Q E h => ?_) (fun cdv A outer s H vs Q E hr h => ?_)⟩
  · obtain ⟨p, k, b, a, ch, n, rfl, _⟩ := h; rfl
  · obtain ⟨p, k, b, a, ch, n, rfl, R, hch, q⟩ := h
    refine ⟨_, (pss_cons (ps_set (i := 3) sc_is_there.nd rfl (by first | exact Or.inl rfl | exact Or.inr rfl) (pe_disp (pps_cons pe_str (pe_fld (pv 0) rfl) (pps_cons pe_str (pe_fld (pv 0) rfl) (pps_cons pe_str (pe_fld (pv 0) rfl) (pps_cons pe_str (pe_fld (pv 0) rfl) pps_nil)))) rfl rfl (by decide) (by decide))) (pss_one (ps_ret (pe_or (pe_cmp (pc_dnotin (hu_of hr) (pv 1) (pv 3))) (pe_one (pe_cmpR op_lt (pv 2) (pe_callB call_len_seq (by rfl) T.len PySem.boot_len (pa_cons (pe_dget (hu_of hr) (pv 3) (pv 1) (fun _ _ => rfl)) pa_nil)) (nomark _))))))), ?_⟩
    have glen : (k.ga.map V.ref).length = a.grades.length := by rw [List.length_map, R.gl.len, List.length_map]
    have mlen : (k.ma.map V.ref).length = a.machines.length := by rw [List.length_map, R.ml.len]
    have wlen : (k.wa.map V.ref).length = a.wheels.length := by rw [List.length_map, R.wl.len]
    intro d hd0
    have R1 := R.same (Same.new (o := .dK []) hd0)
    refine ⟨_, rfl, p, CW, k.dx, _, _, rfl, R1.ins, T.clW, T.nt, wf_tyres .., _, rfl, p, CW, k.dx, _, _, rfl, R1.ins, T.clW, T.nm, wf_machines .., _, rfl, p, CW, k.dx, _, _, rfl, R1.ins, T.clW, T.nw, wf_wheels .., _, rfl, p, CW, k.dx, _, _, rfl, R1.ins, T.clW, T.ng, wf_grades .., upd_same, keptD k, rfl, (by show 4 ≤ 15; decide), ?_⟩
    rw [keptD_is]
    have s2 : Same H (upd (upd H d (.dK [])) d (.dK (keptD k))) := Same.upd (Same.new hd0) hd0
    have R2 := R.same s2
    have hd : upd (upd H d (.dK [])) d (.dK (keptD k)) d = some (.dK (keptD k)) := upd_same
    generalize upd (upd H d (.dK [])) d (.dK (keptD k)) = H2 at *
    rcases hch with rfl | rfl | rfl | rfl | rfl
    · refine ⟨_, rfl, _, rfl, d, _, rfl, DGet.k (k := .inr ⟨#[116]⟩) hd, _, rfl, ?_⟩
      rw [keptD_t]
      refine iteF ⟨_, rfl, _, rfl, _, rfl, d, V.ref k.t, rfl, ?_, k.t, _, rfl, .inl (SqL.of R2.tl), _, _, rfl, rfl, ?_⟩
      · rw [← keptD_t k]
        exact DGet.k (k := .inr ⟨#[116]⟩) hd
      · rw [tlen' R]
        have e : decide (((n : Nat) : Int) < ((a.tyres.length : Nat) : Int)) = decide (n < a.tyres.length) := decide_eq_decide.mpr (by omega)
        dsimp only
        rw [e]
        exact q _ s2
    · refine ⟨_, rfl, _, rfl, d, _, rfl, DGet.k (k := .inr ⟨#[107]⟩) hd, _, rfl, ?_⟩
      rw [keptD_k]
      refine iteF ⟨_, rfl, _, rfl, _, rfl, d, V.ref k.m, rfl, ?_, k.m, _, rfl, .inl (SqL.of R2.ml.lst), _, _, rfl, rfl, ?_⟩
      · rw [← keptD_k k]
        exact DGet.k (k := .inr ⟨#[107]⟩) hd
      · rw [mlen]
        have e : decide (((n : Nat) : Int) < ((a.machines.length : Nat) : Int)) = decide (n < a.machines.length) := decide_eq_decide.mpr (by omega)
        dsimp only
        rw [e]
        exact q _ s2
    · refine ⟨_, rfl, _, rfl, d, _, rfl, DGet.k (k := .inr ⟨#[119]⟩) hd, _, rfl, ?_⟩
      rw [keptD_w]
      refine iteF ⟨_, rfl, _, rfl, _, rfl, d, V.ref k.w, rfl, ?_, k.w, _, rfl, .inl (SqL.of R2.wl.lst), _, _, rfl, rfl, ?_⟩
      · rw [← keptD_w k]
        exact DGet.k (k := .inr ⟨#[119]⟩) hd
      · rw [wlen]
        have e : decide (((n : Nat) : Int) < ((a.wheels.length : Nat) : Int)) = decide (n < a.wheels.length) := decide_eq_decide.mpr (by omega)
        dsimp only
        rw [e]
        exact q _ s2
    · refine ⟨_, rfl, _, rfl, d, _, rfl, DGet.k (k := .inr ⟨#[103]⟩) hd, _, rfl, ?_⟩
      rw [keptD_g]
      refine iteF ⟨_, rfl, _, rfl, _, rfl, d, V.ref k.g, rfl, ?_, k.g, _, rfl, .inl (SqL.of R2.gl.lst), _, _, rfl, rfl, ?_⟩
      · rw [← keptD_g k]
        exact DGet.k (k := .inr ⟨#[103]⟩) hd
      · rw [glen]
        have e : decide (((n : Nat) : Int) < ((a.grades.length : Nat) : Int)) = decide (n < a.grades.length) := decide_eq_decide.mpr (by omega)
        dsimp only
        rw [e]
        exact q _ s2
    · refine ⟨_, rfl, _, rfl, d, _, rfl, DGet.k (k := .inr ⟨#[110]⟩) hd, _, rfl, ?_⟩
      rw [keptD_n]
      exact iteT (q _ s2)
/-! ### a comprehension over zip(text, list) -/
theorem lc_mapZ {K : PySem.W.Frag} {x : Str} {b : Addr} {ys : List V} {j1 j2 : Nat} {te : TE} {vs : List Nat} {σ : L2.St} {H1 : Hp} {D : Addr} {Qd : Hp → Prop} (hb : SqL K H1 b ys) (hxl : x.cps.size ≤ ys.length) (hD : H1 D = Option.none) (f : Nat → V) (hn : ys.length ≤ 30000)
    (hw : ∀ x y, wipe (((wipe σ vs).set j1 (some x)).set j2 (some y)) vs = wipe σ vs)
    (body : ∀ (i c : Nat) (y : V) (H' : Hp) (Q' : VK), x.cps[i]? = some c → ys[i]? = some y → Same H1 H' → (∀ H4, Same H' H4 → Q' (f i) H4) → te (((wipe σ vs).set j1 (some (.str ⟨#[c]⟩))).set j2 (some y)) H' Q')
    (hd : ∀ H', Same H1 H' → H' D = some (.lst ((List.range x.cps.size).map f)) → Qd H') :
    ∃ W : Nat → Nat → Hp → Prop, (∃ m, W 0 m (upd H1 D (.lst []))) ∧ ∀ i m H, W i m H →
      ((Itzs K x b).stop i H ∧ Qd H) ∨ ((Itzs K x b).go i H ∧ ∃ Nx : Hp → Prop, (∀ H', Nx H' → ∃ m', m' < m ∧ W (i + 1) m' H') ∧ ∀ v H', (Itzs K x b).yld i H v H' → (gTwo K j1 j2) v (wipe σ vs) H' fun σ2 H2 => wipe σ2 vs = wipe σ vs ∧ tYes σ2 H2 fun b H3 =>
        if b = true then te σ2 H3 fun y H4 => ∃ acc, H4 D = some (.lst acc) ∧ acc.length < sizeLine ∧ Nx (upd H4 D (.lst (acc ++ [y]))) else Nx H3) := by
  refine ⟨fun i m H => m = x.cps.size - i ∧ i ≤ x.cps.size ∧ Same H1 H ∧ H D = some (.lst ((List.range i).map f)), ⟨_, rfl, Nat.zero_le _, Same.new hD, upd_same⟩, ?_⟩
  rintro i m H ⟨rfl, hi, hs, hDD⟩
  have q := hs.seq hb
  by_cases hlt : i < x.cps.size
  · have hly : i < ys.length := by omega
    refine .inr ⟨⟨x.cps[i], ys, ys[i], Array.getElem?_eq_getElem hlt, q, List.getElem?_eq_getElem hly⟩, fun H' => i + 1 ≤ x.cps.size ∧ Same H1 H' ∧ H' D = some (.lst ((List.range (i + 1)).map f)), fun H' p' => ⟨x.cps.size - (i + 1), by omega, rfl, p'⟩, fun v H' y => ?_⟩
    obtain ⟨T, c, y', rfl, hT, rfl, hc, hy⟩ := y
    have hy := hy ys q
    have sT : Same H (upd H T (.tup [.str ⟨#[c]⟩, y'])) := Same.new hT
    refine two_in ⟨hw _ _, tyes (body i c y' _ _ hc hy (hs.trans sT) fun H4 h4 => ⟨_, h4 _ _ (sT _ _ hDD), lineLt (by simp; omega), hlt, ?_, ?_⟩)⟩
    · exact fun b o e => by
        rw [upd_ne (ne_of_none e hD)]
        exact h4 _ _ (sT _ _ (hs _ _ e))
    · rw [upd_same, List.range_succ, List.map_append]
      rfl
  · have e : i = x.cps.size := by omega
    subst e
    exact .inl ⟨Nat.le_refl _, hd H hs hDD⟩
theorem lets_ok : ∀ c, c < 23 → (lets.getD c []).length ≤ 3 ∧ ((lets.getD c []).all fun x => decide (x = 116 ∨ x = 107 ∨ x = 119 ∨ x = 103 ∨ x = 110)) = true := by decide
def spAT (CW CT : Addr) : Sp := fun vs H Q _ => ∃ p c n k b a ns, vs = [.ref p, .int ((c : Nat) : Int), .ref n] ∧ Rep CW CT H p k b a ∧ At H n (Su68.ints ns) ∧ (c < 23 ∧ (lets.getD c []).length = ns.length) ∧ ∀ H', Same H H' → Q (.bl (thereAll a (lets.getD c []) ns)) H'
abbrev s_are_there : Stmt := top 82
theorem sc_are_there : FnScope ["works", "call", "numbers", "letter", "number"] ["works", "call", "numbers"] (defScope s_are_there) := ⟨rfl, rfl, rfl, by decide +kernel, rfl, by decide +kernel, by decide +kernel⟩
theorem ok_are_there (D : Def K mg "are_there" s_are_there) (T : Txt2 K mg CW CT) (T3 : Txt3 K mg) (T4 : Txt4 mg) (It : FnAt P w K mg base 1 "is_there" ["works", "letter", "number"] (spIT CW CT)) : FnAt P w K mg base 2 "are_there" ["works", "call", "numbers"] (spAT CW CT) := by
  obtain ⟨f, fd, hm, F⟩ := D
  refine ⟨f, fd, hm, F.kp, F.binds (ps := ["works", "call", "numbers"]) (fun _ _ _ _ _ _ us hl => match us, hl with | [_, _, _], _ => rfl), F.ok sc_are_there (fun vs H Q E h => ?_) (fun cdv A outer s H vs Q E hr h => ?_)⟩
  · obtain ⟨p, c, n, k, b, a, ns, rfl, _⟩ := h; rfl
  · obtain ⟨p, c, n, k, b, a, ns, rfl, R, hn, ⟨hc, hlen⟩, q⟩ := h
    obtain ⟨noA, hNO, hNS⟩ := T3.NUMBERS_OF
    refine ⟨_, (pss_one (ps_ret (pe_callB (cr_all rfl) (by rfl) T4.all PyProof.Rows.boot_all (pa_cons (pe_lc (own := [("letter", 3), ("number", 4)]) rfl sc_are_there.nd (pi_zs rfl T4.zip (pa_cons (pe_ix ix_tup (pg hNO) (pv 1) (fun _ _ => rfl)) (pa_cons (pv 2) pa_nil))) (blkOk_by (by show blkC ["works", "call", "numbers", "letter", "number"] (defScope s_are_there) _ _ = true; decide +kernel)) (g := gTwo K 3 4) (fun _ _ _ _ _ => pg_tup rfl (pgs_cons (pg_name (i := 3) sc_are_there.nd rfl (Or.inl rfl)) (pgs_cons (pg_name (i := 4) sc_are_there.nd rfl (Or.inl rfl)) pgs_nil))) (fun _ _ _ _ _ => pts_nil)
      (fun _ _ _ _ _ => (pf It (hr.mono (by decide)) (pa_cons (pv 0) (pa_cons (pv 3) (pa_cons (pv 4) pa_nil)))))) pa_nil)))), ?_⟩
    obtain ⟨ok1, ok2⟩ := lets_ok c hc
    have hcn : c < lets.length := hc
    have hget : (lets.map letV)[c]? = some (letV (lets.getD c [])) := by rw [List.getElem?_map, List.getElem?_eq_getElem hcn, List.getD_eq_getElem?_getD, List.getElem?_eq_getElem hcn]; rfl
    generalize lets.getD c [] = ls at *
    have okc : ∀ x ∈ ls, isLet x := fun x hx => (of_decide_eq_true (List.all_eq_true.mp ok2 x hx) : x = 116 ∨ x = 107 ∨ x = 119 ∨ x = 103 ∨ x = 110)
    have hasc : (⟨ls.toArray⟩ : Str).cps.all (· < 128) = true := by
      rw [Array.all_eq_true']
      intro x hx
      have : isLet x := okc x (by simpa using hx)
      exact decide_eq_true (by unfold isLet at this; omega)
    have hsz : (⟨ls.toArray⟩ : Str).cps.size = ls.length := by simp
    refine ⟨_, rfl, noA, _, _, _, rfl, rfl, hNS _, atI_nat hget, _, rfl, ⟨ls.toArray⟩, n, _, rfl, hasc, SqL.of hn, fun Dd hD => ?_⟩
    refine lc_mapZ (K := K) (x := ⟨ls.toArray⟩) (b := n) (ys := vi (Su68.ints ns)) (SqL.of hn) (by rw [hsz, vi_len, ints_len]; omega) hD (fun i => V.bl (thereL a (ls.getD i 0) (ns.getD i 0))) (by rw [vi_len, ints_len]; omega) (fun _ _ => rfl) (fun i ch y H' Q' hx hy hs kk => ?_) (fun H' hs hd => ?_)
    · have hx : ls[i]? = some ch := by simpa using hx
      have hi : i < ns.length := by rw [← hlen]; exact (List.getElem?_eq_some_iff.mp hx).1
      have hy2 : (vi (Su68.ints ns))[i]? = some (V.int (ns[i] : Int)) := ints_get (List.getElem?_eq_getElem hi)
      rw [hy2] at hy
      obtain rfl := Option.some.inj hy
      refine ⟨_, rfl, _, rfl, _, rfl, p, k, b, a, ch, ns[i], rfl, R.same hs, okc _ (List.mem_of_getElem? hx), fun H4 s4 => ?_⟩
      have := kk _ s4
      rw [List.getD_eq_getElem?_getD, List.getD_eq_getElem?_getD, hx, List.getElem?_eq_getElem hi] at this
      exact this
    · rw [hsz] at hd
      refine ⟨Dd, (List.range ls.length).map fun i => thereL a (ls.getD i 0) (ns.getD i 0), rfl, SqL.of (hd.trans (by rw [List.map_map]; rfl)), ?_⟩
      rw [there_range a ls ns hlen]
      exact q _ hs
end
end Ty

end
section
set_option Elab.async false
set_option linter.all false
set_option maxRecDepth 100000
set_option maxHeartbeats 400000
namespace Ty
open PySem PySem.Spec PyProof.Rows L2
section
variable {P : Program} {w : World} {K : PySem.W.Frag} {mg : Str → Option Value} {base : Heap}
variable {CW CT : Addr}
/-! ### f(e, ..), f the value of an expression -/
def tCallE (P : Program) (w : World) (K : PySem.W.Frag) (mg : Str → Option Value) (base : Heap) (A : Around) (te : TE) (t : TA) : TE := fun σ H Q => te σ H fun x H1 => ∃ f fd k ps sp, x = V.ref f ∧ PySem.W.keepIn K (.ref f) = true ∧ Binds K fd ps [] ∧ FnOk P w K mg base CX0 k f fd ps sp ∧ Room k A ∧ t σ H1 fun vs H2 => sp (vs ++ []) H2 Q E0
theorem pe_callE {X : Cx} {fe e : Expr} {es : List Expr} {te : TE} {t : TA} {pos : Pos} (hf : PE X fe te) (ha : PA X (e :: es) t)
    (he : eval (.Call fe (e :: es) [] pos) X.env = (do callWith pos (← eval fe X.env) [] (backTo pos (starEach (e :: es) X.env)) (backToKw pos (keywordEach [] X.env))) := by rfl)
    (hs : starEach (e :: es) X.env = (false, eval e X.env) :: starEach es X.env := by rfl) (hpl : (backTo pos (starEach es X.env)).any (·.1) = false := by rfl) :
    PE X (.Call fe (e :: es) [] pos) (tCallE X.prog X.w X.K X.mg X.base X.A te t) := by
  intro pins s σ H Q I h
  refine Call_ (thn (hf pins s σ H _ I h) fun u s1 ⟨x, H1, I1, rx, f, fd, k, ps, sp, ex, hk, hb, F, hr, q⟩ => ?_) he
  subst ex
  obtain rfl : u = Value.ref f := rx
  refine PySem.W.callWith_K (h₀ := X.base) I.ok.mod.kin hk (thn (ha pos pins s1 σ H1 _ I1 q) fun us s2 ⟨vs, H2, I2, r, q2⟩ => ⟨I2.kIn, ?_⟩) hs hpl
  exact run_fn F hr hb .nil pass0 I2 r q2
/-- the defs of the calls, one behind another -/
def DefsAt (K : PySem.W.Frag) (mg : Str → Option Value) (names : List Str) : Prop := ∃ (a : Addr) (fs : List Addr), GI mg "DEFS" (.ref a) ∧ (∀ H : Hp, SqT K H a (fs.map V.ref)) ∧ fs.length = names.length ∧ ∀ (i : Nat) (x : Str), names[i]? = some x → ∃ f : Addr, fs[i]? = some f ∧ mg x = some (.ref f)
theorem FnAt.at_ {j i k : Nat} {x : Str} {ps : List Str} {sp : Sp} {names : List Str} {fs : List Addr} {A : Around} (F : FnAt P w K mg base j x ps sp) (hj : j ≤ k) (hr : Room k A) (hd : ∀ (i : Nat) (x : Str), names[i]? = some x → ∃ f : Addr, fs[i]? = some f ∧ mg x = some (.ref f)) (hi : names[i]? = some x) :
    ∃ f fd, (fs.map V.ref)[i]? = some (V.ref f) ∧ PySem.W.keepIn K (.ref f) = true ∧ Binds K fd ps [] ∧ FnOk P w K mg base CX0 k f fd ps sp ∧ Room k A := by
  obtain ⟨f, fd, hm, hk, hb, F⟩ := F
  obtain ⟨f', e1, e2⟩ := hd i x hi
  rw [hm] at e2
  cases e2
  exact ⟨f, fd, by rw [List.getElem?_map, e1]; rfl, hk, hb, F.mono hj, hr⟩
theorem step_none {cl : Su68.Call} (h : cl ≠ .begin_) : Su68.step none cl = (none, Su68.no (-11)) := by
  cases cl <;> first | rfl | exact absurd rfl h
theorem step_begin (s : Option Su68.Abs) : Su68.step s .begin_ = (some Su68.empty, Su68.no 0) := by
  cases s <;> rfl
theorem callAt_len {c : Nat} {ns told : List Nat} {cl : Su68.Call} (h : callAt c ns told = some cl) : numsOf[c]? = some ns.length := by
  unfold callAt at h
  split at h <;> first | rfl | cases h
theorem callAt_begin {c : Nat} {ns told : List Nat} (h : callAt c ns told = some .begin_) : c = 0 := by
  unfold callAt at h
  split at h <;> first | rfl | cases h
theorem Fresh.back {H H1 H' : Hp} {p n tl : Addr} {k k' : Wk} {b : Bool} {a : Su68.Abs} (R : Rep CW CT H p k b a) (s : Same H H1) (f : Fresh CT H1 p k n tl H' k') : Fresh CT H p k n tl H' k' := by
  refine ⟨fun b hb => (f.own b hb).imp id s.free, fun x hx => ?_⟩
  rcases f.elt x hx with z | z | z | z
  · left
    rcases z with z | z | z | ⟨c, dt, m, z1, z2⟩
    · exact .inl z
    · exact .inr (.inl z)
    · exact .inr (.inr (.inl z))
    · refine .inr (.inr (.inr ⟨c, dt, m, z1, ?_⟩))
      rw [← R.keptT (fun c o _ e => s c o e) c z1]
      exact z2
  · exact .inr (.inl z)
  · exact .inr (.inr (.inl z))
  · exact .inr (.inr (.inr (s.free z)))
theorem callAt_lt {c : Nat} {ns told : List Nat} {cl : Su68.Call} (h : callAt c ns told = some cl) : c < 23 := by
  have := (List.getElem?_eq_some_iff.mp (callAt_len h)).1
  exact this
theorem thereL_t (a : Su68.Abs) (n : Nat) : thereL a 116 n = decide (n < a.tyres.length) := rfl
theorem thereL_k (a : Su68.Abs) (n : Nat) : thereL a 107 n = decide (n < a.machines.length) := rfl
theorem thereL_w (a : Su68.Abs) (n : Nat) : thereL a 119 n = decide (n < a.wheels.length) := rfl
theorem thereL_g (a : Su68.Abs) (n : Nat) : thereL a 103 n = decide (n < a.grades.length) := rfl
theorem not_isW {a : Su68.Abs} {w : Nat} (h : a.wheels.length ≤ w) : a.isW w = false := decide_eq_false (by omega)
theorem and_ff {x y : Bool} (h : (x && (y && true)) = false) : x = false ∨ y = false := by cases x <;> cases y <;> simp at h ⊢
theorem and_tt {x y : Bool} (h : (x && (y && true)) = true) : x = true ∧ y = true := by cases x <;> cases y <;> simp at h ⊢
theorem one_b {x b : Bool} (h : (x && true) = b) : x = b := by rw [Bool.and_true] at h; exact h
theorem nlt {n m : Nat} (h : decide (n < m) = false) : m ≤ n := Nat.not_lt.mp (of_decide_eq_false h)
def names : List Str := ["begin", "add_grade", "add_machine", "add_tyre", "measure_again", "turn_tyre", "add_wheel", "mount_tyre", "match_tyres", "weigh_tyre", "tell_peak", "tell_step", "tell_wave", "tell_grade", "tell_why", "tell_tyres_of_grade", "tell_mould", "tell_uneven", "tell_alarm", "look_at_tyre", "tell_points", "tell_sums", "tell_state"]
theorem yes_1 {a : Su68.Abs} {x y z : Nat} {told : List Nat} (h : thereAll a [110, 110, 110] [x, y, z] = true) : (fun _ ns _ => ns.length = 3 : Su68.Abs → List Nat → List Nat → Prop) a [x, y, z] told := by
  exact rfl
theorem no_1 {a : Su68.Abs} {x y z : Nat} {told : List Nat} (h : thereAll a [110, 110, 110] [x, y, z] = false) : Su68.does a (.grade x y z) = (a, Su68.no (-2)) := by
  cases h
theorem yes_2 {a : Su68.Abs} {told : List Nat} (h : thereAll a [] [] = true) : (fun _ _ _ => True : Su68.Abs → List Nat → List Nat → Prop) a [] told := by
  exact trivial
theorem no_2 {a : Su68.Abs} {told : List Nat} (h : thereAll a [] [] = false) : Su68.does a (.machine told) = (a, Su68.no (-2)) := by
  cases h
theorem yes_3 {a : Su68.Abs} {x y : Nat} {told : List Nat} (h : thereAll a [107, 110] [x, y] = true) : (fun a ns _ => ∃ j m, ns = [j, m] ∧ j < a.machines.length : Su68.Abs → List Nat → List Nat → Prop) a [x, y] told := by
  have r1 := of_decide_eq_true (and_tt h).1
  exact ⟨x, y, rfl, r1⟩
theorem no_3 {a : Su68.Abs} {x y : Nat} {told : List Nat} (h : thereAll a [107, 110] [x, y] = false) : Su68.does a (.tyre x y told) = (a, Su68.no (-2)) := by
  rcases and_ff h with z | z
  · exact if_pos (nlt z)
  · cases z
theorem yes_4 {a : Su68.Abs} {x y : Nat} {told : List Nat} (h : thereAll a [116, 107] [x, y] = true) : (fun a ns _ => ∃ t j, ns = [t, j] ∧ t < a.tyres.length ∧ j < a.machines.length : Su68.Abs → List Nat → List Nat → Prop) a [x, y] told := by
  have r1 := of_decide_eq_true (and_tt h).1
  have r2 := of_decide_eq_true (and_tt h).2
  exact ⟨x, y, rfl, r1, r2⟩
theorem no_4 {a : Su68.Abs} {x y : Nat} {told : List Nat} (h : thereAll a [116, 107] [x, y] = false) : Su68.does a (.again x y told) = (a, Su68.no (-2)) := by
  rcases and_ff h with z | z
  · exact if_pos (Or.inl (not_isT (nlt z)))
  · exact if_pos (Or.inr (nlt z))
theorem yes_5 {a : Su68.Abs} {x y : Nat} {told : List Nat} (h : thereAll a [116, 110] [x, y] = true) : (fun a ns _ => ∃ t j, ns = [t, j] ∧ t < a.tyres.length : Su68.Abs → List Nat → List Nat → Prop) a [x, y] told := by
  have r1 := of_decide_eq_true (and_tt h).1
  exact ⟨x, y, rfl, r1⟩
theorem no_5 {a : Su68.Abs} {x y : Nat} {told : List Nat} (h : thereAll a [116, 110] [x, y] = false) : Su68.does a (.turn x y) = (a, Su68.no (-2)) := by
  rcases and_ff h with z | z
  · exact if_pos (not_isT (nlt z))
  · cases z
theorem yes_6 {a : Su68.Abs} {told : List Nat} (h : thereAll a [] [] = true) : (fun _ _ _ => True : Su68.Abs → List Nat → List Nat → Prop) a [] told := by
  exact trivial
theorem no_6 {a : Su68.Abs} {told : List Nat} (h : thereAll a [] [] = false) : Su68.does a (.wheel told) = (a, Su68.no (-2)) := by
  cases h
theorem yes_7 {a : Su68.Abs} {x y : Nat} {told : List Nat} (h : thereAll a [116, 119] [x, y] = true) : (fun a ns _ => ∃ t j, ns = [t, j] ∧ t < a.tyres.length ∧ j < a.wheels.length : Su68.Abs → List Nat → List Nat → Prop) a [x, y] told := by
  have r1 := of_decide_eq_true (and_tt h).1
  have r2 := of_decide_eq_true (and_tt h).2
  exact ⟨x, y, rfl, r1, r2⟩
theorem no_7 {a : Su68.Abs} {x y : Nat} {told : List Nat} (h : thereAll a [116, 119] [x, y] = false) : Su68.does a (.mount x y) = (a, Su68.no (-2)) := by
  rcases and_ff h with z | z
  · exact if_pos (Or.inl (not_isT (nlt z)))
  · exact if_pos (Or.inr (not_isW (nlt z)))
theorem yes_8 {a : Su68.Abs} {told : List Nat} (h30 : told.length ≤ 30) (h : thereAll a [] [] = true) : (fun _ _ told => told.length ≤ 30 : Su68.Abs → List Nat → List Nat → Prop) a [] told := by
  exact h30
theorem no_8 {a : Su68.Abs} {told : List Nat} (h : thereAll a [] [] = false) : Su68.does a (.match_ told) = (a, Su68.no (-2)) := by
  cases h
theorem yes_9 {a : Su68.Abs} {x : Nat} {told : List Nat} (h : thereAll a [116] [x] = true) : (fun a ns _ => ∃ t, ns = [t] ∧ t < a.tyres.length : Su68.Abs → List Nat → List Nat → Prop) a [x] told := by
  have r1 := of_decide_eq_true (one_b h)
  exact ⟨x, rfl, r1⟩
theorem no_9 {a : Su68.Abs} {x : Nat} {told : List Nat} (h : thereAll a [116] [x] = false) : Su68.does a (.weight x) = (a, Su68.no (-2)) := by
  exact if_pos (not_isT (nlt (one_b h)))
theorem yes_10 {a : Su68.Abs} {x : Nat} {told : List Nat} (h : thereAll a [116] [x] = true) : (fun a ns _ => ∃ t, ns = [t] ∧ t < a.tyres.length : Su68.Abs → List Nat → List Nat → Prop) a [x] told := by
  have r1 := of_decide_eq_true (one_b h)
  exact ⟨x, rfl, r1⟩
theorem no_10 {a : Su68.Abs} {x : Nat} {told : List Nat} (h : thereAll a [116] [x] = false) : Su68.does a (.peak x) = (a, Su68.no (-2)) := by
  exact if_pos (not_isT (nlt (one_b h)))
theorem yes_11 {a : Su68.Abs} {x : Nat} {told : List Nat} (h : thereAll a [116] [x] = true) : (fun a ns _ => ∃ t, ns = [t] ∧ t < a.tyres.length : Su68.Abs → List Nat → List Nat → Prop) a [x] told := by
  have r1 := of_decide_eq_true (one_b h)
  exact ⟨x, rfl, r1⟩
theorem no_11 {a : Su68.Abs} {x : Nat} {told : List Nat} (h : thereAll a [116] [x] = false) : Su68.does a (.jump x) = (a, Su68.no (-2)) := by
  exact if_pos (not_isT (nlt (one_b h)))
theorem yes_12 {a : Su68.Abs} {x : Nat} {told : List Nat} (h : thereAll a [116] [x] = true) : (fun a ns _ => ∃ t, ns = [t] ∧ t < a.tyres.length : Su68.Abs → List Nat → List Nat → Prop) a [x] told := by
  have r1 := of_decide_eq_true (one_b h)
  exact ⟨x, rfl, r1⟩
theorem no_12 {a : Su68.Abs} {x : Nat} {told : List Nat} (h : thereAll a [116] [x] = false) : Su68.does a (.wave x) = (a, Su68.no (-2)) := by
  exact if_pos (not_isT (nlt (one_b h)))
theorem yes_13 {a : Su68.Abs} {x : Nat} {told : List Nat} (h : thereAll a [116] [x] = true) : (fun a ns _ => ∃ t, ns = [t] ∧ t < a.tyres.length : Su68.Abs → List Nat → List Nat → Prop) a [x] told := by
  have r1 := of_decide_eq_true (one_b h)
  exact ⟨x, rfl, r1⟩
theorem no_13 {a : Su68.Abs} {x : Nat} {told : List Nat} (h : thereAll a [116] [x] = false) : Su68.does a (.graded x) = (a, Su68.no (-2)) := by
  exact if_pos (not_isT (nlt (one_b h)))
theorem yes_14 {a : Su68.Abs} {x y : Nat} {told : List Nat} (h : thereAll a [116, 103] [x, y] = true) : (fun a ns _ => ∃ t g, ns = [t, g] ∧ t < a.tyres.length ∧ g < a.grades.length : Su68.Abs → List Nat → List Nat → Prop) a [x, y] told := by
  have r1 := of_decide_eq_true (and_tt h).1
  have r2 := of_decide_eq_true (and_tt h).2
  exact ⟨x, y, rfl, r1, r2⟩
theorem no_14 {a : Su68.Abs} {x y : Nat} {told : List Nat} (h : thereAll a [116, 103] [x, y] = false) : Su68.does a (.why x y) = (a, Su68.no (-2)) := by
  rcases and_ff h with z | z
  · exact if_pos (Or.inl (not_isT (nlt z)))
  · exact if_pos (Or.inr (nlt z))
theorem yes_15 {a : Su68.Abs} {x : Nat} {told : List Nat} (h : thereAll a [103] [x] = true) : (fun a ns _ => ∃ g, ns = [g] ∧ g < a.grades.length : Su68.Abs → List Nat → List Nat → Prop) a [x] told := by
  have r1 := of_decide_eq_true (one_b h)
  exact ⟨x, rfl, r1⟩
theorem no_15 {a : Su68.Abs} {x : Nat} {told : List Nat} (h : thereAll a [103] [x] = false) : Su68.does a (.of x) = (a, Su68.no (-2)) := by
  exact if_pos (nlt (one_b h))
theorem yes_16 {a : Su68.Abs} {x : Nat} {told : List Nat} (h : thereAll a [110] [x] = true) : (fun _ ns _ => ∃ m, ns = [m] : Su68.Abs → List Nat → List Nat → Prop) a [x] told := by
  exact ⟨x, rfl⟩
theorem no_16 {a : Su68.Abs} {x : Nat} {told : List Nat} (h : thereAll a [110] [x] = false) : Su68.does a (.mould x) = (a, Su68.no (-2)) := by
  cases h
theorem yes_17 {a : Su68.Abs} {told : List Nat} (h : thereAll a [] [] = true) : (fun _ _ _ => True : Su68.Abs → List Nat → List Nat → Prop) a [] told := by
  exact trivial
theorem no_17 {a : Su68.Abs} {told : List Nat} (h : thereAll a [] [] = false) : Su68.does a (.uneven) = (a, Su68.no (-2)) := by
  cases h
theorem yes_18 {a : Su68.Abs} {x y : Nat} {told : List Nat} (h : thereAll a [110, 110] [x, y] = true) : (fun _ ns _ => ∃ m j, ns = [m, j] : Su68.Abs → List Nat → List Nat → Prop) a [x, y] told := by
  exact ⟨x, y, rfl⟩
theorem no_18 {a : Su68.Abs} {x y : Nat} {told : List Nat} (h : thereAll a [110, 110] [x, y] = false) : Su68.does a (.alarm x y) = (a, Su68.no (-2)) := by
  cases h
theorem yes_19 {a : Su68.Abs} {x : Nat} {told : List Nat} (h : thereAll a [116] [x] = true) : (fun a ns _ => ∃ t, ns = [t] ∧ t < a.tyres.length : Su68.Abs → List Nat → List Nat → Prop) a [x] told := by
  have r1 := of_decide_eq_true (one_b h)
  exact ⟨x, rfl, r1⟩
theorem no_19 {a : Su68.Abs} {x : Nat} {told : List Nat} (h : thereAll a [116] [x] = false) : Su68.does a (.look x) = (a, Su68.no (-2)) := by
  exact if_pos (not_isT (nlt (one_b h)))
theorem yes_20 {a : Su68.Abs} {x : Nat} {told : List Nat} (h : thereAll a [116] [x] = true) : (fun a ns _ => ∃ t, ns = [t] ∧ t < a.tyres.length : Su68.Abs → List Nat → List Nat → Prop) a [x] told := by
  have r1 := of_decide_eq_true (one_b h)
  exact ⟨x, rfl, r1⟩
theorem no_20 {a : Su68.Abs} {x : Nat} {told : List Nat} (h : thereAll a [116] [x] = false) : Su68.does a (.points x) = (a, Su68.no (-2)) := by
  exact if_pos (not_isT (nlt (one_b h)))
theorem yes_21 {a : Su68.Abs} {told : List Nat} (h : thereAll a [] [] = true) : (fun _ _ _ => True : Su68.Abs → List Nat → List Nat → Prop) a [] told := by
  exact trivial
theorem no_21 {a : Su68.Abs} {told : List Nat} (h : thereAll a [] [] = false) : Su68.does a (.sums) = (a, Su68.no (-2)) := by
  cases h
theorem yes_22 {a : Su68.Abs} {told : List Nat} (h : thereAll a [] [] = true) : (fun _ _ _ => True : Su68.Abs → List Nat → List Nat → Prop) a [] told := by
  exact trivial
theorem no_22 {a : Su68.Abs} {told : List Nat} (h : thereAll a [] [] = false) : Su68.does a (.state) = (a, Su68.no (-2)) := by
  cases h
abbrev s_answer_of : Stmt := top 83
theorem sc_answer_of : FnScope ["works", "call", "numbers", "told"] ["works", "call", "numbers", "told"] (defScope s_answer_of) := ⟨rfl, rfl, rfl, by decide +kernel, rfl, by decide +kernel, by decide +kernel⟩
theorem ok_answer_of (D : Def K mg "answer_of" s_answer_of) (T : Txt2 K mg CW CT) (TD : DefsAt K mg names) (At_ : FnAt P w K mg base 2 "are_there" ["works", "call", "numbers"] (spAT CW CT)) (F0 : FnAt P w K mg base 2 "begin" ["works", "numbers", "told"] (spBG CW CT)) (F1 : FnAt P w K mg base 2 "add_grade" ["works", "numbers", "told"] (spDo CW CT (fun _ ns _ => ns.length = 3) (fun ns _ => .grade (ns.getD 0 0) (ns.getD 1 0) (ns.getD 2 0)))) (F2 : FnAt P w K mg base 2 "add_machine" ["works", "numbers", "told"] (spDo CW CT (fun _ _ _ => True) (fun _ told => .machine told))) (F3 : FnAt P w K mg base 7 "add_tyre" ["works", "numbers", "told"] (spDo CW CT (fun a ns _ => ∃ j m, ns = [j, m] ∧ j < a.machines.length) (fun ns told => .tyre (ns.getD 0 0) (ns.getD 1 0) told))) (F4 : FnAt P w K mg base 7 "measure_again" ["works", "numbers", "told"] (spDo CW CT (fun a ns _ => ∃ t j, ns = [t, j] ∧ t < a.tyres.length ∧ j < a.machines.length) (fun ns told => .again (ns.getD 0 0) (ns.getD 1 0) told))) (F5 : FnAt P w K mg base 7 "turn_tyre" ["works", "numbers", "told"] (spDo CW CT (fun a ns _ => ∃ t j, ns = [t, j] ∧ t < a.tyres.length) (fun ns _ => .turn (ns.getD 0 0) (ns.getD 1 0)))) (F6 : FnAt P w K mg base 2 "add_wheel" ["works", "numbers", "told"] (spDo CW CT (fun _ _ _ => True) (fun _ told => .wheel told))) (F7 : FnAt P w K mg base 3 "mount_tyre" ["works", "numbers", "told"] (spDo CW CT (fun a ns _ => ∃ t j, ns = [t, j] ∧ t < a.tyres.length ∧ j < a.wheels.length) (fun ns _ => .mount (ns.getD 0 0) (ns.getD 1 0)))) (F8 : FnAt P w K mg base 4 "match_tyres" ["works", "numbers", "told"] (spDo CW CT (fun _ _ told => told.length ≤ 30) (fun _ told => .match_ told))) (F9 : FnAt P w K mg base 5 "weigh_tyre" ["works", "numbers", "told"] (spDo CW CT (fun a ns _ => ∃ t, ns = [t] ∧ t < a.tyres.length) (fun ns _ => .weight (ns.getD 0 0)))) (F10 : FnAt P w K mg base 2 "tell_peak" ["works", "numbers", "told"] (spDo CW CT (fun a ns _ => ∃ t, ns = [t] ∧ t < a.tyres.length) (fun ns _ => .peak (ns.getD 0 0)))) (F11 : FnAt P w K mg base 3 "tell_step" ["works", "numbers", "told"] (spDo CW CT (fun a ns _ => ∃ t, ns = [t] ∧ t < a.tyres.length) (fun ns _ => .jump (ns.getD 0 0)))) (F12 : FnAt P w K mg base 5 "tell_wave" ["works", "numbers", "told"] (spDo CW CT (fun a ns _ => ∃ t, ns = [t] ∧ t < a.tyres.length) (fun ns _ => .wave (ns.getD 0 0)))) (F13 : FnAt P w K mg base 7 "tell_grade" ["works", "numbers", "told"] (spDo CW CT (fun a ns _ => ∃ t, ns = [t] ∧ t < a.tyres.length) (fun ns _ => .graded (ns.getD 0 0)))) (F14 : FnAt P w K mg base 6 "tell_why" ["works", "numbers", "told"] (spDo CW CT (fun a ns _ => ∃ t g, ns = [t, g] ∧ t < a.tyres.length ∧ g < a.grades.length) (fun ns _ => .why (ns.getD 0 0) (ns.getD 1 0)))) (F15 : FnAt P w K mg base 8 "tell_tyres_of_grade" ["works", "numbers", "told"] (spDo CW CT (fun a ns _ => ∃ g, ns = [g] ∧ g < a.grades.length) (fun ns _ => .of (ns.getD 0 0)))) (F16 : FnAt P w K mg base 7 "tell_mould" ["works", "numbers", "told"] (spDo CW CT (fun _ ns _ => ∃ m, ns = [m]) (fun ns _ => .mould (ns.getD 0 0)))) (F17 : FnAt P w K mg base 3 "tell_uneven" ["works", "numbers", "told"] (spDo CW CT (fun _ _ _ => True) (fun _ _ => .uneven))) (F18 : FnAt P w K mg base 7 "tell_alarm" ["works", "numbers", "told"] (spDo CW CT (fun _ ns _ => ∃ m j, ns = [m, j]) (fun ns _ => .alarm (ns.getD 0 0) (ns.getD 1 0)))) (F19 : FnAt P w K mg base 7 "look_at_tyre" ["works", "numbers", "told"] (spDo CW CT (fun a ns _ => ∃ t, ns = [t] ∧ t < a.tyres.length) (fun ns _ => .look (ns.getD 0 0)))) (F20 : FnAt P w K mg base 1 "tell_points" ["works", "numbers", "told"] (spDo CW CT (fun a ns _ => ∃ t, ns = [t] ∧ t < a.tyres.length) (fun ns _ => .points (ns.getD 0 0)))) (F21 : FnAt P w K mg base 8 "tell_sums" ["works", "numbers", "told"] (spDo CW CT (fun _ _ _ => True) (fun _ _ => .sums))) (F22 : FnAt P w K mg base 1 "tell_state" ["works", "numbers", "told"] (spDo CW CT (fun _ _ _ => True) (fun _ _ => .state))) : FnAt P w K mg base 9 "answer_of" ["works", "call", "numbers", "told"] (spAO CW CT) := by
  obtain ⟨f, fd, hm, F⟩ := D
  refine ⟨f, fd, hm, F.kp, F.binds (ps := ["works", "call", "numbers", "told"]) (fun _ _ _ _ _ _ us hl => match us, hl with | [_, _, _, _], _ => rfl), F.ok sc_answer_of (fun vs H Q E h => ?_) (fun cdv A outer s H vs Q E hr h => ?_)⟩
  · obtain ⟨p, c, n, tl, ns, told, k, s, cl, rfl, _⟩ := h; rfl
  · obtain ⟨p, c, n, tl, ns, told, k, s, cl, rfl, R, hn, ht, ⟨hcl, h30⟩, post⟩ := h
    obtain ⟨deA, fs, hDe, hDS, hDl, hDn⟩ := TD
    refine ⟨_, (pss_cons (ps_if (pw_and (pt_cmpR op_ne (pv 1) (pg T.BEGIN) (nomark _)) (pw_and1 (pt_not (pt_val (pe_fld (pv 0) rfl))))).pt (pss_one (ps_ret (pe_lst (pa_cons (pg T.NOT_BEGUN) pa_nil)))) pss_nil) (pss_cons (ps_if (pt_not (pt_val (pf At_ (hr.mono (by decide)) (pa_cons (pv 0) (pa_cons (pv 1) (pa_cons (pv 2) pa_nil)))))) (pss_one (ps_ret (pe_lst (pa_cons (pg T.NO_SUCH) pa_nil)))) pss_nil) (pss_one (ps_ret (pe_callE (pe_ix ix_tup (pg hDe) (pv 1) (fun _ _ => rfl)) (pa_cons (pv 0) (pa_cons (pv 2) (pa_cons (pv 3) pa_nil)))))))), ?_⟩
    have hc23 : c < 23 := callAt_lt hcl
    have hlen : (lets.getD c []).length = ns.length := by
      have h1 := lets_at c hc23
      have h2 := callAt_len hcl
      rw [h1, List.getD_eq_getElem?_getD, h2]
      rfl
    -- behind the two tests
    have go : ∀ (H1 : Hp) (s1 : Same H H1) {A' : Around} (hr : Room 8 A') (ok : (c = 0 ∨ s.isSome = true)) (hth : thereAll (stA s) (lets.getD c []) ns = true), ∃ x, ((fs.map V.ref)[c]? = some x) ∧ ∃ f fd k' ps sp, x = V.ref f ∧ PySem.W.keepIn K (.ref f) = true ∧ Binds K fd ps [] ∧ FnOk P w K mg base CX0 k' f fd ps sp ∧ Room k' A' ∧ sp [V.ref p, V.ref n, V.ref tl] H1 Q E0 := by
      intro H1 s1 A' hr hok hth
      have R1 := R.same s1
      have kpp : ∀ {H' : Hp}, Keeps (k.own p) H1 H' → Keeps (k.own p) H H' := fun kp b o e hb => kp b o (s1 _ _ e) hb
      have dn : ∀ (cl' : Su68.Call) (a : Su68.Abs), s = some a → cl = cl' → ∀ H' q k', Rep CW CT H' p k' true (Su68.does a cl').1 → Keeps (k.own p) H1 H' → Fresh CT H1 p k n tl H' k' → H1 q = Option.none → At H' q (ans (Su68.does a cl').2) → Q (.ref q) H' := fun cl' a e1 e2 H' q k' r1 r2 r3 r4 r5 => by
        subst e1 e2
        exact post H' q k' r1 (kpp r2) (Fresh.back R s1 r3) (s1.free r4) r5
      have hcs : c = 0 ∨ c = 1 ∨ c = 2 ∨ c = 3 ∨ c = 4 ∨ c = 5 ∨ c = 6 ∨ c = 7 ∨ c = 8 ∨ c = 9 ∨ c = 10 ∨ c = 11 ∨ c = 12 ∨ c = 13 ∨ c = 14 ∨ c = 15 ∨ c = 16 ∨ c = 17 ∨ c = 18 ∨ c = 19 ∨ c = 20 ∨ c = 21 ∨ c = 22 := by omega
      rcases hcs with e | e | e | e | e | e | e | e | e | e | e | e | e | e | e | e | e | e | e | e | e | e | e <;> subst e
      · obtain ⟨f, fd, a1, a2, a3, a4, a5⟩ := F0.at_ (k := 8) (by decide) hr hDn (i := 0) rfl
        have hl := Option.some.inj (callAt_len hcl)
        obtain rfl : ns = [] := List.length_eq_zero_iff.mp hl.symm
        obtain rfl : Su68.Call.begin_ = cl := Option.some.inj hcl
        rw [step_begin] at post
        exact ⟨_, a1, f, fd, 8, _, _, rfl, a2, a3, a4, a5, p, n, tl, k, _, _, rfl, R1, fun H' q k' r1 r2 r3 r4 r5 => post H' q k' r1 (kpp r2) (Fresh.back R s1 r3) (s1.free r4) r5⟩
      · obtain ⟨f, fd, a1, a2, a3, a4, a5⟩ := F1.at_ (k := 8) (by decide) hr hDn (i := 1) rfl
        obtain ⟨a, rfl⟩ : ∃ a, s = some a := by
          rcases hok with z | z
          · cases z
          · cases s with
            | none => cases z
            | some a => exact ⟨a, rfl⟩
        have hl : ns.length = 3 := (Option.some.inj (callAt_len hcl)).symm
        match ns, hl with
        | [x, y, z], _ =>
        have ecl := (Option.some.inj hcl).symm
        exact ⟨_, a1, f, fd, 8, _, _, rfl, a2, a3, a4, a5, p, n, tl, [x, y, z], told, k, a, rfl, R1, s1 _ _ hn, s1 _ _ ht, yes_1 (told := told) hth, dn _ a rfl ecl⟩
      · obtain ⟨f, fd, a1, a2, a3, a4, a5⟩ := F2.at_ (k := 8) (by decide) hr hDn (i := 2) rfl
        obtain ⟨a, rfl⟩ : ∃ a, s = some a := by
          rcases hok with z | z
          · cases z
          · cases s with
            | none => cases z
            | some a => exact ⟨a, rfl⟩
        have hl : ns.length = 0 := (Option.some.inj (callAt_len hcl)).symm
        match ns, hl with
        | [], _ =>
        have ecl := (Option.some.inj hcl).symm
        exact ⟨_, a1, f, fd, 8, _, _, rfl, a2, a3, a4, a5, p, n, tl, [], told, k, a, rfl, R1, s1 _ _ hn, s1 _ _ ht, yes_2 (told := told) hth, dn _ a rfl ecl⟩
      · obtain ⟨f, fd, a1, a2, a3, a4, a5⟩ := F3.at_ (k := 8) (by decide) hr hDn (i := 3) rfl
        obtain ⟨a, rfl⟩ : ∃ a, s = some a := by
          rcases hok with z | z
          · cases z
          · cases s with
            | none => cases z
            | some a => exact ⟨a, rfl⟩
        have hl : ns.length = 2 := (Option.some.inj (callAt_len hcl)).symm
        match ns, hl with
        | [x, y], _ =>
        have ecl := (Option.some.inj hcl).symm
        exact ⟨_, a1, f, fd, 8, _, _, rfl, a2, a3, a4, a5, p, n, tl, [x, y], told, k, a, rfl, R1, s1 _ _ hn, s1 _ _ ht, yes_3 (told := told) hth, dn _ a rfl ecl⟩
      · obtain ⟨f, fd, a1, a2, a3, a4, a5⟩ := F4.at_ (k := 8) (by decide) hr hDn (i := 4) rfl
        obtain ⟨a, rfl⟩ : ∃ a, s = some a := by
          rcases hok with z | z
          · cases z
          · cases s with
            | none => cases z
            | some a => exact ⟨a, rfl⟩
        have hl : ns.length = 2 := (Option.some.inj (callAt_len hcl)).symm
        match ns, hl with
        | [x, y], _ =>
        have ecl := (Option.some.inj hcl).symm
        exact ⟨_, a1, f, fd, 8, _, _, rfl, a2, a3, a4, a5, p, n, tl, [x, y], told, k, a, rfl, R1, s1 _ _ hn, s1 _ _ ht, yes_4 (told := told) hth, dn _ a rfl ecl⟩
      · obtain ⟨f, fd, a1, a2, a3, a4, a5⟩ := F5.at_ (k := 8) (by decide) hr hDn (i := 5) rfl
        obtain ⟨a, rfl⟩ : ∃ a, s = some a := by
          rcases hok with z | z
          · cases z
          · cases s with
            | none => cases z
            | some a => exact ⟨a, rfl⟩
        have hl : ns.length = 2 := (Option.some.inj (callAt_len hcl)).symm
        match ns, hl with
        | [x, y], _ =>
        have ecl := (Option.some.inj hcl).symm
        exact ⟨_, a1, f, fd, 8, _, _, rfl, a2, a3, a4, a5, p, n, tl, [x, y], told, k, a, rfl, R1, s1 _ _ hn, s1 _ _ ht, yes_5 (told := told) hth, dn _ a rfl ecl⟩
      · obtain ⟨f, fd, a1, a2, a3, a4, a5⟩ := F6.at_ (k := 8) (by decide) hr hDn (i := 6) rfl
        obtain ⟨a, rfl⟩ : ∃ a, s = some a := by
          rcases hok with z | z
          · cases z
          · cases s with
            | none => cases z
            | some a => exact ⟨a, rfl⟩
        have hl : ns.length = 0 := (Option.some.inj (callAt_len hcl)).symm
        match ns, hl with
        | [], _ =>
        have ecl := (Option.some.inj hcl).symm
        exact ⟨_, a1, f, fd, 8, _, _, rfl, a2, a3, a4, a5, p, n, tl, [], told, k, a, rfl, R1, s1 _ _ hn, s1 _ _ ht, yes_6 (told := told) hth, dn _ a rfl ecl⟩
      · obtain ⟨f, fd, a1, a2, a3, a4, a5⟩ := F7.at_ (k := 8) (by decide) hr hDn (i := 7) rfl
        obtain ⟨a, rfl⟩ : ∃ a, s = some a := by
          rcases hok with z | z
          · cases z
          · cases s with
            | none => cases z
            | some a => exact ⟨a, rfl⟩
        have hl : ns.length = 2 := (Option.some.inj (callAt_len hcl)).symm
        match ns, hl with
        | [x, y], _ =>
        have ecl := (Option.some.inj hcl).symm
        exact ⟨_, a1, f, fd, 8, _, _, rfl, a2, a3, a4, a5, p, n, tl, [x, y], told, k, a, rfl, R1, s1 _ _ hn, s1 _ _ ht, yes_7 (told := told) hth, dn _ a rfl ecl⟩
      · obtain ⟨f, fd, a1, a2, a3, a4, a5⟩ := F8.at_ (k := 8) (by decide) hr hDn (i := 8) rfl
        obtain ⟨a, rfl⟩ : ∃ a, s = some a := by
          rcases hok with z | z
          · cases z
          · cases s with
            | none => cases z
            | some a => exact ⟨a, rfl⟩
        have hl : ns.length = 0 := (Option.some.inj (callAt_len hcl)).symm
        match ns, hl with
        | [], _ =>
        have ecl := (Option.some.inj hcl).symm
        exact ⟨_, a1, f, fd, 8, _, _, rfl, a2, a3, a4, a5, p, n, tl, [], told, k, a, rfl, R1, s1 _ _ hn, s1 _ _ ht, yes_8 (told := told) h30 hth, dn _ a rfl ecl⟩
      · obtain ⟨f, fd, a1, a2, a3, a4, a5⟩ := F9.at_ (k := 8) (by decide) hr hDn (i := 9) rfl
        obtain ⟨a, rfl⟩ : ∃ a, s = some a := by
          rcases hok with z | z
          · cases z
          · cases s with
            | none => cases z
            | some a => exact ⟨a, rfl⟩
        have hl : ns.length = 1 := (Option.some.inj (callAt_len hcl)).symm
        match ns, hl with
        | [x], _ =>
        have ecl := (Option.some.inj hcl).symm
        exact ⟨_, a1, f, fd, 8, _, _, rfl, a2, a3, a4, a5, p, n, tl, [x], told, k, a, rfl, R1, s1 _ _ hn, s1 _ _ ht, yes_9 (told := told) hth, dn _ a rfl ecl⟩
      · obtain ⟨f, fd, a1, a2, a3, a4, a5⟩ := F10.at_ (k := 8) (by decide) hr hDn (i := 10) rfl
        obtain ⟨a, rfl⟩ : ∃ a, s = some a := by
          rcases hok with z | z
          · cases z
          · cases s with
            | none => cases z
            | some a => exact ⟨a, rfl⟩
        have hl : ns.length = 1 := (Option.some.inj (callAt_len hcl)).symm
        match ns, hl with
        | [x], _ =>
        have ecl := (Option.some.inj hcl).symm
        exact ⟨_, a1, f, fd, 8, _, _, rfl, a2, a3, a4, a5, p, n, tl, [x], told, k, a, rfl, R1, s1 _ _ hn, s1 _ _ ht, yes_10 (told := told) hth, dn _ a rfl ecl⟩
      · obtain ⟨f, fd, a1, a2, a3, a4, a5⟩ := F11.at_ (k := 8) (by decide) hr hDn (i := 11) rfl
        obtain ⟨a, rfl⟩ : ∃ a, s = some a := by
          rcases hok with z | z
          · cases z
          · cases s with
            | none => cases z
            | some a => exact ⟨a, rfl⟩
        have hl : ns.length = 1 := (Option.some.inj (callAt_len hcl)).symm
        match ns, hl with
        | [x], _ =>
        have ecl := (Option.some.inj hcl).symm
        exact ⟨_, a1, f, fd, 8, _, _, rfl, a2, a3, a4, a5, p, n, tl, [x], told, k, a, rfl, R1, s1 _ _ hn, s1 _ _ ht, yes_11 (told := told) hth, dn _ a rfl ecl⟩
      · obtain ⟨f, fd, a1, a2, a3, a4, a5⟩ := F12.at_ (k := 8) (by decide) hr hDn (i := 12) rfl
        obtain ⟨a, rfl⟩ : ∃ a, s = some a := by
          rcases hok with z | z
          · cases z
          · cases s with
            | none => cases z
            | some a => exact ⟨a, rfl⟩
        have hl : ns.length = 1 := (Option.some.inj (callAt_len hcl)).symm
        match ns, hl with
        | [x], _ =>
        have ecl := (Option.some.inj hcl).symm
        exact ⟨_, a1, f, fd, 8, _, _, rfl, a2, a3, a4, a5, p, n, tl, [x], told, k, a, rfl, R1, s1 _ _ hn, s1 _ _ ht, yes_12 (told := told) hth, dn _ a rfl ecl⟩
      · obtain ⟨f, fd, a1, a2, a3, a4, a5⟩ := F13.at_ (k := 8) (by decide) hr hDn (i := 13) rfl
        obtain ⟨a, rfl⟩ : ∃ a, s = some a := by
          rcases hok with z | z
          · cases z
          · cases s with
            | none => cases z
            | some a => exact ⟨a, rfl⟩
        have hl : ns.length = 1 := (Option.some.inj (callAt_len hcl)).symm
        match ns, hl with
        | [x], _ =>
        have ecl := (Option.some.inj hcl).symm
        exact ⟨_, a1, f, fd, 8, _, _, rfl, a2, a3, a4, a5, p, n, tl, [x], told, k, a, rfl, R1, s1 _ _ hn, s1 _ _ ht, yes_13 (told := told) hth, dn _ a rfl ecl⟩
      · obtain ⟨f, fd, a1, a2, a3, a4, a5⟩ := F14.at_ (k := 8) (by decide) hr hDn (i := 14) rfl
        obtain ⟨a, rfl⟩ : ∃ a, s = some a := by
          rcases hok with z | z
          · cases z
          · cases s with
            | none => cases z
            | some a => exact ⟨a, rfl⟩
        have hl : ns.length = 2 := (Option.some.inj (callAt_len hcl)).symm
        match ns, hl with
        | [x, y], _ =>
        have ecl := (Option.some.inj hcl).symm
        exact ⟨_, a1, f, fd, 8, _, _, rfl, a2, a3, a4, a5, p, n, tl, [x, y], told, k, a, rfl, R1, s1 _ _ hn, s1 _ _ ht, yes_14 (told := told) hth, dn _ a rfl ecl⟩
      · obtain ⟨f, fd, a1, a2, a3, a4, a5⟩ := F15.at_ (k := 8) (by decide) hr hDn (i := 15) rfl
        obtain ⟨a, rfl⟩ : ∃ a, s = some a := by
          rcases hok with z | z
          · cases z
          · cases s with
            | none => cases z
            | some a => exact ⟨a, rfl⟩
        have hl : ns.length = 1 := (Option.some.inj (callAt_len hcl)).symm
        match ns, hl with
        | [x], _ =>
        have ecl := (Option.some.inj hcl).symm
        exact ⟨_, a1, f, fd, 8, _, _, rfl, a2, a3, a4, a5, p, n, tl, [x], told, k, a, rfl, R1, s1 _ _ hn, s1 _ _ ht, yes_15 (told := told) hth, dn _ a rfl ecl⟩
      · obtain ⟨f, fd, a1, a2, a3, a4, a5⟩ := F16.at_ (k := 8) (by decide) hr hDn (i := 16) rfl
        obtain ⟨a, rfl⟩ : ∃ a, s = some a := by
          rcases hok with z | z
          · cases z
          · cases s with
            | none => cases z
            | some a => exact ⟨a, rfl⟩
        have hl : ns.length = 1 := (Option.some.inj (callAt_len hcl)).symm
        match ns, hl with
        | [x], _ =>
        have ecl := (Option.some.inj hcl).symm
        exact ⟨_, a1, f, fd, 8, _, _, rfl, a2, a3, a4, a5, p, n, tl, [x], told, k, a, rfl, R1, s1 _ _ hn, s1 _ _ ht, yes_16 (told := told) hth, dn _ a rfl ecl⟩
      · obtain ⟨f, fd, a1, a2, a3, a4, a5⟩ := F17.at_ (k := 8) (by decide) hr hDn (i := 17) rfl
        obtain ⟨a, rfl⟩ : ∃ a, s = some a := by
          rcases hok with z | z
          · cases z
          · cases s with
            | none => cases z
            | some a => exact ⟨a, rfl⟩
        have hl : ns.length = 0 := (Option.some.inj (callAt_len hcl)).symm
        match ns, hl with
        | [], _ =>
        have ecl := (Option.some.inj hcl).symm
        exact ⟨_, a1, f, fd, 8, _, _, rfl, a2, a3, a4, a5, p, n, tl, [], told, k, a, rfl, R1, s1 _ _ hn, s1 _ _ ht, yes_17 (told := told) hth, dn _ a rfl ecl⟩
      · obtain ⟨f, fd, a1, a2, a3, a4, a5⟩ := F18.at_ (k := 8) (by decide) hr hDn (i := 18) rfl
        obtain ⟨a, rfl⟩ : ∃ a, s = some a := by
          rcases hok with z | z
          · cases z
          · cases s with
            | none => cases z
            | some a => exact ⟨a, rfl⟩
        have hl : ns.length = 2 := (Option.some.inj (callAt_len hcl)).symm
        match ns, hl with
        | [x, y], _ =>
        have ecl := (Option.some.inj hcl).symm
        exact ⟨_, a1, f, fd, 8, _, _, rfl, a2, a3, a4, a5, p, n, tl, [x, y], told, k, a, rfl, R1, s1 _ _ hn, s1 _ _ ht, yes_18 (told := told) hth, dn _ a rfl ecl⟩
      · obtain ⟨f, fd, a1, a2, a3, a4, a5⟩ := F19.at_ (k := 8) (by decide) hr hDn (i := 19) rfl
        obtain ⟨a, rfl⟩ : ∃ a, s = some a := by
          rcases hok with z | z
          · cases z
          · cases s with
            | none => cases z
            | some a => exact ⟨a, rfl⟩
        have hl : ns.length = 1 := (Option.some.inj (callAt_len hcl)).symm
        match ns, hl with
        | [x], _ =>
        have ecl := (Option.some.inj hcl).symm
        exact ⟨_, a1, f, fd, 8, _, _, rfl, a2, a3, a4, a5, p, n, tl, [x], told, k, a, rfl, R1, s1 _ _ hn, s1 _ _ ht, yes_19 (told := told) hth, dn _ a rfl ecl⟩
      · obtain ⟨f, fd, a1, a2, a3, a4, a5⟩ := F20.at_ (k := 8) (by decide) hr hDn (i := 20) rfl
        obtain ⟨a, rfl⟩ : ∃ a, s = some a := by
          rcases hok with z | z
          · cases z
          · cases s with
            | none => cases z
            | some a => exact ⟨a, rfl⟩
        have hl : ns.length = 1 := (Option.some.inj (callAt_len hcl)).symm
        match ns, hl with
        | [x], _ =>
        have ecl := (Option.some.inj hcl).symm
        exact ⟨_, a1, f, fd, 8, _, _, rfl, a2, a3, a4, a5, p, n, tl, [x], told, k, a, rfl, R1, s1 _ _ hn, s1 _ _ ht, yes_20 (told := told) hth, dn _ a rfl ecl⟩
      · obtain ⟨f, fd, a1, a2, a3, a4, a5⟩ := F21.at_ (k := 8) (by decide) hr hDn (i := 21) rfl
        obtain ⟨a, rfl⟩ : ∃ a, s = some a := by
          rcases hok with z | z
          · cases z
          · cases s with
            | none => cases z
            | some a => exact ⟨a, rfl⟩
        have hl : ns.length = 0 := (Option.some.inj (callAt_len hcl)).symm
        match ns, hl with
        | [], _ =>
        have ecl := (Option.some.inj hcl).symm
        exact ⟨_, a1, f, fd, 8, _, _, rfl, a2, a3, a4, a5, p, n, tl, [], told, k, a, rfl, R1, s1 _ _ hn, s1 _ _ ht, yes_21 (told := told) hth, dn _ a rfl ecl⟩
      · obtain ⟨f, fd, a1, a2, a3, a4, a5⟩ := F22.at_ (k := 8) (by decide) hr hDn (i := 22) rfl
        obtain ⟨a, rfl⟩ : ∃ a, s = some a := by
          rcases hok with z | z
          · cases z
          · cases s with
            | none => cases z
            | some a => exact ⟨a, rfl⟩
        have hl : ns.length = 0 := (Option.some.inj (callAt_len hcl)).symm
        match ns, hl with
        | [], _ =>
        have ecl := (Option.some.inj hcl).symm
        exact ⟨_, a1, f, fd, 8, _, _, rfl, a2, a3, a4, a5, p, n, tl, [], told, k, a, rfl, R1, s1 _ _ hn, s1 _ _ ht, yes_22 (told := told) hth, dn _ a rfl ecl⟩
    -- none such
    have nope : ∀ (a : Su68.Abs), s = some a → thereAll (stA s) (lets.getD c []) ns = false → Su68.step s cl = (s, Su68.no (-2)) := by
      intro a es hth
      subst es
      have fin : ∀ cl', cl = cl' → Su68.does a cl' = (a, Su68.no (-2)) → Su68.step (some a) cl = (some a, Su68.no (-2)) := fun cl' e1 e2 => by
        subst e1
        show (some (Su68.does a cl).1, (Su68.does a cl).2) = _
        rw [e2]
      have hcs : c = 0 ∨ c = 1 ∨ c = 2 ∨ c = 3 ∨ c = 4 ∨ c = 5 ∨ c = 6 ∨ c = 7 ∨ c = 8 ∨ c = 9 ∨ c = 10 ∨ c = 11 ∨ c = 12 ∨ c = 13 ∨ c = 14 ∨ c = 15 ∨ c = 16 ∨ c = 17 ∨ c = 18 ∨ c = 19 ∨ c = 20 ∨ c = 21 ∨ c = 22 := by omega
      rcases hcs with e | e | e | e | e | e | e | e | e | e | e | e | e | e | e | e | e | e | e | e | e | e | e <;> subst e
      · have hl := Option.some.inj (callAt_len hcl)
        obtain rfl : ns = [] := List.length_eq_zero_iff.mp hl.symm
        cases hth
      · have hl : ns.length = 3 := (Option.some.inj (callAt_len hcl)).symm
        match ns, hl with
        | [x, y, z], _ => exact fin _ (Option.some.inj hcl).symm (no_1 (told := told) hth)
      · have hl : ns.length = 0 := (Option.some.inj (callAt_len hcl)).symm
        match ns, hl with
        | [], _ => exact fin _ (Option.some.inj hcl).symm (no_2 (told := told) hth)
      · have hl : ns.length = 2 := (Option.some.inj (callAt_len hcl)).symm
        match ns, hl with
        | [x, y], _ => exact fin _ (Option.some.inj hcl).symm (no_3 (told := told) hth)
      · have hl : ns.length = 2 := (Option.some.inj (callAt_len hcl)).symm
        match ns, hl with
        | [x, y], _ => exact fin _ (Option.some.inj hcl).symm (no_4 (told := told) hth)
      · have hl : ns.length = 2 := (Option.some.inj (callAt_len hcl)).symm
        match ns, hl with
        | [x, y], _ => exact fin _ (Option.some.inj hcl).symm (no_5 (told := told) hth)
      · have hl : ns.length = 0 := (Option.some.inj (callAt_len hcl)).symm
        match ns, hl with
        | [], _ => exact fin _ (Option.some.inj hcl).symm (no_6 (told := told) hth)
      · have hl : ns.length = 2 := (Option.some.inj (callAt_len hcl)).symm
        match ns, hl with
        | [x, y], _ => exact fin _ (Option.some.inj hcl).symm (no_7 (told := told) hth)
      · have hl : ns.length = 0 := (Option.some.inj (callAt_len hcl)).symm
        match ns, hl with
        | [], _ => exact fin _ (Option.some.inj hcl).symm (no_8 (told := told) hth)
      · have hl : ns.length = 1 := (Option.some.inj (callAt_len hcl)).symm
        match ns, hl with
        | [x], _ => exact fin _ (Option.some.inj hcl).symm (no_9 (told := told) hth)
      · have hl : ns.length = 1 := (Option.some.inj (callAt_len hcl)).symm
        match ns, hl with
        | [x], _ => exact fin _ (Option.some.inj hcl).symm (no_10 (told := told) hth)
      · have hl : ns.length = 1 := (Option.some.inj (callAt_len hcl)).symm
        match ns, hl with
        | [x], _ => exact fin _ (Option.some.inj hcl).symm (no_11 (told := told) hth)
      · have hl : ns.length = 1 := (Option.some.inj (callAt_len hcl)).symm
        match ns, hl with
        | [x], _ => exact fin _ (Option.some.inj hcl).symm (no_12 (told := told) hth)
      · have hl : ns.length = 1 := (Option.some.inj (callAt_len hcl)).symm
        match ns, hl with
        | [x], _ => exact fin _ (Option.some.inj hcl).symm (no_13 (told := told) hth)
      · have hl : ns.length = 2 := (Option.some.inj (callAt_len hcl)).symm
        match ns, hl with
        | [x, y], _ => exact fin _ (Option.some.inj hcl).symm (no_14 (told := told) hth)
      · have hl : ns.length = 1 := (Option.some.inj (callAt_len hcl)).symm
        match ns, hl with
        | [x], _ => exact fin _ (Option.some.inj hcl).symm (no_15 (told := told) hth)
      · have hl : ns.length = 1 := (Option.some.inj (callAt_len hcl)).symm
        match ns, hl with
        | [x], _ => exact fin _ (Option.some.inj hcl).symm (no_16 (told := told) hth)
      · have hl : ns.length = 0 := (Option.some.inj (callAt_len hcl)).symm
        match ns, hl with
        | [], _ => exact fin _ (Option.some.inj hcl).symm (no_17 (told := told) hth)
      · have hl : ns.length = 2 := (Option.some.inj (callAt_len hcl)).symm
        match ns, hl with
        | [x, y], _ => exact fin _ (Option.some.inj hcl).symm (no_18 (told := told) hth)
      · have hl : ns.length = 1 := (Option.some.inj (callAt_len hcl)).symm
        match ns, hl with
        | [x], _ => exact fin _ (Option.some.inj hcl).symm (no_19 (told := told) hth)
      · have hl : ns.length = 1 := (Option.some.inj (callAt_len hcl)).symm
        match ns, hl with
        | [x], _ => exact fin _ (Option.some.inj hcl).symm (no_20 (told := told) hth)
      · have hl : ns.length = 0 := (Option.some.inj (callAt_len hcl)).symm
        match ns, hl with
        | [], _ => exact fin _ (Option.some.inj hcl).symm (no_21 (told := told) hth)
      · have hl : ns.length = 0 := (Option.some.inj (callAt_len hcl)).symm
        match ns, hl with
        | [], _ => exact fin _ (Option.some.inj hcl).symm (no_22 (told := told) hth)
    refine ⟨_, rfl, rfl, _, rfl, ?_⟩
    rw [L2.dec_int]
    by_cases h0 : c = 0
    · have e0 : (((c : Nat) : Int) == 0) = true := by rw [h0]; rfl
      rw [e0]
      refine iteF (iteF ⟨_, rfl, _, rfl, _, rfl, p, c, n, k, stB s, stA s, ns, rfl, R, hn, ⟨hc23, hlen⟩, fun H1 s1 => ⟨_, rfl, ?_⟩⟩)
      have hth : thereAll (stA s) (lets.getD c []) ns = true := by rw [h0]; cases ns <;> rfl
      rw [hth]
      obtain ⟨x, hx, f, fd, k', ps, sp, ex, hk, hb, F', hr', hsp⟩ := go H1 s1 hr (.inl h0) hth
      exact iteF ⟨_, rfl, deA, _, _, x, rfl, rfl, hDS H1, atI_nat hx, f, fd, k', ps, sp, ex, hk, hb, F', hr', _, rfl, _, rfl, _, rfl, hsp⟩
    · have e0 : (((c : Nat) : Int) == 0) = false := by rw [beq_eq_false_iff_ne]; omega
      rw [e0]
      refine iteT ⟨_, rfl, p, CW, k.dx, _, _, rfl, R.ins, T.clW, T.nb, wf_begun .., _, rfl, ?_⟩
      cases hs : s with
      | none =>
        have hb : cl ≠ .begin_ := fun z => h0 (callAt_begin (z ▸ hcl))
        rw [hs] at R post
        rw [step_none hb] at post
        exact iteT ⟨line (by simp), fun q hq => post _ q k (R.same (Same.new hq)) (fun b o e _ => Same.new hq b o e) (Fresh.same R (Same.new hq)) hq upd_same⟩
      | some a =>
        refine iteF ⟨_, rfl, _, rfl, _, rfl, p, c, n, k, stB s, stA s, ns, rfl, R, hn, ⟨hc23, hlen⟩, fun H1 s1 => ⟨_, rfl, ?_⟩⟩
        cases hth : thereAll (stA s) (lets.getD c []) ns with
        | true =>
          obtain ⟨x, hx, f, fd, k', ps, sp, ex, hk, hb, F', hr', hsp⟩ := go H1 s1 hr (.inr (by rw [hs]; rfl)) hth
          exact iteF ⟨_, rfl, deA, _, _, x, rfl, rfl, hDS H1, atI_nat hx, f, fd, k', ps, sp, ex, hk, hb, F', hr', _, rfl, _, rfl, _, rfl, hsp⟩
        | false =>
          rw [nope a hs hth] at post
          exact iteT ⟨line (by simp), fun q hq => post _ q k (R.same (s1.trans (Same.new hq))) (fun b o e _ => s1.trans (Same.new hq) b o e) (Fresh.same R (s1.trans (Same.new hq))) (s1.free hq) upd_same⟩
end
end Ty

end
section
set_option Elab.async false
set_option linter.all false
set_option maxRecDepth 100000
set_option maxHeartbeats 400000
namespace Ty
open PySem PySem.Spec PyProof.Rows L2
/-! ### a set of ints from 0 to 7: its table is known -/
/-- the members, rising -/
def sub (m : Nat) : List Nat := (List.range 8).filter fun i => m.testBit i
def bel (m k : Nat) : Nat := ((sub m).filter (· < k)).length
def plusK (m k : Nat) : Nat := m ||| 2 ^ k
def tabT (m : Nat) (led : Bool) (pl : List Nat) : SetTable := { mask := if (sub m).length ≤ 4 then 7 else 31, place := pl.toArray, dummies := #[], finger := 0, led := led, moves := if (sub m).length ≤ 4 then 0 else 1, plain := true }
def tab (led : Bool) (m : Nat) : SetTable := tabT m led (sub m)
theorem free_all : ((List.range 256).all fun m => (List.range 8).all fun k => m.testBit k || ((tab true m).freeSlot (k : Int) == some (k, false))) = true := by decide +kernel
theorem bel_all : ((List.range 256).all fun m => (List.range 8).all fun k => m.testBit k || (SetTable.below (sub m).toArray k == bel m k)) = true := by decide +kernel
theorem ins_all : ((List.range 256).all fun m => (List.range 8).all fun k => m.testBit k || (((sub m).take (bel m k) ++ k :: (sub m).drop (bel m k) == sub (plusK m k)) && decide (plusK m k < 256))) = true := by decide +kernel
theorem lay_all : ((List.range 256).all fun m => (sub m).length != 5 || (((SetTable.layClean 31 ((sub m).map fun i : Nat => (i : Int)).toArray).map fun owner => (List.range 32).filterMap fun j => (owner.getD j none).map (j, ·)) == some ((sub m).zip [0, 1, 2, 3, 4]))) = true := by decide +kernel
/-- where a walk by places stands -/
def slotAt (m : Nat) : Nat → Nat
  | 0 => 0
  | i + 1 => (sub m).getD i 0 + 1
theorem slot_all : ((List.range 256).all fun m => (List.range 9).all fun i => decide ((sub m).length < i) || (SetTable.below (sub m).toArray (slotAt m i) == i)) = true := by decide +kernel
theorem all2 {f : Nat → Nat → Bool} {a b m k : Nat} (h : ((List.range a).all fun m => (List.range b).all fun k => f m k) = true) (hm : m < a) (hk : k < b) : f m k = true :=
  List.all_eq_true.mp (List.all_eq_true.mp h m (List.mem_range.mpr hm)) k (List.mem_range.mpr hk)
theorem or_ff {x y : Bool} (h : (x || y) = true) (hx : x = false) : y = true := by rw [hx, Bool.false_or] at h; exact h
theorem sub_mem {m k : Nat} : k ∈ sub m ↔ k < 8 ∧ m.testBit k = true := by
  unfold sub
  rw [List.mem_filter, List.mem_range]
theorem sub_zero : sub 0 = [] := by decide
theorem sub_len (m : Nat) : (sub m).length ≤ 8 := Nat.le_trans (List.length_filter_le _ _) (by simp)
theorem plusK_bit (m k j : Nat) : (plusK m k).testBit j = (m.testBit j || decide (j = k)) := by
  unfold plusK
  rw [Nat.testBit_or, Nat.testBit_two_pow]
  congr 1
  exact decide_eq_decide.mpr eq_comm
theorem sub_sorted (m : Nat) : (sub m).Pairwise (· < ·) := List.Pairwise.filter _ List.pairwise_lt_range
section
variable {m k : Nat} (hm : m < 256) (hk : k < 8) (hb : m.testBit k = false)
include hm hk hb
theorem t_bel : SetTable.below (sub m).toArray k = bel m k := beq_iff_eq.mp (or_ff (all2 bel_all hm hk) hb)
theorem t_ins : (sub m).take (bel m k) ++ k :: (sub m).drop (bel m k) = sub (plusK m k) := beq_iff_eq.mp (Bool.and_eq_true_iff.mp (or_ff (all2 ins_all hm hk) hb)).1
theorem t_lt : plusK m k < 256 := of_decide_eq_true (Bool.and_eq_true_iff.mp (or_ff (all2 ins_all hm hk) hb)).2
theorem t_len : (sub (plusK m k)).length = (sub m).length + 1 := by
  rw [← t_ins hm hk hb, List.length_append, List.length_cons, List.length_take, List.length_drop]
  omega
end
theorem free_led (t : SetTable) (b : Bool) (h : Int) : ({ t with led := b } : SetTable).freeSlot h = t.freeSlot h := by
  have go : ∀ (f : Nat → Int) (n : Nat) (p : SetTable.Probe), SetTable.probe.go { t with led := b } f h n p = SetTable.probe.go t f h n p := by
    intro f n
    induction n with
    | zero => intro p; rfl
    | succ n ih =>
      intro p
      have e1 : ({ t with led := b } : SetTable).slot p.j = t.slot p.j := rfl
      have e2 : ∀ q, ({ t with led := b } : SetTable).advance q = t.advance q := fun q => rfl
      simp only [SetTable.probe.go, e1, e2, ih]
  unfold SetTable.freeSlot SetTable.probe
  rw [go]
  rfl
theorem t_free {m k : Nat} (led : Bool) (hm : m < 256) (hk : k < 8) (hb : m.testBit k = false) : (tab led m).freeSlot (k : Int) = some (k, false) := by
  have := beq_iff_eq.mp (or_ff (all2 free_all hm hk) hb)
  rw [← free_led (tab true m) led] at this
  exact this
/-! ### the elements -/
def esL (tk : Nat → Tok) (ks : List Nat) : List (Int × Value) := ks.map fun k : Nat => ((k : Int), Value.int (k : Int) (tk k))
def esOf (tk : Nat → Tok) (m : Nat) : Array (Int × Value) := (esL tk (sub m)).toArray
def tkSet (tk : Nat → Tok) (k : Nat) (t : Tok) : Nat → Tok := fun j => if j = k then t else tk j
theorem insertAt_list {α : Type} (l : List α) (p : Nat) (x : α) : SetTable.insertAt l.toArray p x = (l.take p ++ x :: l.drop p).toArray := by
  unfold SetTable.insertAt
  apply Array.ext'
  simp
  exact List.take_of_length_le (by simp)
theorem esL_len (tk : Nat → Tok) (ks : List Nat) : (esL tk ks).length = ks.length := List.length_map ..
theorem esOf_size (tk : Nat → Tok) (m : Nat) : (esOf tk m).size = (sub m).length := by unfold esOf; rw [List.size_toArray, esL_len]
theorem esL_tk {tk : Nat → Tok} {ks : List Nat} {k : Nat} {t : Tok} (h : k ∉ ks) : esL (tkSet tk k t) ks = esL tk ks := by
  unfold esL
  refine List.map_congr_left fun j hj => ?_
  unfold tkSet
  rw [if_neg (show ¬ j = k from fun z => h (z ▸ hj))]
theorem t_fits {m : Nat} (led : Bool) {ks : List Nat} (h : ks.length ≤ (sub m).length + 1) : (tabT m led ks).fits ks.length = true := by
  unfold SetTable.fits SetTable.fill tabT
  have h8 := sub_len m
  rw [Bool.and_eq_true]
  refine ⟨by simp, decide_eq_true ?_⟩
  show ks.toArray.size + 0 ≤ if (sub m).length ≤ 4 then 7 else 31
  rw [List.size_toArray]
  split <;> omega
theorem t_put {m k : Nat} (led : Bool) (hm : m < 256) (hk : k < 8) (hb : m.testBit k = false) : (tab led m).put k = (tabT m led (sub (plusK m k)), bel m k) := by
  unfold SetTable.put
  rw [show (tab led m).place = (sub m).toArray from rfl, t_bel hm hk hb]
  dsimp only
  rw [insertAt_list, t_ins hm hk hb]
  rfl
theorem t_new {m k : Nat} (led : Bool) (tk : Nat → Tok) (t : Tok) (hm : m < 256) (hk : k < 8) (hb : m.testBit k = false) : layNew (tab led m) (esOf tk m) (k : Int) (.int (k : Int) t) = (esOf (tkSet tk k t) (plusK m k), tabT m led (sub (plusK m k)), false, false) := by
  have hn : k ∉ sub m := fun z => by rw [(sub_mem.mp z).2] at hb; cases hb
  have hl := t_len hm hk hb
  have e1 : SetTable.insertAt (esOf tk m) (bel m k) ((k : Int), Value.int (k : Int) t) = esOf (tkSet tk k t) (plusK m k) := by
    unfold esOf
    rw [insertAt_list, ← t_ins hm hk hb]
    congr 1
    rw [← esL_tk (t := t) (tk := tk) hn]
    unfold esL
    rw [List.map_append, List.map_cons, List.map_take, List.map_drop]
    unfold tkSet
    rw [if_pos rfl]
  have e2 : (tabT m led (sub (plusK m k))).fits (esOf (tkSet tk k t) (plusK m k)).size = true := by
    rw [esOf_size]
    exact t_fits led (by omega)
  unfold layNew
  rw [t_free led hm hk hb]
  dsimp only
  rw [t_put led hm hk hb]
  dsimp only
  rw [e1]
  unfold SetTable.orStandIn
  rw [e2]
  rfl
theorem t_full {m k : Nat} (led : Bool) (hm : m < 256) (hk : k < 8) (hb : m.testBit k = false) : (tabT m led (sub (plusK m k))).tooFull = decide ((sub (plusK m k)).length = 5) := by
  have hl := t_len hm hk hb
  have h8 := sub_len (plusK m k)
  unfold SetTable.tooFull SetTable.fill tabT
  refine decide_eq_decide.mpr ?_
  show (if (sub m).length ≤ 4 then 7 else 31) * 3 ≤ ((sub (plusK m k)).toArray.size + 0) * 5 ↔ _
  rw [List.size_toArray]
  split <;> omega
theorem t_same {m k : Nat} (led : Bool) (hm : m < 256) (hk : k < 8) (hb : m.testBit k = false) (h5 : (sub (plusK m k)).length ≠ 5) : tabT m led (sub (plusK m k)) = tab led (plusK m k) := by
  have hl := t_len hm hk hb
  unfold tab tabT
  by_cases h : (sub m).length ≤ 4
  · rw [if_pos h, if_pos h, if_pos (by omega), if_pos (by omega)]
  · rw [if_neg h, if_neg h, if_neg (by omega), if_neg (by omega)]
theorem t_relay {m k : Nat} (led : Bool) (tk : Nat → Tok) (hm : m < 256) (hk : k < 8) (hb : m.testBit k = false) (h5 : (sub (plusK m k)).length = 5) : relayAll (tabT m led (sub (plusK m k))) (esOf tk (plusK m k)) (SetTable.grown (esOf tk (plusK m k)).size) = (esOf tk (plusK m k), tab led (plusK m k), false) := by
  have hl := t_len hm hk hb
  have hm' := t_lt hm hk hb
  generalize plusK m k = m' at *
  have h4 : (sub m).length ≤ 4 := by omega
  have hlay := or_ff (List.all_eq_true.mp lay_all m' (List.mem_range.mpr hm')) (by rw [h5]; rfl)
  have hlay := beq_iff_eq.mp hlay
  have eh : ((esOf tk m').map (·.1)) = ((sub m').map fun i : Nat => (i : Int)).toArray := by
    unfold esOf esL
    simp
  have hz : ∀ (l : List Nat), l.length = 5 → (l.zip [0, 1, 2, 3, 4]).map (·.1) = l ∧ (l.zip [0, 1, 2, 3, 4]).map (·.2) = [0, 1, 2, 3, 4] := fun l hl => by
    match l, hl with
    | [a, b, c, d, e], _ => exact ⟨rfl, rfl⟩
  have er : (tabT m led (sub m')).relaid ((esOf tk m').map (·.1)) (SetTable.grown (esOf tk m').size) = some (tab led m', #[0, 1, 2, 3, 4]) := by
    rw [eh, esOf_size, h5]
    unfold SetTable.relaid
    rw [show SetTable.sizeAbove (SetTable.grown 5) - 1 = 31 by decide]
    unfold SetTable.laid
    cases ec : SetTable.layClean 31 ((sub m').map fun i : Nat => (i : Int)).toArray with
    | none => rw [ec] at hlay; cases hlay
    | some owner =>
      rw [ec] at hlay
      have hlay := Option.some.inj hlay
      show some (_, _) = _
      dsimp only at hlay
      rw [show (31 + 1) = 32 from rfl, hlay, (hz _ h5).1, (hz _ h5).2]
      unfold tab tabT SetTable.movedTo
      dsimp only
      have h4' : ¬ (sub m').length ≤ 4 := by omega
      rw [if_pos h4, if_pos h4, if_neg h4', if_neg h4']
      rfl
  unfold relayAll
  rw [er]
  dsimp only
  have eo : (#[0, 1, 2, 3, 4] : Array Nat).filterMap (fun x => (esOf tk m')[x]?) = esOf tk m' := by
    unfold esOf
    have h5' : (esL tk (sub m')).length = 5 := by rw [esL_len]; exact h5
    match esL tk (sub m'), h5' with
    | [a, b, c, d, e], _ => rfl
  have ec : coversAll (#[0, 1, 2, 3, 4] : Array Nat) (esOf tk m').size = true := by rw [esOf_size, h5]; decide
  have ef : (tab led m').fits (esOf tk m').size = true := by rw [esOf_size]; exact t_fits led (by omega)
  rw [eo, ec, ef]
  rfl
end Ty

end
section
set_option Elab.async false
set_option linter.all false
set_option maxRecDepth 100000
set_option maxHeartbeats 400000
namespace Ty
open PySem PySem.Spec PyProof.Rows L2
/-! ### a small set on the heap -/
abbrev SObj (led : Bool) (tk : Nat → Tok) (m ep : Nat) : Obj := { cls := .type "set", dict := none, data := .set (esOf tk m) ep (tab led m), slots := #[] }
theorem plusK_same {m k : Nat} (h : m.testBit k = true) : plusK m k = m := by
  apply Nat.eq_of_testBit_eq
  intro j
  rw [plusK_bit]
  by_cases e : j = k
  · rw [e, h]; rfl
  · rw [decide_eq_false e, Bool.or_false]
theorem hash8 : ∀ k : Nat, k < 8 → hashInt (k : Int) = (k : Int) := by decide
theorem es_mem {tk : Nat → Tok} {m : Nat} {e : Int × Value} (h : e ∈ (esOf tk m).toList) : ∃ k, k ∈ sub m ∧ e = ((k : Int), Value.int (k : Int) (tk k)) := by
  have h : e ∈ esL tk (sub m) := h
  obtain ⟨k, h1, h2⟩ := List.mem_map.mp h
  exact ⟨k, h1, h2.symm⟩
theorem es_elems (prog : Program) (w : World) (tk : Nat → Tok) (m : Nat) : ElemsOf (PySem.intKind prog w) (esOf tk m).toList := by
  intro e he
  obtain ⟨k, h1, rfl⟩ := es_mem he
  exact ⟨⟨(k : Int), intKind_is _ _ _ _, (hash8 k (sub_mem.mp h1).1).symm⟩, rfl⟩
theorem es_fits (led : Bool) (tk : Nat → Tok) (m : Nat) : (tab led m).fits (esOf tk m).size = true := by
  rw [esOf_size]
  exact t_fits led (by omega)
theorem es_bound (tk : Nat → Tok) (m : Nat) : (esOf tk m).size < scanBound := by
  rw [esOf_size]
  have := sub_len m
  unfold scanBound
  omega
theorem es_there {prog : Program} {w : World} {tk : Nat → Tok} {m k : Nat} (hk : k < 8) : (∃ j, List.findIdx? (fun e : Int × Value => (PySem.intKind prog w).is (k : Int) e.2) (esOf tk m).toList = some j) → m.testBit k = true := by
  rintro ⟨j, hj⟩
  obtain ⟨h1, h2, _⟩ := List.findIdx?_eq_some_iff_getElem.mp hj
  obtain ⟨i, h3, h4⟩ := es_mem (List.getElem_mem h1)
  rw [h4] at h2
  have : (i : Int) = (k : Int) := (PySem.intKind prog w).inj _ _ _ (intKind_is _ _ _ _) h2
  have e : i = k := by omega
  rw [← e]
  exact (sub_mem.mp h3).2
theorem es_not {prog : Program} {w : World} {tk : Nat → Tok} {m k : Nat} (hk : k < 8) (h : List.findIdx? (fun e : Int × Value => (PySem.intKind prog w).is (k : Int) e.2) (esOf tk m).toList = none) : m.testBit k = false := by
  cases hb : m.testBit k with
  | false => rfl
  | true =>
    have hm : ((k : Int), Value.int (k : Int) (tk k)) ∈ (esOf tk m).toList := List.mem_map.mpr ⟨k, sub_mem.mpr ⟨hk, hb⟩, rfl⟩
    have := List.findIdx?_eq_none_iff.mp h _ hm
    rw [intKind_is] at this
    cases this
section
variable {prog : Program} {w : World} {A : Around} {E : Value → Shared → Prop} {s : Shared} {S : Addr} {led : Bool} {tk : Nat → Tok} {m ep : Nat}
theorem st_put {es : Array (Int × Value)} {t : SetTable} {es' : Array (Int × Value)} {t' : SetTable} {h : Heap} {e0 : Nat} (ho : h.get? S = some { cls := .type "set", dict := none, data := .set es e0 t, slots := #[] }) : (h.update S (Obj.putSet es' t')).get? S = some { cls := .type "set", dict := none, data := .set es' (e0 + 1) t', slots := #[] } := by
  have := Heap.get?_update_self (Obj.putSet es' t') ho (by rw [putSet_of es' t' rfl]; rfl)
  rw [putSet_of es' t' rfl] at this
  exact this
theorem st_add {k : Nat} {t : Tok} {Q : Bool → Shared → Prop} (hm : m < 256) (hk : k < 8) (ho : s.heap.get? S = some (SObj led tk m ep))
    (h : ∀ h' tk' ep' b, Heap.SameBut S s.heap h' → h'.get? S = some (SObj led tk' (plusK m k) ep') → Q b { s with heap := h' }) :
    wpAny (model prog w) A (setAddHashed S (.int (k : Int) t) (k : Int)) Q E s := by
  have hel := es_elems prog w tk m
  unfold setAddHashed setAddHashedIn
  refine wpAny_holding (wpAny_bind (wpAny_setState_of ho rfl (es_fits led tk m) ?_))
  dsimp only
  rw [byScan_of (knd := PySem.intKind prog w) (x := .int (k : Int) t) rfl (es_bound tk m) hel, if_pos rfl]
  unfold setAddByScan
  refine wpAny_bind (wpAny_bind (wpAny_rule (wpAny_bind ?_)))
  have scan := fun Q h => wpAny_setScan_of (knd := PySem.intKind prog w) (A := A) (E := E) (s := s) (a := S) (adding := true) (Q := Q) (intKind_is prog w (k : Int) t) ho rfl (es_fits led tk m) hel h
  rw [show (PySem.intKind prog w).hash (k : Int) = (k : Int) from hash8 k hk] at scan
  refine scan _ ?_
  cases hr : List.findIdx? (fun e => (PySem.intKind prog w).is (k : Int) e.2) (esOf tk m).toList with
  | some j =>
    dsimp only
    refine wpAny_pure (wpAny_pure ?_)
    have e : s = { s with heap := s.heap } := by cases s; rfl
    rw [e]
    exact h s.heap tk ep _ (Heap.SameBut.refl S s.heap) (by rw [plusK_same (es_there hk ⟨j, hr⟩)]; exact ho)
  | none =>
    have hb := es_not hk hr
    dsimp only
    rw [t_new led tk t hm hk hb]
    dsimp only
    refine wpAny_bind (wpAny_pure ?_)
    rw [if_pos (show (tabT m led (sub (plusK m k))).plain = true from rfl), hashByValue_scannable 8 (show (Value.int (k : Int) t).scannable = true from rfl)]
    refine wpAny_bind (wpAny_pure ?_)
    rw [if_pos (show plainKind (Value.int (k : Int) t) = true from rfl)]
    refine wpAny_bind (wpAny_storeSet_of ho rfl ?_ (fits_of_scanBound (es_bound _ _)))
    have h1 := st_put (es' := esOf (tkSet tk k t) (plusK m k)) (t' := tabT m led (sub (plusK m k))) ho
    have b1 := Heap.SameBut.update s.heap S (Obj.putSet (esOf (tkSet tk k t) (plusK m k)) (tabT m led (sub (plusK m k))))
    rw [t_full led hm hk hb]
    by_cases h5 : (sub (plusK m k)).length = 5
    · rw [decide_eq_true h5, if_pos (show (!false && true) = true from rfl), t_relay led _ hm hk hb h5]
      dsimp only
      refine wpAny_bind (wpAny_pure ?_)
      refine wpAny_bind (wpAny_storeSet_of h1 rfl ?_ (fits_of_scanBound (es_bound _ _)))
      refine wpAny_pure (wpAny_pure ?_)
      exact h _ _ _ _ (b1.trans (Heap.SameBut.update _ S _)) (st_put h1)
    · rw [decide_eq_false h5, if_neg (show ¬ (!false && false) = true by decide)]
      refine wpAny_pure (wpAny_pure ?_)
      rw [t_same led hm hk hb h5] at h1 b1 ⊢
      exact h _ _ _ _ b1 h1
end
/-! ### set(list) -/
def maskTo (val : Nat → Nat) : Nat → Nat
  | 0 => 0
  | i + 1 => plusK (maskTo val i) (val i)
theorem maskTo_lt {val : Nat → Nat} {n : Nat} (h8 : ∀ i, i < n → val i < 8) : ∀ i, i ≤ n → maskTo val i < 256
  | 0, _ => by show 0 < 256; decide
  | i + 1, hi => by
    have ih := maskTo_lt h8 i (by omega)
    show plusK (maskTo val i) (val i) < 256
    cases hb : (maskTo val i).testBit (val i) with
    | true => rw [plusK_same hb]; exact ih
    | false => exact t_lt ih (h8 i (by omega)) hb
theorem maskTo_bit (val : Nat → Nat) (k : Nat) : ∀ i, (maskTo val i).testBit k = true ↔ ∃ j, j < i ∧ val j = k
  | 0 => by
    show Nat.testBit 0 k = true ↔ _
    rw [Nat.zero_testBit]
    exact ⟨fun z => (by cases z), fun z => (let ⟨j, hj, _⟩ := z; absurd hj (Nat.not_lt_zero _))⟩
  | i + 1 => by
    show (plusK (maskTo val i) (val i)).testBit k = true ↔ _
    rw [plusK_bit, Bool.or_eq_true, maskTo_bit val k i, decide_eq_true_eq]
    constructor
    · rintro (⟨j, h1, h2⟩ | h)
      · exact ⟨j, by omega, h2⟩
      · exact ⟨i, by omega, h.symm⟩
    · rintro ⟨j, h1, h2⟩
      rcases Nat.lt_succ_iff_lt_or_eq.mp h1 with z | z
      · exact .inl ⟨j, z, h2⟩
      · right; rw [← z]; exact h2.symm
section
variable {prog : Program} {w : World} {A : Around} {R : Result → Shared → Prop} {I : Addr} {fp wr : List Addr} {n : Nat} {Pi : Nat → Value → Prop} {St : Nat → Heap → Prop} {led : Bool}
theorem st_loop (W : Walks prog w A.in1 I fp wr n Pi St) (S : Addr) (hSf : S ∉ fp) (val : Nat → Nat) (hval : ∀ i v, Pi i v → ∃ t, v = .int ((val i : Nat) : Int) t) (h8 : ∀ i, i < n → val i < 8) :
    ∀ (k i : Nat) (s : Shared) (tk : Nat → Tok) (ep : Nat), n - i = k → i ≤ n → St i s.heap → s.heap.get? S = some (SObj led tk (maskTo val i) ep) →
      (∀ h' tks tk' ep', (∀ b o, b ∉ wr → b ≠ S → s.heap.get? b = some o → h'.get? b = some o) → h'.get? S = some (SObj led tk' (maskTo val n) ep') → R (.ok (.ret .none)) { s with heap := h', toks := tks }) →
      codeAny (model prog w) A (.builtin "set.update.loop" ⟨[.ref S, .ref I], []⟩) R s := by
  have nSw : S ∉ wr := fun z => hSf (W.sub _ z)
  intro k
  induction k with
  | zero =>
    intro i s tk ep hk hi hst hS hR
    obtain rfl : i = n := by omega
    refine codeAny_builtin PyProof.Rows.F.entry_set_update_loop ?_
    rw [Around.under_plainId PyProof.Rows.F.plain_set_update_loop _]
    show wpAny (model prog w) A.in1 (pyNext (.ref I) >>= _) _ _ s
    refine wpAny_bind (W.done s _ _ hst fun h' tks kp => ?_)
    show wpAny (model prog w) A.in1 (ret Value.none) _ _ _
    exact wpAny_pure (hR h' tks tk ep (fun b o hb _ e => kp b o hb e) (kp S _ nSw hS))
  | succ k ih =>
    intro i s tk ep hk hi hst hS hR
    have hlt : i < n := by omega
    refine codeAny_builtin PyProof.Rows.F.entry_set_update_loop ?_
    rw [Around.under_plainId PyProof.Rows.F.plain_set_update_loop _]
    show wpAny (model prog w) A.in1 (pyNext (.ref I) >>= _) _ _ s
    refine wpAny_bind (W.item i s _ _ hlt hst fun v h' tks hP hst' kp => ?_)
    obtain ⟨t, rfl⟩ := hval i v hP
    have hS2 := kp S _ nSw hS
    show wpAny (model prog w) A.in1 (holding [Value.int ((val i : Nat) : Int) t] (setAdd S (.int ((val i : Nat) : Int) t)) >>= _) _ _ _
    unfold setAdd
    refine wpAny_bind (wpAny_holding (wpAny_holding (wpAny_bind ((PySem.intKind prog w).pyHash (k := ((val i : Nat) : Int)) (intKind_is _ _ _ _) ?_))))
    rw [show (PySem.intKind prog w).hash ((val i : Nat) : Int) = ((val i : Nat) : Int) from hash8 _ (h8 i hlt)]
    refine st_add (maskTo_lt h8 i (by omega)) (h8 i hlt) hS2 fun g tk' ep' b sb hS3 => ?_
    refine wpAny_pure ⟨plainId_quiet PyProof.Rows.F.plain_set_update_loop _, ih (i + 1) _ tk' ep' (by omega) hlt (W.frame _ _ _ hst' fun b hb o e => (sb.2 b (fun z => hSf (z ▸ hb))).trans e) hS3 fun g2 tks2 tk2 ep2 kp2 hS4 => ?_⟩
    exact hR g2 tks2 tk2 ep2 (fun b o hw hn e => kp2 b o hw hn ((sb.2 b hn).trans (kp b o hw e))) hS4
end
theorem SObj_new (led : Bool) : (SObj led (fun _ => 0) 0 0) = { cls := .type "set", dict := none, data := .set #[] 0 (.fresh 0 0 led) } := by
  unfold SObj
  have e1 : tab led 0 = SetTable.fresh 0 0 led := by unfold tab tabT; rw [sub_zero]; rfl
  have e2 : esOf (fun _ => 0) 0 = #[] := by unfold esOf; rw [sub_zero]; rfl
  rw [e1, e2]
theorem st_new {prog : Program} {w : World} {A : Around} {E : Value → Shared → Prop} {s : Shared} (a : Value) {Q₁ : Value → Shared → Prop} (h : Q₁ (.ref s.heap.objs.size) { s with heap := s.heap.push { cls := .type "set", dict := none, data := .set #[] 0 (.fresh 0 0 (!w.params.followText "set-order")) } }) :
    codeAny (model prog w) A (.call (.builtin "set.__new__") ⟨[.type "set", a], []⟩) (wants Q₁ E) s := by
  refine codeAny_of_tree (?_ : wpAny _ A.in1 (do checkBuiltinCall "set.__new__" ⟨[.type "set", a], []⟩; again (.builtin "set.__new__" ⟨[.type "set", a], []⟩)) _ _ s)
  refine wpAny_bind (wpAny_of_eq (PySem.F.newCall_set_1 a) (wpAny_pure ⟨plainId_quiet PySem.F.plain_set_new _, codeAny_builtin PySem.F.entry_set_new ?_⟩))
  rw [Around.under_plainId PySem.F.plain_set_new _]
  unfold Builtin.«set.__new__» Builtin.Frozenset.newClass
  have hsub := sub_set_self
  obtain ⟨hp, g, d, tk, os⟩ := s
  dsimp only
  wp_walk
  refine wpAny_askSetting (wpAny_pure ?_)
  dsimp only
  simp only [newObj]
  exact wpAny_bind (wpAny_alloc (wpAny_pure (wpAny_pure h)))
end Ty

end
section
set_option Elab.async false
set_option linter.all false
set_option maxRecDepth 100000
set_option maxHeartbeats 400000
namespace Ty
open PySem PySem.Spec PyProof.Rows L2
set_option maxHeartbeats 3200000 in
theorem st_call {prog : Program} {w : World} {A : Around} {E : Value → Shared → Prop} {s : Shared} {l : Addr} {items : Array Value} {ks : List Nat} {Q : Value → Shared → Prop} (hh : A.handled = none) (hl : s.heap.IsList l items) (hi : IntsAre items.toList (ks.map fun n : Nat => (n : Int))) (h8 : ∀ k ∈ ks, k < 8)
    (h : ∀ (h' : Heap) (tks : Nat) (tk : Nat → Tok) (ep : Nat), h'.get? s.heap.objs.size = some (SObj (!w.params.followText "set-order") tk (maskTo (fun i => ks.getD i 0) ks.length) ep) →
      (∀ b o, b < s.heap.objs.size → s.heap.get? b = some o → h'.get? b = some o) → Q (.ref s.heap.objs.size) { s with heap := h', toks := tks }) :
    wpAny (model prog w) A (call (.type "set") [.ref l]) Q E s := by
  have hsz : items.size = ks.length := by have := hi.length; rw [List.length_map, Array.length_toList] at this; exact this
  obtain ⟨c, tl, hmro⟩ := PySem.F.called_set.mro
  have hmade := PySem.F.called_set.made
  have hsub := PySem.F.called_set.sub
  refine wpAny_call (codeAny_of_tree (?_ : wpAny _ _ (callAny (.type "set") _) _ _ _))
  refine wpAny_pure ⟨Code.quiet_builtin _ (by decide +kernel), codeAny_builtin F.entry_type_call ?_⟩
  rw [Around.under_plain (weight_type_call_type "set" [.ref l] []) rfl]
  have a1 := PySem.F.called_set.notType
  have a2 := PySem.F.called_set.canCreate
  have a3 := PySem.F.typeCall_set_1 (.ref l)
  repeat (any_goals (first | assumption | wp_step))
  refine codeAny_mono (st_new (.ref l) (E := E) (Q₁ := fun obj s₁ => obj = .ref s.heap.objs.size ∧ s₁ = { s with heap := s.heap.push { cls := .type "set", dict := none, data := .set #[] 0 (.fresh 0 0 (!w.params.followText "set-order")) } }) ⟨rfl, rfl⟩) fun r s₁ hr => ?_
  generalize (!w.params.followText "set-order") = led at *
  cases r with
  | error e => exact hr
  | ok fl =>
    cases fl with
    | ret obj =>
      obtain ⟨rfl, rfl⟩ := hr
      have hS : (s.heap.push { cls := .type "set", dict := none, data := .set #[] 0 (.fresh 0 0 led) }).get? s.heap.objs.size = some { cls := .type "set", dict := none, data := .set #[] 0 (.fresh 0 0 led) } := Heap.get?_push_size _ rfl
      have hT : Shared.TypeIs { s with heap := s.heap.push { cls := .type "set", dict := none, data := .set #[] 0 (.fresh 0 0 led) } } (.ref s.heap.objs.size) "set" := ⟨_, hS, rfl⟩
      have b1 := PySem.F.called_set.init.lookup
      have b2 := PySem.F.called_set.init.bind (.ref s.heap.objs.size)
      repeat (any_goals (first | assumption | wp_step))
      refine codeAny_mono (codeAny_call_builtin (R := wants (fun r s₂ => r = .none ∧ ∃ h' tks tk ep, s₂ = { s with heap := h', toks := tks } ∧ h'.get? s.heap.objs.size = some (SObj led tk (maskTo (fun i => ks.getD i 0) ks.length) ep) ∧ (∀ b o, b < s.heap.objs.size → s.heap.get? b = some o → h'.get? b = some o)) E)
        PySem.F.called_set.init.plain PySem.F.entry_set_init (check_set_init_1 hT ?_)) fun r₂ s₂ hr₂ => ?_
      · obtain ⟨ol, hol, hcl, nl, hdl⟩ := hl
        obtain ⟨ocls, odict, odata, oslots⟩ := ol
        simp only at hcl hdl
        subst hcl hdl
        have g1 : (s.heap.push { cls := .type "set", dict := none, data := .set #[] 0 (.fresh 0 0 led) }).get? l = some { cls := .type "list", dict := odict, data := .seq items nl, slots := oslots } := Heap.get?_push_of_some _ hol
        have g2 := PySem.F.sub_list_set
        have g3 := PySem.F.sub_list_frozenset
        have g4 : (Value.type "list" == Value.type "dict") = false := by decide
        have g5 : (s.heap.push { cls := .type "set", dict := none, data := .set #[] 0 (.fresh 0 0 led) }).IsList l items := ⟨_, g1, rfl, nl, rfl⟩
        unfold Builtin.«set.__init__» noKeywords Builtin.Frozenset.updateFrom
        generalize hPI : pyIter = PI
        wp_walk
        subst hPI
        refine wpAny_pyIter_list g5 ?_
        refine wpAny_bind (wpAny_runValue ?_)
        have hlS : l < s.heap.objs.size := Heap.lt_size hol
        have hh3 : A.in1.in1.in1.handled = none := by simp [hh]
        have n1 : (s.heap.push { cls := .type "set", dict := none, data := .set #[] 0 (.fresh 0 0 led) }).objs.size = s.heap.objs.size + 1 := Heap.size_push ..
        have neI : l ≠ (s.heap.push { cls := .type "set", dict := none, data := .set #[] 0 (.fresh 0 0 led) }).objs.size := by rw [n1]; exact Nat.ne_of_lt (Nat.lt_succ_of_lt hlS)
        have nSf : s.heap.objs.size ∉ [(s.heap.push { cls := .type "set", dict := none, data := .set #[] 0 (.fresh 0 0 led) }).objs.size, l] := by
          rw [n1]
          intro hm
          rcases List.mem_cons.mp hm with z | z
          · exact Nat.succ_ne_self _ z.symm
          · rcases List.mem_cons.mp z with z | z
            · exact Nat.ne_of_gt hlS z
            · cases z
        have hval : ∀ (i : Nat) (v : Value), items[i]? = some v → ∃ t, v = .int (((fun i => ks.getD i 0) i : Nat) : Int) t := fun i v hv => by
          obtain ⟨t, e⟩ := IntsAre.int_at hi i v (by rw [Array.getElem?_toList]; exact hv)
          refine ⟨t, e.trans ?_⟩
          have hlt : i < ks.length := by rw [← hsz]; exact (Array.getElem?_eq_some_iff.mp hv).1
          show Value.int ((ks.map fun n : Nat => (n : Int)).getD i 0) t = Value.int ((ks.getD i 0 : Nat) : Int) t
          rw [List.getD_eq_getElem?_getD, List.getD_eq_getElem?_getD, List.getElem?_map, List.getElem?_eq_getElem hlt]
          rfl
        have h8' : ∀ i, i < items.size → (fun i => ks.getD i 0) i < 8 := fun i hi' => by
          show ks.getD i 0 < 8
          rw [hsz] at hi'
          rw [List.getD_eq_getElem?_getD, List.getElem?_eq_getElem hi']
          exact h8 _ (List.getElem_mem hi')
        refine st_loop (led := led) (Walks.list hh3 _ l neI items) s.heap.objs.size nSf (fun i => ks.getD i 0) hval h8' (items.size - 0) 0 _ (fun _ => 0) 0 (by omega) (Nat.zero_le _) ⟨⟨_, Heap.get?_push_size _ rfl, rfl, rfl⟩, g5.push _⟩ (by rw [show maskTo (fun i => ks.getD i 0) 0 = 0 from rfl, SObj_new]; exact Heap.get?_push_of_some _ hS) ?_
        intro h' tks tk' ep' kp hS'
        rw [hsz] at hS'
        refine wpAny_pure (?_ : wpAny _ _ (ret Value.none) _ _ _)
        refine wpAny_pure ⟨rfl, h', tks, tk', ep', rfl, hS', fun b o hb e => kp b o (fun z => ?_) (Nat.ne_of_lt hb) (Heap.get?_push_of_some _ (Heap.get?_push_of_some _ e))⟩
        rw [List.mem_singleton.mp z, n1] at hb
        exact Nat.not_lt.mpr (Nat.le_succ _) hb
      · cases r₂ with
        | error e => exact hr₂
        | ok fl₂ =>
          cases fl₂ with
          | ret r =>
            obtain ⟨rfl, h', tks, tk, ep, rfl, hS', kp⟩ := hr₂
            repeat (any_goals (first | assumption | wp_step))
            exact h _ _ _ _ hS' kp
          | _ => exact hr₂.elim
    | _ => exact hr.elim
end Ty

end
section
set_option Elab.async false
set_option linter.all false
set_option maxRecDepth 100000
set_option maxHeartbeats 400000
namespace Ty
open PySem PySem.Spec PyProof.Rows L2
/-! ### a walk over a small set -/
theorem erase_perm {α : Type} {l : List α} {j : Nat} (h : j < l.length) : (l[j] :: l.eraseIdx j).Perm l := by
  have e : l = l.take j ++ l[j] :: l.drop (j + 1) := by rw [← List.drop_eq_getElem_cons h, List.take_append_drop]
  rw [List.eraseIdx_eq_take_drop_succ]
  exact (List.perm_middle.symm).trans (by rw [← e])
theorem pick_go {α : Type} (next : Nat → Nat) : ∀ (n k : Nat) (left : List α) (out : Array α), left.length = n → (pickOrder.go next n k left out).toList.Perm (out.toList ++ left)
  | 0, k, left, out, h => by
    rw [List.length_eq_zero_iff.mp h, List.append_nil]
    exact List.Perm.refl _
  | n + 1, k, left, out, h => by
    have hj : next k % left.length < left.length := Nat.mod_lt _ (by omega)
    unfold pickOrder.go
    rw [List.getElem?_eq_getElem hj]
    dsimp only
    refine (pick_go next n (k + 1) _ _ (by rw [List.length_eraseIdx_of_lt hj]; omega)).trans ?_
    rw [Array.toList_push, List.append_assoc]
    exact List.Perm.append_left _ (erase_perm hj)
theorem pick_perm {α : Type} (next : Nat → Nat) (xs : Array α) : (pickOrder next xs).toList.Perm xs.toList := by
  unfold pickOrder
  have := pick_go next xs.size 0 xs.toList #[] (Array.length_toList ..)
  simpa using this
def walkOf (w : World) (S : Addr) (tk : Nat → Tok) (m ep : Nat) : Array (Int × Value) := if w.params.followText "set-order" = true then pickOrder (w.params.setOrder S ep) (esOf tk m) else esOf tk m
def slotW (w : World) (m i : Nat) : Nat := if w.params.followText "set-order" = true then 0 else slotAt m i
theorem walk_perm (w : World) (S : Addr) (tk : Nat → Tok) (m ep : Nat) : (walkOf w S tk m ep).toList.Perm (esL tk (sub m)) := by
  unfold walkOf
  split
  · exact pick_perm _ _
  · exact List.Perm.refl _
theorem walk_size (w : World) (S : Addr) (tk : Nat → Tok) (m ep : Nat) : (walkOf w S tk m ep).size = (sub m).length := by
  rw [← Array.length_toList, (walk_perm w S tk m ep).length_eq, esL_len]
section
variable {prog : Program} {w : World} {A : Around} {E : Value → Shared → Prop} {s : Shared} {S I : Addr} {tk : Nat → Tok} {m ep i : Nat}
abbrev SW (w : World) (tk : Nat → Tok) (m ep : Nat) : Obj := SObj (!w.params.followText "set-order") tk m ep
theorem st_state {Q : (Array (Int × Value) × Nat × SetTable) → Shared → Prop} (ho : s.heap.get? S = some (SW w tk m ep)) (h : Q (esOf tk m, ep, tab (!w.params.followText "set-order") m) s) : wpAny (model prog w) A (setState S) Q E s :=
  wpAny_setState_of ho rfl (es_fits _ tk m) h
theorem st_text {Q : Bool → Shared → Prop} (h : Q (w.params.followText "set-order") s) : wpAny (model prog w) A setsByText Q E s := by
  unfold setsByText
  exact wpAny_bind (wpAny_askSetting (wpAny_pure h))
theorem st_walkStep {Q : Option (Value × Nat) → Shared → Prop} (ho : s.heap.get? S = some (SW w tk m ep)) (hm : m < 256) (hi : i ≤ (sub m).length)
    (h : Q (((walkOf w S tk m ep)[i]?).map fun e => (e.2, slotW w m (i + 1))) s) : wpAny (model prog w) A (setNext S (slotW w m i) i ep) Q E s := by
  unfold setNext
  refine wpAny_bind (st_state ho ?_)
  dsimp only
  refine wpAny_bind (st_text ?_)
  unfold walkOf slotW at h
  unfold slotW
  cases hbt : w.params.followText "set-order" with
  | true =>
    rw [hbt] at h
    rw [if_pos rfl, if_neg (by simp)]
    refine wpAny_bind ?_
    unfold setWalk
    refine wpAny_bind (st_state ho (wpAny_bind (st_text ?_)))
    rw [hbt, if_pos rfl]
    refine wpAny_bind (wpAny_askSetting (wpAny_pure (wpAny_pure ?_)))
    rw [if_pos rfl, if_pos rfl] at h
    exact h
  | false =>
    rw [hbt] at h
    rw [if_neg (by decide)]
    rw [if_neg (by decide), if_neg (by decide)] at h
    have hs : SetTable.below (sub m).toArray (slotAt m i) = i := by
      have h8 := sub_len m
      exact beq_iff_eq.mp (or_ff (all2 slot_all hm (show i < 9 by omega)) (decide_eq_false (by omega)))
    refine wpAny_bind (wpAny_pure ?_)
    refine wpAny_bind (wpAny_pure ?_)
    refine wpAny_pure ?_
    show Q (match (esOf tk m)[SetTable.below (sub m).toArray (slotAt m i)]?, (sub m).toArray[SetTable.below (sub m).toArray (slotAt m i)]? with | some (_, x), some j => some (x, j + 1) | _, _ => none) s
    rw [hs]
    have e1 : (esOf tk m)[i]? = ((sub m)[i]?).map fun k : Nat => ((k : Int), Value.int (k : Int) (tk k)) := by
      unfold esOf esL
      rw [List.getElem?_toArray, List.getElem?_map]
    rw [e1] at h ⊢
    rw [List.getElem?_toArray]
    cases e : (sub m)[i]? with
    | none => rw [e] at h; exact h
    | some k =>
      rw [e] at h
      have ek : slotAt m (i + 1) = k + 1 := by
        show (sub m).getD i 0 + 1 = k + 1
        rw [List.getD_eq_getElem?_getD, e]
        rfl
      rw [ek] at h
      exact h
/-- the walk's own object: where it stands, how many came, the set, its size and its age -/
abbrev IObj (w : World) (m : Nat) (S : Addr) (ep i : Nat) : Obj := { cls := .type "set_iterator", dict := none, data := .fields #[.int ((slotW w m i : Nat) : Int) 0, .int ((i : Nat) : Int) 0, .ref S, .int (((sub m).length : Nat) : Int) 0, .int ((ep : Nat) : Int) 0], slots := #[] }
end
namespace St
theorem slot_next : Slot "set_iterator" "__next__" "set_iterator.__next__" :=
  .of (owner := "set_iterator") (n := "__next__") (by rw [typeLookup_type, builtinLookup_eq_fast]; kernel_rfl) (by decide +kernel) (by decide +kernel) (by decide +kernel) (by first | exact .inl (by decide +kernel) | exact .inr (by decide +kernel)) (by rw [isSubtype_type]; kernel_rfl)
theorem slot_iter : Slot "set_iterator" "__iter__" "set_iterator.__iter__" :=
  .of (owner := "set_iterator") (n := "__iter__") (by rw [typeLookup_type, builtinLookup_eq_fast]; kernel_rfl) (by decide +kernel) (by decide +kernel) (by decide +kernel) (by first | exact .inl (by decide +kernel) | exact .inr (by decide +kernel)) (by rw [isSubtype_type]; kernel_rfl)
theorem owner_it : Manifest.owners.lookup (String.ofList ['r', 'o', 't', 'a', 'r', 'e', 't', 'i', '_', 't', 'e', 's'].reverse) = some Manifest.sig_set_iterator := by kernel_rfl
theorem entry_next : entryFor table "set_iterator.__next__" = some Builtin.«set_iterator.__next__» := entryFor_of_tree (by kernel_rfl)
theorem entry_iter : entryFor table "set_iterator.__iter__" = some Builtin.«dict_keyiterator.__iter__» :=
  entryFor_alias (id' := "dict_keyiterator.__iter__") (by kernel_rfl) (by first | rfl | decide +kernel | (unfold String.splitOn; simp +decide [String.splitOnAux])) (by decide +kernel) (by kernel_rfl)
theorem entry_set_iter : entryFor table "set.__iter__" = some Builtin.«frozenset.__iter__» := entryFor_alias (id' := "frozenset.__iter__") (by kernel_rfl) rfl (by decide +kernel) (by kernel_rfl)
theorem args_next (a : Value) : argsOk "set_iterator.__next__" ⟨[a], []⟩ := by
  unfold argsOk; rw [signature?_of (id := "set_iterator.__next__") (n := ['_', '_', 't', 'x', 'e', 'n', '_', '_']) (o := ['r', 'o', 't', 'a', 'r', 'e', 't', 'i', '_', 't', 'e', 's']) (by kernel_rfl) owner_it]; kernel_rfl
theorem args_iter (a : Value) : argsOk "set_iterator.__iter__" ⟨[a], []⟩ := by
  unfold argsOk; rw [signature?_of (id := "set_iterator.__iter__") (n := ['_', '_', 'r', 'e', 't', 'i', '_', '_']) (o := ['r', 'o', 't', 'a', 'r', 'e', 't', 'i', '_', 't', 'e', 's']) (by kernel_rfl) owner_it]; kernel_rfl
end St
end Ty

end
section
set_option Elab.async false
set_option linter.all false
set_option maxRecDepth 100000
set_option maxHeartbeats 400000
namespace Ty
open PySem PySem.Spec PyProof.Rows L2
section
variable {prog : Program} {w : World} {A : Around} {E : Value → Shared → Prop} {s : Shared} {S I : Addr} {tk : Nat → Tok} {m ep i : Nat}
theorem st_pyIter {Q : Value → Shared → Prop} (ho : s.heap.get? S = some (SW w tk m ep)) (h : Q (.ref s.heap.objs.size) { s with heap := s.heap.push (IObj w m S ep 0) }) : wpAny (model prog w) A (pyIter (.ref S)) Q E s := by
  have ty : s.TypeIs (.ref S) "set" := ⟨_, ho, rfl⟩
  refine wpAny_pyIter_slot ty PySem.F.slot_set_iter (wpAny_call_entry PySem.F.slot_set_iter ty St.entry_set_iter ?_ (PySem.F.args_set_iter_1 _))
  unfold Builtin.«frozenset.__iter__»
  refine wpAny_bind (wpAny_pure ?_)
  refine wpAny_bind ?_
  unfold Builtin.Frozenset.sizeOf setEntries
  refine wpAny_bind (wpAny_bind (st_state ho (wpAny_pure (wpAny_pure ?_))))
  refine wpAny_bind ?_
  unfold setDrawn
  refine wpAny_bind (st_state ho ?_)
  dsimp only
  refine wpAny_bind (st_text (wpAny_pure ?_))
  rw [if_neg (by
    rw [Bool.and_eq_true]
    rintro ⟨_, z⟩
    exact Bool.false_ne_true z)]
  refine wpAny_bind (wpAny_pure ?_)
  unfold setEpoch
  refine wpAny_bind (wpAny_bind (st_state ho (wpAny_pure ?_)))
  refine wpAny_bind (wpAny_newObj_type (wpAny_pure ⟨_, rfl, "set_iterator", _, ⟨_, Heap.get?_push_size _ rfl, rfl⟩, St.slot_next.lookup, ?_⟩))
  have e : slotW w m 0 = 0 := by unfold slotW; split <;> rfl
  unfold IObj at h
  rw [e] at h
  rw [esOf_size]
  exact h
theorem st_item {Q : Option Value → Shared → Prop} {e : Int × Value} (ho : s.heap.get? S = some (SW w tk m ep)) (hI : s.heap.get? I = some (IObj w m S ep i)) (hSI : S ≠ I) (hm : m < 256) (he : (walkOf w S tk m ep)[i]? = some e)
    (hQ : ∀ h', h'.get? I = some (IObj w m S ep (i + 1)) → Heap.SameBut I s.heap h' → Q (some e.2) { s with heap := h' }) : wpAny (model prog w) A (pyNext (.ref I)) Q E s := by
  have ty : s.TypeIs (.ref I) "set_iterator" := ⟨_, hI, rfl⟩
  have hi : i < (sub m).length := by rw [← walk_size w S tk m ep]; exact (Array.getElem?_eq_some_iff.mp he).1
  unfold pyNext
  refine wpAny_bind (wpAny_attempt (wpAny_callSpecial?_slot (name := Str.ofString "__next__") ty St.slot_next (wpAny_call_entry St.slot_next ty St.entry_next ?_ (St.args_next _))))
  unfold Builtin.«set_iterator.__next__»
  refine wpAny_bind (wpAny_pure ?_)
  refine wpAny_bind (wpAny_fieldsOf hI rfl ?_)
  dsimp only
  unfold setEntries
  refine wpAny_bind (wpAny_bind (st_state ho (wpAny_pure ?_)))
  dsimp only
  rw [if_neg (by rw [esOf_size]; simp)]
  refine wpAny_bind ?_
  rw [Int.toNat_natCast, Int.toNat_natCast, Int.toNat_natCast]
  refine st_walkStep ho hm (Nat.le_of_lt hi) ?_
  rw [he]
  show wpAny _ _ (setField (.ref I) 0 _ >>= _) _ _ s
  refine wpAny_bind (wpAny_setField_rec hI (by simp) fun g1 q1 b1 => ?_)
  refine wpAny_bind (wpAny_setField_rec q1 (by simp) fun g2 q2 b2 => ?_)
  refine wpAny_pure ⟨_, rfl, wpAny_pure (hQ g2 ?_ (b1.trans b2))⟩
  exact q2
theorem st_end {Q : Option Value → Shared → Prop} (hh : A.handled = none) (ho : s.heap.get? S = some (SW w tk m ep)) (hI : s.heap.get? I = some (IObj w m S ep (sub m).length)) (hSI : S ≠ I) (hm : m < 256)
    (hQ : ∀ h', Heap.ExtBut I s.heap h' → Q none { s with heap := h' }) : wpAny (model prog w) A (pyNext (.ref I)) Q E s := by
  have ty : s.TypeIs (.ref I) "set_iterator" := ⟨_, hI, rfl⟩
  unfold pyNext
  refine wpAny_bind (wpAny_attempt (wpAny_callSpecial?_slot (name := Str.ofString "__next__") ty St.slot_next (wpAny_call_entry St.slot_next ty St.entry_next ?_ (St.args_next _))))
  unfold Builtin.«set_iterator.__next__»
  refine wpAny_bind (wpAny_pure ?_)
  refine wpAny_bind (wpAny_fieldsOf hI rfl ?_)
  dsimp only
  unfold setEntries
  refine wpAny_bind (wpAny_bind (st_state ho (wpAny_pure ?_)))
  dsimp only
  rw [if_neg (by rw [esOf_size]; simp)]
  refine wpAny_bind ?_
  rw [Int.toNat_natCast, Int.toNat_natCast, Int.toNat_natCast]
  refine st_walkStep ho hm (Nat.le_refl _) ?_
  rw [Array.getElem?_eq_none (by rw [walk_size]; exact Nat.le_refl _)]
  show wpAny _ _ (setField (.ref I) 2 .none >>= _) _ _ s
  refine wpAny_bind (wpAny_setField hI rfl (by simp) ?_)
  show wpAny _ _ (newExc (.type "StopIteration") [] >>= _) _ _ _
  refine wpAny_bind ?_
  simp only [newExc, newTuple]
  refine wpAny_bind (wpAny_newObj_type ?_ (by size_fits))
  refine wpAny_bind (m := firstArgMember _ _) (wpAny_of_eq (a := Value.none) (by first | rfl | (simp only [firstArgMember]; rfl)) ?_)
  refine wpAny_newObj_type ?_ (by size_fits)
  simp only [raiseNew]
  refine wpAny_bind (wpAny_handled ?_)
  rw [show A.in1.handled = none from hh]
  refine wpAny_bind (wpAny_pure (wpAny_throw ?_))
  refine wpAny_bind (wpAny_isInstance (T := "StopIteration") (b := true) ⟨_, Heap.get?_push_size _ rfl, rfl⟩ isSubtype_stop ?_)
  exact wpAny_pure (hQ _ (((Heap.SameBut.update ..).extBut.push _).push _))
theorem st_self {Q : Value → Shared → Prop} (hI : s.heap.get? I = some (IObj w m S ep i)) (h : Q (.ref I) s) : wpAny (model prog w) A (pyIter (.ref I)) Q E s := by
  have ty : s.TypeIs (.ref I) "set_iterator" := ⟨_, hI, rfl⟩
  refine wpAny_pyIter_slot ty St.slot_iter (wpAny_call_entry St.slot_iter ty St.entry_iter (?_ : wpAny _ _ (ret (.ref I)) _ _ s) (St.args_iter _))
  exact wpAny_pure ⟨_, rfl, "set_iterator", _, ty, St.slot_next.lookup, h⟩
theorem st_hint {Q : Bool → Shared → Prop} (hT : s.TypeIs (.ref S) "set") (h : Q false s) : wpAny (model prog w) A (Builtin.List.listLengthHint (.ref S)) Q E s := by
  unfold Builtin.List.listLengthHint
  refine wpAny_bind (wpAny_specialOf hT PySem.F.slot_set_len.lookup ?_)
  generalize hid : ("set.__len__" : String) = id0
  wp_delta
  rw [show splitId id0 = some ("set", "__len__") from by subst hid; decide +kernel]
  subst hid
  refine wpAny_bind (wpAny_isInstance (T := "set") (b := true) hT (by rw [isSubtype_type]; kernel_rfl) ?_)
  refine wpAny_ite_split (fun z => absurd z (by decide)) (fun _ => wpAny_ite_split (fun _ => ?_) (fun z => absurd (by decide +kernel) z))
  exact wpAny_bind (wpAny_typeOf hT (wpAny_pure h))
end
theorem st_walks {prog : Program} {w : World} {A : Around} {S I : Addr} {tk : Nat → Tok} {m ep : Nat} (hh : A.handled = none) (hSI : S ≠ I) (hm : m < 256) :
    Walks prog w A I [I, S] [I] (sub m).length (fun i v => ∃ e, (walkOf w S tk m ep)[i]? = some e ∧ v = e.2) (fun i h => h.get? I = some (IObj w m S ep i) ∧ h.get? S = some (SW w tk m ep)) where
  sub := fun b hb => by rw [List.mem_singleton.mp hb]; exact List.mem_cons_self
  frame := fun _ _ _ st hk => ⟨hk I (by simp) _ st.1, hk S (by simp) _ st.2⟩
  item := fun i s Q E hi st hQ => by
    have hi' : i < (walkOf w S tk m ep).size := by rw [walk_size]; exact hi
    refine st_item st.2 st.1 hSI hm (Array.getElem?_eq_getElem hi') fun h' q b => ?_
    exact hQ _ h' s.toks ⟨_, Array.getElem?_eq_getElem hi', rfl⟩ ⟨q, (b.2 S hSI).trans st.2⟩ fun c o hc e => (b.2 c (fun z => hc (by simp [z]))).trans e
  done := fun s Q E st hQ => st_end hh st.2 st.1 hSI hm fun h' b => hQ h' s.toks fun c o hc e => b c o (fun z => hc (by simp [z])) e
  self := fun _ _ _ _ st hQ => st_self st.1 hQ
theorem st_src (prog : Program) (w : World) (S : Addr) (tk : Nat → Tok) {m : Nat} (ep : Nat) (hm : m < 256) : PySem.W.KdlSrc prog w "set" S S (sub m).length (fun i v => ∃ e, (walkOf w S tk m ep)[i]? = some e ∧ v = e.2) (fun h => h.get? S = some (SW w tk m ep)) where
  type := fun _ h => ⟨_, h, rfl⟩
  there := fun _ h => ⟨Heap.lt_size h, Heap.lt_size h⟩
  keep := fun _ _ h hk => hk S (.inl rfl) _ h
  notList := by decide
  notTuple := by decide
  hint := fun _ _ _ _ h hq => st_hint ⟨_, h, rfl⟩ hq
  iter := fun _ s hh h => ⟨_, _, (fun _ _ hq => st_pyIter h hq), st_walks hh (Nat.ne_of_lt (Heap.lt_size h)) hm, ⟨Heap.get?_push_size _ rfl, Heap.get?_push_of_some _ h⟩⟩
end Ty

end
section
set_option Elab.async false
set_option linter.all false
set_option maxRecDepth 100000
set_option maxHeartbeats 400000
namespace Ty
open PySem PySem.Spec PyProof.Rows L2
/-! ### sorted(set(list)) -/
theorem ints_of_es {tk : Nat → Tok} : ∀ {l : List (Int × Value)}, (∀ e ∈ l, ∃ k : Nat, e = ((k : Int), Value.int (k : Int) (tk k))) → IntsAre (l.map (·.2)) (l.map (·.1))
  | [], _ => .nil
  | e :: l, h => by
    obtain ⟨k, rfl⟩ := h e List.mem_cons_self
    exact .cons _ _ (ints_of_es fun e he => h e (List.mem_cons_of_mem _ he))
def subI (m : Nat) : List Int := (sub m).map fun k : Nat => (k : Int)
theorem subI_sorted (m : Nat) : (subI m).Pairwise (· ≤ ·) := by
  unfold subI
  rw [List.pairwise_map]
  exact (sub_sorted m).imp fun h => by omega
theorem walk_ints (w : World) (S : Addr) (tk : Nat → Tok) (m ep : Nat) : IntsAre ((walkOf w S tk m ep).toList.map (·.2)) ((walkOf w S tk m ep).toList.map (·.1)) ∧ ((walkOf w S tk m ep).toList.map (·.1)).Perm (subI m) := by
  have p := walk_perm w S tk m ep
  refine ⟨ints_of_es (tk := tk) fun e he => ?_, ?_⟩
  · obtain ⟨k, _, h⟩ := List.mem_map.mp (p.mem_iff.mp he)
    exact ⟨k, h.symm⟩
  · refine (p.map (·.1)).trans ?_
    unfold esL subI
    rw [List.map_map]
    exact List.Perm.refl _
theorem sorted_is {ns' : List Int} {m : Nat} (h1 : ns'.Perm (subI m)) (h2 : ns'.Pairwise (· ≤ ·)) : ns' = subI m :=
  List.Perm.eq_of_pairwise (le := fun a b : Int => a ≤ b) (fun a b _ _ h3 h4 => Int.le_antisymm h3 h4) h2 (subI_sorted m) h1
section
variable {prog : Program} {w : World} {A : Around} {E : Value → Shared → Prop} {s : Shared} {S : Addr} {tk : Nat → Tok} {m ep : Nat}
theorem st_collect {Q : List Value → Shared → Prop} (hh : A.handled = none) (ho : s.heap.get? S = some (SW w tk m ep)) (hm : m < 256)
    (hQ : ∀ h' tks, (∀ b o, s.heap.get? b = some o → h'.get? b = some o) → s.heap.objs.size ≤ h'.objs.size → Q ((walkOf w S tk m ep).toList.map (·.2)) { s with heap := h', toks := tks }) : wpAny (model prog w) A (collect (.ref S)) Q E s := by
  have nS : s.heap.objs.size ≠ S := Nat.ne_of_gt (Heap.lt_size ho)
  have h8 := sub_len m
  let Q1 : Value → Shared → Prop := fun v s' => ∃ h' tks acc c, v = .ref s.heap.objs.size ∧ s' = { s with heap := h', toks := tks } ∧ (∀ b o, b ≠ s.heap.objs.size → (s.heap.push { cls := .type "list", data := .seq ([] : List Value).toArray }).get? b = some o → h'.get? b = some o) ∧
    h'.get? s.heap.objs.size = some { cls := .type "list", dict := none, data := .seq acc c, slots := #[] } ∧ ItemsOf (fun i v => ∃ e, (walkOf w S tk m ep)[i]? = some e ∧ v = e.2) acc (sub m).length
  have run : wpAny (model prog w) A (runValue (.builtin "proto.collect" ⟨[.ref S], []⟩)) Q1 E s := by
    refine wpAny_runValue (codeAny_builtin PySem.F.entry_proto_collect ?_)
    rw [Around.under_plainId PySem.F.plain_proto_collect _]
    show wpAny _ A.in1 (newList [] >>= fun l => again (.builtin "list.__iadd__" ⟨[l, .ref S], []⟩)) _ _ s
    refine wpAny_bind (wpAny_newObj_type (wpAny_pure ⟨plainId_quiet PySem.F.plain_list_iadd _, codeAny_builtin PySem.F.entry_list_iadd ?_⟩))
    rw [Around.under_plainId PySem.F.plain_list_iadd _]
    show wpAny _ A.in1 (Builtin.List.listExtendWith (.ref s.heap.objs.size) (.ref S) (.ref s.heap.objs.size)) _ _ _
    have f1 : (s.heap.push { cls := .type "list", data := .seq ([] : List Value).toArray }).get? S = some (SW w tk m ep) := Heap.get?_push_of_some _ ho
    have f2 : (s.heap.push { cls := .type "list", data := .seq ([] : List Value).toArray }).get? s.heap.objs.size = some { cls := .type "list", data := .seq #[] 0 } := Heap.get?_push_size _ rfl
    exact PySem.W.kdl_extend (R := wants Q1 E) (s := { s with heap := s.heap.push { cls := .type "list", data := .seq ([] : List Value).toArray } }) (st_src prog w S tk ep hm) hh f1 s.heap.objs.size nS nS (.ref s.heap.objs.size) 0 f2
      (fun h' tks acc c kp hL hacc => ⟨h', tks, acc, c, rfl, rfl, kp, hL, hacc⟩) (by rw [sizeLine_eq]; omega)
  unfold collect
  refine wpAny_bind (wpAny_mono run (fun v s' hv => ?_) fun _ _ x => x)
  obtain ⟨h', tks, acc, c, rfl, rfl, kp, hL, hacc⟩ := hv
  show wpAny _ A (load s.heap.objs.size >>= _) _ _ _
  refine wpAny_bind (wpAny_load hL ?_)
  refine wpAny_pure ?_
  have e : acc.toList = (walkOf w S tk m ep).toList.map (·.2) := by
    apply List.ext_getElem?
    intro i
    rw [List.getElem?_map, Array.getElem?_toList, Array.getElem?_toList]
    by_cases hi : i < acc.size
    · obtain ⟨e, e1, e2⟩ := hacc.2 i _ (Array.getElem?_eq_getElem hi)
      rw [Array.getElem?_eq_getElem hi, e1, e2]
      rfl
    · have h1 : (walkOf w S tk m ep).size ≤ i := by rw [walk_size, ← hacc.1]; omega
      rw [Array.getElem?_eq_none (by omega), Array.getElem?_eq_none h1]
      rfl
  show Q acc.toList _
  rw [e]
  exact hQ h' tks (fun b o q => kp b o (Nat.ne_of_lt (Heap.lt_size q)) (Heap.get?_push_of_some _ q)) (Nat.le_of_lt (Heap.lt_size hL))
theorem st_sorted {Q : Value → Shared → Prop} (hh : A.handled = none) (ho : s.heap.get? S = some (SW w tk m ep)) (hm : m < 256)
    (hQ : ∀ h' tks q (out : Array Value) (c : Nat), (∀ b o, s.heap.get? b = some o → h'.get? b = some o) → s.heap.objs.size ≤ q → h'.get? q = some { cls := .type "list", data := .seq out c } → IntsAre out.toList (subI m) → Q (.ref q) { s with heap := h', toks := tks }) :
    wpAny (model prog w) A (call (.builtin "sorted") [.ref S]) Q E s := by
  refine Calls.call_function_entry kind_sorted plain_sorted entry_sorted (args_sorted1 _) ?_
  unfold Builtin.«sorted»
  refine wpAny_bind (m := checkCount "sorted" 1 1 _) (wpAny_pure ?_)
  refine wpAny_bind (st_collect (A := A.in1) hh ho hm fun h' tks kp hle => ?_)
  obtain ⟨hI, hP⟩ := walk_ints w S tk m ep
  generalize (walkOf w S tk m ep).toList.map (·.2) = vs at hI
  generalize (walkOf w S tk m ep).toList.map (·.1) = ns at hI hP
  have h64 : vs.length < 64 := by
    rw [hI.length, hP.length_eq]
    unfold subI
    rw [List.length_map]
    have := sub_len m
    omega
  refine wpAny_bind (wpAny_newList ?_)
  have hL : (h'.push (seqObj "list" vs.toArray 0)).get? h'.objs.size = some (seqObj "list" vs.toArray 0) := Heap.get?_push_size _ rfl
  refine wpAny_bind (wpAny_holding (wpAny_call_entry slot_list_sort ⟨_, hL, rfl⟩ entry_list_sort (list_sort_tree hL hI h64 fun out ns' a1 a2 a3 => ⟨_, rfl, ?_⟩) (args_list_sort _)))
  obtain ⟨c, hc⟩ := sortedHeap_at (vs := vs) (out := out) hL
  rw [sorted_is (a2.trans hP) a3] at a1
  refine wpAny_pure ⟨_, rfl, hQ _ tks h'.objs.size out c (fun b o q => ?_) hle hc a1⟩
  have hb : b < h'.objs.size := Heap.lt_size (kp b o q)
  rw [sortedHeap_old (Nat.ne_of_lt hb) (by rw [Heap.size_push]; exact Nat.lt_succ_of_lt hb)]
  exact Heap.get?_push_of_some _ (kp b o q)
end
/-- sorted(set(list)), ints from 0 to 7 -/
def maskL (ks : List Nat) : Nat := maskTo (fun i => ks.getD i 0) ks.length
theorem maskL_lt {ks : List Nat} (h8 : ∀ k ∈ ks, k < 8) : maskL ks < 256 := by
  refine maskTo_lt (n := ks.length) (fun i hi => ?_) _ (Nat.le_refl _)
  rw [List.getD_eq_getElem?_getD, List.getElem?_eq_getElem hi]
  exact h8 _ (List.getElem_mem hi)
theorem maskL_mem {ks : List Nat} (h8 : ∀ k ∈ ks, k < 8) {k : Nat} : k ∈ sub (maskL ks) ↔ k ∈ ks := by
  rw [sub_mem]
  unfold maskL
  rw [maskTo_bit]
  constructor
  · rintro ⟨_, j, hj, e⟩
    rw [List.getD_eq_getElem?_getD, List.getElem?_eq_getElem hj] at e
    rw [← e]
    exact List.getElem_mem hj
  · intro hk
    refine ⟨h8 k hk, ?_⟩
    obtain ⟨j, hj, e⟩ := List.getElem_of_mem hk
    refine ⟨j, hj, ?_⟩
    rw [List.getD_eq_getElem?_getD, List.getElem?_eq_getElem hj]
    exact e
def tSS (K : PySem.W.Frag) (t : TA) : TE := fun σ H Q => t σ H fun vs H1 => ∃ a ks, vs = [V.ref a] ∧ SqL K H1 a (vi (ks.map fun n : Nat => (n : Int))) ∧ (∀ k ∈ ks, k < 8) ∧ ∀ q, H1 q = Option.none → Q (.ref q) (upd H1 q (.lst (vi (subI (maskL ks)))))
theorem pe_sortset {X : Cx} {e : Expr} {t : TA} {p1 p2 pos pos2 : Pos} (hc : X.calm = true) (ha : PA X [e] t) (hgl : Gl X "sorted") (hml : X.mg "sorted" = none) (hgs : Gl X "set") (hms : X.mg "set" = none)
    (h1 : starEach [.Call (.Name "set" p2) [e] [] pos2] X.env = [(false, eval (.Call (.Name "set" p2) [e] [] pos2) X.env)] := by rfl) (h2 : starEach [e] X.env = (false, eval e X.env) :: starEach [] X.env := by rfl) :
    PE X (.Call (.Name "sorted" p1) [.Call (.Name "set" p2) [e] [] pos2] [] pos) (tSS X.K t) := by
  intro pins s σ H Q I h
  refine wpAny_Call_Name_kw (ld_blt I hgl hml PyProof.Rows.boot_sorted ?_)
  refine PyProof.Rows.callWith_builtin1 ?_ h1 rfl
  rw [h1]
  show wpAny _ _ (spliced ((false, eval (.Call (.Name "set" p2) [e] [] pos2) X.env) :: backTo pos [])) _ _ s
  refine Calls.spliced_cons ?_
  refine wpAny_Call_Name_kw (ld_blt I hgs hms PyProof.Rows.boot_set ?_)
  refine PyProof.Rows.callWith_type1 (thn (ha pos2 pins s σ H _ I h) fun us s1 ⟨vs, H1, I1, r1, a, ks, ev, hs, h8, q⟩ => ?_) h2 rfl
  obtain ⟨its, rv, hL, _⟩ := I1.list hs
  subst ev
  rw [Vals.ref1 r1]
  refine st_call (items := its.toArray) (I1.ok.hd hc) hL.isList (by simpa using rv.ints) h8 fun h' tks tk ep hS kp => ?_
  have kp' : ∀ b o, s1.heap.get? b = some o → h'.get? b = some o := fun b o e => kp b o (Heap.lt_size e) e
  refine Calls.spliced_nil ?_
  refine st_sorted (s := { s1 with heap := h', toks := tks }) (I1.ok.hd hc) hS (maskL_lt h8) fun g tks2 qa out c kp2 hle hq hI => ?_
  have hle1 : s1.heap.objs.size ≤ qa := Nat.le_trans (Nat.le_of_lt (Heap.lt_size hS)) hle
  have hlen : (vi (subI (maskL ks))).length ≤ sizeLine := by
    unfold vi subI
    rw [List.length_map, List.length_map, sizeLine_eq]
    have := sub_len (maskL ks)
    omega
  exact ⟨.ref qa, upd H1 qa (.lst (vi (subI (maskL ks)))), I1.laid (t' := tks2) (fun b o e => kp2 b o (kp' b o e)) hle1 ⟨hlen, out.toList, c, vals_of_ints hI, by simpa using hq⟩, rfl, q qa (I1.hok.fresh hle1)⟩
end Ty

end
section
set_option Elab.async false
set_option linter.all false
set_option maxRecDepth 100000
set_option maxHeartbeats 400000
namespace Ty
open PySem PySem.Spec PyProof.Rows L2
section
variable {P : Program} {w : World} {K : PySem.W.Frag} {mg : Str → Option Value} {base : Heap}
variable {CW CT : Addr}
/-! ### the most uneven mould -/
def mouldsOf (a : Su68.Abs) : List Nat := (List.range a.tyres.length).map fun i => (a.tyre i).mould
theorem moulds_8 {a : Su68.Abs} (h : AbsOk a) : ∀ k ∈ mouldsOf a, k < 8 := by
  intro k hk
  obtain ⟨i, hi, rfl⟩ := List.mem_map.mp hk
  have hi := List.mem_range.mp hi
  unfold Su68.Abs.tyre
  rw [List.getD_eq_getElem?_getD, List.getElem?_eq_getElem hi]
  exact (h.tyre _ (List.getElem_mem hi)).2
def Ms (a : Su68.Abs) : List Nat := sub (maskL (mouldsOf a))
theorem ms_mem {a : Su68.Abs} (h : AbsOk a) {m : Nat} : m ∈ Ms a ↔ a.ofMould m ≠ [] := by
  unfold Ms
  rw [maskL_mem (moulds_8 h)]
  unfold mouldsOf
  rw [List.mem_map]
  constructor
  · rintro ⟨i, hi, e⟩ z
    have : i ∈ a.ofMould m := ofMould_mem.mpr ⟨List.mem_range.mp hi, e⟩
    rw [z] at this
    cases this
  · intro hne
    obtain ⟨i, hi⟩ := List.exists_mem_of_ne_nil _ hne
    obtain ⟨h1, h2⟩ := ofMould_mem.mp hi
    exact ⟨i, List.mem_range.mpr h1, h2⟩
theorem fold_filter {α β : Type} (f : β → α → β) (p : α → Bool) : ∀ (l : List α) (b : β), (∀ x ∈ l, p x = false → ∀ b, f b x = b) → (l.filter p).foldl f b = l.foldl f b
  | [], b, _ => rfl
  | x :: l, b, h => by
    have ih := fun b => fold_filter f p l b fun y hy => h y (List.mem_cons_of_mem _ hy)
    cases hp : p x with
    | true => rw [List.filter_cons_of_pos hp, List.foldl_cons, List.foldl_cons, ih]
    | false =>
      rw [List.filter_cons_of_neg (by rw [hp]; decide), List.foldl_cons, h x List.mem_cons_self hp, ih]
theorem uneven_ms {a : Su68.Abs} (h : AbsOk a) : a.uneven = (Ms a).foldl (ustep a) none := by
  rw [← unevenTo_all]
  unfold unevenTo Ms sub
  rw [fold_filter]
  intro x hx hp b
  have hx8 := List.mem_range.mp hx
  have : ¬ x ∈ Ms a := fun z => by
    have := (sub_mem.mp z).2
    rw [this] at hp
    cases hp
  rw [ms_mem h] at this
  unfold ustep
  rw [if_pos (Classical.not_not.mp this)]
def pstep (a : Su68.Abs) (n m : Nat) : Nat := if a.sumPeaks n * (a.ofMould m).length < a.sumPeaks m * (a.ofMould n).length then m else n
theorem fold_some (a : Su68.Abs) : ∀ (l : List Nat) (n : Nat), (∀ m ∈ l, a.ofMould m ≠ []) → l.foldl (ustep a) (some n) = some (l.foldl (pstep a) n)
  | [], n, _ => rfl
  | m :: l, n, h => by
    have e : ustep a (some n) m = some (pstep a n m) := by
      unfold ustep pstep
      rw [if_neg (h m List.mem_cons_self)]
      dsimp only
      split <;> rfl
    rw [List.foldl_cons, List.foldl_cons, e]
    exact fold_some a l _ fun x hx => h x (List.mem_cons_of_mem _ hx)
theorem pstep_self (a : Su68.Abs) (n : Nat) : pstep a n n = n := by
  unfold pstep
  split <;> rfl
theorem ms_ne {a : Su68.Abs} (h : AbsOk a) (ht : a.tyres ≠ []) : ∃ m0 rest, Ms a = m0 :: rest := by
  have ht0 : 0 < a.tyres.length := List.length_pos_iff.mpr ht
  have hm : (a.tyre 0).mould ∈ Ms a := (ms_mem h).mpr fun z => by
    have : 0 ∈ a.ofMould (a.tyre 0).mould := ofMould_mem.mpr ⟨ht0, rfl⟩
    rw [z] at this
    cases this
  cases e : Ms a with
  | nil => rw [e] at hm; cases hm
  | cons m0 rest => exact ⟨m0, rest, rfl⟩
theorem uneven_is {a : Su68.Abs} (h : AbsOk a) {m0 : Nat} {rest : List Nat} (e : Ms a = m0 :: rest) : a.uneven = some ((Ms a).foldl (pstep a) m0) := by
  have hne : ∀ m ∈ Ms a, a.ofMould m ≠ [] := fun m hm => (ms_mem h).mp hm
  rw [uneven_ms h, e]
  rw [e] at hne
  rw [List.foldl_cons, List.foldl_cons, pstep_self]
  have e1 : ustep a none m0 = some m0 := by
    unfold ustep
    rw [if_neg (hne m0 List.mem_cons_self)]
  rw [e1]
  exact fold_some a rest m0 fun x hx => hne x (List.mem_cons_of_mem _ hx)
theorem greater_is (a : Su68.Abs) (m n : Nat) : decide ((peaksI a n).sum * ((peaksI a m).length : Int) < (peaksI a m).sum * ((peaksI a n).length : Int)) = decide (a.sumPeaks n * (a.ofMould m).length < a.sumPeaks m * (a.ofMould n).length) := by
  rw [peaksI_sum, peaksI_sum, peaksI_len, peaksI_len]
  refine decide_eq_decide.mpr ?_
  rw [← Int.natCast_mul, ← Int.natCast_mul]
  exact Int.ofNat_lt
abbrev s_tell_uneven : Stmt := top 72
theorem sc_tell_uneven : FnScope ["works", "numbers", "told", "moulds", "found", "peaks", "mould", "others", "tyre"] ["works", "numbers", "told"] (defScope s_tell_uneven) := ⟨rfl, rfl, rfl, by decide +kernel, rfl, by decide +kernel, by decide +kernel⟩
theorem ok_tell_uneven (D : Def K mg "tell_uneven" s_tell_uneven) (T : Txt2 K mg CW CT) (T4 : Txt4 mg) (Pm : FnAt P w K mg base 2 "peaks_of_mould" ["works", "mould"] (spPM CW CT)) (Gm : FnAt P w K mg base 1 "have_greater_mean" ["peaks", "others"] spGM) : FnAt P w K mg base 3 "tell_uneven" ["works", "numbers", "told"] (spDo CW CT (fun _ _ _ => True) (fun _ _ => .uneven)) := by
  obtain ⟨f, fd, hm, F⟩ := D
  refine ⟨f, fd, hm, F.kp, F.binds (ps := ["works", "numbers", "told"]) (fun _ _ _ _ _ _ us hl => match us, hl with | [_, _, _], _ => rfl), F.ok sc_tell_uneven (fun vs H Q E h => ?_) (fun cdv A outer s H vs Q E hr h => ?_)⟩
  · obtain ⟨p, n, tl, ns, told, k, a, rfl, _⟩ := h; rfl
  · obtain ⟨p, n, tl, ns, told, k, a, rfl, R, hn, ht, _, post⟩ := h
    refine ⟨_, (pss_cons (ps_if (pt_cmpR op_eq (pe_callB call_len_seq (by rfl) T.len PySem.boot_len (pa_cons (pe_fld (pv 0) rfl) pa_nil)) pe_int (nomark _)) (pss_one (ps_ret (pe_lst (pa_cons (pg T4.NONE_THERE) pa_nil)))) pss_nil) (pss_cons (ps_set (i := 3) sc_tell_uneven.nd rfl (by first | exact Or.inl rfl | exact Or.inr rfl) (pe_sortset rfl (pa_cons (pe_lc (own := [("tyre", 8)]) rfl sc_tell_uneven.nd (pi_list (pe_fld (pv 0) rfl)) (blkOk_by (by show blkC ["works", "numbers", "told", "moulds", "found", "peaks", "mould", "others", "tyre"] (defScope s_tell_uneven) _ _ = true; decide +kernel)) (fun _ _ _ _ _ => pg_name (i := 8) sc_tell_uneven.nd rfl (Or.inl rfl)) (fun _ _ _ _ _ => pts_nil)
      (fun _ _ _ _ _ => (show PE _ _ (tFld K _ _) from pe_fld (pv 8) rfl))) pa_nil) (by rfl) T4.sorted (by rfl) T.set)) (pss_cons (ps_set (i := 4) sc_tell_uneven.nd rfl (by first | exact Or.inl rfl | exact Or.inr rfl) (pe_ix ix_list (pv 3) pe_int (fun _ _ => rfl))) (pss_cons (ps_set (i := 5) sc_tell_uneven.nd rfl (by first | exact Or.inl rfl | exact Or.inr rfl) (pf Pm (hr.mono (by decide)) (pa_cons (pv 0) (pa_cons (pv 4) pa_nil)))) (pss_cons (ps_for PassesOwn.never rfl (pi_list (pv 3)) (pg_name (i := 6) sc_tell_uneven.nd rfl (Or.inl rfl)) (pss_cons (ps_set (i := 7) sc_tell_uneven.nd rfl (by first | exact Or.inl rfl | exact Or.inr rfl) (pf Pm (hr.mono (by decide)) (pa_cons (pv 0) (pa_cons (pv 6) pa_nil)))) (pss_one (ps_if (pt_val (pf Gm (hr.mono (by decide)) (pa_cons (pv 7) (pa_cons (pv 5) pa_nil)))) (pss_cons (ps_set (i := 4) sc_tell_uneven.nd rfl (by first | exact Or.inl rfl | exact Or.inr rfl) (pv 6)) (pss_one (ps_set (i := 5) sc_tell_uneven.nd rfl (by first | exact Or.inl rfl | exact Or.inr rfl) (pv 7)))) pss_nil)))) (pss_one (ps_ret (pe_lst (pa_cons (pv 4) (pa_cons (pe_callB (cr_sum rfl) (by rfl) T.sum boot_sum (pa_cons (pv 5) pa_nil)) (pa_cons (pe_callB call_len_seq (by rfl) T.len PySem.boot_len (pa_cons (pv 5) pa_nil)) pa_nil))))))))))), ?_⟩
    have post := post
    have h60 := R.ok.t60
    have hm : Su68.does a .uneven = (match a.uneven with
      | none => (a, Su68.no (-6))
      | some m => (a, Su68.num m [(a.sumPeaks m : Int), ((a.ofMould m).length : Int)])) := rfl
    refine ⟨_, rfl, p, CW, k.dx, _, _, rfl, R.ins, T.clW, T.nt, wf_tyres .., k.t, _, rfl, .inl (SqL.of R.tl), rfl, _, rfl, ?_⟩
    rw [L2.dec_int, tlen' R]
    by_cases ht : a.tyres = []
    · rw [show (((a.tyres.length : Nat) : Int) == 0) = true by rw [ht]; rfl]
      rw [uneven_none ht] at hm
      exact iteT ⟨line (by simp), fun q hq => ro R post (Su68.no (-6)) hm (Same.new hq) hq upd_same⟩
    · have ht0 : 0 < a.tyres.length := List.length_pos_iff.mpr ht
      rw [show (((a.tyres.length : Nat) : Int) == 0) = false by rw [beq_eq_false_iff_ne]; omega]
      obtain ⟨m0, rest, eMs⟩ := ms_ne R.ok ht
      rw [uneven_is R.ok eMs] at hm
      refine iteF ⟨_, rfl, p, CW, k.dx, _, _, rfl, R.ins, T.clW, T.nt, wf_tyres .., k.t, rfl, ⟨_, SqL.of R.tl⟩, fun Dd hD => ?_⟩
      refine lc_mapI (K := K) (a := k.t) (xs := k.ta.map V.ref) (SqL.of R.tl) hD (fun i => V.int ((a.tyre i).mould : Int)) (by rw [tlen' R]; omega) (fun _ => rfl) (fun i x H' Q' hx hs kk => ?_) (fun H1 s1 hd => ?_)
      · obtain ⟨hi, c, dt, ra, rfl, e1, e2, e3, e4, e5⟩ := (R.same hs).tyre_at hx
        exact ⟨_, rfl, c, CT, dt, _, _, rfl, e2, T.clT, T.tm, tf_mould .., kk _ (Same.refl _)⟩
      · have hl : At H1 Dd ((mouldsOf a).map fun n : Nat => (n : Int)) := hd.trans (by
          unfold vi mouldsOf
          rw [List.map_map, List.map_map, tlen' R]
          rfl)
        refine ⟨Dd, mouldsOf a, rfl, SqL.of hl, moulds_8 R.ok, fun mo hmo => ?_⟩
        have s2 : Same H (upd H1 mo (.lst (vi (subI (maskL (mouldsOf a)))))) := s1.trans (Same.new hmo)
        have hMo : At (upd H1 mo (.lst (vi (subI (maskL (mouldsOf a)))))) mo (subI (maskL (mouldsOf a))) := upd_same
        have eS : subI (maskL (mouldsOf a)) = (Ms a).map fun n : Nat => (n : Int) := rfl
        rw [eS] at hMo s2 ⊢
        generalize upd H1 mo (.lst (vi ((Ms a).map fun n : Nat => (n : Int)))) = H2 at *
        have g0 : (vi ((Ms a).map fun n : Nat => (n : Int)))[0]? = some (V.int (m0 : Int)) := vi_get (by rw [eMs]; rfl)
        refine ⟨_, rfl, mo, _, _, _, rfl, rfl, SqL.of hMo, atI_nat (j := 0) g0, ?_⟩
        refine ⟨_, rfl, _, rfl, p, k, true, a, m0, rfl, R.same s2, fun H3 pk s3 pk0 hpk => ?_⟩
        have s4 := s2.trans s3
        refine ⟨_, rfl, mo, rfl, ⟨_, SqL.of (s3 _ _ hMo)⟩, for_list (K := K) (a := mo) (xs := vi ((Ms a).map fun n : Nat => (n : Int))) (fun i σ H' => ∃ pk v6 v7 v8, σ = [some (.ref p), some (.ref n), some (.ref tl), some (.ref mo), some (.int ((((Ms a).take i).foldl (pstep a) m0 : Nat) : Int)), some (.ref pk), v6, v7, v8] ∧ Same H3 H' ∧ At H' pk (peaksI a (((Ms a).take i).foldl (pstep a) m0)))
          ⟨pk, _, _, _, rfl, Same.refl _, hpk⟩ (fun i σ H' _ ⟨_, _, _, _, _, s5, _⟩ => SqL.of (s5 _ _ (s3 _ _ hMo))) ?_ ?_⟩
        · rintro i y σ H' hi ⟨pk, v6, v7, v8, rfl, s5, hpk5⟩
          have hi' : i < (Ms a).length := by have := (List.getElem?_eq_some_iff.mp hi).1; simpa using this
          have hy : (vi ((Ms a).map fun n : Nat => (n : Int)))[i]? = some (V.int ((Ms a)[i] : Int)) := vi_get (by rw [List.getElem?_map, List.getElem?_eq_getElem hi']; rfl)
          rw [hy] at hi
          obtain rfl := Option.some.inj hi
          have et : (Ms a).take (i + 1) = (Ms a).take i ++ [(Ms a)[i]] := by rw [List.take_add_one, List.getElem?_eq_getElem hi']; rfl
          have es : ((Ms a).take (i + 1)).foldl (pstep a) m0 = pstep a (((Ms a).take i).foldl (pstep a) m0) (Ms a)[i] := by rw [et, List.foldl_append]; rfl
          rw [es]
          generalize ((Ms a).take i).foldl (pstep a) m0 = f0 at *
          generalize (Ms a)[i] = mi at *
          refine ⟨_, rfl, _, rfl, p, k, true, a, mi, rfl, R.same (s4.trans s5), fun H6 ot s6 ot0 hot => ?_⟩
          have l1 := ofMould_60 R.ok mi
          have l2 := ofMould_60 R.ok f0
          refine ⟨_, rfl, _, rfl, ot, pk, peaksI a mi, peaksI a f0, rfl, hot, s6 _ _ hpk5, ⟨by rw [peaksI_len]; exact l1, by rw [peaksI_len]; exact l2⟩, _, rfl, ?_⟩
          rw [greater_is]
          by_cases hg : a.sumPeaks f0 * (a.ofMould mi).length < a.sumPeaks mi * (a.ofMould f0).length
          · rw [decide_eq_true hg]
            have e : pstep a f0 mi = mi := if_pos hg
            rw [e]
            exact iteT ⟨_, rfl, _, rfl, ot, _, _, _, rfl, s5.trans s6, hot⟩
          · rw [decide_eq_false hg]
            have e : pstep a f0 mi = f0 := if_neg hg
            rw [e]
            exact iteF ⟨pk, _, _, _, rfl, s5.trans s6, s6 _ _ hpk5⟩
        · rintro σ H' ⟨pk, v6, v7, v8, rfl, s5, hpk5⟩
          have el : (vi ((Ms a).map fun n : Nat => (n : Int))).length = (Ms a).length := by rw [vi_len, List.length_map]
          rw [el, List.take_length] at hpk5 ⊢
          generalize (Ms a).foldl (pstep a) m0 = mm at *
          have s6 := s4.trans s5
          refine ⟨_, rfl, _, rfl, pk, peaksI a mm, rfl, SqL.of hpk5, _, rfl, pk, _, rfl, .inl (SqL.of hpk5), line (by simp), fun q hq => ?_⟩
          refine ro R post (Su68.num mm [(a.sumPeaks mm : Int), ((a.ofMould mm).length : Int)]) hm (s6.trans (Same.new hq)) (s6.free hq) ?_
          rw [peaksI_sum, vi_len, peaksI_len]
          exact upd_same
end
end Ty

end
section
set_option Elab.async false
set_option linter.all false
set_option maxRecDepth 100000
set_option maxHeartbeats 2000000
namespace Ty
open PySem PySem.Spec PyProof.Rows L2
section
variable {P : Program} {w : World} {K : PySem.W.Frag} {mg : Str → Option Value} {base : Heap}
variable {CW CT : Addr}
/-! ### the head -/
def GFn (K : PySem.W.Frag) (x : Str) (st : Stmt) : Prop := ∃ f fd, PySem.W.nsIn K mainGlobals x = some (some (.ref f)) ∧ Fun K x x st f fd
theorem gfn_mk {K : PySem.W.Frag} {x : Str} {st : Stmt} {f : Addr} {oc : Value} {od an : Option Addr} {osl : Array (Option Value)} {kV doc pm cdv ct : Value} (a : PySem.W.nsIn K mainGlobals x = some (some (.ref f))) (l : K.lookup f = some ⟨oc, od, .func (PySem.W.fnOf x x (defArgs st) (defBody st) (defScope st) .none kV doc pm an cdv ct), osl⟩)
    (c : PySem.W.codeIn K cdv x = true) (k : PySem.W.keepIn K (.ref f) = true) : GFn K x st := ⟨f, _, a, fun_mk l c k⟩
theorem GFn.def_ {h : Heap} {x : Str} {st : Stmt} (g : GFn K x st) (X : K.In h) (G : h.Ns mainGlobals mg) : Def K mg x st := by
  obtain ⟨f, fd, a, F⟩ := g
  exact ⟨f, fd, PySem.W.mg_of X G a, F⟩
def GMt (K : PySem.W.Frag) (C : Addr) (m qual : Str) (st : Stmt) : Prop := ∃ f fd, PySem.W.findIn K (.ref C) m = some (some (.ref f)) ∧ PySem.W.isFn K (.ref f) = true ∧ Fun K m qual st f fd
theorem gmt_mk {K : PySem.W.Frag} {C : Addr} {m qual : Str} {st : Stmt} {f : Addr} {oc : Value} {od an : Option Addr} {osl : Array (Option Value)} {kV doc pm cdv ct : Value} (a : PySem.W.findIn K (.ref C) m = some (some (.ref f))) (i : PySem.W.isFn K (.ref f) = true) (l : K.lookup f = some ⟨oc, od, .func (PySem.W.fnOf m qual (defArgs st) (defBody st) (defScope st) .none kV doc pm an cdv ct), osl⟩)
    (c : PySem.W.codeIn K cdv qual = true) (k : PySem.W.keepIn K (.ref f) = true) : GMt K C m qual st := ⟨f, _, a, i, fun_mk l c k⟩
def GCon (K : PySem.W.Frag) (x : Str) (i : Int) : Prop := ∃ t, PySem.W.nsIn K mainGlobals x = some (some (.int i t))
theorem gcon_mk {K : PySem.W.Frag} {x : Str} {i : Int} {t : Tok} (a : PySem.W.nsIn K mainGlobals x = some (some (.int i t))) : GCon K x i := ⟨t, a⟩
theorem GCon.gi {h : Heap} {x : Str} {i : Int} (g : GCon K x i) (X : K.In h) (G : h.Ns mainGlobals mg) : GI mg x (.int i) := by
  obtain ⟨t, a⟩ := g
  exact ⟨_, PySem.W.mg_of X G a, ⟨t, rfl⟩⟩
def GTup (K : PySem.W.Frag) (x : Str) (vs : List V) : Prop := ∃ a, PySem.W.nsIn K mainGlobals x = some (some (.ref a)) ∧ ∀ H : Hp, SqT K H a vs
theorem gtup_mk {K : PySem.W.Frag} {x : Str} {vs : List V} {a : Addr} {oc : Value} {od : Option Addr} {its : Array Value} {n : Nat} {sl : Array (Option Value)} (h1 : PySem.W.nsIn K mainGlobals x = some (some (.ref a))) (h2 : K.lookup a = some ⟨oc, od, .seq its n, sl⟩) (h3 : oc = .type "tuple") (h4 : its.size ≤ 1000) (h5 : Vals vs its.toList) : GTup K x vs :=
  ⟨a, h1, fun H => .inr ⟨_, its, n, h2, h3, rfl, line (by omega), h5⟩⟩
theorem GTup.gi {h : Heap} {x : Str} {vs : List V} (g : GTup K x vs) (X : K.In h) (G : h.Ns mainGlobals mg) : ∃ a, GI mg x (.ref a) ∧ ∀ H : Hp, SqT K H a vs := by
  obtain ⟨a, h1, h2⟩ := g
  exact ⟨a, ⟨_, PySem.W.mg_of X G h1, rfl⟩, h2⟩
def GDefs (K : PySem.W.Frag) (names : List Str) : Prop := ∃ fs : List Addr, GTup K "DEFS" (fs.map V.ref) ∧ fs.length = names.length ∧ ∀ (i : Nat) (x : Str), names[i]? = some x → ∃ f : Addr, fs[i]? = some f ∧ PySem.W.nsIn K mainGlobals x = some (some (.ref f))
theorem GDefs.at_ {h : Heap} {names : List Str} (g : GDefs K names) (X : K.In h) (G : h.Ns mainGlobals mg) : DefsAt K mg names := by
  obtain ⟨fs, t, hl, hn⟩ := g
  obtain ⟨a, h1, h2⟩ := t.gi X G
  refine ⟨a, fs, h1, h2, hl, fun i x hx => ?_⟩
  obtain ⟨f, e1, e2⟩ := hn i x hx
  exact ⟨f, e1, PySem.W.mg_of X G e2⟩
theorem gdefs_mk {K : PySem.W.Frag} {f0 f1 f2 f3 f4 f5 f6 f7 f8 f9 f10 f11 f12 f13 f14 f15 f16 f17 f18 f19 f20 f21 f22 a : Addr} {oc : Value} {od : Option Addr} {its : Array Value} {n : Nat} {sl : Array (Option Value)} (n0 : PySem.W.nsIn K mainGlobals "begin" = some (some (.ref f0))) (n1 : PySem.W.nsIn K mainGlobals "add_grade" = some (some (.ref f1))) (n2 : PySem.W.nsIn K mainGlobals "add_machine" = some (some (.ref f2))) (n3 : PySem.W.nsIn K mainGlobals "add_tyre" = some (some (.ref f3))) (n4 : PySem.W.nsIn K mainGlobals "measure_again" = some (some (.ref f4))) (n5 : PySem.W.nsIn K mainGlobals "turn_tyre" = some (some (.ref f5))) (n6 : PySem.W.nsIn K mainGlobals "add_wheel" = some (some (.ref f6))) (n7 : PySem.W.nsIn K mainGlobals "mount_tyre" = some (some (.ref f7))) (n8 : PySem.W.nsIn K mainGlobals "match_tyres" = some (some (.ref f8))) (n9 : PySem.W.nsIn K mainGlobals "weigh_tyre" = some (some (.ref f9))) (n10 : PySem.W.nsIn K mainGlobals "tell_peak" = some (some (.ref f10))) (n11 : PySem.W.nsIn K mainGlobals "tell_step" = some (some (.ref f11))) (n12 : PySem.W.nsIn K mainGlobals "tell_wave" = some (some (.ref f12))) (n13 : PySem.W.nsIn K mainGlobals "tell_grade" = some (some (.ref f13))) (n14 : PySem.W.nsIn K mainGlobals "tell_why" = some (some (.ref f14))) (n15 : PySem.W.nsIn K mainGlobals "tell_tyres_of_grade" = some (some (.ref f15))) (n16 : PySem.W.nsIn K mainGlobals "tell_mould" = some (some (.ref f16))) (n17 : PySem.W.nsIn K mainGlobals "tell_uneven" = some (some (.ref f17))) (n18 : PySem.W.nsIn K mainGlobals "tell_alarm" = some (some (.ref f18))) (n19 : PySem.W.nsIn K mainGlobals "look_at_tyre" = some (some (.ref f19))) (n20 : PySem.W.nsIn K mainGlobals "tell_points" = some (some (.ref f20))) (n21 : PySem.W.nsIn K mainGlobals "tell_sums" = some (some (.ref f21))) (n22 : PySem.W.nsIn K mainGlobals "tell_state" = some (some (.ref f22))) (h1 : PySem.W.nsIn K mainGlobals "DEFS" = some (some (.ref a))) (h2 : K.lookup a = some ⟨oc, od, .seq its n, sl⟩) (h3 : oc = .type "tuple") (h4 : its.toList = [.ref f0, .ref f1, .ref f2, .ref f3, .ref f4, .ref f5, .ref f6, .ref f7, .ref f8, .ref f9, .ref f10, .ref f11, .ref f12, .ref f13, .ref f14, .ref f15, .ref f16, .ref f17, .ref f18, .ref f19, .ref f20, .ref f21, .ref f22]) : GDefs K names := by
  refine ⟨[f0, f1, f2, f3, f4, f5, f6, f7, f8, f9, f10, f11, f12, f13, f14, f15, f16, f17, f18, f19, f20, f21, f22], gtup_mk h1 h2 h3 (by rw [← Array.length_toList, h4]; simp) ?_, rfl, fun i x hx => ?_⟩
  · rw [h4]
    exact .cons rfl (.cons rfl (.cons rfl (.cons rfl (.cons rfl (.cons rfl (.cons rfl (.cons rfl (.cons rfl (.cons rfl (.cons rfl (.cons rfl (.cons rfl (.cons rfl (.cons rfl (.cons rfl (.cons rfl (.cons rfl (.cons rfl (.cons rfl (.cons rfl (.cons rfl (.cons rfl (.nil)))))))))))))))))))))))
  · match i, hx with
    | 0, hx =>
      have e : ("begin" : Str) = x := Option.some.inj hx
      subst e
      exact ⟨f0, rfl, n0⟩
    | 1, hx =>
      have e : ("add_grade" : Str) = x := Option.some.inj hx
      subst e
      exact ⟨f1, rfl, n1⟩
    | 2, hx =>
      have e : ("add_machine" : Str) = x := Option.some.inj hx
      subst e
      exact ⟨f2, rfl, n2⟩
    | 3, hx =>
      have e : ("add_tyre" : Str) = x := Option.some.inj hx
      subst e
      exact ⟨f3, rfl, n3⟩
    | 4, hx =>
      have e : ("measure_again" : Str) = x := Option.some.inj hx
      subst e
      exact ⟨f4, rfl, n4⟩
    | 5, hx =>
      have e : ("turn_tyre" : Str) = x := Option.some.inj hx
      subst e
      exact ⟨f5, rfl, n5⟩
    | 6, hx =>
      have e : ("add_wheel" : Str) = x := Option.some.inj hx
      subst e
      exact ⟨f6, rfl, n6⟩
    | 7, hx =>
      have e : ("mount_tyre" : Str) = x := Option.some.inj hx
      subst e
      exact ⟨f7, rfl, n7⟩
    | 8, hx =>
      have e : ("match_tyres" : Str) = x := Option.some.inj hx
      subst e
      exact ⟨f8, rfl, n8⟩
    | 9, hx =>
      have e : ("weigh_tyre" : Str) = x := Option.some.inj hx
      subst e
      exact ⟨f9, rfl, n9⟩
    | 10, hx =>
      have e : ("tell_peak" : Str) = x := Option.some.inj hx
      subst e
      exact ⟨f10, rfl, n10⟩
    | 11, hx =>
      have e : ("tell_step" : Str) = x := Option.some.inj hx
      subst e
      exact ⟨f11, rfl, n11⟩
    | 12, hx =>
      have e : ("tell_wave" : Str) = x := Option.some.inj hx
      subst e
      exact ⟨f12, rfl, n12⟩
    | 13, hx =>
      have e : ("tell_grade" : Str) = x := Option.some.inj hx
      subst e
      exact ⟨f13, rfl, n13⟩
    | 14, hx =>
      have e : ("tell_why" : Str) = x := Option.some.inj hx
      subst e
      exact ⟨f14, rfl, n14⟩
    | 15, hx =>
      have e : ("tell_tyres_of_grade" : Str) = x := Option.some.inj hx
      subst e
      exact ⟨f15, rfl, n15⟩
    | 16, hx =>
      have e : ("tell_mould" : Str) = x := Option.some.inj hx
      subst e
      exact ⟨f16, rfl, n16⟩
    | 17, hx =>
      have e : ("tell_uneven" : Str) = x := Option.some.inj hx
      subst e
      exact ⟨f17, rfl, n17⟩
    | 18, hx =>
      have e : ("tell_alarm" : Str) = x := Option.some.inj hx
      subst e
      exact ⟨f18, rfl, n18⟩
    | 19, hx =>
      have e : ("look_at_tyre" : Str) = x := Option.some.inj hx
      subst e
      exact ⟨f19, rfl, n19⟩
    | 20, hx =>
      have e : ("tell_points" : Str) = x := Option.some.inj hx
      subst e
      exact ⟨f20, rfl, n20⟩
    | 21, hx =>
      have e : ("tell_sums" : Str) = x := Option.some.inj hx
      subst e
      exact ⟨f21, rfl, n21⟩
    | 22, hx =>
      have e : ("tell_state" : Str) = x := Option.some.inj hx
      subst e
      exact ⟨f22, rfl, n22⟩
    | i + 23, hx => simp [names] at hx
theorem all_mk {h : Heap} {fa : Addr} (X : K.In h) (G : h.Ns mainGlobals mg) (hfa : mg "answers" = some (.ref fa)) (g_turned : GFn K "turned" s_turned) (g_together : GFn K "together" s_together) (g_taken_off : GFn K "taken_off" s_taken_off) (g_halved : GFn K "halved" s_halved) (g_peak : GFn K "peak" s_peak) (g_greatest_step : GFn K "greatest_step" s_greatest_step) (g_circle_across : GFn K "circle_across" s_circle_across) (g_circle_upwards : GFn K "circle_upwards" s_circle_upwards) (g_across : GFn K "across" s_across) (g_upwards : GFn K "upwards" s_upwards) (g_whole_root : GFn K "whole_root" s_whole_root) (g_wave_squared : GFn K "wave_squared" s_wave_squared) (g_wave : GFn K "wave" s_wave) (g_best_turn : GFn K "best_turn" s_best_turn) (g_best_weight : GFn K "best_weight" s_best_weight) (g_longer_ways : GFn K "longer_ways" s_longer_ways) (g_ways_to_match : GFn K "ways_to_match" s_ways_to_match) (g_most_uneven : GFn K "most_uneven" s_most_uneven) (g_best_way : GFn K "best_way" s_best_way) (g_crest : GFn K "crest" s_crest) (g_are_measured : GFn K "are_measured" s_are_measured) (g_corrected : GFn K "corrected" s_corrected) (g_judged : GFn K "judged" s_judged) (g_first_above : GFn K "first_above" s_first_above) (g_grade_and_one : GFn K "grade_and_one" s_grade_and_one) (g_grades_and_one : GFn K "grades_and_one" s_grades_and_one) (g_rows_of_mould : GFn K "rows_of_mould" s_rows_of_mould) (g_peaks_of_mould : GFn K "peaks_of_mould" s_peaks_of_mould) (g_one_more : GFn K "one_more" s_one_more) (g_begin : GFn K "begin" s_begin) (g_add_grade : GFn K "add_grade" s_add_grade) (g_add_machine : GFn K "add_machine" s_add_machine) (g_add_tyre : GFn K "add_tyre" s_add_tyre) (g_measure_again : GFn K "measure_again" s_measure_again) (g_turn_tyre : GFn K "turn_tyre" s_turn_tyre) (g_add_wheel : GFn K "add_wheel" s_add_wheel) (g_mount_tyre : GFn K "mount_tyre" s_mount_tyre) (g_is_told_twice : GFn K "is_told_twice" s_is_told_twice) (g_match_tyres : GFn K "match_tyres" s_match_tyres) (g_weigh_tyre : GFn K "weigh_tyre" s_weigh_tyre) (g_tell_peak : GFn K "tell_peak" s_tell_peak) (g_tell_step : GFn K "tell_step" s_tell_step) (g_tell_wave : GFn K "tell_wave" s_tell_wave) (g_tell_grade : GFn K "tell_grade" s_tell_grade) (g_tell_why : GFn K "tell_why" s_tell_why) (g_tell_tyres_of_grade : GFn K "tell_tyres_of_grade" s_tell_tyres_of_grade) (g_tell_mould : GFn K "tell_mould" s_tell_mould) (g_have_greater_mean : GFn K "have_greater_mean" s_have_greater_mean) (g_tell_uneven : GFn K "tell_uneven" s_tell_uneven) (g_tell_alarm : GFn K "tell_alarm" s_tell_alarm) (g_look_at_tyre : GFn K "look_at_tyre" s_look_at_tyre) (g_tell_points : GFn K "tell_points" s_tell_points) (g_tell_sums : GFn K "tell_sums" s_tell_sums) (g_tell_state : GFn K "tell_state" s_tell_state) (g_is_there : GFn K "is_there" s_is_there) (g_are_there : GFn K "are_there" s_are_there) (g_answer_of : GFn K "answer_of" s_answer_of) (g_answers : GFn K "answers" s_answers) (c_POINTS : GCon K "POINTS" 12) (c_WAVE_SHARE : GCon K "WAVE_SHARE" 6000) (c_WEIGHT_STEP : GCon K "WEIGHT_STEP" 5) (c_HEAVIEST : GCon K "HEAVIEST" 60) (c_NO_SUCH : GCon K "NO_SUCH" (-2)) (c_NOT_BEGUN : GCon K "NOT_BEGUN" (-11)) (c_OUT_OF_RANGE : GCon K "OUT_OF_RANGE" (-22)) (c_TOO_MANY : GCon K "TOO_MANY" (-28)) (c_MOST : GCon K "MOST" 2000) (c_LAST_MOULD : GCon K "LAST_MOULD" 7) (c_MOST_GRADES : GCon K "MOST_GRADES" 4) (c_MOST_MACHINES : GCon K "MOST_MACHINES" 3) (c_MOST_TYRES : GCon K "MOST_TYRES" 60) (c_MOST_WHEELS : GCon K "MOST_WHEELS" 10) (c_BEGIN : GCon K "BEGIN" 0) (c_NONE_THERE : GCon K "NONE_THERE" (-6)) (c_TOO_FEW : GCon K "TOO_FEW" (-12)) (c_OF_NONE : GCon K "OF_NONE" (-33)) (b_range : PySem.W.nsIn K mainGlobals "range" = some none) (b_max : PySem.W.nsIn K mainGlobals "max" = some none) (b_min : PySem.W.nsIn K mainGlobals "min" = some none) (b_sum : PySem.W.nsIn K mainGlobals "sum" = some none) (b_abs : PySem.W.nsIn K mainGlobals "abs" = some none) (b_len : PySem.W.nsIn K mainGlobals "len" = some none) (b_enumerate : PySem.W.nsIn K mainGlobals "enumerate" = some none) (b_list : PySem.W.nsIn K mainGlobals "list" = some none) (b_set : PySem.W.nsIn K mainGlobals "set" = some none) (b_sorted : PySem.W.nsIn K mainGlobals "sorted" = some none) (b_all : PySem.W.nsIn K mainGlobals "all" = some none) (b_zip : PySem.W.nsIn K mainGlobals "zip" = some none) (t_CIRCLE : GTup K "CIRCLE" (vi Su68.acrossAll)) (t_MATCH_LENGTHS : GTup K "MATCH_LENGTHS" (vi [2, 4, 6, 8])) (t_WITH_LIST : GTup K "WITH_LIST" (vi [2, 3, 4, 6, 8])) (t_NUMBERS_OF : GTup K "NUMBERS_OF" (lets.map letV)) (d_DEFS : GDefs K names) (aW : PySem.W.nsIn K mainGlobals "Works" = some (some (.ref CW))) (aT : PySem.W.nsIn K mainGlobals "Tyre" = some (some (.ref CT))) (pgCW : PySem.W.plainGet K CW Str.empty = true) (hdCW : PySem.W.hasDictIn K CW = true) (poCW : PySem.W.plainOver K CW = true) (saCW : PySem.W.findIn K (.ref CW) "__setattr__" = some (some (.builtin "object.__setattr__"))) (mkCW : PySem.W.makesIn K CW = true) (kcCW : PySem.W.keepIn K (.ref CW) = true) (pgCT : PySem.W.plainGet K CT Str.empty = true) (hdCT : PySem.W.hasDictIn K CT = true) (poCT : PySem.W.plainOver K CT = true) (saCT : PySem.W.findIn K (.ref CT) "__setattr__" = some (some (.builtin "object.__setattr__"))) (mkCT : PySem.W.makesIn K CT = true) (kcCT : PySem.W.keepIn K (.ref CT) = true) (n_begun : PySem.W.findIn K (.ref CW) "begun" = some none) (n_grades : PySem.W.findIn K (.ref CW) "grades" = some none) (n_machines : PySem.W.findIn K (.ref CW) "machines" = some none) (n_tyres : PySem.W.findIn K (.ref CW) "tyres" = some none) (n_wheels : PySem.W.findIn K (.ref CW) "wheels" = some none) (n_mould : PySem.W.findIn K (.ref CT) "mould" = some none) (n_row : PySem.W.findIn K (.ref CT) "row" = some none) (mWI : GMt K CW "__init__" "Works.__init__" sWkI) (mWE : GMt K CW "empty_out" "Works.empty_out" sWkE) (mTI : GMt K CT "__init__" "Tyre.__init__" sTyI) :
    ∃ fd : FuncData, (∀ (s : Shared) (us : List Value), us.length = (["calls"] : List Str).length → BindsTo s fd ⟨us, []⟩ ((["calls"] : List Str).zip us)) ∧ ∀ base : Heap, K.In base → base.Ns mainGlobals mg → FnOk P w K mg base CX0 10 fa fd ["calls"] (spAns K) := by
  have T : Txt2 K mg CW CT := ⟨⟨PySem.W.mg_none_of X G b_range, PySem.W.mg_none_of X G b_max, PySem.W.mg_none_of X G b_min, PySem.W.mg_none_of X G b_sum, PySem.W.mg_none_of X G b_abs, PySem.W.mg_none_of X G b_len, PySem.W.mg_none_of X G b_enumerate, PySem.W.mg_none_of X G b_list, c_POINTS.gi X G, c_WAVE_SHARE.gi X G, c_WEIGHT_STEP.gi X G, c_HEAVIEST.gi X G, t_CIRCLE.gi X G⟩, ⟨pgCW, hdCW, poCW, saCW⟩, ⟨pgCT, hdCT, poCT, saCT⟩, n_begun, n_grades, n_machines, n_tyres, n_wheels, n_mould, n_row, PySem.W.mg_of X G aW, PySem.W.mg_of X G aT, PySem.W.mg_none_of X G b_set, c_NO_SUCH.gi X G, c_NOT_BEGUN.gi X G, c_OUT_OF_RANGE.gi X G, c_TOO_MANY.gi X G, c_MOST.gi X G, c_LAST_MOULD.gi X G, c_MOST_GRADES.gi X G, c_MOST_MACHINES.gi X G, c_MOST_TYRES.gi X G, c_MOST_WHEELS.gi X G, c_BEGIN.gi X G, t_MATCH_LENGTHS.gi X G⟩
  have T3 : Txt3 K mg := ⟨t_NUMBERS_OF.gi X G, t_WITH_LIST.gi X G⟩
  have T4 : Txt4 mg := ⟨PySem.W.mg_none_of X G b_sorted, PySem.W.mg_none_of X G b_all, PySem.W.mg_none_of X G b_zip, c_NONE_THERE.gi X G, c_TOO_FEW.gi X G, c_OF_NONE.gi X G⟩
  have TD : DefsAt K mg names := d_DEFS.at_ X G
  obtain ⟨fA, fdA, eA, FA⟩ := g_answers
  obtain rfl : fa = fA := by
    have := hfa.symm.trans (PySem.W.mg_of X G eA)
    cases this
    rfl
  have bA : Binds K fdA ["calls"] [] := FA.binds (ps := ["calls"]) (fun _ _ _ _ _ _ us hl => match us, hl with | [_], _ => rfl)
  refine ⟨fdA, fun s us hu => ?_, fun base _ _ => ?_⟩
  · obtain ⟨oc, od, kV, doc, pm, an, cdv, ct, osl, rfl, lk, hcd⟩ := FA.ex
    exact match us, hu with | [_], _ => .of_eq rfl
  obtain ⟨fWI, fdWI, w1, w2, w3⟩ := mWI
  obtain ⟨fWE, fdWE, v1, v2, v3⟩ := mWE
  obtain ⟨fTI, fdTI, u1, u2, u3⟩ := mTI
  have Eo : FnOk P w K mg base CX0 1 fWE fdWE ["self"] (spEO CW) := ok_EO v3 T
  have bE : Binds K fdWE ["self"] [] := v3.binds (ps := ["self"]) (fun _ _ _ _ _ _ us hl => match us, hl with | [_], _ => rfl)
  have mE : Meth K CW "empty_out" fWE := ⟨v1, v2, v3.kp⟩
  have Wi : FnOk P w K mg base CX0 2 fWI fdWI ["self"] (spWkI CW) := ok_WkI w3 T Eo bE mE
  have bW : Binds K fdWI ["self"] [] := w3.binds (ps := ["self"]) (fun _ _ _ _ _ _ us hl => match us, hl with | [_], _ => rfl)
  have Mw : Mk K CW fWI := ⟨mkCW, w1, w2, kcCW⟩
  have Ti : FnOk P w K mg base CX0 1 fTI fdTI ["self", "mould", "row"] (spTyI CT) := ok_TyI u3 T
  have bT : Binds K fdTI ["self", "mould", "row"] [] := u3.binds (ps := ["self", "mould", "row"]) (fun _ _ _ _ _ _ us hl => match us, hl with | [_, _, _], _ => rfl)
  have Mt : Mk K CT fTI := ⟨mkCT, u1, u2, kcCT⟩
  have f_turned := ok_turned (P := P) (w := w) (base := base) (g_turned.def_ X G) 
  have f_together := ok_together (P := P) (w := w) (base := base) (g_together.def_ X G) T.toTxt
  have f_taken_off := ok_taken_off (P := P) (w := w) (base := base) (g_taken_off.def_ X G) T.toTxt
  have f_halved := ok_halved (P := P) (w := w) (base := base) (g_halved.def_ X G) 
  have f_peak := ok_peak (P := P) (w := w) (base := base) (g_peak.def_ X G) T.toTxt
  have f_greatest_step := ok_greatest_step (P := P) (w := w) (base := base) (g_greatest_step.def_ X G) T.toTxt f_turned
  have f_circle_across := ok_circle_across (P := P) (w := w) (base := base) (g_circle_across.def_ X G) T.toTxt
  have f_circle_upwards := ok_circle_upwards (P := P) (w := w) (base := base) (g_circle_upwards.def_ X G) T.toTxt
  have f_across := ok_across (P := P) (w := w) (base := base) (g_across.def_ X G) T.toTxt f_circle_across
  have f_upwards := ok_upwards (P := P) (w := w) (base := base) (g_upwards.def_ X G) T.toTxt f_circle_upwards
  have f_whole_root := ok_whole_root (P := P) (w := w) (base := base) (g_whole_root.def_ X G) 
  have f_wave_squared := ok_wave_squared (P := P) (w := w) (base := base) (g_wave_squared.def_ X G) f_across f_upwards
  have f_wave := ok_wave (P := P) (w := w) (base := base) (g_wave.def_ X G) T.toTxt f_whole_root f_wave_squared
  have f_best_turn := ok_best_turn (P := P) (w := w) (base := base) (g_best_turn.def_ X G) T.toTxt f_peak f_together f_turned
  have f_best_weight := ok_best_weight (P := P) (w := w) (base := base) (g_best_weight.def_ X G) T.toTxt f_across f_upwards f_wave_squared f_circle_across f_circle_upwards
  have f_longer_ways := ok_longer_ways (P := P) (w := w) (base := base) (g_longer_ways.def_ X G) T.toTxt
  have f_ways_to_match := ok_ways_to_match (P := P) (w := w) (base := base) (g_ways_to_match.def_ X G) T.toTxt f_longer_ways
  have f_most_uneven := ok_most_uneven (P := P) (w := w) (base := base) (g_most_uneven.def_ X G) T.toTxt
  have f_best_way := ok_best_way (P := P) (w := w) (base := base) (g_best_way.def_ X G) T.toTxt f_ways_to_match f_most_uneven
  have f_crest := ok_crest (P := P) (w := w) (base := base) (g_crest.def_ X G) T.toTxt f_across f_upwards f_circle_across f_circle_upwards
  have f_are_measured := ok_are_measured (P := P) (w := w) (base := base) (g_are_measured.def_ X G) T
  have f_corrected := ok_corrected (P := P) (w := w) (base := base) (g_corrected.def_ X G) T f_together
  have f_judged := ok_judged (P := P) (w := w) (base := base) (g_judged.def_ X G) f_peak f_greatest_step f_wave
  have f_first_above := ok_first_above (P := P) (w := w) (base := base) (g_first_above.def_ X G) T
  have f_grade_and_one := ok_grade_and_one (P := P) (w := w) (base := base) (g_grade_and_one.def_ X G) T f_judged f_first_above
  have f_grades_and_one := ok_grades_and_one (P := P) (w := w) (base := base) (g_grades_and_one.def_ X G) T f_grade_and_one
  have f_rows_of_mould := ok_rows_of_mould (P := P) (w := w) (base := base) (g_rows_of_mould.def_ X G) T
  have f_peaks_of_mould := ok_peaks_of_mould (P := P) (w := w) (base := base) (g_peaks_of_mould.def_ X G) T f_peak f_rows_of_mould
  have f_one_more := ok_one_more (P := P) (w := w) (base := base) (g_one_more.def_ X G) T
  have f_begin := ok_begin (P := P) (w := w) (base := base) (g_begin.def_ X G) T Eo bE mE
  have f_add_grade := ok_add_grade (P := P) (w := w) (base := base) (g_add_grade.def_ X G) T f_one_more
  have f_add_machine := ok_add_machine (P := P) (w := w) (base := base) (g_add_machine.def_ X G) T f_are_measured f_one_more f_taken_off
  have f_add_tyre := ok_add_tyre (P := P) (w := w) (base := base) (g_add_tyre.def_ X G) T f_are_measured f_corrected f_one_more f_grade_and_one Mt Ti bT
  have f_measure_again := ok_measure_again (P := P) (w := w) (base := base) (g_measure_again.def_ X G) T f_are_measured f_corrected f_together f_halved f_grade_and_one
  have f_turn_tyre := ok_turn_tyre (P := P) (w := w) (base := base) (g_turn_tyre.def_ X G) T f_grade_and_one f_turned
  have f_add_wheel := ok_add_wheel (P := P) (w := w) (base := base) (g_add_wheel.def_ X G) T f_are_measured f_one_more
  have f_mount_tyre := ok_mount_tyre (P := P) (w := w) (base := base) (g_mount_tyre.def_ X G) T f_best_turn f_peak f_together
  have f_is_told_twice := ok_is_told_twice (P := P) (w := w) (base := base) (g_is_told_twice.def_ X G) T
  have f_match_tyres := ok_match_tyres (P := P) (w := w) (base := base) (g_match_tyres.def_ X G) T f_is_told_twice f_best_turn f_best_way
  have f_weigh_tyre := ok_weigh_tyre (P := P) (w := w) (base := base) (g_weigh_tyre.def_ X G) T f_best_weight
  have f_tell_peak := ok_tell_peak (P := P) (w := w) (base := base) (g_tell_peak.def_ X G) T f_peak
  have f_tell_step := ok_tell_step (P := P) (w := w) (base := base) (g_tell_step.def_ X G) T f_greatest_step
  have f_tell_wave := ok_tell_wave (P := P) (w := w) (base := base) (g_tell_wave.def_ X G) T f_wave f_crest f_across f_upwards
  have f_tell_grade := ok_tell_grade (P := P) (w := w) (base := base) (g_tell_grade.def_ X G) T T4 f_grade_and_one
  have f_tell_why := ok_tell_why (P := P) (w := w) (base := base) (g_tell_why.def_ X G) T f_judged f_first_above
  have f_tell_tyres_of_grade := ok_tell_tyres_of_grade (P := P) (w := w) (base := base) (g_tell_tyres_of_grade.def_ X G) T f_grades_and_one
  have f_tell_mould := ok_tell_mould (P := P) (w := w) (base := base) (g_tell_mould.def_ X G) T f_peaks_of_mould f_rows_of_mould f_grade_and_one
  have f_have_greater_mean := ok_have_greater_mean (P := P) (w := w) (base := base) (g_have_greater_mean.def_ X G) T
  have f_tell_uneven := ok_tell_uneven (P := P) (w := w) (base := base) (g_tell_uneven.def_ X G) T T4 f_peaks_of_mould f_have_greater_mean
  have f_tell_alarm := ok_tell_alarm (P := P) (w := w) (base := base) (g_tell_alarm.def_ X G) T T4 f_rows_of_mould f_grade_and_one
  have f_look_at_tyre := ok_look_at_tyre (P := P) (w := w) (base := base) (g_look_at_tyre.def_ X G) T f_grade_and_one
  have f_tell_points := ok_tell_points (P := P) (w := w) (base := base) (g_tell_points.def_ X G) T
  have f_tell_sums := ok_tell_sums (P := P) (w := w) (base := base) (g_tell_sums.def_ X G) T f_grades_and_one
  have f_tell_state := ok_tell_state (P := P) (w := w) (base := base) (g_tell_state.def_ X G) T
  have f_is_there := ok_is_there (P := P) (w := w) (base := base) (g_is_there.def_ X G) T
  have f_are_there := ok_are_there (P := P) (w := w) (base := base) (g_are_there.def_ X G) T T3 T4 f_is_there
  have f_answer_of := ok_answer_of (P := P) (w := w) (base := base) (g_answer_of.def_ X G) T TD f_are_there f_begin f_add_grade f_add_machine f_add_tyre f_measure_again f_turn_tyre f_add_wheel f_mount_tyre f_match_tyres f_weigh_tyre f_tell_peak f_tell_step f_tell_wave f_tell_grade f_tell_why f_tell_tyres_of_grade f_tell_mould f_tell_uneven f_tell_alarm f_look_at_tyre f_tell_points f_tell_sums f_tell_state
  exact ok_answers FA T T3 Mw Wi bW f_answer_of
end
end Ty

def PySem.W.Fast.tw6841211975729612720 : Unit := ()
def PySem.W.Fast.tw17950236015070286715 : Unit := ()
def PySem.W.Fast.tw4248212541869834441 : Unit := ()
def PySem.W.Fast.tw17430267765651269221 : Unit := ()
def PySem.W.Fast.tw10771910787256528176 : Unit := ()
def PySem.W.Fast.tw5935415119099609791 : Unit := ()
def PySem.W.Fast.tw13061235437153589113 : Unit := ()
def PySem.W.Fast.tw17631110474043123529 : Unit := ()
def PySem.W.Fast.tw4700756149449936107 : Unit := ()

open PySem PySem.W PyProof.Rows
set_option maxRecDepth 100000 in
set_option maxHeartbeats 0 in
theorem PySem.Challenge.cw_tyresjudged_s01_answers_holds : PySem.Challenge.rw_tyresjudged_s01_answers.Holds := by
  w_on; k_headS; (case hw => exact ⟨[.list [.int 0]], by decide +kernel, by decide +kernel⟩)
  k_fillS
  refine L2.walk_specK (r := PySem.Challenge.rw_tyresjudged_s01_answers) (k := 10) (CX := L2.CX0) (ps := ["calls"]) (sp := Ty.spAns) (by decide +kernel) rfl rfl ⟨rfl, by decide, by decide⟩ (fun w h Y => PySem.W.kIn_of Y) ?F ?S (fun _ _ _ _ z => z)
  case F =>
    intro w mg fa h Y KX G hmg
    refine' Ty.all_mk KX G hmg ?g_turned ?g_together ?g_taken_off ?g_halved ?g_peak ?g_greatest_step ?g_circle_across ?g_circle_upwards ?g_across ?g_upwards ?g_whole_root ?g_wave_squared ?g_wave ?g_best_turn ?g_best_weight ?g_longer_ways ?g_ways_to_match ?g_most_uneven ?g_best_way ?g_crest ?g_are_measured ?g_corrected ?g_judged ?g_first_above ?g_grade_and_one ?g_grades_and_one ?g_rows_of_mould ?g_peaks_of_mould ?g_one_more ?g_begin ?g_add_grade ?g_add_machine ?g_add_tyre ?g_measure_again ?g_turn_tyre ?g_add_wheel ?g_mount_tyre ?g_is_told_twice ?g_match_tyres ?g_weigh_tyre ?g_tell_peak ?g_tell_step ?g_tell_wave ?g_tell_grade ?g_tell_why ?g_tell_tyres_of_grade ?g_tell_mould ?g_have_greater_mean ?g_tell_uneven ?g_tell_alarm ?g_look_at_tyre ?g_tell_points ?g_tell_sums ?g_tell_state ?g_is_there ?g_are_there ?g_answer_of ?g_answers ?c_POINTS ?c_WAVE_SHARE ?c_WEIGHT_STEP ?c_HEAVIEST ?c_NO_SUCH ?c_NOT_BEGUN ?c_OUT_OF_RANGE ?c_TOO_MANY ?c_MOST ?c_LAST_MOULD ?c_MOST_GRADES ?c_MOST_MACHINES ?c_MOST_TYRES ?c_MOST_WHEELS ?c_BEGIN ?c_NONE_THERE ?c_TOO_FEW ?c_OF_NONE ?b_range ?b_max ?b_min ?b_sum ?b_abs ?b_len ?b_enumerate ?b_list ?b_set ?b_sorted ?b_all ?b_zip ?t_CIRCLE ?t_MATCH_LENGTHS ?t_WITH_LIST ?t_NUMBERS_OF ?d_DEFS ?aW ?aT ?pgCW ?hdCW ?poCW ?saCW ?mkCW ?kcCW ?pgCT ?hdCT ?poCT ?saCT ?mkCT ?kcCT ?n_begun ?n_grades ?n_machines ?n_tyres ?n_wheels ?n_mould ?n_row ?mWI ?mWE ?mTI
    (case g_turned => refine' Ty.gfn_mk ?a ?l ?c ?k; (case a => k_is); (case l => k_is); (case c => k_is); (case k => k_is))
    (case g_together => refine' Ty.gfn_mk ?a ?l ?c ?k; (case a => k_is); (case l => k_is); (case c => k_is); (case k => k_is))
    (case g_taken_off => refine' Ty.gfn_mk ?a ?l ?c ?k; (case a => k_is); (case l => k_is); (case c => k_is); (case k => k_is))
    (case g_halved => refine' Ty.gfn_mk ?a ?l ?c ?k; (case a => k_is); (case l => k_is); (case c => k_is); (case k => k_is))
    (case g_peak => refine' Ty.gfn_mk ?a ?l ?c ?k; (case a => k_is); (case l => k_is); (case c => k_is); (case k => k_is))
    (case g_greatest_step => refine' Ty.gfn_mk ?a ?l ?c ?k; (case a => k_is); (case l => k_is); (case c => k_is); (case k => k_is))
    (case g_circle_across => refine' Ty.gfn_mk ?a ?l ?c ?k; (case a => k_is); (case l => k_is); (case c => k_is); (case k => k_is))
    (case g_circle_upwards => refine' Ty.gfn_mk ?a ?l ?c ?k; (case a => k_is); (case l => k_is); (case c => k_is); (case k => k_is))
    (case g_across => refine' Ty.gfn_mk ?a ?l ?c ?k; (case a => k_is); (case l => k_is); (case c => k_is); (case k => k_is))
    (case g_upwards => refine' Ty.gfn_mk ?a ?l ?c ?k; (case a => k_is); (case l => k_is); (case c => k_is); (case k => k_is))
    (case g_whole_root => refine' Ty.gfn_mk ?a ?l ?c ?k; (case a => k_is); (case l => k_is); (case c => k_is); (case k => k_is))
    (case g_wave_squared => refine' Ty.gfn_mk ?a ?l ?c ?k; (case a => k_is); (case l => k_is); (case c => k_is); (case k => k_is))
    (case g_wave => refine' Ty.gfn_mk ?a ?l ?c ?k; (case a => k_is); (case l => k_is); (case c => k_is); (case k => k_is))
    (case g_best_turn => refine' Ty.gfn_mk ?a ?l ?c ?k; (case a => k_is); (case l => k_is); (case c => k_is); (case k => k_is))
    (case g_best_weight => refine' Ty.gfn_mk ?a ?l ?c ?k; (case a => k_is); (case l => k_is); (case c => k_is); (case k => k_is))
    (case g_longer_ways => refine' Ty.gfn_mk ?a ?l ?c ?k; (case a => k_is); (case l => k_is); (case c => k_is); (case k => k_is))
    (case g_ways_to_match => refine' Ty.gfn_mk ?a ?l ?c ?k; (case a => k_is); (case l => k_is); (case c => k_is); (case k => k_is))
    (case g_most_uneven => refine' Ty.gfn_mk ?a ?l ?c ?k; (case a => k_is); (case l => k_is); (case c => k_is); (case k => k_is))
    (case g_best_way => refine' Ty.gfn_mk ?a ?l ?c ?k; (case a => k_is); (case l => k_is); (case c => k_is); (case k => k_is))
    (case g_crest => refine' Ty.gfn_mk ?a ?l ?c ?k; (case a => k_is); (case l => k_is); (case c => k_is); (case k => k_is))
    (case g_are_measured => refine' Ty.gfn_mk ?a ?l ?c ?k; (case a => k_is); (case l => k_is); (case c => k_is); (case k => k_is))
    (case g_corrected => refine' Ty.gfn_mk ?a ?l ?c ?k; (case a => k_is); (case l => k_is); (case c => k_is); (case k => k_is))
    (case g_judged => refine' Ty.gfn_mk ?a ?l ?c ?k; (case a => k_is); (case l => k_is); (case c => k_is); (case k => k_is))
    (case g_first_above => refine' Ty.gfn_mk ?a ?l ?c ?k; (case a => k_is); (case l => k_is); (case c => k_is); (case k => k_is))
    (case g_grade_and_one => refine' Ty.gfn_mk ?a ?l ?c ?k; (case a => k_is); (case l => k_is); (case c => k_is); (case k => k_is))
    (case g_grades_and_one => refine' Ty.gfn_mk ?a ?l ?c ?k; (case a => k_is); (case l => k_is); (case c => k_is); (case k => k_is))
    (case g_rows_of_mould => refine' Ty.gfn_mk ?a ?l ?c ?k; (case a => k_is); (case l => k_is); (case c => k_is); (case k => k_is))
    (case g_peaks_of_mould => refine' Ty.gfn_mk ?a ?l ?c ?k; (case a => k_is); (case l => k_is); (case c => k_is); (case k => k_is))
    (case g_one_more => refine' Ty.gfn_mk ?a ?l ?c ?k; (case a => k_is); (case l => k_is); (case c => k_is); (case k => k_is))
    (case g_begin => refine' Ty.gfn_mk ?a ?l ?c ?k; (case a => k_is); (case l => k_is); (case c => k_is); (case k => k_is))
    (case g_add_grade => refine' Ty.gfn_mk ?a ?l ?c ?k; (case a => k_is); (case l => k_is); (case c => k_is); (case k => k_is))
    (case g_add_machine => refine' Ty.gfn_mk ?a ?l ?c ?k; (case a => k_is); (case l => k_is); (case c => k_is); (case k => k_is))
    (case g_add_tyre => refine' Ty.gfn_mk ?a ?l ?c ?k; (case a => k_is); (case l => k_is); (case c => k_is); (case k => k_is))
    (case g_measure_again => refine' Ty.gfn_mk ?a ?l ?c ?k; (case a => k_is); (case l => k_is); (case c => k_is); (case k => k_is))
    (case g_turn_tyre => refine' Ty.gfn_mk ?a ?l ?c ?k; (case a => k_is); (case l => k_is); (case c => k_is); (case k => k_is))
    (case g_add_wheel => refine' Ty.gfn_mk ?a ?l ?c ?k; (case a => k_is); (case l => k_is); (case c => k_is); (case k => k_is))
    (case g_mount_tyre => refine' Ty.gfn_mk ?a ?l ?c ?k; (case a => k_is); (case l => k_is); (case c => k_is); (case k => k_is))
    (case g_is_told_twice => refine' Ty.gfn_mk ?a ?l ?c ?k; (case a => k_is); (case l => k_is); (case c => k_is); (case k => k_is))
    (case g_match_tyres => refine' Ty.gfn_mk ?a ?l ?c ?k; (case a => k_is); (case l => k_is); (case c => k_is); (case k => k_is))
    (case g_weigh_tyre => refine' Ty.gfn_mk ?a ?l ?c ?k; (case a => k_is); (case l => k_is); (case c => k_is); (case k => k_is))
    (case g_tell_peak => refine' Ty.gfn_mk ?a ?l ?c ?k; (case a => k_is); (case l => k_is); (case c => k_is); (case k => k_is))
    (case g_tell_step => refine' Ty.gfn_mk ?a ?l ?c ?k; (case a => k_is); (case l => k_is); (case c => k_is); (case k => k_is))
    (case g_tell_wave => refine' Ty.gfn_mk ?a ?l ?c ?k; (case a => k_is); (case l => k_is); (case c => k_is); (case k => k_is))
    (case g_tell_grade => refine' Ty.gfn_mk ?a ?l ?c ?k; (case a => k_is); (case l => k_is); (case c => k_is); (case k => k_is))
    (case g_tell_why => refine' Ty.gfn_mk ?a ?l ?c ?k; (case a => k_is); (case l => k_is); (case c => k_is); (case k => k_is))
    (case g_tell_tyres_of_grade => refine' Ty.gfn_mk ?a ?l ?c ?k; (case a => k_is); (case l => k_is); (case c => k_is); (case k => k_is))
    (case g_tell_mould => refine' Ty.gfn_mk ?a ?l ?c ?k; (case a => k_is); (case l => k_is); (case c => k_is); (case k => k_is))
    (case g_have_greater_mean => refine' Ty.gfn_mk ?a ?l ?c ?k; (case a => k_is); (case l => k_is); (case c => k_is); (case k => k_is))
    (case g_tell_uneven => refine' Ty.gfn_mk ?a ?l ?c ?k; (case a => k_is); (case l => k_is); (case c => k_is); (case k => k_is))
    (case g_tell_alarm => refine' Ty.gfn_mk ?a ?l ?c ?k; (case a => k_is); (case l => k_is); (case c => k_is); (case k => k_is))
    (case g_look_at_tyre => refine' Ty.gfn_mk ?a ?l ?c ?k; (case a => k_is); (case l => k_is); (case c => k_is); (case k => k_is))
    (case g_tell_points => refine' Ty.gfn_mk ?a ?l ?c ?k; (case a => k_is); (case l => k_is); (case c => k_is); (case k => k_is))
    (case g_tell_sums => refine' Ty.gfn_mk ?a ?l ?c ?k; (case a => k_is); (case l => k_is); (case c => k_is); (case k => k_is))
    (case g_tell_state => refine' Ty.gfn_mk ?a ?l ?c ?k; (case a => k_is); (case l => k_is); (case c => k_is); (case k => k_is))
    (case g_is_there => refine' Ty.gfn_mk ?a ?l ?c ?k; (case a => k_is); (case l => k_is); (case c => k_is); (case k => k_is))
    (case g_are_there => refine' Ty.gfn_mk ?a ?l ?c ?k; (case a => k_is); (case l => k_is); (case c => k_is); (case k => k_is))
    (case g_answer_of => refine' Ty.gfn_mk ?a ?l ?c ?k; (case a => k_is); (case l => k_is); (case c => k_is); (case k => k_is))
    (case g_answers => refine' Ty.gfn_mk ?a ?l ?c ?k; (case a => k_is); (case l => k_is); (case c => k_is); (case k => k_is))
    (case c_POINTS => refine' Ty.gcon_mk ?a; (case a => k_is))
    (case c_WAVE_SHARE => refine' Ty.gcon_mk ?a; (case a => k_is))
    (case c_WEIGHT_STEP => refine' Ty.gcon_mk ?a; (case a => k_is))
    (case c_HEAVIEST => refine' Ty.gcon_mk ?a; (case a => k_is))
    (case c_NO_SUCH => refine' Ty.gcon_mk ?a; (case a => k_is))
    (case c_NOT_BEGUN => refine' Ty.gcon_mk ?a; (case a => k_is))
    (case c_OUT_OF_RANGE => refine' Ty.gcon_mk ?a; (case a => k_is))
    (case c_TOO_MANY => refine' Ty.gcon_mk ?a; (case a => k_is))
    (case c_MOST => refine' Ty.gcon_mk ?a; (case a => k_is))
    (case c_LAST_MOULD => refine' Ty.gcon_mk ?a; (case a => k_is))
    (case c_MOST_GRADES => refine' Ty.gcon_mk ?a; (case a => k_is))
    (case c_MOST_MACHINES => refine' Ty.gcon_mk ?a; (case a => k_is))
    (case c_MOST_TYRES => refine' Ty.gcon_mk ?a; (case a => k_is))
    (case c_MOST_WHEELS => refine' Ty.gcon_mk ?a; (case a => k_is))
    (case c_BEGIN => refine' Ty.gcon_mk ?a; (case a => k_is))
    (case c_NONE_THERE => refine' Ty.gcon_mk ?a; (case a => k_is))
    (case c_TOO_FEW => refine' Ty.gcon_mk ?a; (case a => k_is))
    (case c_OF_NONE => refine' Ty.gcon_mk ?a; (case a => k_is))
    (case b_range => k_is)
    (case b_max => k_is)
    (case b_min => k_is)
    (case b_sum => k_is)
    (case b_abs => k_is)
    (case b_len => k_is)
    (case b_enumerate => k_is)
    (case b_list => k_is)
    (case b_set => k_is)
    (case b_sorted => k_is)
    (case b_all => k_is)
    (case b_zip => k_is)
    (case t_CIRCLE => refine' Ty.gtup_mk ?a ?l ?c ?z ?v; (case a => k_is); (case l => k_is); (case c => rfl); (case z => decide); (case v => repeat (first | exact .nil | refine .cons ⟨_, rfl⟩ ?_)))
    (case t_MATCH_LENGTHS => refine' Ty.gtup_mk ?a ?l ?c ?z ?v; (case a => k_is); (case l => k_is); (case c => rfl); (case z => decide); (case v => repeat (first | exact .nil | refine .cons ⟨_, rfl⟩ ?_)))
    (case t_WITH_LIST => refine' Ty.gtup_mk ?a ?l ?c ?z ?v; (case a => k_is); (case l => k_is); (case c => rfl); (case z => decide); (case v => repeat (first | exact .nil | refine .cons ⟨_, rfl⟩ ?_)))
    (case t_NUMBERS_OF => refine' Ty.gtup_mk ?a ?l ?c ?z ?v; (case a => k_is); (case l => k_is); (case c => rfl); (case z => decide); (case v => repeat (first | exact .nil | refine .cons ⟨_, rfl⟩ ?_)))
    (case d_DEFS => refine' Ty.gdefs_mk ?n0 ?n1 ?n2 ?n3 ?n4 ?n5 ?n6 ?n7 ?n8 ?n9 ?n10 ?n11 ?n12 ?n13 ?n14 ?n15 ?n16 ?n17 ?n18 ?n19 ?n20 ?n21 ?n22 ?a ?l ?c ?z; (case n0 => k_is); (case n1 => k_is); (case n2 => k_is); (case n3 => k_is); (case n4 => k_is); (case n5 => k_is); (case n6 => k_is); (case n7 => k_is); (case n8 => k_is); (case n9 => k_is); (case n10 => k_is); (case n11 => k_is); (case n12 => k_is); (case n13 => k_is); (case n14 => k_is); (case n15 => k_is); (case n16 => k_is); (case n17 => k_is); (case n18 => k_is); (case n19 => k_is); (case n20 => k_is); (case n21 => k_is); (case n22 => k_is); (case a => k_is); (case l => k_is); (case c => rfl); (case z => rfl))
    (case aW => k_is)
    (case aT => k_is)
    (case pgCW => k_is)
    (case hdCW => k_is)
    (case poCW => k_is)
    (case saCW => k_is)
    (case mkCW => k_is)
    (case kcCW => k_is)
    (case pgCT => k_is)
    (case hdCT => k_is)
    (case poCT => k_is)
    (case saCT => k_is)
    (case mkCT => k_is)
    (case kcCT => k_is)
    (case n_begun => k_is)
    (case n_grades => k_is)
    (case n_machines => k_is)
    (case n_tyres => k_is)
    (case n_wheels => k_is)
    (case n_mould => k_is)
    (case n_row => k_is)
    (case mWI => refine' Ty.gmt_mk ?a ?i ?l ?c ?k; (case a => k_is); (case i => k_is); (case l => k_is); (case c => k_is); (case k => k_is))
    (case mWE => refine' Ty.gmt_mk ?a ?i ?l ?c ?k; (case a => k_is); (case i => k_is); (case l => k_is); (case c => k_is); (case k => k_is))
    (case mTI => refine' Ty.gmt_mk ?a ?i ?l ?c ?k; (case a => k_is); (case i => k_is); (case l => k_is); (case c => k_is); (case k => k_is))
  case S =>
    intro K H xs a hO hwi hask hx
    cases hx with
    | cons h1 h2 =>
      cases h2
      cases h1 with
      | lst hs ha =>
        have e := L2.ints_dw a.1 _ ha
        subst e
        have q : ((Codec.inLen 0 14000 a.1 && a.1.all (Codec.inInt 0 4294967295)) && true) = true := hwi
        rw [Bool.and_eq_true, Bool.and_eq_true] at q
        refine ⟨_, a.1, rfl, hs, ⟨(Codec.inNat_iff.mp q.1.1).2, fun x hx => ?_, hask⟩, fun H' p hp => .lst (L2.SqL.of hp) (L2.dw_ints _)⟩
        have := List.all_eq_true.mp q.1.2 x hx
        exact (Codec.inInt_iff.mp this).1
#print axioms PySem.Challenge.cw_tyresjudged_s01_answers_holds

end
