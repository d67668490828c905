import PyProof.Rows.All
import Wide.All
import OpenK.AllK
import Wide.FinOn
import PyProof.EqAt
import PyProof.EqKinds
import PyProof.TupleCall
import KE.BitLaws
import PySem.Challenge.RW_seatworth_k33_marks_refuse
set_option Elab.async false
set_option linter.all false
set_option maxRecDepth 100000

namespace L2
open PySem PySem.Spec PyProof.Rows


abbrev Key := Sum Int Str
def keyIs : Key → Value → Bool
  | .inl k, v => Value.isInt k v
  | .inr x, v => Value.isStrOf x v
def keyH (w : World) : Key → Int
  | .inl k => hashInt k
  | .inr x => hashStr w x
theorem keyIs_shape : ∀ {k : Key} {v : Value}, keyIs k v = true → (∃ i t, k = Sum.inl i ∧ v = Value.int i t) ∨ (∃ x t, k = Sum.inr x ∧ v = Value.str x t)
  | .inl i, v, h => by
    obtain ⟨t, e⟩ := Value.isInt_shape (k := i) (v := v) h
    exact .inl ⟨i, t, rfl, e⟩
  | .inr x, v, h => by
    obtain ⟨t, e⟩ := Value.isStrOf_shape (x := x) (v := v) h
    exact .inr ⟨x, t, rfl, e⟩
theorem keyIs_int (i : Int) (t : Tok) : keyIs (.inl i) (.int i t) = true := by simp [keyIs, Value.isInt]
theorem keyIs_str (x : Str) (t : Tok) : keyIs (.inr x) (.str x t) = true := by simp [keyIs, Value.isStrOf]
theorem key_ll (a b : Int) : decide ((Sum.inl a : Key) = Sum.inl b) = (a == b) := by
  by_cases e : a = b
  · subst e; simp
  · have h : ¬ (Sum.inl a : Key) = Sum.inl b := fun q => e (Sum.inl.inj q)
    rw [decide_eq_false h]
    exact (beq_eq_false_iff_ne.mpr e).symm
theorem key_rr (a b : Str) : decide ((Sum.inr a : Key) = Sum.inr b) = decide (a = b) := by
  by_cases e : a = b
  · subst e; simp
  · have h : ¬ (Sum.inr a : Key) = Sum.inr b := fun q => e (Sum.inr.inj q)
    rw [decide_eq_false h, decide_eq_false e]
theorem key_lr (a : Int) (b : Str) : decide ((Sum.inl a : Key) = Sum.inr b) = false := decide_eq_false (fun q => nomatch q)
theorem key_rl (a : Str) (b : Int) : decide ((Sum.inr a : Key) = Sum.inl b) = false := decide_eq_false (fun q => nomatch q)

def mixKind (prog : Program) (w : World) : PySem.KeyKind prog w Key where
  is := keyIs
  hash := keyH w
  inj := fun v a b ha hb => by
    rcases keyIs_shape ha with ⟨i, t, rfl, rfl⟩ | ⟨x, t, rfl, rfl⟩
    · rcases keyIs_shape hb with ⟨j, u, rfl, e⟩ | ⟨y, u, rfl, e⟩
      · injection e with e1 _; rw [e1]
      · exact nomatch e
    · rcases keyIs_shape hb with ⟨j, u, rfl, e⟩ | ⟨y, u, rfl, e⟩
      · exact nomatch e
      · injection e with e1 _; rw [e1]
  byValue := fun k v h => by
    rcases keyIs_shape h with ⟨i, t, rfl, rfl⟩ | ⟨x, t, rfl, rfl⟩ <;> rfl
  pyHash := fun hv h => by
    rcases keyIs_shape hv with ⟨i, t, rfl, rfl⟩ | ⟨x, t, rfl, rfl⟩
    · exact wpAny_pyHash_int h
    · exact wpAny_pyHash_str h
  eqBool := fun hu hv h => by
    rcases keyIs_shape hu with ⟨i, t, rfl, rfl⟩ | ⟨x, t, rfl, rfl⟩
    · rcases keyIs_shape hv with ⟨j, u, rfl, rfl⟩ | ⟨y, u, rfl, rfl⟩
      · rw [key_ll] at h; exact wpAny_eqBool_int h
      · rw [key_lr] at h; exact SeqAt.EqAt.int_str i t y u _ _ _ _ h
    · rcases keyIs_shape hv with ⟨j, u, rfl, rfl⟩ | ⟨y, u, rfl, rfl⟩
      · rw [key_rl] at h; exact SeqAt.EqAt.str_int x t j u _ _ _ _ h
      · rw [key_rr] at h; exact wpAny_eqBool_str h
  «strs» := fun k x t v h => by
    rcases keyIs_shape h with ⟨i, u, rfl, e⟩ | ⟨y, u, rfl, e⟩
    · exact nomatch e
    · injection e with e1 _
      subst e1
      cases v <;> rfl

theorem mixKind_int (prog : Program) (w : World) (i : Int) (t : Tok) : (mixKind prog w).is (.inl i) (.int i t) = true := keyIs_int i t
theorem mixKind_str (prog : Program) (w : World) (x : Str) (t : Tok) : (mixKind prog w).is (.inr x) (.str x t) = true := keyIs_str x t
end L2

namespace L2
open PySem PySem.Spec PyProof.Rows


inductive V where
  | non | bl (b : Bool) | int (i : Int) | str (x : Str) | byt (b : Array UInt8) | flt (b : UInt64) | ref (a : Addr) | ty (n : String)
  deriving DecidableEq

def RelV : V → Value → Prop
  | .non, u => u = Value.none
  | .bl b, u => u = Value.bool b
  | .int i, u => ∃ t, u = Value.int i t
  | .str x, u => ∃ t, u = Value.str x t
  | .byt b, u => ∃ t, u = Value.bytes b t
  | .flt b, u => ∃ t, u = Value.float b t
  | .ref a, u => u = Value.ref a
  | .ty n, u => u = Value.type n

abbrev Vals : List V → List Value → Prop := Paired RelV
theorem Vals.length {xs : List V} {us : List Value} (r : Vals xs us) : xs.length = us.length := Paired.length r
theorem Vals.get : ∀ {xs : List V} {us : List Value} {i : Nat} {x : V}, Vals xs us → xs[i]? = some x → ∃ u, us[i]? = some u ∧ RelV x u
  | _, _, _, _, .nil, e => by simp at e
  | _, _, 0, _, .cons r _, e => by simp at e; subst e; exact ⟨_, rfl, r⟩
  | _, _, i + 1, x, .cons _ t, e => by
    obtain ⟨u, h1, h2⟩ := Vals.get (i := i) (x := x) t (by simpa using e)
    exact ⟨u, by simpa using h1, h2⟩
theorem Vals.set {x : V} {u : Value} (r : RelV x u) : ∀ {xs : List V} {us : List Value} (i : Nat), Vals xs us → Vals (xs.set i x) (us.set i u)
  | _, _, _, .nil => .nil
  | _, _, 0, .cons _ t => .cons r t
  | _, _, i + 1, .cons q t => .cons q (Vals.set r i t)
theorem Vals.append : ∀ {xs ys : List V} {us ws : List Value}, Vals xs us → Vals ys ws → Vals (xs ++ ys) (us ++ ws)
  | _, _, _, _, .nil, s => s
  | _, _, _, _, .cons r t, s => .cons r (Vals.append t s)
theorem Vals.take : ∀ {xs : List V} {us : List Value} (n : Nat), Vals xs us → Vals (xs.take n) (us.take n)
  | _, _, 0, _ => .nil
  | _, _, _ + 1, .nil => .nil
  | _, _, n + 1, .cons r t => .cons r (Vals.take n t)
theorem Vals.drop : ∀ {xs : List V} {us : List Value} (n : Nat), Vals xs us → Vals (xs.drop n) (us.drop n)
  | _, _, 0, r => r
  | _, _, _ + 1, .nil => .nil
  | _, _, n + 1, .cons _ t => Vals.drop n t
def RelO : Option V → Option Value → Prop
  | some v, some u => RelV v u
  | none, none => True
  | _, _ => False
def KV {κ : Type} : List (κ × V) → List (κ × Value) → Prop := Paired fun (p : κ × V) (q : κ × Value) => p.1 = q.1 ∧ RelV p.2 q.2


def kV : Key → V
  | .inl i => .int i
  | .inr x => .str x


inductive HO where

  | lst (xs : List V)

  | tup (xs : List V)

  | dK (kvs : List (Key × V)) | dT (kvs : List (List Key × V))

  | set (S : Int → Bool) (n : Nat)

  | ins (C dx : Addr) (fs : List (Str × V))

  | own (x : Addr)

  | xd (fs : List (Str × V))

  | met (f x : Addr)

  | rng (lo hi : Int)

  | frz (o : Obj) (u : HO)

  | tbl (ps : Array Value)

  | ext (φ : Heap → Prop)

abbrev Hp := Addr → Option HO
def upd (H : Hp) (a : Addr) (o : HO) : Hp := fun b => if b = a then some o else H b
theorem upd_same {H : Hp} {a : Addr} {o : HO} : upd H a o a = some o := by unfold upd; rw [if_pos rfl]
theorem upd_ne {H : Hp} {a b : Addr} {o : HO} (h : b ≠ a) : upd H a o b = H b := by unfold upd; rw [if_neg h]
theorem upd_upd {H : Hp} {a : Addr} {o u : HO} : upd (upd H a o) a u = upd H a u := by
  funext b; unfold upd; split <;> rfl

theorem ne_of_none {H : Hp} {a b : Addr} {o : HO} (h : H a = some o) (h' : H b = none) : a ≠ b := by
  intro e; subst e; rw [h] at h'; cases h'

section
variable (P : Program) (w : World)
def ObjOk (H : Hp) (h : Heap) (a : Addr) : HO → Prop
  | .lst xs => xs.length ≤ sizeLine ∧ ∃ (its : List Value) (n : Nat), Vals xs its ∧ h.get? a = some { cls := .type "list", data := .seq its.toArray n }
  | .tup xs => xs.length ≤ sizeLine ∧ ∃ its : List Value, Vals xs its ∧ IsTup h a its.toArray
  | .dK kvs => kvs.length ≤ sizeLine ∧ (a == sysModules) = false ∧ ∃ vs, KV kvs vs ∧ h.DictOf (mixKind P w) a vs
  | .dT kvs => kvs.length ≤ sizeLine ∧ (a == sysModules) = false ∧ ∃ xs : List (List Key × Addr × Value),
      Paired (fun (p : List Key × V) (q : List Key × Addr × Value) => p.1 = q.1 ∧ H q.2.1 = some (.tup (p.1.map kV)) ∧ RelV p.2 q.2.2) kvs xs ∧
      ∃ o es ep, h.get? a = some o ∧ o.ExactDict ∧ o.data = .dict es ep ∧ es.toList = xs.map (entryOfKey (tupleKind (mixKind P w))) ∧ (xs.map (·.1)).Nodup
  | .set S n => h.SetOf (intKind P w) a S n
  | .ins C dx fs => H dx = some (.own a) ∧ fs.length ≤ 1000 ∧ dx ≠ a ∧ h.get? a = some (PySem.W.instObj C dx) ∧
      ∃ mA, h.Ns1 dx mA ∧ (∀ f, RelO (fs.lookup f) (mA f)) ∧ PySem.Within mA (fs.map (·.1))
  | .own _ => ∃ o, h.get? a = some o
  | .xd fs => ∃ mA, h.Ns1 a mA ∧ ∀ f, RelO (fs.lookup f) (mA f)
  | .rng lo hi => ∃ t u v, h.get? a = some { cls := .type "range", data := .fields #[.int lo t, .int hi u, .int 1 v] }
  | .frz o u => h.get? a = some o ∧ ObjOk H h a u
  | .tbl ps => h.get? a = some { cls := .none, data := .fields ps }
  | .met f x => h.get? a = some (PySem.W.methodObj (.ref f) (.ref x))
  | .ext φ => φ h ∧ (∃ o, h.get? a = some o) ∧ ∀ h1 h2 : Heap, φ h1 → (∀ o, h1.get? a = some o → h2.get? a = some o) → φ h2

def HOk (H : Hp) (h : Heap) : Prop := ∀ a o, H a = some o → ObjOk P w H h a o
end

section
variable {P : Program} {w : World} {H H' : Hp} {h h' : Heap} {a : Addr} {o : HO}
theorem ObjOk.lt (x : ObjOk P w H h a o) : a < h.objs.size := by
  cases o with
  | lst xs => obtain ⟨_, _, _, _, e⟩ := x; exact Heap.lt_size e
  | tup xs => obtain ⟨_, _, _, p⟩ := x; exact p.lt
  | dK kvs => obtain ⟨_, _, _, _, o, _, _, e, _⟩ := x; exact Heap.lt_size e
  | dT kvs => obtain ⟨_, _, _, _, o, _, _, e, _⟩ := x; exact Heap.lt_size e
  | set S n => obtain ⟨o, _, _, _, e, _⟩ := x; exact Heap.lt_size e
  | ins C dx fs => obtain ⟨_, _, _, e, _⟩ := x; exact Heap.lt_size e
  | own y => obtain ⟨_, e⟩ := x; exact Heap.lt_size e
  | xd fs => obtain ⟨_, ⟨_, _, _, e, _⟩, _⟩ := x; exact Heap.lt_size e
  | rng lo hi => obtain ⟨_, _, _, e⟩ := x; exact Heap.lt_size e
  | frz ob u => obtain ⟨e, _⟩ := x; exact Heap.lt_size e
  | tbl ps => exact Heap.lt_size (show h.get? a = some _ from x)
  | met f y => exact Heap.lt_size (show h.get? a = some _ from x)
  | ext φ => obtain ⟨_, ⟨_, e⟩, _⟩ := x; exact Heap.lt_size e
theorem Paired.mapP {α β : Type} {F G : α → β → Prop} : ∀ {l₁ : List α} {l₂ : List β}, Paired F l₁ l₂ → (∀ a b, F a b → G a b) → Paired G l₁ l₂
  | _, _, .nil, _ => .nil
  | _, _, .cons r t, f => .cons (f _ _ r) (Paired.mapP t f)
theorem ObjOk.stay (x : ObjOk P w H h a o) (k : ∀ b u, (b = a ∨ H b = some (.own a)) → h.get? b = some u → h'.get? b = some u)
    (ho : ∀ b, H b = some (.own a) → H' b = some (.own a)) (ht : ∀ b xs, H b = some (.tup xs) → H' b = some (.tup xs)) : ObjOk P w H' h' a o := by
  induction o with
  | lst xs => obtain ⟨z, its, n, r, e⟩ := x; exact ⟨z, its, n, r, k _ _ (.inl rfl) e⟩
  | tup xs => obtain ⟨z, its, r, ob, e, c⟩ := x; exact ⟨z, its, r, ob, k _ _ (.inl rfl) e, c⟩
  | dK kvs => obtain ⟨z, y, vs, r, ob, es, ep, e, c⟩ := x; exact ⟨z, y, vs, r, ob, es, ep, k _ _ (.inl rfl) e, c⟩
  | dT kvs =>
    obtain ⟨z, y, xs, r, ob, es, ep, e, c⟩ := x
    exact ⟨z, y, xs, Paired.mapP r fun p q z => ⟨z.1, ht _ _ z.2.1, z.2.2⟩, ob, es, ep, k _ _ (.inl rfl) e, c⟩
  | set S n => obtain ⟨ob, es, ep, t, e, c⟩ := x; exact ⟨ob, es, ep, t, k _ _ (.inl rfl) e, c⟩
  | ins C dx fs =>
    obtain ⟨d, z, ne, e, mA, ⟨od, es, ep, e2, c⟩, r⟩ := x
    exact ⟨ho _ d, z, ne, k _ _ (.inl rfl) e, mA, ⟨od, es, ep, k _ _ (.inr d) e2, c⟩, r⟩
  | own y => obtain ⟨ob, e⟩ := x; exact ⟨ob, k _ _ (.inl rfl) e⟩
  | xd fs => obtain ⟨mA, ⟨od, es, ep, e, c⟩, r⟩ := x; exact ⟨mA, ⟨od, es, ep, k _ _ (.inl rfl) e, c⟩, r⟩
  | rng lo hi => obtain ⟨t, u, v, e⟩ := x; exact ⟨t, u, v, k _ _ (.inl rfl) e⟩
  | frz ob u ih => obtain ⟨e, q⟩ := x; exact ⟨k _ _ (.inl rfl) e, ih q⟩
  | tbl ps =>
    have e : h.get? a = some { cls := .none, data := .fields ps } := x
    show h'.get? a = some { cls := .none, data := .fields ps }
    exact k a _ (.inl rfl) e
  | met f y =>
    have e : h.get? a = some (PySem.W.methodObj (.ref f) (.ref y)) := x
    show h'.get? a = some (PySem.W.methodObj (.ref f) (.ref y))
    exact k a _ (.inl rfl) e
  | ext φ => obtain ⟨p, ⟨o, e⟩, st⟩ := x; exact ⟨st _ _ p fun o q => k _ _ (.inl rfl) q, ⟨o, k _ _ (.inl rfl) e⟩, st⟩
theorem HOk.lt (x : HOk P w H h) (e : H a = some o) : a < h.objs.size := (x a o e).lt
theorem HOk.fresh (x : HOk P w H h) (e : h.objs.size ≤ a) : H a = none := by
  cases q : H a with
  | none => rfl
  | some u => exact absurd (Nat.lt_of_lt_of_le (x.lt q) e) (Nat.lt_irrefl _)

theorem HOk.kept (x : HOk P w H h) (k : ∀ b u, h.get? b = some u → h'.get? b = some u) : HOk P w H h' := fun a o e =>
  (x a o e).stay (fun b u _ q => k b u q) (fun _ q => q) fun _ _ q => q

theorem HOk.laid (x : HOk P w H h) (k : ∀ b u, h.get? b = some u → h'.get? b = some u) (hp : h.objs.size ≤ a) (new : ObjOk P w (upd H a o) h' a o) : HOk P w (upd H a o) h' := fun b u e => by
  have hn := x.fresh hp
  by_cases hb : b = a
  · subst hb; rw [upd_same] at e; cases e; exact new
  · rw [upd_ne hb] at e
    exact (x b u e).stay (fun c v _ q => k c v q) (fun c q => by rw [upd_ne (ne_of_none q hn)]; exact q) fun c xs q => by rw [upd_ne (ne_of_none q hn)]; exact q
end


def Rd (H : Hp) (a : Addr) (u : HO) : Prop := H a = some u ∨ ∃ o, H a = some (.frz o u)
theorem Rd.of {H : Hp} {a : Addr} {u : HO} (h : H a = some u) : Rd H a u := .inl h
theorem Rd.ok {P : Program} {w : World} {H : Hp} {h : Heap} {a : Addr} {u : HO} (r : Rd H a u) (x : HOk P w H h) : ObjOk P w H h a u := by
  rcases r with r | ⟨o, r⟩
  · exact x a u r
  · obtain ⟨_, q⟩ := x a _ r
    exact q

def Mut : Option HO → Prop
  | some (.lst _) => True
  | some (.dK _) => True
  | some (.dT _) => True
  | some (.set _ _) => True
  | some (.ins _ _ _) => True
  | some (.ext _) => True
  | _ => False
section
variable {P : Program} {w : World} {H : Hp} {h h' : Heap} {x e : Addr} {o' : HO}

theorem HOk.write (ok : HOk P w H h) (mu : Mut (H x)) (he : e = x ∨ H e = some (.own x)) (k : ∀ b u, b ≠ e → h.get? b = some u → h'.get? b = some u) (heo : ∃ u, h'.get? e = some u)
    (new : ObjOk P w (upd H x o') h' x o') : HOk P w (upd H x o') h' := fun b u q => by
  have nown : ∀ c y, H c = some (.own y) → c ≠ x := fun c y r z => by subst z; rw [r] at mu; exact mu
  have ntup : ∀ c xs, H c = some (.tup xs) → c ≠ x := fun c xs r z => by subst z; rw [r] at mu; exact mu
  by_cases hb : b = x
  · subst hb; rw [upd_same] at q; cases q; exact new
  · rw [upd_ne hb] at q
    by_cases hbe : b = e
    · have q' : H b = some (.own x) := by
        rcases he with z | z
        · exact absurd (hbe.trans z) hb
        · rw [hbe]; exact z
      rw [q] at q'; cases q'
      obtain ⟨v, hv⟩ := heo
      exact ⟨v, by rw [hbe]; exact hv⟩
    · refine (ok b u q).stay (fun c v hc r => k c v ?_ r) (fun c r => by rw [upd_ne (nown c b r)]; exact r) fun c xs r => by rw [upd_ne (ntup c xs r)]; exact r
      rcases hc with rfl | hc
      · exact hbe
      · rintro rfl
        rcases he with z | z
        · exact nown c b hc z
        · rw [hc] at z; cases z; exact hb rfl
end


structure Un (fs ex : List Addr) (H H' : Hp) (h h' : Heap) : Prop where
  keep : ∀ b o, h.get? b = some o → H b = none → b ∉ fs → b ∉ ex → h'.get? b = some o
  slot : ∀ b o, h.get? b = some o → H b = none → b ∈ fs → b ∉ ex → ∃ sl, h'.get? b = some { o with slots := sl }
  free : ∀ b o, h.get? b = some o → H b = none → b ∉ ex → H' b = none
  there : ∀ b o, h.get? b = some o → b ∉ ex → ∃ o', h'.get? b = some o'
  tups : ∀ b xs, H b = some (.tup xs) → H' b = some (.tup xs)
  frzs : ∀ b o u, H b = some (.frz o u) → H' b = some (.frz o u)
  tbls : ∀ b ps, H b = some (.tbl ps) → ∃ more, H' b = some (.tbl (ps ++ more))
section
variable {fs fs' ex ex' : List Addr} {H H1 H2 : Hp} {h h1 h2 h' : Heap} {a x e : Addr} {o : HO}
theorem Un.any (u : Un fs ex H H1 h h1) {b : Addr} {ob : Obj} (q : h.get? b = some ob) (n : H b = none) (hx : b ∉ ex) : ∃ sl, h1.get? b = some { ob with slots := sl } := by
  by_cases hb : b ∈ fs
  · exact u.slot b ob q n hb hx
  · exact ⟨ob.slots, u.keep b ob q n hb hx⟩
theorem Un.trans (a : Un fs ex H H1 h h1) (b : Un fs ex H1 H2 h1 h2) : Un fs ex H H2 h h2 where
  keep := fun c ob q n hc hx => b.keep c ob (a.keep c ob q n hc hx) (a.free c ob q n hx) hc hx
  slot := fun c ob q n hc hx => by
    obtain ⟨sl, e1⟩ := a.slot c ob q n hc hx
    obtain ⟨sl', e2⟩ := b.slot c _ e1 (a.free c ob q n hx) hc hx
    exact ⟨sl', e2⟩
  free := fun c ob q n hx => by
    obtain ⟨o', e1⟩ := a.there c ob q hx
    exact b.free c o' e1 (a.free c ob q n hx) hx
  there := fun c ob q hx => by
    obtain ⟨o', e1⟩ := a.there c ob q hx
    exact b.there c o' e1 hx
  tups := fun c xs q => b.tups c xs (a.tups c xs q)
  frzs := fun c ob xs q => b.frzs c ob xs (a.frzs c ob xs q)
  tbls := fun c ps q => by
    obtain ⟨m1, e1⟩ := a.tbls c ps q
    obtain ⟨m2, e2⟩ := b.tbls c _ e1
    exact ⟨m1 ++ m2, by rw [e2, Array.append_assoc]⟩
theorem Un.kept (k : ∀ b u, h.get? b = some u → h'.get? b = some u) : Un fs ex H H h h' :=
  ⟨fun b ob q _ _ _ => k b ob q, fun b ob q _ _ _ => ⟨ob.slots, k b ob q⟩, fun _ _ _ n _ => n, fun b ob q _ => ⟨ob, k b ob q⟩, fun _ _ q => q, fun _ _ _ q => q, fun _ ps q => ⟨#[], by rw [q]; simp⟩⟩
theorem Un.refl : Un fs ex H H h h := Un.kept fun _ _ q => q
theorem Un.laid (k : ∀ b u, h.get? b = some u → h'.get? b = some u) (hp : h.objs.size ≤ a) (hn : H a = none) : Un fs ex H (upd H a o) h h' where
  keep := fun b u q _ _ _ => k b u q
  slot := fun b u q _ _ _ => ⟨u.slots, k b u q⟩
  free := fun b u q n _ => by rw [upd_ne (Nat.ne_of_lt (Nat.lt_of_lt_of_le (Heap.lt_size q) hp))]; exact n
  there := fun b u q _ => ⟨u, k b u q⟩
  tups := fun b xs q => by rw [upd_ne (ne_of_none q hn)]; exact q
  frzs := fun b u xs q => by rw [upd_ne (ne_of_none q hn)]; exact q
  tbls := fun b ps q => ⟨#[], by rw [upd_ne (ne_of_none q hn), q]; simp⟩
theorem Un.write (mu : Mut (H x)) (he : e = x ∨ H e = some (.own x)) (k : ∀ b u, b ≠ e → h.get? b = some u → h'.get? b = some u) (heo : ∃ u, h'.get? e = some u) : Un fs ex H (upd H x o) h h' := by
  have hx : ∀ b, H b = none → b ≠ x := fun b n z => by subst z; rw [n] at mu; exact mu
  have hb : ∀ b, H b = none → b ≠ e := fun b n z => by
    subst z
    rcases he with r | r
    · exact hx b n r
    · rw [n] at r; cases r
  have hm : ∀ b u, H b = some u → ¬ Mut (some u) → b ≠ x := fun b u q nm z => by subst z; rw [q] at mu; exact nm mu
  refine ⟨fun b u q n _ _ => k b u (hb b n) q, fun b u q n _ _ => ⟨u.slots, k b u (hb b n) q⟩, fun b u q n _ => by rw [upd_ne (hx b n)]; exact n, fun b u q _ => ?_,
    fun b xs q => by rw [upd_ne (hm b _ q fun z => z)]; exact q, fun b u xs q => by rw [upd_ne (hm b _ q fun z => z)]; exact q, fun b ps q => ⟨#[], by rw [upd_ne (hm b _ q fun z => z), q]; simp⟩⟩
  by_cases hbe : b = e
  · subst hbe; exact heo
  · exact ⟨u, k b u hbe q⟩
theorem Un.mono (u : Un fs ex H H1 h h1) (hs : ∀ b ∈ fs, b ∈ fs') (hx : ∀ b ∈ ex, b ∈ ex') : Un fs' ex' H H1 h h1 :=
  ⟨fun b ob q n hb he => u.keep b ob q n (fun z => hb (hs b z)) fun z => he (hx b z), fun _ _ q n _ he => u.any q n fun z => he (hx _ z), fun b ob q n he => u.free b ob q n fun z => he (hx b z), fun b ob q he => u.there b ob q fun z => he (hx b z), u.tups, u.frzs, u.tbls⟩
end


def trk (h : Heap) (H : Hp) : List Addr := (List.range h.objs.size).filter fun a => (H a).isSome
def hidT (h : Heap) (H : Hp) : Heap := PySem.W.hideAll h (trk h H)
theorem hidT_size (h : Heap) (H : Hp) : (hidT h H).objs.size = h.objs.size := PySem.W.hideAll_size _ _
theorem hidT_get {h : Heap} {H : Hp} {b : Addr} {o : Obj} (e : h.get? b = some o) (n : H b = none) : (hidT h H).get? b = some o :=
  PySem.W.hideAll_get _ e fun hm => by
    have q : (H b).isSome = true := (List.mem_filter.mp hm).2
    rw [n] at q; simp at q
theorem of_hidT {h : Heap} {H : Hp} {b : Addr} {o : Obj} (e : (hidT h H).get? b = some o) : h.get? b = some o ∧ H b = none := by
  have e' : h.get? b = some o := PySem.W.of_hideAll (trk h H) e
  refine ⟨e', ?_⟩
  cases q : H b with
  | none => rfl
  | some x =>
    have hm : b ∈ trk h H := List.mem_filter.mpr ⟨List.mem_range.mpr (Heap.lt_size e'), by simp [q]⟩
    have z : (hidT h H).get? b = none := PySem.W.hideAll_none (trk h H) hm
    rw [z] at e; cases e


def allNews (g h : Heap) (L : Addr) : List (Addr × Obj) := (List.range h.objs.size).filterMap fun a => if a = L ∨ (g.get? a).isSome = true then none else (h.get? a).map fun o => (a, o)
def rest (g h : Heap) (L d : Addr) : List (Addr × Obj) := (allNews g h L).filter fun p => decide (p.1 ≠ d)
end L2

namespace L2
open PySem PySem.Spec PyProof.Rows


structure Mod (K : PySem.W.Frag) (mg : Str → Option Value) (base : Heap) : Prop where
  kin : K.In base
  glob : base.Ns mainGlobals mg
  blt : ∃ mb, base.Ns builtinsNs mb ∧ ∀ x : Str, x ≠ "__name__" → mb x = bootBuiltins x
  nolimit : base.NoLimit


structure Cx where
  prog : Program
  w : World
  K : PySem.W.Frag
  mg : Str → Option Value
  base : Heap
  A : Around
  N : List Str
  s_0 : Shared
  H_0 : Hp
  env : Env
  outer : List Env
  stack : List Env
  ex : List Addr
  fn : Str → Bool
  calm : Bool
  pn : List (Addr × Obj)
  xe : Value → Shared → Prop

def frs (l : List Env) : List Addr := l.filterMap (·.frame)
abbrev Cx.fs (X : Cx) : List Addr := frs X.outer

def Vis (sc : Scope) (x : Str) : Prop := sc.names.lookup x = some .local ∨ sc.names.lookup x = some .cell ∨ sc.names.lookup x = some .free
def Loc (sc : Scope) (x : Str) : Prop := sc.names.lookup x = some .local ∨ sc.names.lookup x = some .cell
def Look (env : Env) (h : Heap) (m : Str → Option Value) (x : Str) (u : Value) : Prop :=
  (env.kindOf x = some .local ∧ m x = some u) ∨ ((env.kindOf x = some .cell ∨ env.kindOf x = some .free) ∧ ∃ c, env.cells.lookup x = some c ∧ h.IsCell c (some u))

structure Cx.Ok (X : Cx) : Prop where
  mod : Mod X.K X.mg X.base
  kind : X.env.scope.kind = .function
  glob : X.env.globals = mainGlobals
  blt : X.env.builtins = builtinsNs
  above : X.s_0.heap.objs.size ≤ X.env.locals
  inj : ∀ x y c, X.env.cells.lookup x = some c → X.env.cells.lookup y = some c → x = y
  has : ∀ x, (X.env.kindOf x = some .cell ∨ X.env.kindOf x = some .free) → ∃ c, X.env.cells.lookup x = some c
  cab : ∀ x c, X.fn x = true → X.env.cells.lookup x = some c → X.s_0.heap.objs.size ≤ c
  hd : X.calm = true → X.A.handled = none
  frames : X.A.frames = some X.stack
  stk : X.stack = X.outer ∨ (X.stack = X.env :: X.outer ∧ X.env.frame = some X.env.locals)
  exf : ∀ b ∈ X.ex, b ≠ X.env.locals ∧ ∀ x c, X.env.cells.lookup x = some c → c ≠ b
  bs : ∀ b o, X.base.get? b = some o → X.s_0.heap.get? b = some o ∧ X.H_0 b = none
  bsz : X.base.objs.size ≤ X.s_0.heap.objs.size
  noex : ∀ b o, X.base.get? b = some o → b ∉ X.ex
  exfs : ∀ b ∈ X.ex, b ∉ X.fs
  funs : X.s_0.heap.FunFrames X.base X.outer
  frf : ∀ b ∈ X.fs, X.H_0 b = none

structure Inv (X : Cx) (pins : List (Addr × Obj)) (σ : List (Option V)) (H : Hp) (s : Shared) : Prop where
  ok : X.Ok
  os : s.os = X.s_0.os
  bare : AllBare s.gens
  base : Un X.fs X.ex X.H_0 H X.s_0.heap s.heap
  loc : ∃ m, s.heap.Ns X.env.locals m ∧ ∀ (i : Nat) (x : Str) (v : V), X.N[i]? = some x → σ[i]? = some (some v) → Vis X.env.scope x → ∃ u, RelV v u ∧ Look X.env s.heap m x u
  cell : ∀ x c, X.env.cells.lookup x = some c → ∃ v, s.heap.IsCell c v
  free : H X.env.locals = none
  freeC : ∀ x c, X.env.cells.lookup x = some c → H c = none
  pin : ∀ p ∈ X.pn ++ pins, s.heap.get? p.1 = some p.2 ∧ H p.1 = none ∧ p.1 ≠ X.env.locals ∧ p.1 ∉ X.fs ∧ ∀ v, p.2.data ≠ .cell v
  hok : HOk X.prog X.w H s.heap
  len : σ.length = X.N.length

section
variable {X : Cx} {pins : List (Addr × Obj)} {σ : List (Option V)} {H H' : Hp} {s : Shared} {h' : Heap}

theorem Cx.Ok.nofr (ok : X.Ok) {b : Addr} {o : Obj} (e : X.base.get? b = some o) : b ∉ X.fs := fun hb => by
  have := (ok.funs.mem hb).1
  rw [e] at this; cases this
theorem Inv.bs (I : Inv X pins σ H s) : ∀ b o, X.base.get? b = some o → s.heap.get? b = some o ∧ H b = none := fun b o e =>
  ⟨I.base.keep b o (I.ok.bs b o e).1 (I.ok.bs b o e).2 (I.ok.nofr e) (I.ok.noex b o e), I.base.free b o (I.ok.bs b o e).1 (I.ok.bs b o e).2 (I.ok.noex b o e)⟩
theorem Inv.bk (I : Inv X pins σ H s) : ∀ b o, X.base.get? b = some o → s.heap.get? b = some o := fun b o e => (I.bs b o e).1
theorem Inv.mod (I : Inv X pins σ H s) : Mod X.K X.mg X.base := I.ok.mod
theorem Inv.kIn (I : Inv X pins σ H s) : X.K.In s.heap := I.ok.mod.kin.keeps I.bk
theorem Inv.nolimit (I : Inv X pins σ H s) : s.heap.NoLimit := I.ok.mod.nolimit.keeps I.bk

theorem Inv.fr (I : Inv X pins σ H s) : ∃ m, Fr X.base X.env.locals s.heap m :=
  let ⟨m, hn, _⟩ := I.loc
  ⟨m, hn, I.bk, Nat.le_trans I.ok.bsz I.ok.above⟩
theorem Inv.lt (I : Inv X pins σ H s) : X.env.locals < s.heap.objs.size := let ⟨_, hn, _⟩ := I.loc; hn.lt
theorem Inv.sz (I : Inv X pins σ H s) : X.s_0.heap.objs.size ≤ s.heap.objs.size := Nat.le_trans I.ok.above (Nat.le_of_lt I.lt)
theorem Inv.nofs (I : Inv X pins σ H s) {a : Addr} (h : s.heap.objs.size ≤ a) : a ∉ X.fs := fun hb => by
  obtain ⟨_, o, ho, _⟩ := I.ok.funs.mem hb
  exact absurd (Nat.lt_of_lt_of_le (Heap.lt_size ho) (Nat.le_trans I.sz h)) (Nat.lt_irrefl _)
theorem Inv.cne (I : Inv X pins σ H s) : ∀ x c, X.env.cells.lookup x = some c → c ≠ X.env.locals := fun x c e z => by
  obtain ⟨v, o, ho, hd⟩ := I.cell x c e
  obtain ⟨m, ⟨o', es, ep, ho', hd', _⟩, _⟩ := I.loc
  rw [z, ho'] at ho; cases ho; rw [hd'] at hd; cases hd
theorem Inv.funs (I : Inv X pins σ H s) : s.heap.FunFrames X.base X.outer := by
  have all : ∀ (l : List Env), (∀ b ∈ frs l, b ∈ X.fs) → X.s_0.heap.FunFrames X.base l → s.heap.FunFrames X.base l := by
    intro l
    induction l with
    | nil => intro _ _; trivial
    | cons env r ih =>
      intro hs hl
      obtain ⟨hk, ⟨L, o, hf, hn, ho, hd⟩, hr⟩ := hl
      have hL : L ∈ X.fs := hs L (by unfold frs; rw [List.filterMap_cons, hf]; exact List.mem_cons_self)
      obtain ⟨sl, e⟩ := I.base.slot L o ho (I.ok.frf L hL) hL fun z => I.ok.exfs L z hL
      exact ⟨hk, ⟨L, _, hf, hn, e, hd⟩, ih (fun b hb => hs b (by unfold frs; rw [List.filterMap_cons, hf]; exact List.mem_cons_of_mem _ hb)) hr⟩
  exact all X.outer (fun _ hb => hb) I.ok.funs


theorem Inv.stack (I : Inv X pins σ H s) : s.heap.FunFrames X.base X.stack := by
  rcases I.ok.stk with e | ⟨e, hf⟩
  · rw [e]; exact I.funs
  · rw [e]
    obtain ⟨m, hn, _⟩ := I.loc
    refine .cons (by rw [I.ok.kind]; decide) hf hn ?_ I.funs
    exact Heap.get?_none_of_le (Nat.le_trans I.ok.bsz I.ok.above)
theorem Inv.stkSub (I : Inv X pins σ H s) : ∀ b ∈ frs X.stack, b ∈ X.env.locals :: X.fs := fun b hb => by
  rcases I.ok.stk with e | ⟨e, hf⟩
  · rw [e] at hb; exact List.mem_cons_of_mem _ hb
  · rw [e] at hb
    unfold frs at hb
    rw [List.filterMap_cons, hf] at hb
    exact hb
theorem Inv.stkFree (I : Inv X pins σ H s) : ∀ b ∈ frs X.stack, H b = none := fun b hb => by
  rcases List.mem_cons.mp (I.stkSub b hb) with e | hb
  · rw [e]; exact I.free
  · obtain ⟨_, o, ho, _⟩ := I.ok.funs.mem hb
    exact I.base.free b o ho (I.ok.frf b hb) fun z => I.ok.exfs b z hb


theorem Inv.step {g' : Array GenState} {t' : Nat} {d' : Drawn} {ch : List Addr} (I : Inv X pins σ H s)
    (hch : ∀ b ∈ ch, (b ∈ X.ex ∨ X.s_0.heap.objs.size ≤ b) ∧ b ≠ X.env.locals ∧ (∀ x c, X.env.cells.lookup x = some c → c ≠ b) ∧ ∀ p ∈ X.pn ++ pins, p.1 ≠ b)
    (keep : ∀ b o, b ≠ X.env.locals → b ∉ X.fs → b ∉ ch → s.heap.get? b = some o → H b = none → h'.get? b = some o)
    (slot : ∀ b o, b ≠ X.env.locals → b ∈ X.fs → b ∉ ch → s.heap.get? b = some o → H b = none → ∃ sl, h'.get? b = some { o with slots := sl }) (free : ∀ b o, b ∉ ch → s.heap.get? b = some o → H b = none → H' b = none)
    (there : ∀ b o, b ∉ ch → s.heap.get? b = some o → ∃ o', h'.get? b = some o')
    (tups : ∀ b xs, H b = some (.tup xs) → H' b = some (.tup xs)) (frzs : ∀ b o u, H b = some (.frz o u) → H' b = some (.frz o u)) (tbls : ∀ b ps, H b = some (.tbl ps) → ∃ more, H' b = some (.tbl (ps ++ more)))
    (ns : ∀ m, s.heap.Ns X.env.locals m → h'.Ns X.env.locals m) (hok : HOk X.prog X.w H' h') (hg : AllBare g') :
    Inv X pins σ H' { s with heap := h', gens := g', drawn := d', toks := t' } := by
  have neL : ∀ b o, X.s_0.heap.get? b = some o → b ≠ X.env.locals := fun b o e => Nat.ne_of_lt (Nat.lt_of_lt_of_le (Heap.lt_size e) I.ok.above)
  have neC : ∀ b o, X.s_0.heap.get? b = some o → b ∉ X.ex → b ∉ ch := fun b o e hx hb => by
    rcases (hch b hb).1 with z | z
    · exact hx z
    · exact absurd (Nat.lt_of_lt_of_le (Heap.lt_size e) z) (Nat.lt_irrefl _)
  have cellK : ∀ x c, X.env.cells.lookup x = some c → ∀ v, s.heap.IsCell c v → h'.IsCell c v := fun x c e v ⟨o, ho, hd⟩ => by
    have nch : c ∉ ch := fun z => (hch c z).2.2.1 x c e rfl
    by_cases hc : c ∈ X.fs
    · obtain ⟨sl, q⟩ := slot c o (I.cne x c e) hc nch ho (I.freeC x c e)
      exact ⟨_, q, hd⟩
    · exact ⟨o, keep c o (I.cne x c e) hc nch ho (I.freeC x c e), hd⟩
  refine ⟨I.ok, I.os, hg, ⟨fun b o e n hb hx => ?_, fun b o e n hb hx => ?_, fun b o e n hx => ?_, fun b o e hx => ?_, fun b xs e => tups b xs (I.base.tups b xs e), fun b o xs e => frzs b o xs (I.base.frzs b o xs e), fun b ps e => ?_⟩, ?_, fun x c e => ?_, ?_, fun x c e => ?_, fun p hp => ?_, hok, I.len⟩
  · exact keep b o (neL b o e) hb (neC b o e hx) (I.base.keep b o e n hb hx) (I.base.free b o e n hx)
  · obtain ⟨sl, e1⟩ := I.base.slot b o e n hb hx
    obtain ⟨sl', e2⟩ := slot b _ (neL b o e) hb (neC b o e hx) e1 (I.base.free b o e n hx)
    exact ⟨sl', e2⟩
  · obtain ⟨o', e1⟩ := I.base.there b o e hx
    exact free b o' (neC b o e hx) e1 (I.base.free b o e n hx)
  · obtain ⟨o', e1⟩ := I.base.there b o e hx
    exact there b o' (neC b o e hx) e1
  · obtain ⟨m1, e1⟩ := I.base.tbls b ps e
    obtain ⟨m2, e2⟩ := tbls b _ e1
    exact ⟨m1 ++ m2, by rw [e2, Array.append_assoc]⟩
  · obtain ⟨m, hn, hl⟩ := I.loc
    refine ⟨m, ns m hn, fun i x v e1 e2 e3 => ?_⟩
    obtain ⟨u, r, l⟩ := hl i x v e1 e2 e3
    refine ⟨u, r, ?_⟩
    rcases l with l | ⟨k, c, e, z⟩
    · exact .inl l
    · exact .inr ⟨k, c, e, cellK x c e _ z⟩
  · obtain ⟨v, z⟩ := I.cell x c e
    exact ⟨v, cellK x c e v z⟩
  · obtain ⟨m, ⟨o, _, _, ho, _⟩, _⟩ := I.loc
    exact free _ o (fun z => (hch _ z).2.1 rfl) ho I.free
  · obtain ⟨v, o, ho, hd⟩ := I.cell x c e
    exact free c o (fun z => (hch c z).2.2.1 x c e rfl) ho (I.freeC x c e)
  · obtain ⟨e, n, ne, nf, d⟩ := I.pin p hp
    have nch : p.1 ∉ ch := fun z => (hch p.1 z).2.2.2 p hp rfl
    exact ⟨keep p.1 p.2 ne nf nch e n, free p.1 p.2 nch e n, ne, nf, d⟩

theorem Inv.un {t' : Nat} (I : Inv X pins σ H s) (u : Un X.fs [] H H' s.heap h') (hok : HOk X.prog X.w H' h') : Inv X pins σ H' { s with heap := h', toks := t' } := by
  obtain ⟨m, ⟨o, es, ep, ho, r⟩, _⟩ := id I.loc
  obtain ⟨sl, hL⟩ := u.any ho I.free (by simp)
  exact I.step (g' := s.gens) (d' := s.drawn) (ch := []) (fun _ z => nomatch z) (fun b o _ hb _ e n => u.keep b o e n hb (by simp)) (fun b o _ hb _ e n => u.slot b o e n hb (by simp)) (fun b o _ e n => u.free b o e n (by simp)) (fun b o _ e => u.there b o e (by simp)) u.tups u.frzs u.tbls (fun m' hm => by
    obtain ⟨o', es', ep', ho', r'⟩ := hm
    rw [ho] at ho'; cases ho'
    exact ⟨_, es', ep', hL, r'⟩) hok I.bare

theorem Inv.call {g' : Array GenState} {t' : Nat} {d' : Drawn} {ch : List Addr} (I : Inv X pins σ H s) (u : Un (frs X.stack) ch H H' s.heap h') (hok : HOk X.prog X.w H' h') (hg : AllBare g')
    (hch : ∀ b ∈ ch, (b ∈ X.ex ∨ X.s_0.heap.objs.size ≤ b) ∧ b ≠ X.env.locals ∧ (∀ x c, X.env.cells.lookup x = some c → c ≠ b) ∧ ∀ p ∈ X.pn ++ pins, p.1 ≠ b) :
    Inv X pins σ H' { s with heap := h', gens := g', drawn := d', toks := t' } := by
  obtain ⟨m, ⟨o, es, ep, ho, r⟩, _⟩ := id I.loc
  obtain ⟨sl, hL⟩ := u.any ho I.free fun z => (hch _ z).2.1 rfl
  exact I.step (ch := ch) hch (fun b o hL hb hc e n => u.keep b o e n (fun z => (List.mem_cons.mp (I.stkSub b z)).elim hL hb) hc) (fun b o _ _ hc e n => u.any e n hc) (fun b o hc e n => u.free b o e n hc) (fun b o hc e => u.there b o e hc) u.tups u.frzs u.tbls (fun m' hm => by
    obtain ⟨o', es', ep', ho', r'⟩ := hm
    rw [ho] at ho'; cases ho'
    exact ⟨_, es', ep', hL, r'⟩) hok hg

theorem Inv.turned {t' : Nat} {it : Addr} (I : Inv X pins σ H s) (k : ∀ b o, b ≠ it → s.heap.get? b = some o → h'.get? b = some o) (hn : H it = none) (hL : it ≠ X.env.locals)
    (h1 : it ∈ X.ex ∨ X.s_0.heap.objs.size ≤ it) (h2 : ∀ x c, X.env.cells.lookup x = some c → c ≠ it) (h3 : ∀ p ∈ X.pn ++ pins, p.1 ≠ it) : Inv X pins σ H { s with heap := h', toks := t' } := by
  have nit : ∀ b u, H b = some u → b ≠ it := fun b u e z => by rw [z, hn] at e; cases e
  refine I.step (g' := s.gens) (d' := s.drawn) (ch := [it]) (fun b hb => ?_) (fun b o _ _ hc e _ => k b o (fun z => hc (by simp [z])) e) (fun b o _ _ hc e _ => ⟨o.slots, k b o (fun z => hc (by simp [z])) e⟩) (fun _ _ _ _ n => n)
    (fun b o hc e => ⟨o, k b o (fun z => hc (by simp [z])) e⟩) (fun _ _ e => e) (fun _ _ _ e => e) (fun b ps e => ⟨#[], by rw [e]; simp⟩) (fun m hm => ?_) (fun b u e => ?_) I.bare
  · have e : b = it := by simpa using hb
    subst e
    exact ⟨h1, hL, h2, h3⟩
  · obtain ⟨o, es, ep, ho, r⟩ := hm
    exact ⟨o, es, ep, k _ o (Ne.symm hL) ho, r⟩
  · refine (I.hok b u e).stay (fun c v hc q => k c v ?_ q) (fun _ q => q) fun _ _ q => q
    rcases hc with z | z
    · rw [z]; exact nit b u e
    · exact nit c _ z
theorem Inv.tok (I : Inv X pins σ H s) (t : Nat) : Inv X pins σ H { s with toks := t } := I.un (h' := s.heap) (t' := t) Un.refl I.hok

theorem Inv.kept {t' : Nat} (I : Inv X pins σ H s) (k : ∀ b u, s.heap.get? b = some u → h'.get? b = some u) : Inv X pins σ H { s with heap := h', toks := t' } := I.un (Un.kept k) (I.hok.kept k)

theorem Inv.laid {a : Addr} {o : HO} {t' : Nat} (I : Inv X pins σ H s) (k : ∀ b u, s.heap.get? b = some u → h'.get? b = some u) (hp : s.heap.objs.size ≤ a) (new : ObjOk X.prog X.w (upd H a o) h' a o) :
    Inv X pins σ (upd H a o) { s with heap := h', toks := t' } := I.un (Un.laid k hp (I.hok.fresh hp)) (I.hok.laid k hp new)

theorem Inv.write {x e : Addr} {o : HO} {t' : Nat} (I : Inv X pins σ H s) (mu : Mut (H x)) (he : e = x ∨ H e = some (.own x)) (k : ∀ b u, b ≠ e → s.heap.get? b = some u → h'.get? b = some u) (heo : ∃ u, h'.get? e = some u)
    (new : ObjOk X.prog X.w (upd H x o) h' x o) : Inv X pins σ (upd H x o) { s with heap := h', toks := t' } := I.un (Un.write mu he k heo) (I.hok.write mu he k heo new)

theorem Inv.weak {σ' : List (Option V)} (I : Inv X pins σ H s) (hl : σ'.length = σ.length) (w : ∀ (i : Nat) v, σ'[i]? = some (some v) → σ[i]? = some (some v)) : Inv X pins σ' H s :=
  ⟨I.ok, I.os, I.bare, I.base, let ⟨m, hn, hl'⟩ := I.loc; ⟨m, hn, fun i x v e1 e2 e3 => hl' i x v e1 (w i v e2) e3⟩, I.cell, I.free, I.freeC, I.pin, I.hok, hl.trans I.len⟩
theorem Inv.pins_of {pins' : List (Addr × Obj)} (I : Inv X pins σ H s) (h : ∀ p ∈ pins', s.heap.get? p.1 = some p.2 ∧ H p.1 = none ∧ p.1 ≠ X.env.locals ∧ p.1 ∉ X.fs ∧ ∀ v, p.2.data ≠ .cell v) : Inv X pins' σ H s :=
  ⟨I.ok, I.os, I.bare, I.base, I.loc, I.cell, I.free, I.freeC, fun p hp => (List.mem_append.mp hp).elim (fun z => I.pin p (List.mem_append_left _ z)) (h p), I.hok, I.len⟩

theorem nodup_ix {N : List Str} (hN : N.Nodup) {i j : Nat} {x : Str} (a : N[i]? = some x) (b : N[j]? = some x) : i = j := by
  obtain ⟨h1, e1⟩ := List.getElem?_eq_some_iff.mp a
  obtain ⟨h2, e2⟩ := List.getElem?_eq_some_iff.mp b
  exact (List.getElem_inj hN).mp (e1.trans e2.symm)


theorem store_ok2 {M : Model} {A : Around} {E : Value → Shared → Prop} {i : Nat} {x : Str} {v : V} {u : Value} {Q : Unit → Shared → Prop} (I : Inv X pins σ H s) (hN : X.N.Nodup) (hi : X.N[i]? = some x) (hx : Loc X.env.scope x) (r : RelV v u)
    (h : ∀ s', Inv X pins (σ.set i (some v)) H s' → (∃ a, Heap.SameBut a s.heap s'.heap ∧ (a = X.env.locals ∨ X.env.cells.lookup x = some a)) → Q () s') (hf : X.fn x = true ∨ X.env.scope.names.lookup x = some .local := by first | exact .inl rfl | exact .inr rfl | assumption) : wpAny M A (storeName X.env x u) Q E s := by
  obtain ⟨m, hn, hl⟩ := id I.loc
  have hcls : (X.env.scope.kind == .class || (X.env.scope.kind == .module && X.env.locals != X.env.globals)) = false := by rw [I.ok.kind]; rfl
  have hiσ : i < σ.length := by rw [I.len]; exact (List.getElem?_eq_some_iff.mp hi).1
  have cne := I.cne
  have tracked : ∀ {a : Addr} {h' : Heap}, (∃ o, s.heap.get? a = some o ∧ H a = none) → Heap.SameBut a s.heap h' → HOk X.prog X.w H h' := fun {a h'} ha hs b ob e => by
    obtain ⟨_, _, hfree⟩ := ha
    refine (I.hok b ob e).stay (fun c w' hc q => (hs.2 c ?_).trans q) (fun _ q => q) fun _ _ q => q
    rintro rfl
    rcases hc with rfl | hc
    · rw [hfree] at e; cases e
    · rw [hfree] at hc; cases hc
  rcases hx with hk | hk
  · refine wpAny_storeName_local hk hn (fun h' hn' hs => ?_) hcls
    obtain ⟨oL, _, _, hoL, _⟩ := id hn
    refine h _ ⟨I.ok, I.os, I.bare, ⟨fun b o e n hb hx => ?_, fun b o e n hb hx => ?_, I.base.free, fun b o e hx => ?_, I.base.tups, I.base.frzs, I.base.tbls⟩, ⟨_, hn', fun j y v' e1 e2 e3 => ?_⟩, fun y c e => ?_, I.free, I.freeC, fun p hp => ?_, tracked ⟨oL, hoL, I.free⟩ hs, by simpa using I.len⟩ ⟨_, hs, .inl rfl⟩
    · exact (hs.2 b (Nat.ne_of_lt (Nat.lt_of_lt_of_le (Heap.lt_size e) I.ok.above))).trans (I.base.keep b o e n hb hx)
    · obtain ⟨sl, e1⟩ := I.base.slot b o e n hb hx
      exact ⟨sl, (hs.2 b (Nat.ne_of_lt (Nat.lt_of_lt_of_le (Heap.lt_size e) I.ok.above))).trans e1⟩
    · obtain ⟨o', e1⟩ := I.base.there b o e hx
      exact ⟨o', (hs.2 b (Nat.ne_of_lt (Nat.lt_of_lt_of_le (Heap.lt_size e) I.ok.above))).trans e1⟩
    · by_cases hj : j = i
      · subst hj
        rw [hi] at e1; cases e1
        rw [List.getElem?_set_self hiσ] at e2
        cases e2
        exact ⟨u, r, .inl ⟨hk, by simp⟩⟩
      · rw [List.getElem?_set_ne (Ne.symm hj)] at e2
        obtain ⟨u', r', q⟩ := hl j y v' e1 e2 e3
        refine ⟨u', r', ?_⟩
        rcases q with ⟨k, e⟩ | ⟨k, c, e, z⟩
        · refine .inl ⟨k, ?_⟩
          have : y ≠ x := fun e => hj (nodup_ix hN e1 (e ▸ hi))
          simp [this, e]
        · exact .inr ⟨k, c, e, z.sameBut hs (cne y c e)⟩
    · obtain ⟨w', z⟩ := I.cell y c e
      exact ⟨w', z.sameBut hs (cne y c e)⟩
    · obtain ⟨e, n, ne, nf, d⟩ := I.pin p hp
      exact ⟨(hs.2 p.1 ne).trans e, n, ne, nf, d⟩
  · have hfn : X.fn x = true := by
      rcases hf with z | z
      · exact z
      · rw [z] at hk; cases hk
    obtain ⟨c, hc⟩ := I.ok.has x (.inl hk)
    obtain ⟨w', z⟩ := I.cell x c hc
    refine wpAny_storeName_cell I.ok.kind hk hc z (fun h' hc' hs => ?_)
    obtain ⟨oc, hoc, hocd⟩ := id z
    refine h { s with heap := h' } ⟨I.ok, I.os, I.bare, ⟨fun b o e n hb hx => ?_, fun b o e n hb hx => ?_, I.base.free, fun b o e hx => ?_, I.base.tups, I.base.frzs, I.base.tbls⟩, ⟨m, hn.sameBut hs (Ne.symm (cne x c hc)), fun j y v' e1 e2 e3 => ?_⟩, fun y c' e => ?_, I.free, I.freeC, fun p hp => ?_, tracked ⟨oc, hoc, I.freeC x c hc⟩ hs, by simpa using I.len⟩ ⟨c, hs, .inr hc⟩
    · exact (hs.2 b (Nat.ne_of_lt (Nat.lt_of_lt_of_le (Heap.lt_size e) (I.ok.cab x c hfn hc)))).trans (I.base.keep b o e n hb hx)
    · obtain ⟨sl, e1⟩ := I.base.slot b o e n hb hx
      exact ⟨sl, (hs.2 b (Nat.ne_of_lt (Nat.lt_of_lt_of_le (Heap.lt_size e) (I.ok.cab x c hfn hc)))).trans e1⟩
    · obtain ⟨o', e1⟩ := I.base.there b o e hx
      exact ⟨o', (hs.2 b (Nat.ne_of_lt (Nat.lt_of_lt_of_le (Heap.lt_size e) (I.ok.cab x c hfn hc)))).trans e1⟩
    · by_cases hj : j = i
      · subst hj
        rw [hi] at e1; cases e1
        rw [List.getElem?_set_self hiσ] at e2
        cases e2
        exact ⟨u, r, .inr ⟨.inl hk, c, hc, hc'⟩⟩
      · rw [List.getElem?_set_ne (Ne.symm hj)] at e2
        obtain ⟨u', r', q⟩ := hl j y v' e1 e2 e3
        refine ⟨u', r', ?_⟩
        rcases q with q | ⟨k, c', e, z'⟩
        · exact .inl q
        · refine .inr ⟨k, c', e, z'.sameBut hs ?_⟩
          rintro rfl
          exact hj (nodup_ix hN e1 (I.ok.inj _ _ _ e hc ▸ hi))
    · by_cases hcc : c' = c
      · subst hcc; exact ⟨_, hc'⟩
      · obtain ⟨w2, z2⟩ := I.cell y c' e
        exact ⟨w2, z2.sameBut hs hcc⟩
    · obtain ⟨e, n, ne, nf, d⟩ := I.pin p hp
      refine ⟨(hs.2 p.1 ?_).trans e, n, ne, nf, d⟩
      intro q
      rw [q, hoc] at e
      have q' : oc = p.2 := Option.some.inj e
      exact d w' (by rw [← q']; exact hocd)
theorem store_ok {M : Model} {A : Around} {E : Value → Shared → Prop} {i : Nat} {x : Str} {v : V} {u : Value} {Q : Unit → Shared → Prop} (I : Inv X pins σ H s) (hN : X.N.Nodup) (hi : X.N[i]? = some x) (hx : Loc X.env.scope x) (r : RelV v u)
    (h : ∀ s', Inv X pins (σ.set i (some v)) H s' → Q () s') (hf : X.fn x = true ∨ X.env.scope.names.lookup x = some .local := by first | exact .inl rfl | exact .inr rfl | assumption) : wpAny M A (storeName X.env x u) Q E s :=
  store_ok2 I hN hi hx r (fun s' I' _ => h s' I') hf

theorem Inv.call' {s' : Shared} {ch : List Addr} (I : Inv X pins σ H s) (ho : s'.os = s.os) (u : Un (frs X.stack) ch H H' s.heap s'.heap) (hok : HOk X.prog X.w H' s'.heap) (hg : AllBare s'.gens)
    (hch : ∀ b ∈ ch, (b ∈ X.ex ∨ X.s_0.heap.objs.size ≤ b) ∧ b ≠ X.env.locals ∧ (∀ x c, X.env.cells.lookup x = some c → c ≠ b) ∧ ∀ p ∈ X.pn ++ pins, p.1 ≠ b) : Inv X pins σ H' s' := by
  obtain ⟨h', g', d', t', o'⟩ := s'
  have e : o' = s.os := ho
  subst e
  exact I.call (g' := g') (t' := t') (d' := d') u hok hg hch
end



abbrev XK := Value → Option Addr → Hp → Prop
abbrev St := List (Option V)
abbrev VK := V → Hp → Prop

abbrev TE := St → Hp → VK → Prop
abbrev TT := St → Hp → (Bool → Hp → Prop) → Prop
abbrev TA := St → Hp → (List V → Hp → Prop) → Prop

structure Ends where
  nx : St → Hp → Prop
  rt : VK
  bk : St → Hp → Prop := fun _ _ => False
  ct : St → Hp → Prop := fun _ _ => False
abbrev TS := Ends → St → Hp → Prop

def EP (X : Cx) (pins : List (Addr × Obj)) (σ : St) (Q : VK) (u : Value) (s' : Shared) : Prop := ∃ v H', Inv X pins σ H' s' ∧ RelV v u ∧ Q v H'
def TP (X : Cx) (pins : List (Addr × Obj)) (σ : St) (Q : Bool → Hp → Prop) (b : Bool) (s' : Shared) : Prop := ∃ H', Inv X pins σ H' s' ∧ Q b H'
def AP (X : Cx) (pins : List (Addr × Obj)) (σ : St) (Q : List V → Hp → Prop) (us : List Value) (s' : Shared) : Prop := ∃ vs H', Inv X pins σ H' s' ∧ Vals vs us ∧ Q vs H'
def SP (X : Cx) (pins : List (Addr × Obj)) (D : Ends) (f : Flow) (s' : Shared) : Prop :=
  match f with
  | .next => ∃ σ' H', Inv X pins σ' H' s' ∧ D.nx σ' H'
  | .brk => ∃ σ' H', Inv X pins σ' H' s' ∧ D.bk σ' H'
  | .cont => ∃ σ' H', Inv X pins σ' H' s' ∧ D.ct σ' H'
  | .ret u => ∃ v σ' H', Inv X pins σ' H' s' ∧ RelV v u ∧ D.rt v H'

def PE (X : Cx) (e : Expr) (t : TE) : Prop :=
  ∀ (pins : List (Addr × Obj)) (s : Shared) (σ : St) (H : Hp) (Q : VK), Inv X pins σ H s → t σ H Q → wpAny (model X.prog X.w) X.A (eval e X.env) (EP X pins σ Q) X.xe s
def PT (X : Cx) (e : Expr) (t : TT) : Prop :=
  ∀ (pins : List (Addr × Obj)) (s : Shared) (σ : St) (H : Hp) (Q : Bool → Hp → Prop), Inv X pins σ H s → t σ H Q → wpAny (model X.prog X.w) X.A (isTrue e X.env (eval e X.env)) (TP X pins σ Q) X.xe s

def PW (X : Cx) (e : Expr) (t : TT) : Prop :=
  ∀ (whole : Sem Value) (pins : List (Addr × Obj)) (s : Shared) (σ : St) (H : Hp) (Q : Bool → Hp → Prop), Inv X pins σ H s → t σ H Q → wpAny (model X.prog X.w) X.A (isTrue e X.env whole) (TP X pins σ Q) X.xe s
theorem PW.pt {X : Cx} {e : Expr} {t : TT} (h : PW X e t) : PT X e t := h _

def PA (X : Cx) (es : List Expr) (t : TA) : Prop :=
  ∀ (pos : Pos) (pins : List (Addr × Obj)) (s : Shared) (σ : St) (H : Hp) (Q : List V → Hp → Prop), Inv X pins σ H s → t σ H Q → wpAny (model X.prog X.w) X.A (spliced (backTo pos (starEach es X.env))) (AP X pins σ Q) X.xe s
def PS (X : Cx) (st : Stmt) (t : TS) : Prop :=
  ∀ (pins : List (Addr × Obj)) (s : Shared) (σ : St) (H : Hp) (D : Ends), Inv X pins σ H s → t D σ H → wpAny (model X.prog X.w) X.A (exec st X.env) (SP X pins D) X.xe s
def PSs (X : Cx) (st : List Stmt) (t : TS) : Prop :=
  ∀ (pins : List (Addr × Obj)) (s : Shared) (σ : St) (H : Hp) (D : Ends), Inv X pins σ H s → t D σ H → wpAny (model X.prog X.w) X.A (execs st X.env) (SP X pins D) X.xe s

theorem thn {α : Type} {t : Sem α} {Q Q' : α → Shared → Prop} {M : Model} {A : Around} {E : Value → Shared → Prop} {s : Shared} (h : wpAny M A t Q E s) (hQ : ∀ a s, Q a s → Q' a s) : wpAny M A t Q' E s := wpAny_mono h hQ fun _ _ x => x
end L2

namespace L2
open PySem PySem.Spec PyProof.Rows
section
variable {X : Cx}


def tVar (i : Nat) : TE := fun σ H Q => ∃ v, σ[i]? = some (some v) ∧ Q v H
def tC (v : V) : TE := fun _ H Q => Q v H
theorem pe_var {i : Nat} {x : Str} {pos : Pos} (hN : X.N[i]? = some x) (hv : Vis X.env.scope x) (hd : (x == ("__debug__" : Str)) = false := by decide) (hcd : (x == ("__classdict__" : Str)) = false := by decide) : PE X (.Name x pos) (tVar i) := by
  intro pins s σ H Q I h
  obtain ⟨v, e, h⟩ := h
  obtain ⟨m, hn, hl⟩ := I.loc
  obtain ⟨u, r, l⟩ := hl i x v hN e hv
  have fin : EP X pins σ Q u s := ⟨v, H, I, r, h⟩
  rcases l with ⟨hk, hm⟩ | ⟨hk, c, hc, hcell⟩
  · exact wpAny_Name (wpAny_loadName_local I.ok.kind hk hn hm fin) hd
  · rcases hk with hk | hk
    · exact wpAny_Name (wpAny_loadName_cell I.ok.kind hk hc hcell fin) hd
    · exact wpAny_Name (wpAny_loadName_free I.ok.kind hk hc hcell fin hcd) hd
theorem pe_int {i j pos} : PE X (.Constant (.int i) j pos) (tC (.int i)) := fun _ _ _ H _ I h => wpAny_Constant_int ⟨.int i, H, I.tok _, ⟨_, rfl⟩, h⟩
theorem pe_bl {b j pos} : PE X (.Constant (.bool b) j pos) (tC (.bl b)) := fun _ _ _ H _ I h => Constant_bool ⟨.bl b, H, I, rfl, h⟩
theorem pe_non {j pos} : PE X (.Constant .none j pos) (tC .non) := fun _ _ _ H _ I h => Constant_none ⟨.non, H, I, rfl, h⟩
theorem pe_str {x j pos} : PE X (.Constant (.str x) j pos) (tC (.str x)) := fun _ _ _ H _ I h => Calls.Constant_str ⟨.str x, H, I.tok _, ⟨_, rfl⟩, h⟩


def Gl (X : Cx) (x : Str) : Prop := X.env.kindOf x = some .globalImplicit
theorem ld_glob {E : Value → Shared → Prop} {pins : List (Addr × Obj)} {s : Shared} {σ : St} {H : Hp} {x : Str} {u : Value} {pos : Pos} {Q : Value → Shared → Prop} (I : Inv X pins σ H s) (hg : Gl X x) (hm : X.mg x = some u) (h : Q u s)
    (hd : (x == ("__debug__" : Str)) = false := by decide) : wpAny (model X.prog X.w) X.A (eval (.Name x pos) X.env) Q E s :=
  Calls.Name_function_global I.ok.kind hg (Calls.loadGlobal_global (by rw [I.ok.glob]; exact I.mod.glob.keeps I.bk) hm h) hd
theorem ld_blt {E : Value → Shared → Prop} {pins : List (Addr × Obj)} {s : Shared} {σ : St} {H : Hp} {x : Str} {u : Value} {pos : Pos} {Q : Value → Shared → Prop} (I : Inv X pins σ H s) (hg : Gl X x) (hm : X.mg x = none) (hv : bootBuiltins x = some u) (h : Q u s)
    (hn : x ≠ "__name__" := by decide) (hd : (x == ("__debug__" : Str)) = false := by decide) : wpAny (model X.prog X.w) X.A (eval (.Name x pos) X.env) Q E s := by
  obtain ⟨mb, h1, h2⟩ := I.mod.blt
  exact Calls.Name_function_global I.ok.kind hg (Calls.loadGlobal_builtin (by rw [I.ok.glob]; exact I.mod.glob.keeps I.bk) hm (by rw [I.ok.blt]; exact h1.keeps I.bk) ((h2 x hn).trans hv) h) hd

theorem pe_glob {x : Str} {v : V} {u : Value} {pos : Pos} (hg : Gl X x) (hm : X.mg x = some u) (r : RelV v u) (hd : (x == ("__debug__" : Str)) = false := by decide) : PE X (.Name x pos) (tC v) :=
  fun _ _ _ H _ I h => ld_glob I hg hm ⟨v, H, I, r, h⟩ hd
theorem pe_bltn {x : Str} {v : V} {u : Value} {pos : Pos} (hg : Gl X x) (hm : X.mg x = none) (hv : bootBuiltins x = some u) (r : RelV v u) (hn : x ≠ "__name__" := by decide) (hd : (x == ("__debug__" : Str)) = false := by decide) : PE X (.Name x pos) (tC v) :=
  fun _ _ _ H _ I h => ld_blt I hg hm hv ⟨v, H, I, r, h⟩ hn hd



variable {a b : Expr} {ta tb : TE} {pos : Pos}
def tB (t : TE) : TT := fun σ H Q => t σ H fun x H1 => ∃ c, x = .bl c ∧ Q c H1
theorem pt_val {e : Expr} {t : TE} (h : PE X e t) (he : ∀ whole, isTrue e X.env whole = (do let v ← whole; standAt e.pos; holding [v] (truthy v)) := by intro _; rfl) : PT X e (tB t) := by
  intro pins s σ H Q I hw
  refine isTrue_plain (thn (h pins s σ H _ I hw) fun v s1 ⟨x, H1, I1, r1, q1⟩ => ?_) (he _)
  obtain ⟨d, rfl, q⟩ := q1
  cases r1
  exact wpAny_truthy_bool ⟨H1, I1, q⟩


variable {tA tB' : TT} {rest : List Expr}
def tOr (t u : TT) : TT := fun σ H Q => t σ H fun c H1 => if c = true then Q true H1 else u σ H1 Q
def tNot (t : TT) : TT := fun σ H Q => t σ H fun c H1 => Q (!c) H1
theorem pw_and1 (ha : PT X a tA) : PW X (.BoolOp .And [a] pos) tA := by
  intro wh pins s σ H Q I h
  refine isTrue_and (thn (ha pins s σ H Q I h) fun c s1 e => ?_)
  cases c with
  | true => exact isTrue_and_nil e
  | false => exact e
theorem pw_or1 (ha : PT X a tA) : PW X (.BoolOp .Or [a] pos) tA := by
  intro wh pins s σ H Q I h
  refine isTrue_or (thn (ha pins s σ H Q I h) fun c s1 e => ?_)
  cases c with
  | false => exact isTrue_or_nil e
  | true => exact e
theorem pw_or (ha : PT X a tA) (hb : PW X (.BoolOp .Or (b :: rest) pos) tB') : PW X (.BoolOp .Or (a :: b :: rest) pos) (tOr tA tB') := by
  intro wh pins s σ H Q I h
  refine isTrue_or (thn (ha pins s σ H _ I h) fun c s1 ⟨H1, I1, q1⟩ => ?_)
  cases c with
  | true => exact ⟨H1, I1, q1⟩
  | false => exact hb wh pins s1 σ H1 Q I1 q1
theorem pt_not (ha : PT X a tA) : PT X (.UnaryOp .Not a pos) (tNot tA) := by
  intro pins s σ H Q I h
  exact isTrue_not (ha pins s σ H (fun c H1 => Q (!c) H1) I h)

def tAndV (ta tb : TE) : TE := fun σ H Q => ta σ H fun x H1 => ∃ c, x = .bl c ∧ if c = true then tb σ H1 Q else Q (.bl false) H1
def tNotV (ta : TE) : TE := fun σ H Q => ta σ H fun x H1 => ∃ c, x = .bl c ∧ Q (.bl (!c)) H1
theorem pe_one {op} {t : TE} (h : PE X a t) : PE X (.BoolOp op [a] pos) t := fun pins s σ H Q I hw => BoolOp_one (h pins s σ H Q I hw)
theorem pe_and (ha : PE X a ta) (hb : PE X (.BoolOp .And (b :: rest) pos) tb) : PE X (.BoolOp .And (a :: b :: rest) pos) (tAndV ta tb) := by
  intro pins s σ H Q I h
  refine BoolOp_and (thn (ha pins s σ H _ I h) fun v s1 ⟨x, H1, I1, r1, q1⟩ => ?_)
  obtain ⟨c, rfl, q1⟩ := q1
  cases r1
  refine wpAny_truthy_bool ?_
  cases c with
  | true => exact hb pins s1 σ H1 Q I1 q1
  | false => exact ⟨.bl false, H1, I1, rfl, q1⟩
theorem pe_not (ha : PE X a ta) : PE X (.UnaryOp .Not a pos) (tNotV ta) := by
  intro pins s σ H Q I h
  refine UnaryOp_ (thn (ha pins s σ H _ I h) fun v s1 ⟨x, H1, I1, r1, q1⟩ => ?_)
  obtain ⟨c, rfl, q1⟩ := q1
  cases r1
  exact not_of (wpAny_truthy_bool ⟨.bl (!c), H1, I1, rfl, q1⟩)

def tIf (t : TT) (ta tb : TE) : TE := fun σ H Q => t σ H fun c H1 => if c = true then ta σ H1 Q else tb σ H1 Q
theorem pe_ifExp {c : Expr} (hc : PT X c tA) (ha : PE X a ta) (hb : PE X b tb) : PE X (.IfExp c a b pos) (tIf tA ta tb) := by
  intro pins s σ H Q I h
  refine wpAny_IfExp (thn (hc pins s σ H _ I h) fun d s1 ⟨H1, I1, q1⟩ => ?_)
  cases d with
  | true => exact ha pins s1 σ H1 Q I1 q1
  | false => exact hb pins s1 σ H1 Q I1 q1
end
end L2

namespace L2
open PySem PySem.Spec PyProof.Rows


def SqL (K : PySem.W.Frag) (H : Hp) (a : Addr) (xs : List V) : Prop :=
  Rd H a (.lst xs) ∨
    ∃ (o : Obj) (its : Array Value) (n : Nat), K.lookup a = some o ∧ o.cls = .type "list" ∧ o.dict = none ∧ o.data = .seq its n ∧ its.size ≤ sizeLine ∧ Vals xs its.toList
def SqT (K : PySem.W.Frag) (H : Hp) (a : Addr) (xs : List V) : Prop :=
  Rd H a (.tup xs) ∨
    ∃ (o : Obj) (its : Array Value) (n : Nat), K.lookup a = some o ∧ o.cls = .type "tuple" ∧ o.data = .seq its n ∧ its.size ≤ sizeLine ∧ Vals xs its.toList
def absV : Value → Option V
  | .none => some .non
  | .bool b => some (.bl b)
  | .int i _ => some (.int i)
  | .str x _ => some (.str x)
  | .bytes b _ => some (.byt b)
  | .float b _ => some (.flt b)
  | .ref a => some (.ref a)
  | .type n => some (.ty n)
  | _ => none
theorem RelV.abs {x : V} {u : Value} (r : RelV x u) : absV u = some x := by
  cases x with
  | non => cases r; rfl
  | bl _ => cases r; rfl
  | int _ => obtain ⟨t, rfl⟩ := r; rfl
  | str _ => obtain ⟨t, rfl⟩ := r; rfl
  | byt _ => obtain ⟨t, rfl⟩ := r; rfl
  | flt _ => obtain ⟨t, rfl⟩ := r; rfl
  | ref _ => cases r; rfl
  | ty _ => cases r; rfl
theorem RelV.inj {x y : V} {u : Value} (r : RelV x u) (q : RelV y u) : x = y := Option.some.inj (r.abs.symm.trans q.abs)
theorem Vals.inj : ∀ {xs ys : List V} {us : List Value}, Vals xs us → Vals ys us → xs = ys
  | _, _, _, .nil, .nil => rfl
  | _, _, _, .cons r t, .cons r' t' => by rw [r.inj r', Vals.inj t t']
section
variable {X : Cx} {pins : List (Addr × Obj)} {σ : St} {H : Hp} {s : Shared} {a : Addr} {xs ys : List V}
theorem SqL.of {K : PySem.W.Frag} (h : H a = some (.lst xs)) : SqL K H a xs := .inl (.inl h)
theorem SqT.of {K : PySem.W.Frag} (h : H a = some (.tup xs)) : SqT K H a xs := .inl (.inl h)
theorem Inv.list (I : Inv X pins σ H s) (h : SqL X.K H a xs) : ∃ its : List Value, Vals xs its ∧ PlainL s.heap a its.toArray ∧ xs.length ≤ sizeLine := by
  rcases h with h | ⟨o, its, n, hk, hc, hd, hs, hz, r⟩
  · obtain ⟨z, its, n, r, e⟩ := h.ok I.hok
    exact ⟨its, r, ⟨_, n, e, rfl, rfl, rfl⟩, z⟩
  · refine ⟨its.toList, r, ⟨o, n, I.kIn a o hk, hc, hd, by simpa using hs⟩, ?_⟩
    have e := r.length
    simp only [Array.length_toList] at e
    omega
theorem Inv.tuple (I : Inv X pins σ H s) (h : SqT X.K H a xs) : ∃ its : List Value, Vals xs its ∧ IsTup s.heap a its.toArray ∧ xs.length ≤ sizeLine := by
  rcases h with h | ⟨o, its, n, hk, hc, hs, hz, r⟩
  · obtain ⟨z, its, r, p⟩ := h.ok I.hok
    exact ⟨its, r, p, z⟩
  · refine ⟨its.toList, r, ⟨o, I.kIn a o hk, hc, n, by simpa using hs⟩, ?_⟩
    have e := r.length
    simp only [Array.length_toList] at e
    omega
theorem Inv.list_inj (I : Inv X pins σ H s) (h : SqL X.K H a xs) (h' : SqL X.K H a ys) : xs = ys := by
  obtain ⟨its, r, ⟨o, n, e, _, _, d⟩, _⟩ := I.list h
  obtain ⟨its', r', ⟨o', n', e', _, _, d'⟩, _⟩ := I.list h'
  rw [e] at e'; cases e'
  rw [d] at d'
  injection d' with d1 _
  have : its = its' := by simpa using congrArg Array.toList d1
  subst this
  exact r.inj r'
theorem Inv.tuple_inj (I : Inv X pins σ H s) (h : SqT X.K H a xs) (h' : SqT X.K H a ys) : xs = ys := by
  obtain ⟨its, r, ⟨o, e, _, n, d⟩, _⟩ := I.tuple h
  obtain ⟨its', r', ⟨o', e', _, n', d'⟩, _⟩ := I.tuple h'
  rw [e] at e'; cases e'
  rw [d] at d'
  injection d' with d1 _
  have : its = its' := by simpa using congrArg Array.toList d1
  subst this
  exact r.inj r'
end


abbrev Cx.wish (X : Cx) (E : Value → Shared → Prop) : Cx := { X with xe := E }

abbrev Cx.nox (X : Cx) : Cx := X.wish fun _ _ => False
theorem Cx.Ok.wish {X : Cx} (ok : X.Ok) (E : Value → Shared → Prop) : (X.wish E).Ok :=
  ⟨ok.mod, ok.kind, ok.glob, ok.blt, ok.above, ok.inj, ok.has, ok.cab, ok.hd, ok.frames, ok.stk, ok.exf, ok.bs, ok.bsz, ok.noex, ok.exfs, ok.funs, ok.frf⟩
theorem Cx.Ok.unwish {X : Cx} {E : Value → Shared → Prop} (ok : (X.wish E).Ok) : X.Ok :=
  ⟨ok.mod, ok.kind, ok.glob, ok.blt, ok.above, ok.inj, ok.has, ok.cab, ok.hd, ok.frames, ok.stk, ok.exf, ok.bs, ok.bsz, ok.noex, ok.exfs, ok.funs, ok.frf⟩
section
variable {X : Cx} {pins : List (Addr × Obj)} {σ : St} {H : Hp} {s : Shared} {E : Value → Shared → Prop}
theorem Inv.wish (I : Inv X pins σ H s) (E : Value → Shared → Prop) : Inv (X.wish E) pins σ H s := ⟨I.ok.wish E, I.os, I.bare, I.base, I.loc, I.cell, I.free, I.freeC, I.pin, I.hok, I.len⟩
theorem Inv.unwish (I : Inv (X.wish E) pins σ H s) : Inv X pins σ H s := ⟨I.ok.unwish, I.os, I.bare, I.base, I.loc, I.cell, I.free, I.freeC, I.pin, I.hok, I.len⟩
theorem SP.unwish {D : Ends} {f : Flow} {s' : Shared} (h : SP (X.wish E) pins D f s') : SP X pins D f s' := by
  cases f with
  | next => obtain ⟨σ', H', I, q⟩ := h; exact ⟨σ', H', I.unwish, q⟩
  | brk => obtain ⟨σ', H', I, q⟩ := h; exact ⟨σ', H', I.unwish, q⟩
  | cont => obtain ⟨σ', H', I, q⟩ := h; exact ⟨σ', H', I.unwish, q⟩
  | ret u => obtain ⟨v, σ', H', I, r, q⟩ := h; exact ⟨v, σ', H', I.unwish, r, q⟩
theorem PE.nox {e : Expr} {t : TE} (h : PE X.nox e t) : PE X e t := fun pins s σ H Q I hw =>
  wpAny_mono (h pins s σ H Q (I.wish _) hw) (fun _ _ ⟨v, H', I', r, q⟩ => ⟨v, H', I'.unwish, r, q⟩) fun _ _ z => False.elim z
theorem PT.nox {e : Expr} {t : TT} (h : PT X.nox e t) : PT X e t := fun pins s σ H Q I hw =>
  wpAny_mono (h pins s σ H Q (I.wish _) hw) (fun _ _ ⟨H', I', q⟩ => ⟨H', I'.unwish, q⟩) fun _ _ z => False.elim z
theorem PSs.nox {st : List Stmt} {t : TS} (h : PSs X.nox st t) : PSs X st t := fun pins s σ H D I hw =>
  wpAny_mono (h pins s σ H D (I.wish _) hw) (fun _ _ q => q.unwish) fun _ _ z => False.elim z
end


section
variable {X : Cx} {st : Stmt} {rest : List Stmt} {t u : TS} {e : Expr} {te : TE} {pos : Pos}
def tNext : TS := fun D σ H => D.nx σ H
def tSeq (t u : TS) : TS := fun D σ H => t { D with nx := u D } σ H
theorem pss_nil : PSs X [] tNext := fun _ _ σ H _ I h => wpAny_execs_nil ⟨σ, H, I, h⟩
theorem pss_cons (h1 : PS X st t) (h2 : PSs X rest u) : PSs X (st :: rest) (tSeq t u) := by
  intro pins s σ H D I h
  refine wpAny_execs_cons (thn (h1 pins s σ H { D with nx := u D } I h) fun f s1 q => ?_)
  cases f with
  | next =>
    obtain ⟨σ', H', I', q⟩ := q
    exact h2 pins s1 σ' H' D I' q
  | ret v => exact q
  | brk => exact q
  | cont => exact q
theorem pss_one (h1 : PS X st t) : PSs X [st] t := by
  intro pins s σ H D I h
  refine wpAny_execs_cons (thn (h1 pins s σ H D I h) fun f s1 q => ?_)
  cases f with
  | next => exact wpAny_execs_nil q
  | ret v => exact q
  | brk => exact q
  | cont => exact q
theorem Inv.quiet {pins : List (Addr × Obj)} {σ : St} {H : Hp} {s : Shared} (I : Inv X pins σ H s) : interactive X.env = false := by simp [interactive, I.ok.kind]

def tDrop (te : TE) : TS := fun D σ H => te σ H fun _ H1 => D.nx σ H1
theorem ps_expr (he : PE X e te) (hs : swapsWith e none pos.line X.env = pure false := by rfl) : PS X (.Expr e pos) (tDrop te) := by
  intro pins s σ H D I h
  exact wpAny_Expr_any (thn (he pins s σ H _ I h) fun v s1 ⟨x, H1, I1, r1, q1⟩ => ⟨σ, H1, I1, q1⟩) I.quiet hs
def tRet (te : TE) : TS := fun D σ H => te σ H D.rt
theorem ps_ret (he : PE X e te) : PS X (.Return (some e) pos) (tRet te) := by
  intro pins s σ H D I h
  exact wpAny_Return_some (thn (he pins s σ H _ I h) fun v s1 ⟨x, H1, I1, r1, q1⟩ => ⟨x, σ, H1, I1, r1, q1⟩)
def tIfS (c : TT) (t u : TS) : TS := fun D σ H => c σ H fun b H1 => if b = true then t D σ H1 else u D σ H1
theorem ps_if {c : Expr} {a b : List Stmt} {tc : TT} (hc : PT X c tc) (ha : PSs X a t) (hb : PSs X b u) : PS X (.If c a b pos) (tIfS tc t u) := by
  intro pins s σ H D I h
  refine wpAny_If (thn (hc pins s σ H _ I h) fun d s1 ⟨H1, I1, q1⟩ => ?_)
  cases d with
  | true => exact ha pins s1 σ H1 D I1 q1
  | false => exact hb pins s1 σ H1 D I1 q1

end


abbrev TG := V → St → Hp → (St → Hp → Prop) → Prop
abbrev TGs := List V → St → Hp → (St → Hp → Prop) → Prop
def PG (X : Cx) (target : Expr) (t : TG) : Prop :=
  ∀ (pins : List (Addr × Obj)) (s : Shared) (σ : St) (H : Hp) (v : V) (u : Value) (Q : St → Hp → Prop), Inv X pins σ H s → RelV v u → t v σ H Q →
    wpAny (model X.prog X.w) X.A (assign target X.env u) (fun _ s' => ∃ σ' H', Inv X pins σ' H' s' ∧ Q σ' H') X.xe s

def PGs (X : Cx) (ts : List Expr) (t : TGs) : Prop :=
  ∀ (pins : List (Addr × Obj)) (s : Shared) (σ : St) (H : Hp) (vs : List V) (us : List Value) (Q : St → Hp → Prop), Inv X pins σ H s → Vals vs us → t vs σ H Q →
    wpAny (model X.prog X.w) X.A (assignInOrder ((assignEach ts X.env).map (·.2)) us) (fun _ s' => ∃ σ' H', Inv X pins σ' H' s' ∧ Q σ' H') X.xe s

abbrev TSet := V → V → V → Hp → (Hp → Prop) → Prop
def PSet (X : Cx) (t : TSet) : Prop :=
  ∀ (pins : List (Addr × Obj)) (s : Shared) (σ : St) (H : Hp) (o i v : V) (ov iv u : Value) (Q : Hp → Prop), Inv X pins σ H s → RelV o ov → RelV i iv → RelV v u → t o i v H Q →
    wpAny (model X.prog X.w) X.A (setItem ov iv u) (fun _ s' => ∃ H', Inv X pins σ H' s' ∧ Q H') X.xe s

section
variable {X : Cx} {pos : Pos}
def gName (i : Nat) : TG := fun v σ H Q => Q (σ.set i (some v)) H
theorem pg_name {i : Nat} {x : Str} (hN : X.N.Nodup) (hi : X.N[i]? = some x) (hx : Loc X.env.scope x) (hf : X.fn x = true ∨ X.env.scope.names.lookup x = some .local := by first | exact .inl rfl | exact .inr rfl | assumption) : PG X (.Name x pos) (gName i) := by
  intro pins s σ H v u Q I r h
  exact wpAny_assign_Name (store_ok I hN hi hx r (fun s' I' => ⟨_, H, I', h⟩) hf)
def gNil : TGs := fun vs σ H Q => vs = [] ∧ Q σ H
def gCons (t : TG) (u : TGs) : TGs := fun vs σ H Q => ∃ v r, vs = v :: r ∧ t v σ H fun σ' H' => u r σ' H' Q
theorem pgs_nil : PGs X [] gNil := by
  intro pins s σ H vs us Q I r h
  obtain ⟨e, h⟩ := h
  subst e
  cases r
  exact assignInOrder_nil ⟨σ, H, I, h⟩
theorem pgs_cons {e : Expr} {es : List Expr} {t : TG} {u : TGs} (h1 : PG X e t) (h2 : PGs X es u)
    (hs : (assignEach (e :: es) X.env).map (·.2) = assign e X.env :: (assignEach es X.env).map (·.2) := by rfl) : PGs X (e :: es) (gCons t u) := by
  intro pins s σ H vs us Q I r h
  obtain ⟨v, vr, e1, h⟩ := h
  subst e1
  cases r with
  | cons r rr =>
    rw [hs]
    refine assignInOrder_cons (thn (h1 pins s σ H _ _ _ I r h) fun _ s1 ⟨σ1, H1, I1, q1⟩ => ?_)
    exact h2 pins s1 σ1 H1 _ _ Q I1 rr q1

def gTup (K : PySem.W.Frag) (n : Nat) (t : TGs) : TG := fun v σ H Q => ∃ a xs, v = .ref a ∧ SqT K H a xs ∧ xs.length = n ∧ t xs σ H Q
theorem pg_tup {es : List Expr} {k : Nat} {t : TGs} {n : Nat} (hc : X.calm = true) (h : PGs X es t)
    (hn : (assignEach es X.env).length = n := by rfl) (hst : (assignEach es X.env).findIdx? (·.1) = none := by rfl) : PG X (.Tuple es k pos) (gTup X.K n t) := by
  intro pins s σ H v u Q I r hw
  obtain ⟨a, xs, e1, hq, hl, hw⟩ := hw
  subst e1
  cases r
  obtain ⟨its, rv, ht, hz⟩ := I.tuple hq
  refine assign_Tuple_tuple (I.ok.hd hc) ht (by simp [hn, ← hl, rv.length]) hst fun h' hx => ?_
  have I1 : Inv X pins σ H { s with heap := h' } := I.kept (t' := s.toks) fun b o e => hx b o (Nat.ne_of_lt (Heap.lt_size e)) e
  exact h pins _ σ H xs _ Q I1 (by simpa using rv) hw

def gSub (to ti : TE) (t : TSet) : TG := fun v σ H Q => to σ H fun o H1 => ti σ H1 fun i H2 => t o i v H2 fun H3 => Q σ H3
theorem pg_sub {o i : Expr} {to ti : TE} {t : TSet} (ho : PE X o to) (hi : PE X i ti) (hs : PSet X t)
    (ha : ∀ v, assign (.Subscript o i pos) X.env v = (do
      let ov ← holding [v] (eval o X.env)
      let iv ← holding [v, ov] (eval i X.env)
      standAt pos
      holding [v, ov, iv] (setItem ov iv v)
      release [v, ov, iv] []) := by intro _; rfl) : PG X (.Subscript o i pos) (gSub to ti t) := by
  intro pins s σ H v u Q I r h
  rw [ha]
  refine wpAny_bind (wpAny_holding (thn (ho pins s σ H _ I h) fun ov s1 ⟨x, H1, I1, r1, q1⟩ => ?_))
  refine wpAny_bind (wpAny_holding (thn (hi pins s1 σ H1 _ I1 q1) fun iv s2 ⟨y, H2, I2, r2, q2⟩ => ?_))
  refine wpAny_bind (wpAny_standAt (wpAny_bind (wpAny_holding (thn (hs pins s2 σ H2 x y v ov iv u _ I2 r1 r2 r q2) fun _ s3 ⟨H3, I3, q3⟩ => ?_))))
  exact wpAny_release ⟨σ, H3, I3, q3⟩

def tAsg (te : TE) (g : TG) : TS := fun D σ H => te σ H fun x H1 => g x σ H1 D.nx
theorem ps_asg {tg e : Expr} {te : TE} {g : TG} (he : PE X e te) (hg : PG X tg g) (hs : swapsWithSole [tg] e pos.line X.env = pure false := by rfl) (hw : swappedStores [tg] e X.env = pure none := by rfl)
    (h1 : (assignEach [tg] X.env).map (·.2) = [assign tg X.env] := by rfl) : PS X (.Assign [tg] e pos) (tAsg te g) := by
  intro pins s σ H D I h
  refine wpAny_Assign_stores (thn (he pins s σ H _ I h) fun v s1 ⟨x, H1, I1, r1, q1⟩ => ?_) hs hw
  rw [h1]
  exact thn (hg pins s1 σ H1 x v _ I1 r1 q1) fun _ s2 q => q

theorem ps_set {i : Nat} {x : Str} {e : Expr} {te : TE} {pos' : Pos} (hN : X.N.Nodup) (hi : X.N[i]? = some x) (hx : Loc X.env.scope x) (he : PE X e te) (hs : swapsWith e (some (.Name x pos')) pos.line X.env = pure false := by rfl) (hf : X.fn x = true ∨ X.env.scope.names.lookup x = some .local := by first | exact .inl rfl | exact .inr rfl | assumption) :
    PS X (.Assign [.Name x pos'] e pos) (tAsg te (gName i)) := by
  intro pins s σ H D I h
  refine wpAny_Assign_Name (thn (he pins s σ H _ I h) fun v s1 ⟨y, H1, I1, r1, q1⟩ => ?_) hs
  exact store_ok I1 hN hi hx r1 (fun s2 I2 => ⟨_, H1, I2, q1⟩) hf

def tPar (i j : Nat) (ta : TA) : TS := fun D σ H => ta σ H fun vs H1 => ∃ v w, vs = [v, w] ∧ D.nx ((σ.set i (some v)).set j (some w)) H1
theorem ps_par {i j : Nat} {x y : Str} {a b : Expr} {ta : TA} {px py pt : Pos} {kt k2 pt2} (hc : X.calm = true) (hN : X.N.Nodup) (hi : X.N[i]? = some x) (hj : X.N[j]? = some y) (hij : i ≠ j)
    (hx : X.env.scope.names.lookup x = some .local) (hy : X.env.scope.names.lookup y = some .local) (ha : PA X [a, b] ta)
    (hw : swappedStores [.Tuple [.Name x px, .Name y py] kt pt] (.Tuple [a, b] k2 pt2) X.env = pure (some [x, y]))
    (hs : swapsWithSole [.Tuple [.Name x px, .Name y py] kt pt] (.Tuple [a, b] k2 pt2) pos.line X.env = pure false := by rfl) :
    PS X (.Assign [.Tuple [.Name x px, .Name y py] kt pt] (.Tuple [a, b] k2 pt2) pos) (tPar i j ta) := by
  intro pins s σ H D I h
  rw [exec_Assign_arm]
  refine wpAny_bind (wpAny_standAt ?_)
  rw [hs]
  refine wpAny_bind (wpAny_pure ?_)
  rw [if_neg (by decide)]
  refine wpAny_bind (Tuple_ (thn (ha _ pins s σ H _ I h) fun us s1 ⟨vs, H1, I1, r1, q1⟩ => ?_))
  obtain ⟨v, w, e1, q1⟩ := q1
  subst e1
  obtain ⟨u1, u2, rfl, rv, rw'⟩ : ∃ u1 u2, us = [u1, u2] ∧ RelV v u1 ∧ RelV w u2 := by
    cases r1 with
    | cons p q =>
      cases q with
      | cons p' q' =>
        cases q'
        exact ⟨_, _, rfl, p, p'⟩
  refine wpAny_newObj_type ?_ (by show 2 ≤ sizeLine; decide)
  have I2 : Inv X pins σ H1 { s1 with heap := s1.heap.push { cls := .type "tuple", data := .seq [u1, u2].toArray } } := I1.kept (t' := s1.toks) fun b o e => Heap.get?_push_of_some _ e
  rw [hw]
  refine wpAny_bind (wpAny_pure ?_)
  show wpAny (model X.prog X.w) X.A (do rule "assign.swapped-stores"; let items ← unpackItems (.ref s1.heap.objs.size) 2 none; assignInOrder [fun v => bindName X.env y v, fun v => bindName X.env x v] items.reverse; pure Flow.next) _ _ _
  refine wpAny_bind (wpAny_rule (wpAny_bind (unpackItems_tuple (items := #[u1, u2]) (I.ok.hd hc) (IsTup.new s1.heap _) fun h' hx' => ?_)))
  have I3 := I2.kept (h' := h') (t' := s1.toks) fun b o e => hx' b o (Nat.ne_of_lt (Heap.lt_size e)) e
  show wpAny _ _ (assignInOrder [fun v => bindName X.env y v, fun v => bindName X.env x v] [u2, u1] >>= fun _ => pure Flow.next) _ _ _
  refine wpAny_bind (assignInOrder_cons (wpAny_bindName (store_ok I3 hN hj (.inl hy) rw' (fun s2 I4 => ?_) (.inr hy))))
  refine assignInOrder_cons (wpAny_bindName (store_ok I4 hN hi (.inl hx) rv (fun s3 I5 => assignInOrder_nil (wpAny_pure ?_)) (.inr hx)))
  rw [List.set_comm _ _ (Ne.symm hij)] at I5
  exact ⟨_, H1, I5, q1⟩

end


section
variable {X : Cx} {pos : Pos}

def tWhile (c : TT) (tb : TS) : TS := fun D σ H => ∃ W : Nat → St → Hp → Prop, (∃ m, W m σ H) ∧ ∀ m σ H, W m σ H →
  c σ H fun b H1 => if b = true then ∃ N : St → Hp → Prop, (∀ σ' H', N σ' H' → ∃ m', m' < m ∧ W m' σ' H') ∧ tb { D with nx := N, ct := N, bk := D.nx } σ H1 else D.nx σ H1
theorem ps_while {c : Expr} {body : List Stmt} {tc : TT} {tb : TS} (hp : PassesOwn (model X.prog X.w) X.A X.env X.xe) (hc : PT X c tc) (hb : PSs X body tb) : PS X (.While c body [] pos) (tWhile tc tb) := by
  intro pins s σ H D I h
  obtain ⟨W, ⟨m0, w0⟩, turn⟩ := h
  refine wpAny_While (codeAny_whileLoop (fun n s' => ∃ σ' H', Inv X pins σ' H' s' ∧ W n σ' H') ?_ m0 ⟨σ, H, I, w0⟩)
  rintro n s1 ⟨σ1, H1, I1, w1⟩
  refine wpAny_passesOwn hp (thn (hc pins s1 σ1 H1 _ I1 (turn n σ1 H1 w1)) fun b s2 ⟨H2, I2, q2⟩ => ?_)
  cases b with
  | true =>
    obtain ⟨N, hN, q2⟩ := q2
    rw [if_pos rfl]
    refine wpAny_passesOwn hp (thn (hb pins s2 σ1 H2 _ I2 q2) fun f s3 q3 => ?_)
    cases f with
    | next =>
      obtain ⟨σ3, H3, I3, n3⟩ := q3
      obtain ⟨m', hm, w3⟩ := hN σ3 H3 n3
      exact ⟨m', hm, σ3, H3, I3, w3⟩
    | cont =>
      obtain ⟨σ3, H3, I3, n3⟩ := q3
      obtain ⟨m', hm, w3⟩ := hN σ3 H3 n3
      exact ⟨m', hm, σ3, H3, I3, w3⟩
    | brk => exact q3
    | ret v => exact q3
  | false =>
    rw [if_neg Bool.false_ne_true]
    exact wpAny_execs_nil ⟨σ1, H2, I2, q2⟩
end



structure It where
  go : Nat → Hp → Prop
  yld : Nat → Hp → V → Hp → Prop
  stop : Nat → Hp → Prop

def FpOk (X : Cx) (pins : List (Addr × Obj)) (H : Hp) (b : Addr) : Prop :=
  H b = none ∧ b ≠ X.env.locals ∧ b ∉ X.fs ∧ (b ∈ X.ex ∨ X.s_0.heap.objs.size ≤ b) ∧ (∀ x c, X.env.cells.lookup x = some c → c ≠ b) ∧ ∀ p ∈ X.pn ++ pins, p.1 ≠ b
theorem Inv.fpOk {X : Cx} {pins : List (Addr × Obj)} {σ : St} {H H' : Hp} {s : Shared} {b : Addr} (I : Inv X pins σ H s) (hb : s.heap.objs.size ≤ b) (hn : H' b = none) : FpOk X pins H' b := by
  refine ⟨hn, Nat.ne_of_gt (Nat.lt_of_lt_of_le I.lt hb), I.nofs hb, .inr (Nat.le_trans I.sz hb), fun x c e z => ?_, fun p hp z => ?_⟩
  · obtain ⟨v, q⟩ := I.cell x c e
    exact absurd (Nat.lt_of_lt_of_le q.lt (by rw [z]; exact hb)) (Nat.lt_irrefl _)
  · exact absurd (Nat.lt_of_lt_of_le (Heap.lt_size (I.pin p hp).1) (by rw [z]; exact hb)) (Nat.lt_irrefl _)
structure Turn (P : Program) (w : World) (K : PySem.W.Frag) (tg : Expr) (J : It) (fp : List Addr) (it : Addr) (tn : Nat → Heap → Prop) : Prop where
  mem : it ∈ fp
  obj : ∀ i h, tn i h → ∀ b ∈ fp, ∃ o, h.get? b = some o ∧ ∀ v, o.data ≠ .cell v
  keep : ∀ i h h', tn i h → (∀ b ∈ fp, ∀ o, h.get? b = some o → h'.get? b = some o) → tn i h'
  item : ∀ (X : Cx), X.prog = P → X.w = w → X.K = K → X.calm = true → ∀ (i : Nat) (pins : List (Addr × Obj)) (s : Shared) (σ : St) (H : Hp) (E : Value → Shared → Prop), Inv X pins σ H s → (∀ b ∈ fp, FpOk X pins H b) → tn i s.heap → J.go i H →
    wpAny (model P w) X.A (pyNext (.ref it)) (fun r s1 => ∃ u, r = some u ∧
      wpAny (model P w) X.A (letOwnedTupleGo tg (.ref it) u) (fun _ s2 => ∃ x H', Inv X pins σ H' s2 ∧ RelV x u ∧ J.yld i H x H' ∧ tn (i + 1) s2.heap ∧ ∀ b ∈ fp, H' b = none) E s1) E s
  done : ∀ (X : Cx), X.prog = P → X.w = w → X.K = K → X.calm = true → ∀ (i : Nat) (pins : List (Addr × Obj)) (s : Shared) (σ : St) (H : Hp) (E : Value → Shared → Prop), Inv X pins σ H s → (∀ b ∈ fp, FpOk X pins H b) → tn i s.heap → J.stop i H →
    wpAny (model P w) X.A (pyNext (.ref it)) (fun r s1 => r = none ∧ Inv X pins σ H s1) E s
  self : ∀ (A : Around) (i : Nat) (s : Shared) (Q : Value → Shared → Prop) (E : Value → Shared → Prop), tn i s.heap → Q (.ref it) s → wpAny (model P w) A (pyIter (.ref it)) Q E s
abbrev TI := St → Hp → (It → Hp → Prop) → Prop

def PIE (X : Cx) (pins : List (Addr × Obj)) (σ : St) (tg : Expr) (R : It → Hp → Prop) (itv : Value) (s2 : Shared) : Prop :=
  ∃ (it : Addr) (fp : List Addr) (tn : Nat → Heap → Prop) (J : It) (H' : Hp), itv = .ref it ∧ Inv X pins σ H' s2 ∧ Turn X.prog X.w X.K tg J fp it tn ∧ tn 0 s2.heap ∧ (∀ b ∈ fp, FpOk X pins H' b) ∧ R J H'
def PI (X : Cx) (tg iter : Expr) (wi : TI) : Prop :=
  ∀ (pins : List (Addr × Obj)) (s : Shared) (σ : St) (H : Hp) (R : It → Hp → Prop), Inv X pins σ H s → wi σ H R →
    wpAny (model X.prog X.w) X.A (eval iter X.env) (fun v s1 => wpAny (model X.prog X.w) X.A (pyIter v) (PIE X pins σ tg R) X.xe s1) X.xe s


theorem go_of {M : Model} {A : Around} {E : Value → Shared → Prop} {s : Shared} {tg : Expr} {it : Addr} {u : Value} {o : Obj} {n : String} {vs : Array Value} {Q : Unit → Shared → Prop} (ho : s.heap.get? it = some o) (hc : o.cls = .type n) (hd : o.data = .fields vs)
    (hn : ["enumerate", "zip", "dict_itemiterator", "dict_reverseitemiterator", "odict_iterator", "itertools.zip_longest", "itertools.pairwise"].contains n = false) (hQ : Q () s) : wpAny M A (letOwnedTupleGo tg (.ref it) u) Q E s := by
  unfold letOwnedTupleGo
  cases tg <;> first
    | exact wpAny_pure hQ
    | (cases u <;> first
        | exact wpAny_pure hQ
        | (refine wpAny_bind (wpAny_load ho ?_)
           rw [hc, hd]
           show wpAny M A (if (["enumerate", "zip", "dict_itemiterator", "dict_reverseitemiterator", "odict_iterator", "itertools.zip_longest", "itertools.pairwise"].contains n && vs[0]? == some (rawInt _)) = true then _ else _) Q E s
           rw [if_neg (by intro h; rw [hn, Bool.false_and] at h; cases h)]
           exact wpAny_pure hQ))


def Itl (K : PySem.W.Frag) (a : Addr) : It :=
  ⟨fun i H => ∃ xs x, SqL K H a xs ∧ xs[i]? = some x, fun i H x H' => H' = H ∧ ∀ xs, SqL K H a xs → xs[i]? = some x, fun i H => ∃ xs, SqL K H a xs ∧ xs.length ≤ i⟩
def Itt (K : PySem.W.Frag) (a : Addr) : It :=
  ⟨fun i H => ∃ xs x, SqT K H a xs ∧ xs[i]? = some x, fun i H x H' => H' = H ∧ ∀ xs, SqT K H a xs → xs[i]? = some x, fun i H => ∃ xs, SqT K H a xs ∧ xs.length ≤ i⟩

def Itr (lo : Int) (n : Nat) : It := ⟨fun i _ => i < n, fun i H x H' => H' = H ∧ x = .int (lo + i), fun i _ => n ≤ i⟩
theorem turn_list {P : Program} {w : World} {K : PySem.W.Frag} {tg : Expr} (a it : Addr) : Turn P w K tg (Itl K a) [it] it (fun i h => h.IsListIter it a i) where
  mem := by simp
  obj := fun i h st b hb => by
    have e : b = it := by simpa using hb
    subst e
    obtain ⟨o, e, c, d⟩ := st
    exact ⟨o, e, fun v z => by rw [d] at z; cases z⟩
  keep := fun i h h' st k => st.at fun o e => k it (by simp) o e
  item := by
    intro X hP hw hK hc i pins s σ H E I hf st hg
    subst hP hw hK
    obtain ⟨xs, x, hq, hx⟩ := hg
    obtain ⟨its, rv, p, hz⟩ := I.list hq
    obtain ⟨u, hu, ru⟩ := rv.get hx
    obtain ⟨f0, f1, f2, f3, f4, f5⟩ := hf it (by simp)
    refine wpAny_pyNext_list_item st p.isList (x := u) (by simpa using hu) fun h' st' sb => ?_
    have I1 : Inv X pins σ H { s with heap := h' } := I.turned (t' := s.toks) (fun b o hb e => (sb.2 b hb).trans e) f0 f1 f3 f4 f5
    obtain ⟨o, e, c, d⟩ := id st'
    exact ⟨u, rfl, go_of (s := { s with heap := h' }) e c d (by decide) ⟨x, H, I1, ru, ⟨rfl, fun ys hy => by rw [I.list_inj hy hq]; exact hx⟩, st', fun b hb => (hf b hb).1⟩⟩
  done := by
    intro X hP hw hK hc i pins s σ H E I hf st hg
    subst hP hw hK
    obtain ⟨xs, hq, hx⟩ := hg
    obtain ⟨its, rv, p, hz⟩ := I.list hq
    obtain ⟨f0, f1, f2, f3, f4, f5⟩ := hf it (by simp)
    have hl := rv.length
    exact wpAny_pyNext_list_end (I.ok.hd hc) st p.isList (by simp; omega) fun h' eb => ⟨rfl, I.turned (t' := s.toks) (fun b o hb e => eb b o hb e) f0 f1 f3 f4 f5⟩
  self := fun _ _ _ _ _ st h => wpAny_pyIter_listiter st h
theorem turn_tuple {P : Program} {w : World} {K : PySem.W.Frag} {tg : Expr} (a it : Addr) : Turn P w K tg (Itt K a) [it] it (fun i h => h.IsTupleIter it a i) where
  mem := by simp
  obj := fun i h st b hb => by
    have e : b = it := by simpa using hb
    subst e
    obtain ⟨o, e, c, d⟩ := st
    exact ⟨o, e, fun v z => by rw [d] at z; cases z⟩
  keep := fun i h h' st k => st.at fun o e => k it (by simp) o e
  item := by
    intro X hP hw hK hc i pins s σ H E I hf st hg
    subst hP hw hK
    obtain ⟨xs, x, hq, hx⟩ := hg
    obtain ⟨its, rv, p, hz⟩ := I.tuple hq
    obtain ⟨u, hu, ru⟩ := rv.get hx
    obtain ⟨f0, f1, f2, f3, f4, f5⟩ := hf it (by simp)
    refine wpAny_pyNext_tuple_item st (show s.heap.IsTuple a its.toArray from p) (x := u) (by simpa using hu) fun h' st' sb => ?_
    have I1 : Inv X pins σ H { s with heap := h' } := I.turned (t' := s.toks) (fun b o hb e => (sb.2 b hb).trans e) f0 f1 f3 f4 f5
    obtain ⟨o, e, c, d⟩ := id st'
    exact ⟨u, rfl, go_of (s := { s with heap := h' }) e c d (by decide) ⟨x, H, I1, ru, ⟨rfl, fun ys hy => by rw [I.tuple_inj hy hq]; exact hx⟩, st', fun b hb => (hf b hb).1⟩⟩
  done := by
    intro X hP hw hK hc i pins s σ H E I hf st hg
    subst hP hw hK
    obtain ⟨xs, hq, hx⟩ := hg
    obtain ⟨its, rv, p, hz⟩ := I.tuple hq
    obtain ⟨f0, f1, f2, f3, f4, f5⟩ := hf it (by simp)
    have hl := rv.length
    exact wpAny_pyNext_tuple_end (I.ok.hd hc) st (show s.heap.IsTuple a its.toArray from p) (by simp; omega) fun h' eb => ⟨rfl, I.turned (t' := s.toks) (fun b o hb e => eb b o hb e) f0 f1 f3 f4 f5⟩
  self := fun _ _ _ _ _ st h => wpAny_pyIter_tupleiter st h
theorem turn_range {P : Program} {w : World} {K : PySem.W.Frag} {tg : Expr} (it : Addr) (lo : Int) (n : Nat) : Turn P w K tg (Itr lo n) [it] it (fun i h => IsRangeIter h it (lo + (i : Nat) * 1) ((n : Int) - (i : Nat)) 1) where
  mem := by simp
  obj := fun i h st b hb => by
    have e : b = it := by simpa using hb
    subst e
    exact ⟨_, st, fun v z => by
      have z' : Data.fields _ = Data.cell v := z
      cases z'⟩
  keep := fun i h h' st k => k it (by simp) _ st
  item := by
    intro X hP hw hK hc i pins s σ H E I hf st hg
    subst hP hw hK
    obtain ⟨f0, f1, f2, f3, f4, f5⟩ := hf it (by simp)
    have W := Walks.range (prog := X.prog) (w := X.w) (I.ok.hd hc) it lo 1 n
    refine W.item i s _ _ hg st fun v h' tk hv st' kk => ?_
    obtain ⟨t, rfl⟩ := hv
    have I1 : Inv X pins σ H { s with heap := h', toks := tk } := I.turned (fun b o hb e => kk b o (by simpa using hb) e) f0 f1 f3 f4 f5
    refine ⟨_, rfl, go_of (s := { s with heap := h', toks := tk }) (n := "range_iterator") st' rfl rfl (by decide) ⟨.int (lo + i), H, I1, ⟨t, ?_⟩, ⟨rfl, rfl⟩, st', fun b hb => (hf b hb).1⟩⟩
    rw [Int.mul_one]
  done := by
    intro X hP hw hK hc i pins s σ H E I hf st hg
    subst hP hw hK
    obtain ⟨f0, f1, f2, f3, f4, f5⟩ := hf it (by simp)
    exact wpAny_pyNext_range_end (I.ok.hd hc) st (by have : n ≤ i := hg; omega) fun h' eb => ⟨rfl, I.turned (t' := s.toks) (fun b o hb e => eb b o hb e) f0 f1 f3 f4 f5⟩
  self := fun _ _ _ _ _ st h => wpAny_pyIter_rangeiter st h
end L2

namespace L2
open PySem PySem.Spec PyProof.Rows
section
variable {X : Cx} {tg : Expr}
theorem range_it {pins : List (Addr × Obj)} {σ : St} {H : Hp} {s : Shared} {R : It → Hp → Prop} {E : Value → Shared → Prop} {lo hi : Int} {t u v : Tok} {tk : Nat} (I : Inv X pins σ H s) (h1 : -(2 ^ 62) ≤ lo) (h2 : lo < 2 ^ 62) (h3 : -(2 ^ 62) ≤ hi) (h4 : hi < 2 ^ 62)
    (q : R (Itr lo (hi - lo).toNat) H) : wpAny (model X.prog X.w) X.A (pyIter (.ref s.heap.objs.size)) (PIE X pins σ tg R) E { s with heap := s.heap.push { cls := .type "range", data := .fields #[.int lo t, .int hi u, .int 1 v] }, toks := tk } := by
  refine wpAny_pyIter_range (IsRange.new ..) (small_one h1 h2 h3 h4) ?_
  have I1 : Inv X pins σ H { s with heap := s.heap.push { cls := .type "range", data := .fields #[.int lo t, .int hi u, .int 1 v] }, toks := tk } := I.kept fun b o e => Heap.get?_push_of_some _ e
  refine ⟨(s.heap.push { cls := .type "range", data := .fields #[.int lo t, .int hi u, .int 1 v] }).objs.size, [(s.heap.push { cls := .type "range", data := .fields #[.int lo t, .int hi u, .int 1 v] }).objs.size], _, _, H, rfl,
    I1.kept (t' := tk) fun b o e => Heap.get?_push_of_some _ e, turn_range _ lo (hi - lo).toNat, ?_, fun b hb => ?_, q⟩
  · have e1 : lo + ((0 : Nat) : Int) * 1 = lo := by simp
    have e2 : (((hi - lo).toNat : Nat) : Int) - ((0 : Nat) : Int) = Builtin.Range.rangeSize lo hi 1 := by rw [rangeSize_one]; split <;> omega
    show IsRangeIter _ _ (lo + ((0 : Nat) : Int) * 1) ((((hi - lo).toNat : Nat) : Int) - ((0 : Nat) : Int)) 1
    rw [e1, e2]
    exact Heap.get?_push_size _ rfl
  · have e : b = (s.heap.push { cls := .type "range", data := .fields #[.int lo t, .int hi u, .int 1 v] }).objs.size := by simpa using hb
    subst e
    exact I1.fpOk (Nat.le_refl _) (I1.hok.fresh (Nat.le_refl _))
def iRng1 (ta : TA) : TI := fun σ H R => ta σ H fun vs H1 => ∃ j : Int, vs = [.int j] ∧ -(2 ^ 62) ≤ j ∧ j < 2 ^ 62 ∧ R (Itr 0 j.toNat) H1
theorem pi_range1 {a : Expr} {ta : TA} {p pos : Pos} (hg : Gl X "range") (hm : X.mg "range" = none) (ha : PA X [a] ta) (hs : starEach [a] X.env = [(false, eval a X.env)] := by rfl) : PI X tg (.Call (.Name "range" p) [a] [] pos) (iRng1 ta) := by
  intro pins s σ H R I h
  refine Call_ (ld_blt I hg hm boot_range (PyProof.Rows.callWith_type1 (thn (ha pos pins s σ H _ I h) fun us s1 ⟨vs, H1, I1, r1, q1⟩ => ?_) hs rfl))
  obtain ⟨j, e, q1, q2, q⟩ := q1
  subst e
  cases r1 with
  | cons r rr =>
    cases rr
    obtain ⟨t, rfl⟩ := r
    exact call_range_1 (range_it I1 (by omega) (by omega) q1 q2 (by simpa using q))
def tFor (wi : TI) (g : TG) (tb : TS) : TS := fun D σ H => wi σ H fun J H1 => ∃ W : Nat → Nat → St → Hp → Prop, (∃ m, W 0 m σ H1) ∧ ∀ i m σ H, W i m σ H →
  (J.stop i H ∧ D.nx σ H) ∨ (J.go i H ∧ ∃ N : St → Hp → Prop, (∀ σ' H', N σ' H' → ∃ m', m' < m ∧ W (i + 1) m' σ' H') ∧ ∀ x H', J.yld i H x H' → g x σ H' fun σ2 H2 => tb { D with nx := N, ct := N, bk := D.nx } σ2 H2)

def pinsAt (fp : List Addr) (h : Heap) : List (Addr × Obj) := fp.filterMap fun b => (h.get? b).map fun o => (b, o)
theorem mem_pinsAt {fp : List Addr} {h : Heap} {b : Addr} {o : Obj} (hb : b ∈ fp) (e : h.get? b = some o) : (b, o) ∈ pinsAt fp h := List.mem_filterMap.mpr ⟨b, hb, by rw [e]; rfl⟩
theorem of_pinsAt {fp : List Addr} {h : Heap} {p : Addr × Obj} (hp : p ∈ pinsAt fp h) : p.1 ∈ fp ∧ h.get? p.1 = some p.2 := by
  obtain ⟨b, hb, e⟩ := List.mem_filterMap.mp hp
  cases q : h.get? b with
  | none => rw [q] at e; cases e
  | some o =>
    rw [q] at e
    have e' : (b, o) = p := Option.some.inj e
    subst e'
    exact ⟨hb, q⟩
theorem Inv.pinned {pins : List (Addr × Obj)} {σ : St} {H : Hp} {s : Shared} {fp : List Addr} (I : Inv X pins σ H s) (hf : ∀ b ∈ fp, FpOk X pins H b) (ho : ∀ b ∈ fp, ∃ o, s.heap.get? b = some o ∧ ∀ v, o.data ≠ .cell v) : Inv X (pins ++ pinsAt fp s.heap) σ H s :=
  I.pins_of fun p hp => (List.mem_append.mp hp).elim (fun z => I.pin p (List.mem_append_right _ z)) fun z => by
    obtain ⟨hb, e⟩ := of_pinsAt z
    obtain ⟨f0, f1, f2, _⟩ := hf p.1 hb
    obtain ⟨o, e', d⟩ := ho p.1 hb
    rw [e] at e'; cases e'
    exact ⟨e, f0, f1, f2, d⟩
theorem Inv.unpinned {pins pl : List (Addr × Obj)} {σ : St} {H : Hp} {s : Shared} (I : Inv X (pins ++ pl) σ H s) : Inv X pins σ H s := I.pins_of fun p hp => I.pin p (List.mem_append_right _ (List.mem_append_left _ hp))
theorem ps_for {iter : Expr} {body : List Stmt} {wi : TI} {g : TG} {tb : TS} {pos : Pos} (hp : PassesOwn (model X.prog X.w) X.A X.env X.xe) (hc : X.calm = true) (hi : PI X tg iter wi) (hg : PG X tg g) (hb : PSs X body tb)
    (hs : ∀ x, foldedSetIterable iter X.env x = pure x := by intro _; rfl) : PS X (.For tg iter body [] pos) (tFor wi g tb) := by
  intro pins s σ H D I h
  refine wpAny_For (thn (hi pins s σ H _ I h) fun v s1 h1 => thn h1 fun itv s2 h2 => ?_) hs
  obtain ⟨it, fp, tn, J, H2, e, I2, T, st2, f2, W, ⟨m0, w0⟩, turn⟩ := h2
  subst e
  have stat : ∀ {H' : Hp}, (∀ b ∈ fp, H' b = none) → ∀ b ∈ fp, FpOk X pins H' b := fun hn b hb => ⟨hn b hb, (f2 b hb).2⟩
  refine codeAny_forLoop_any (fun n s' => ∃ i σ' H', Inv X pins σ' H' s' ∧ tn i s'.heap ∧ (∀ b ∈ fp, H' b = none) ∧ W i n σ' H') ?_ m0 ⟨0, σ, H2, I2, st2, fun b hb => (f2 b hb).1, w0⟩
  rintro n s3 ⟨i, σ3, H3, I3, st3, fr3, w3⟩
  rcases turn i n σ3 H3 w3 with ⟨stop, qn⟩ | ⟨go, N, hN, step⟩
  · refine wpAny_passesOwn hp (thn (T.done X rfl rfl rfl hc i pins s3 σ3 H3 X.xe I3 (stat fr3) st3 stop) fun r s4 ⟨hr, I4⟩ => ?_)
    subst hr
    exact wpAny_execs_nil ⟨σ3, H3, I4, qn⟩
  · refine wpAny_passesOwn hp (thn (T.item X rfl rfl rfl hc i pins s3 σ3 H3 X.xe I3 (stat fr3) st3 go) fun r s4 ⟨u, hr, h4⟩ => ?_)
    subst hr
    refine wpAny_passesOwn hp (thn h4 fun _ s5 ⟨x, H5, I5, r5, y5, st5, fr5⟩ => ?_)
    have I5' := I5.pinned (stat fr5) (T.obj _ _ st5)
    refine wpAny_passesOwn hp (thn (hg _ s5 σ3 H5 x u _ I5' r5 (step x H5 y5)) fun _ s6 ⟨σ6, H6, I6, q6⟩ => ?_)
    refine wpAny_passesOwn hp (thn (hb _ s6 σ6 H6 _ I6 q6) fun f s7 q7 => ?_)
    have again : ∀ {σ7 : St} {H7 : Hp}, Inv X (pins ++ pinsAt fp s5.heap) σ7 H7 s7 → N σ7 H7 → ∃ m, m < n ∧ ∃ i σ' H', Inv X pins σ' H' s7 ∧ tn i s7.heap ∧ (∀ b ∈ fp, H' b = none) ∧ W i m σ' H' := fun {σ7 H7} I7 n7 => by
      obtain ⟨m', hm, w7⟩ := hN σ7 H7 n7
      refine ⟨m', hm, i + 1, σ7, H7, I7.unpinned, T.keep _ _ _ st5 fun b hb o e => (I7.pin (b, o) (List.mem_append_right _ (List.mem_append_right _ (mem_pinsAt hb e)))).1, fun b hb => ?_, w7⟩
      obtain ⟨o, e, d⟩ := T.obj _ _ st5 b hb
      exact (I7.pin (b, o) (List.mem_append_right _ (List.mem_append_right _ (mem_pinsAt hb e)))).2.1
    cases f with
    | next => obtain ⟨σ7, H7, I7, n7⟩ := q7; exact again I7 n7
    | cont => obtain ⟨σ7, H7, I7, n7⟩ := q7; exact again I7 n7
    | brk => obtain ⟨σ7, H7, I7, q7⟩ := q7; exact ⟨σ7, H7, I7.unpinned, q7⟩
    | ret v => obtain ⟨x7, σ7, H7, I7, r7, q7⟩ := q7; exact ⟨x7, σ7, H7, I7.unpinned, r7, q7⟩
end



end L2

namespace L2
open PySem PySem.Spec PyProof.Rows

abbrev R2 := V → V → Hp → VK → Prop

def OpR (X : Cx) (f : Value → Value → Sem Value) (r : R2) : Prop :=
  ∀ (pins : List (Addr × Obj)) (s : Shared) (σ : St) (H : Hp) (x y : V) (v u : Value) (Q : VK), Inv X pins σ H s → RelV x v → RelV y u → r x y H Q →
    wpAny (model X.prog X.w) X.A (f v u) (EP X pins σ Q) X.xe s

def UnR (X : Cx) (f : Value → Sem Value) (r : V → Hp → VK → Prop) : Prop :=
  ∀ (pins : List (Addr × Obj)) (s : Shared) (σ : St) (H : Hp) (x : V) (v : Value) (Q : VK), Inv X pins σ H s → RelV x v → r x H Q →
    wpAny (model X.prog X.w) X.A (f v) (EP X pins σ Q) X.xe s

def CallR (X : Cx) (f : Value) (r : List V → Hp → VK → Prop) : Prop :=
  ∀ (pins : List (Addr × Obj)) (s : Shared) (σ : St) (H : Hp) (xs : List V) (us : List Value) (Q : VK), Inv X pins σ H s → Vals xs us → r xs H Q →
    wpAny (model X.prog X.w) X.A (call f us) (EP X pins σ Q) X.xe s

def TruR (X : Cx) (r : V → Hp → (Bool → Hp → Prop) → Prop) : Prop :=
  ∀ (pins : List (Addr × Obj)) (s : Shared) (σ : St) (H : Hp) (x : V) (v : Value) (Q : Bool → Hp → Prop), Inv X pins σ H s → RelV x v → r x H Q →
    wpAny (model X.prog X.w) X.A (truthy v) (TP X pins σ Q) X.xe s

def tOp (r : R2) (ta tb : TE) : TE := fun σ H Q => ta σ H fun x H1 => tb σ H1 fun y H2 => r x y H2 Q
def tUn (r : V → Hp → VK → Prop) (ta : TE) : TE := fun σ H Q => ta σ H fun x H1 => r x H1 Q

def rI (C : Int → Int → Prop) (g : Int → Int → V) : R2 := fun x y H Q => ∃ i j, x = .int i ∧ y = .int j ∧ C i j ∧ Q (g i j) H
def rI0 (g : Int → Int → V) : R2 := fun x y H Q => ∃ i j, x = .int i ∧ y = .int j ∧ Q (g i j) H
def rU (g : Int → V) : V → Hp → VK → Prop := fun x H Q => ∃ i, x = .int i ∧ Q (g i) H

section
variable {X : Cx} {a b c : Expr} {ta tb tc : TE} {pos : Pos}

theorem binT (ha : PE X a ta) (hb : PE X b tb) {pins : List (Addr × Obj)} {s : Shared} {σ : St} {H : Hp} {R : V → V → Hp → Prop} (I : Inv X pins σ H s)
    (h : ta σ H fun x H1 => tb σ H1 fun y H2 => R x y H2) {Q : Value → Shared → Prop} {f : Value → Value → Sem Value}
    (hf : ∀ v u s2 x y H2, Inv X pins σ H2 s2 → RelV x v → RelV y u → R x y H2 → wpAny (model X.prog X.w) X.A (f v u) Q X.xe s2) :
    wpAny (model X.prog X.w) X.A (eval a X.env) (fun v s₁ => wpAny (model X.prog X.w) X.A (eval b X.env) (fun u s₂ => wpAny (model X.prog X.w) X.A (f v u) Q X.xe s₂) X.xe s₁) X.xe s := by
  refine thn (ha pins s σ H _ I h) fun v s1 ⟨x, H1, I1, r1, q1⟩ => ?_
  refine thn (hb pins s1 σ H1 _ I1 q1) fun u s2 ⟨y, H2, I2, r2, q2⟩ => ?_
  exact hf v u s2 x y H2 I2 r1 r2 q2

theorem pe_op {op : Operator} {r : R2} (ho : OpR X (binaryOp op) r) (ha : PE X a ta) (hb : PE X b tb) : PE X (.BinOp a op b pos) (tOp r ta tb) := by
  intro pins s σ H Q I h
  exact wpAny_BinOp (binT ha hb I h fun v u s2 x y H2 I2 rx ry q => ho pins s2 σ H2 x y v u Q I2 rx ry q)
theorem pe_un {op : UnaryOp} {r : V → Hp → VK → Prop} (ho : UnR X (unaryOp op) r) (ha : PE X a ta) : PE X (.UnaryOp op a pos) (tUn r ta) := by
  intro pins s σ H Q I h
  exact UnaryOp_ (thn (ha pins s σ H _ I h) fun v s1 ⟨x, H1, I1, r1, q1⟩ => ho pins s1 σ H1 x v Q I1 r1 q1)

theorem opI {f : Value → Value → Sem Value} {C : Int → Int → Prop} {g : Int → Int → Int}
    (rule : ∀ (i j : Int) (t u : Tok) (s : Shared) (Q : Value → Shared → Prop) (E : Value → Shared → Prop), C i j → Q (.int (g i j) s.toks) { s with toks := s.toks + 1 } → wpAny (model X.prog X.w) X.A (f (.int i t) (.int j u)) Q E s) :
    OpR X f (rI C fun i j => .int (g i j)) := by
  intro pins s σ H x y v u Q I rx ry h
  obtain ⟨i, j, rfl, rfl, hc, q⟩ := h
  obtain ⟨t, rfl⟩ := rx
  obtain ⟨t', rfl⟩ := ry
  exact rule i j t t' s _ _ hc ⟨.int (g i j), H, I.tok _, ⟨_, rfl⟩, q⟩
theorem opI0 {f : Value → Value → Sem Value} {g : Int → Int → Int}
    (rule : ∀ (i j : Int) (t u : Tok) (s : Shared) (Q : Value → Shared → Prop) (E : Value → Shared → Prop), Q (.int (g i j) s.toks) { s with toks := s.toks + 1 } → wpAny (model X.prog X.w) X.A (f (.int i t) (.int j u)) Q E s) :
    OpR X f (rI0 fun i j => .int (g i j)) := by
  intro pins s σ H x y v u Q I rx ry h
  obtain ⟨i, j, rfl, rfl, q⟩ := h
  obtain ⟨t, rfl⟩ := rx
  obtain ⟨t', rfl⟩ := ry
  exact rule i j t t' s _ _ ⟨.int (g i j), H, I.tok _, ⟨_, rfl⟩, q⟩
theorem opB0 {f : Value → Value → Sem Value} {g : Int → Int → Bool}
    (rule : ∀ (i j : Int) (t u : Tok) (s : Shared) (Q : Value → Shared → Prop) (E : Value → Shared → Prop), Q (.bool (g i j)) s → wpAny (model X.prog X.w) X.A (f (.int i t) (.int j u)) Q E s) :
    OpR X f (rI0 fun i j => .bl (g i j)) := by
  intro pins s σ H x y v u Q I rx ry h
  obtain ⟨i, j, rfl, rfl, q⟩ := h
  obtain ⟨t, rfl⟩ := rx
  obtain ⟨t', rfl⟩ := ry
  exact rule i j t t' s _ _ ⟨.bl (g i j), H, I, rfl, q⟩

def CPow (i j : Int) : Prop := 0 ≤ j ∧ j ≤ 1000000 ∧ i.natAbs < 2 ^ 64
def CMul (i j : Int) : Prop := (-(2 ^ 64) < i ∧ i < 2 ^ 64) ∨ (-(2 ^ 64) < j ∧ j < 2 ^ 64)
theorem CMul.ok {i j : Int} (h : CMul i j) : IntMulOk i j := by
  rcases h with ⟨h1, h2⟩ | ⟨h1, h2⟩
  · exact .of_left (intBits_le_64 h1 h2)
  · exact .of_right (intBits_le_64 h1 h2)
theorem op_add : OpR X (binaryOp .Add) (rI0 fun i j => .int (i + j)) := opI0 fun _ _ _ _ _ _ _ q => add_int q
theorem op_sub : OpR X (binaryOp .Sub) (rI0 fun i j => .int (i - j)) := opI0 fun _ _ _ _ _ _ _ q => sub_int q
theorem op_mod : OpR X (binaryOp .Mod) (rI (fun _ j => 0 < j) fun i j => .int (i % j)) := opI fun i j _ _ _ _ _ hc q => by
  have h1 : (0 : Int) < j := hc
  exact mod_int' (by omega) (by rw [Int.fmod_eq_emod_of_nonneg i (by omega)]; exact q)
theorem op_pow : OpR X (binaryOp .Pow) (rI CPow fun i j => .int (i ^ j.toNat)) := opI fun _ _ _ _ _ _ _ hc q => pow_int_small hc.1 hc.2.1 hc.2.2 q
theorem unI {f : Value → Sem Value} {g : Int → Int}
    (rule : ∀ (i : Int) (t : Tok) (s : Shared) (Q : Value → Shared → Prop) (E : Value → Shared → Prop), Q (.int (g i) s.toks) { s with toks := s.toks + 1 } → wpAny (model X.prog X.w) X.A (f (.int i t)) Q E s) :
    UnR X f (rU fun i => .int (g i)) := by
  intro pins s σ H x v Q I rx h
  obtain ⟨i, rfl, q⟩ := h
  obtain ⟨t, rfl⟩ := rx
  exact rule i t s _ _ ⟨.int (g i), H, I.tok _, ⟨_, rfl⟩, q⟩
theorem un_neg : UnR X (unaryOp .USub) (rU fun i => .int (-i)) := unI fun _ _ _ _ _ q => neg_int q
end



def scal : V → V → Bool
  | .non, .non => true | .non, .int _ => true | .int _, .non => true | .non, .bl _ => true | .bl _, .non => true | .non, .str _ => true | .str _, .non => true
  | .int _, .int _ => true | .bl _, .bl _ => true | .str _, .str _ => true | .byt _, .byt _ => true
  | .int _, .str _ => true | .str _, .int _ => true | .bl _, .str _ => true | .str _, .bl _ => true
  | _, _ => false
def rEq : R2 := fun x y H Q => scal x y = true ∧ Q (.bl (decide (x = y))) H
def rNe : R2 := fun x y H Q => scal x y = true ∧ Q (.bl (!decide (x = y))) H

theorem dec_int {i j : Int} : decide (V.int i = V.int j) = (i == j) := by
  rw [Bool.eq_iff_iff]
  simp
theorem dec_bl {i j : Bool} : decide (V.bl i = V.bl j) = (i == j) := by
  rw [Bool.eq_iff_iff]
  simp
theorem dec_str {i j : Str} : decide (V.str i = V.str j) = (i == j) := by
  rw [Bool.eq_iff_iff]
  simp
theorem dec_byt {i j : Array UInt8} : decide (V.byt i = V.byt j) = (i.toList == j.toList) := by
  rw [Bool.eq_iff_iff]
  cases i
  cases j
  simp

section
variable {X : Cx} {a b c : Expr} {ta tb tc : TE} {pos : Pos}
theorem fin_bl {pins : List (Addr × Obj)} {σ : St} {H : Hp} {s : Shared} {Q : VK} {k k' : Bool} (I : Inv X pins σ H s) (q : Q (.bl k) H) (e : k = k') : EP X pins σ Q (.bool k') s := by
  subst e
  exact ⟨.bl k, H, I, rfl, q⟩
theorem op_eq : OpR X (compareOp .Eq) rEq := by
  intro pins s σ H x y v u Q I rx ry h
  obtain ⟨hs, q⟩ := h
  cases x with
  | non =>
    cases rx
    cases y with
    | non => cases ry; exact PySem.EqNone.eq_none_none (fin_bl I q (by simp))
    | bl j => cases ry; exact PySem.EqNone.eq_none_bool (fin_bl I q (by simp))
    | int j => obtain ⟨t', rfl⟩ := ry; exact PySem.EqNone.eq_none_int (fin_bl I q (by simp))
    | str j => obtain ⟨t', rfl⟩ := ry; exact PySem.EqNone.eq_none_str (fin_bl I q (by simp))
    | _ => exact absurd (show false = true from hs) Bool.false_ne_true
  | bl i =>
    cases rx
    cases y with
    | non => cases ry; exact PySem.EqNone.eq_bool_none (fin_bl I q (by simp))
    | bl j => cases ry; exact eq_bool (fin_bl I q dec_bl)
    | str j => obtain ⟨t', rfl⟩ := ry; exact PySem.EqMixed.eq_bool_str (fin_bl I q (by simp))
    | _ => exact absurd (show false = true from hs) Bool.false_ne_true
  | int i =>
    obtain ⟨t, rfl⟩ := rx
    cases y with
    | non => cases ry; exact PySem.EqNone.eq_int_none (fin_bl I q (by simp))
    | int j => obtain ⟨t', rfl⟩ := ry; exact eq_int (fin_bl I q dec_int)
    | str j => obtain ⟨t', rfl⟩ := ry; exact PySem.EqMixed.eq_int_str (fin_bl I q (by simp))
    | _ => exact absurd (show false = true from hs) Bool.false_ne_true
  | str i =>
    obtain ⟨t, rfl⟩ := rx
    cases y with
    | non => cases ry; exact PySem.EqNone.eq_str_none (fin_bl I q (by simp))
    | bl j => cases ry; exact PySem.EqMixed.eq_str_bool (fin_bl I q (by simp))
    | int j => obtain ⟨t', rfl⟩ := ry; exact PySem.EqMixed.eq_str_int (fin_bl I q (by simp))
    | str j => obtain ⟨t', rfl⟩ := ry; exact eq_str (fin_bl I q dec_str)
    | _ => exact absurd (show false = true from hs) Bool.false_ne_true
  | byt i =>
    obtain ⟨t, rfl⟩ := rx
    cases y with
    | byt j => obtain ⟨t', rfl⟩ := ry; exact PySem.W.eq_bytes (fin_bl I q dec_byt)
    | _ => exact absurd (show false = true from hs) Bool.false_ne_true
  | _ => cases y <;> exact absurd (show false = true from hs) Bool.false_ne_true
theorem op_ne : OpR X (compareOp .NotEq) rNe := by
  intro pins s σ H x y v u Q I rx ry h
  obtain ⟨hs, q⟩ := h
  cases x with
  | non =>
    cases rx
    cases y with
    | non => cases ry; exact PySem.EqNone.ne_none_none (fin_bl I q (by simp))
    | bl j => cases ry; exact PySem.EqNone.ne_none_bool (fin_bl I q (by simp))
    | int j => obtain ⟨t', rfl⟩ := ry; exact PySem.EqNone.ne_none_int (fin_bl I q (by simp))
    | str j => obtain ⟨t', rfl⟩ := ry; exact PySem.EqNone.ne_none_str (fin_bl I q (by simp))
    | _ => exact absurd (show false = true from hs) Bool.false_ne_true
  | bl i =>
    cases rx
    cases y with
    | non => cases ry; exact PySem.EqNone.ne_bool_none (fin_bl I q (by simp))
    | bl j => cases ry; exact ne_bool (fin_bl I q (congrArg not dec_bl))
    | str j => obtain ⟨t', rfl⟩ := ry; exact PySem.EqMixed.ne_bool_str (fin_bl I q (by simp))
    | _ => exact absurd (show false = true from hs) Bool.false_ne_true
  | int i =>
    obtain ⟨t, rfl⟩ := rx
    cases y with
    | non => cases ry; exact PySem.EqNone.ne_int_none (fin_bl I q (by simp))
    | int j => obtain ⟨t', rfl⟩ := ry; exact ne_int (fin_bl I q (congrArg not dec_int))
    | str j => obtain ⟨t', rfl⟩ := ry; exact PySem.EqMixed.ne_int_str (fin_bl I q (by simp))
    | _ => exact absurd (show false = true from hs) Bool.false_ne_true
  | str i =>
    obtain ⟨t, rfl⟩ := rx
    cases y with
    | non => cases ry; exact PySem.EqNone.ne_str_none (fin_bl I q (by simp))
    | bl j => cases ry; exact PySem.EqMixed.ne_str_bool (fin_bl I q (by simp))
    | int j => obtain ⟨t', rfl⟩ := ry; exact PySem.EqMixed.ne_str_int (fin_bl I q (by simp))
    | str j => obtain ⟨t', rfl⟩ := ry; exact ne_str (fin_bl I q (congrArg not dec_str))
    | _ => exact absurd (show false = true from hs) Bool.false_ne_true
  | byt i =>
    obtain ⟨t, rfl⟩ := rx
    cases y with
    | byt j => obtain ⟨t', rfl⟩ := ry; exact PySem.W.ne_bytes (fin_bl I q (congrArg not dec_byt))
    | _ => exact absurd (show false = true from hs) Bool.false_ne_true
  | _ => cases y <;> exact absurd (show false = true from hs) Bool.false_ne_true

theorem op_lt : OpR X (compareOp .Lt) (rI0 fun i j => .bl (decide (i < j))) := opB0 fun _ _ _ _ _ _ _ q => lt_int q
theorem op_le : OpR X (compareOp .LtE) (rI0 fun i j => .bl (decide (i ≤ j))) := opB0 fun _ _ _ _ _ _ _ q => le_int q
theorem op_gt : OpR X (compareOp .Gt) (rI0 fun i j => .bl (decide (j < i))) := opB0 fun _ _ _ _ _ _ _ q => gt_int q
theorem op_ge : OpR X (compareOp .GtE) (rI0 fun i j => .bl (decide (j ≤ i))) := opB0 fun _ _ _ _ _ _ _ q => ge_int q
theorem OpR.or {f : Value → Value → Sem Value} {r r' : R2} (h : OpR X f r) (h' : OpR X f r') : OpR X f (fun x y H Q => r x y H Q ∨ r' x y H Q) := by
  intro pins s σ H x y v u Q I rx ry q
  rcases q with q | q
  · exact h pins s σ H x y v u Q I rx ry q
  · exact h' pins s σ H x y v u Q I rx ry q

theorem nomark (b : Expr) {op : CmpOp} (h : op ≠ .In := by decide) (h2 : op ≠ .NotIn := by decide) : behindInMarks op b = false := by
  have e1 : (op == CmpOp.In) = false := by cases op <;> first | rfl | exact absurd rfl h
  have e2 : (op == CmpOp.NotIn) = false := by cases op <;> first | rfl | exact absurd rfl h2
  cases b <;> simp [behindInMarks, e1, e2]

theorem pe_cmpR {op : CmpOp} {r : R2} (ho : OpR X (compareOp op) r) (ha : PE X a ta) (hb : PE X b tb) (hm : behindInMarks op b = false) : PE X (.Compare a [op] [b] pos) (tOp r ta tb) := by
  intro pins s σ H Q I h
  exact wpAny_Compare1 (binT ha hb I h fun v u s2 x y H2 I2 rx ry q => ho pins s2 σ H2 x y v u Q I2 rx ry q) hm

def tTest (t : TE) : TT := fun σ H Q => t σ H fun x H' => ∃ k, x = .bl k ∧ Q k H'
theorem pt_cmpR {op : CmpOp} {r : R2} (ho : OpR X (compareOp op) r) (ha : PE X a ta) (hb : PE X b tb) (hm : behindInMarks op b = false) : PT X (.Compare a [op] [b] pos) (tTest (tOp r ta tb)) := by
  intro pins s σ H Q I h
  refine wpAny_isTrue_Compare1 (thn (ha pins s σ H _ I h) fun v s1 ⟨x, H1, I1, r1, q1⟩ => thn (hb pins s1 σ H1 _ I1 q1) fun u s2 ⟨y, H2, I2, r2, q2⟩ =>
    thn (ho pins s2 σ H2 x y v u _ I2 r1 r2 q2) fun c s3 ⟨z, H3, I3, r3, k, e, q3⟩ => ?_) hm
  subst e
  cases r3
  exact wpAny_truthy_bool ⟨H3, I3, q3⟩

def tChain (r r' : R2) (ta tb tc : TE) : TE := fun σ H Q => ta σ H fun x H1 => tb σ H1 fun y H2 => r x y H2 fun z H3 => ∃ k, z = .bl k ∧
  (if k = true then tc σ H3 fun w' H4 => r' y w' H4 Q else Q (.bl false) H3)
theorem pe_chain {op op' : CmpOp} {r r' : R2} (ho : OpR X (compareOp op) r) (ho' : OpR X (compareOp op') r') (ha : PE X a ta) (hb : PE X b tb) (hc : PE X c tc)
    (hm : lastMarks [op, op'] [b, c] = false := by with_unfolding_all rfl) : PE X (.Compare a [op, op'] [b, c] pos) (tChain r r' ta tb tc) := by
  intro pins s σ H Q I h
  refine Compare_chain (thn (ha pins s σ H _ I h) fun v s1 ⟨x, H1, I1, r1, q1⟩ => chain_link (thn (hb pins s1 σ H1 _ I1 q1) fun u s2 ⟨y, H2, I2, r2, q2⟩ =>
    thn (ho pins s2 σ H2 x y v u _ I2 r1 r2 q2) fun d s3 ⟨z, H3, I3, r3, k, e, q3⟩ => ?_)) hm
  subst e
  cases r3
  refine wpAny_truthy_bool ?_
  cases k with
  | false => exact ite_ff ⟨.bl false, H3, I3, rfl, q3⟩
  | true => exact ite_tt (chain_last (thn (hc pins s3 σ H3 _ I3 q3) fun w' s4 ⟨z', H4, I4, r4, q4⟩ => ho' pins s4 σ H4 y z' u w' Q I4 r2 r4 q4))
theorem pt_chain {op op' : CmpOp} {r r' : R2} (ho : OpR X (compareOp op) r) (ho' : OpR X (compareOp op') r') (ha : PE X a ta) (hb : PE X b tb) (hc : PE X c tc)
    (hm : lastMarks [op, op'] [b, c] = false := by with_unfolding_all rfl) : PT X (.Compare a [op, op'] [b, c] pos) (tTest (tChain r r' ta tb tc)) := by
  intro pins s σ H Q I h
  refine isTrue_chain (thn (ha pins s σ H _ I h) fun v s1 ⟨x, H1, I1, r1, q1⟩ => test_link (thn (hb pins s1 σ H1 _ I1 q1) fun u s2 ⟨y, H2, I2, r2, q2⟩ =>
    thn (ho pins s2 σ H2 x y v u _ I2 r1 r2 q2) fun d s3 ⟨z, H3, I3, r3, k, e, q3⟩ => ?_)) hm
  subst e
  cases r3
  refine wpAny_truthy_bool ?_
  cases k with
  | false =>
    obtain ⟨k', e', q'⟩ := q3
    cases e'
    exact ite_ff ⟨H3, I3, q'⟩
  | true =>
    refine ite_tt (test_last (thn (hc pins s3 σ H3 _ I3 q3) fun w' s4 ⟨z', H4, I4, r4, q4⟩ => thn (ho' pins s4 σ H4 y z' u w' _ I4 r2 r4 q4) fun d' s5 ⟨z2, H5, I5, r5, k2, e2, q5⟩ => ?_))
    subst e2
    cases r5
    exact wpAny_truthy_bool ⟨H5, I5, q5⟩



def TruV (K : PySem.W.Frag) (x : V) (H : Hp) (k : Bool) : Prop :=
  match x with
  | .non => k = false
  | .bl b => k = b
  | .int i => k = (i != 0)
  | .str y => y.length ≤ sizeLine ∧ k = ((y.length : Int) != 0)
  | .byt y => y.size ≤ sizeLine ∧ k = ((y.size : Int) != 0)
  | .ref p => (∃ xs, SqL K H p xs ∧ k = !xs.isEmpty) ∨ (∃ xs, SqT K H p xs ∧ k = !xs.isEmpty) ∨ ∃ kvs, H p = some (.dK kvs) ∧ k = !kvs.isEmpty
  | _ => False
theorem isEmpty_kv {κ : Type} {kvs : List (κ × V)} {vs : List (κ × Value)} (r : KV kvs vs) : (!vs.isEmpty) = !kvs.isEmpty := by
  cases r <;> rfl
theorem isEmpty_of {xs : List V} {its : List Value} (r : Vals xs its) : (!its.toArray.isEmpty) = !xs.isEmpty := by
  cases r <;> simp
theorem line63 : (sizeLine : Nat) < 2 ^ 63 := by rw [sizeLine_eq]; decide
theorem tru_ok : TruR X (fun x H Q => ∃ k, TruV X.K x H k ∧ Q k H) := by
  intro pins s σ H x v Q I rx h
  obtain ⟨k, e, q⟩ := h
  have hl := line63
  have hs : sizeLine = 16777216 := sizeLine_eq
  cases x with
  | non =>
    cases rx
    have e' : k = false := e
    subst e'
    exact truthy_none ⟨H, I, q⟩
  | bl b =>
    cases rx
    have e' : k = b := e
    subst e'
    exact wpAny_truthy_bool ⟨H, I, q⟩
  | int i =>
    obtain ⟨t, rfl⟩ := rx
    have e' : k = (i != 0) := e
    subst e'
    exact PySem.P.truthy_int ⟨H, I, q⟩
  | str y =>
    obtain ⟨t, rfl⟩ := rx
    obtain ⟨hy, e'⟩ : y.length ≤ sizeLine ∧ k = ((y.length : Int) != 0) := e
    subst e'
    exact PySem.P.truthy_str (by omega) ⟨H, I.tok _, q⟩
  | byt y =>
    obtain ⟨t, rfl⟩ := rx
    obtain ⟨hy, e'⟩ : y.size ≤ sizeLine ∧ k = ((y.size : Int) != 0) := e
    subst e'
    exact PySem.W.truthy_bytes (by omega) ⟨H, I.tok _, q⟩
  | ref p =>
    cases rx
    have e' : (∃ xs, SqL X.K H p xs ∧ k = !xs.isEmpty) ∨ (∃ xs, SqT X.K H p xs ∧ k = !xs.isEmpty) ∨ ∃ kvs, H p = some (.dK kvs) ∧ k = !kvs.isEmpty := e
    rcases e' with ⟨xs, hx, e'⟩ | ⟨xs, hx, e'⟩ | ⟨kvs, hx, e'⟩
    · subst e'
      obtain ⟨its, r, pl, hz⟩ := I.list hx
      have hlen := r.length
      exact wpAny_truthy_list pl.isList (by simp only [List.size_toArray]; omega) ⟨H, I.tok _, by rw [isEmpty_of r]; exact q⟩
    · subst e'
      obtain ⟨its, r, pl, hz⟩ := I.tuple hx
      have hlen := r.length
      exact truthy_tuple pl (by simp only [List.size_toArray]; omega) ⟨H, I.tok _, by rw [isEmpty_of r]; exact q⟩
    · subst e'
      obtain ⟨hz, hS, vs, r, m⟩ : kvs.length ≤ sizeLine ∧ (p == sysModules) = false ∧ ∃ vs, KV kvs vs ∧ s.heap.DictOf (mixKind X.prog X.w) p vs := I.hok p _ hx
      have hlen : kvs.length = vs.length := Paired.length r
      exact wpAny_truthy_dict hS m (by omega) ⟨H, I.tok _, by rw [isEmpty_kv r]; exact q⟩
  | _ => exact (show False from e).elim

theorem pt_truth (ha : PE X a ta) (he : ∀ whole, isTrue a X.env whole = (do let v ← whole; standAt a.pos; holding [v] (truthy v))) :
    PT X a (fun σ H Q => ta σ H fun x H' => ∃ k, TruV X.K x H' k ∧ Q k H') := by
  intro pins s σ H Q I h
  exact isTrue_plain (thn (ha pins s σ H _ I h) fun v s1 ⟨x, H1, I1, r1, q1⟩ => tru_ok pins s1 σ H1 x v Q I1 r1 q1) (he _)


theorem vals1 {x : V} {us : List Value} (r : Vals [x] us) : ∃ u, us = [u] ∧ RelV x u := by
  cases r with
  | cons r1 r2 => cases r2; exact ⟨_, rfl, r1⟩
theorem vals2 {x y : V} {us : List Value} (r : Vals [x, y] us) : ∃ u w', us = [u, w'] ∧ RelV x u ∧ RelV y w' := by
  cases r with
  | cons r1 r2 =>
    cases r2 with
    | cons r3 r4 => cases r4; exact ⟨_, _, rfl, r1, r3⟩
theorem call_max2 (hc : X.calm = true) : CallR X (.builtin "max") (fun xs H Q => ∃ i j, xs = [.int i, .int j] ∧ Q (.int (if j > i then j else i)) H) := by
  intro pins s σ H xs us Q I r h
  obtain ⟨i, j, rfl, q⟩ := h
  obtain ⟨u, w', rfl, ⟨t, rfl⟩, ⟨t', rfl⟩⟩ := vals2 r
  refine max_two_ints (I.ok.hd hc) fun h' tk k => ⟨_, H, I.kept k, ?_, q⟩
  by_cases hj : j > i
  · rw [if_pos hj, if_pos hj]; exact ⟨_, rfl⟩
  · rw [if_neg hj, if_neg hj]; exact ⟨_, rfl⟩
theorem call_min2 (hc : X.calm = true) : CallR X (.builtin "min") (fun xs H Q => ∃ i j, xs = [.int i, .int j] ∧ Q (.int (if j < i then j else i)) H) := by
  intro pins s σ H xs us Q I r h
  obtain ⟨i, j, rfl, q⟩ := h
  obtain ⟨u, w', rfl, ⟨t, rfl⟩, ⟨t', rfl⟩⟩ := vals2 r
  refine min_two_ints (I.ok.hd hc) fun h' tk k => ⟨_, H, I.kept k, ?_, q⟩
  by_cases hj : j < i
  · rw [if_pos hj, if_pos hj]; exact ⟨_, rfl⟩
  · rw [if_neg hj, if_neg hj]; exact ⟨_, rfl⟩
def LenV (K : PySem.W.Frag) (x : V) (H : Hp) (n : Nat) : Prop :=
  match x with
  | .str y => y.length ≤ sizeLine ∧ n = y.length
  | .byt y => y.size ≤ sizeLine ∧ n = y.size
  | .ref p => (∃ xs, SqL K H p xs ∧ n = xs.length) ∨ ∃ xs, SqT K H p xs ∧ n = xs.length
  | _ => False
theorem call_len : CallR X (.builtin "len") (fun xs H Q => ∃ x n, xs = [x] ∧ LenV X.K x H n ∧ Q (.int n) H) := by
  intro pins s σ H xs us Q I r h
  obtain ⟨x, n, rfl, e, q⟩ := h
  obtain ⟨u, rfl, rx⟩ := vals1 r
  have hl := line63
  have hs : sizeLine = 16777216 := sizeLine_eq
  cases x with
  | str y =>
    obtain ⟨t, rfl⟩ := rx
    obtain ⟨hy, e'⟩ : y.length ≤ sizeLine ∧ n = y.length := e
    subst e'
    exact len_str (by omega) ⟨.int _, H, I.tok _, ⟨_, rfl⟩, q⟩
  | byt y =>
    obtain ⟨t, rfl⟩ := rx
    obtain ⟨hy, e'⟩ : y.size ≤ sizeLine ∧ n = y.size := e
    subst e'
    exact PySem.W.len_bytes (by omega) ⟨.int _, H, I.tok _, ⟨_, rfl⟩, q⟩
  | ref p =>
    cases rx
    have e' : (∃ xs, SqL X.K H p xs ∧ n = xs.length) ∨ ∃ xs, SqT X.K H p xs ∧ n = xs.length := e
    rcases e' with ⟨xs, hx, e'⟩ | ⟨xs, hx, e'⟩
    · subst e'
      obtain ⟨its, r', pl, hz⟩ := I.list hx
      have hlen := r'.length
      exact Calls.call_len_list pl.isList (by simp only [List.size_toArray]; omega) ⟨.int xs.length, H, I.tok _, ⟨_, by simp only [List.size_toArray]; rw [hlen]⟩, q⟩
    · subst e'
      obtain ⟨its, r', pl, hz⟩ := I.tuple hx
      have hlen := r'.length
      exact len_tuple pl (by simp only [List.size_toArray]; omega) ⟨.int xs.length, H, I.tok _, ⟨_, by simp only [List.size_toArray]; rw [hlen]⟩, q⟩
  | _ => exact (show False from e).elim

end
end L2

namespace L2
open PySem PySem.Spec PyProof.Rows


structure ObjM (h : Heap) (x dx C : Addr) (mA : Str → Option Value) : Prop where
  obj : h.get? x = some (PySem.W.instObj C dx)
  ns : h.Ns1 dx mA
  ne : dx ≠ x

theorem lookIn_ns {h : Heap} {dx : Addr} {mA : Str → Option Value} (n : h.Ns1 dx mA) : ∃ od, h.get? dx = some od ∧ ∀ name, PySem.W.lookIn name od = some (mA name) := by
  obtain ⟨o, es, ep, ho, hd, hk, _, hm⟩ := n
  refine ⟨o, ho, fun name => ?_⟩
  have e := hm name
  unfold nsFind findBy at e
  rw [← Array.find?_toList] at e
  unfold PySem.W.lookIn
  rw [hd]
  dsimp only
  split
  · rename_i y q
    rw [q] at e
    exact congrArg some e
  · rename_i q
    rw [q] at e
    have a : es.toList.any (·.refKey) = false := by
      rw [List.any_eq_false]
      intro y hy
      obtain ⟨z, t, hkey⟩ := hk y (Array.mem_toList_iff.mp hy)
      simp [DictEntry.refKey, hkey]
    have a' : ¬ es.toList.any (·.refKey) = true := by rw [a]; exact Bool.false_ne_true
    rw [if_neg a']
    exact congrArg some e

theorem ObjM.look {h : Heap} {x dx C : Addr} {mA : Str → Option Value} (I : ObjM h x dx C mA) : ∃ od, PySem.W.InstAt h x (PySem.W.instObj C dx) C (some od) ∧ ∀ name, PySem.W.lookIn name od = some (mA name) :=
  let ⟨od, ho, hl⟩ := lookIn_ns I.ns
  ⟨od, ⟨I.obj, rfl, rfl, ho⟩, hl⟩

section
variable {prog : Program} {w : World} {A : Around} {E : Value → Shared → Prop} {s : Shared} {K : PySem.W.Frag} {x dx C f : Addr} {mA : Str → Option Value} {name : Str} {v : Value}

end


section
variable {P : Program} {w : World} {H H' : Hp} {h h' : Heap} {a C dx : Addr} {fs fs' : List (Str × V)}
end


structure Cls (K : PySem.W.Frag) (C : Addr) : Prop where
  pg : PySem.W.plainGet K C Str.empty = true
  hd : PySem.W.hasDictIn K C = true
  po : PySem.W.plainOver K C = true
  sa : PySem.W.findIn K (.ref C) "__setattr__" = some (some (.builtin "object.__setattr__"))
theorem Cls.get {K : PySem.W.Frag} {C : Addr} (c : Cls K C) (f : Str) : PySem.W.plainGet K C f = true := c.pg

structure Con (K : PySem.W.Frag) (C : Addr) (f : Str) (v : V) (u : Value) : Prop where
  at_ : PySem.W.findIn K (.ref C) f = some (some u)
  rel : RelV v u
  get : PySem.W.specialIn K u "__get__" = some none
  cp : PySem.W.copiedNames.contains f = false

structure Meth (K : PySem.W.Frag) (C : Addr) (m : Str) (f : Addr) : Prop where
  at_ : PySem.W.findIn K (.ref C) m = some (some (.ref f))
  fn : PySem.W.isFn K (.ref f) = true
  kp : PySem.W.keepIn K (.ref f) = true

section
variable {X : Cx} {pins : List (Addr × Obj)} {σ : St} {H : Hp} {s : Shared} {a C dx : Addr} {fs : List (Str × V)} {f : Str} {v : V} {A : Around} {E : Value → Shared → Prop}

theorem Inv.made (I : Inv X pins σ H s) : Inv X pins σ (upd (upd H s.heap.objs.size (.own (s.heap.objs.size + 1))) (s.heap.objs.size + 1) (.ins C s.heap.objs.size []))
    { s with heap := (s.heap.push PySem.W.emptyDict).push (PySem.W.instObj C s.heap.objs.size) } := by
  have e1 : (s.heap.push PySem.W.emptyDict).get? s.heap.objs.size = some PySem.W.emptyDict := Heap.get?_push_size s.heap rfl
  have e2 : ((s.heap.push PySem.W.emptyDict).push (PySem.W.instObj C s.heap.objs.size)).get? (s.heap.objs.size + 1) = some (PySem.W.instObj C s.heap.objs.size) := by
    have := Heap.get?_push_size (s.heap.push PySem.W.emptyDict) (o := PySem.W.instObj C s.heap.objs.size) rfl
    rwa [Heap.size_push] at this
  have e3 : (s.heap.push PySem.W.emptyDict).Ns s.heap.objs.size (fun _ => none) := ⟨PySem.W.emptyDict, #[], _, e1, rfl, (fun e he => absurd he (by simp)), fun _ => rfl⟩
  have I1 := I.laid (a := s.heap.objs.size) (o := .own (s.heap.objs.size + 1)) (h' := s.heap.push PySem.W.emptyDict) (t' := s.toks) (fun b u q => Heap.get?_push_of_some _ q) (Nat.le_refl _) ⟨_, e1⟩
  refine I1.laid (a := s.heap.objs.size + 1) (o := .ins C s.heap.objs.size []) (t' := s.toks) (fun b u q => Heap.get?_push_of_some _ q) (Nat.le_of_eq (Heap.size_push _ _)) ?_
  have ne : s.heap.objs.size ≠ s.heap.objs.size + 1 := Nat.ne_of_lt (Nat.lt_succ_self _)
  refine ⟨by rw [upd_ne ne, upd_same], Nat.zero_le _, ne, e2, fun _ => none, (Heap.Ns1.of_empty e3).at fun o q => Heap.get?_push_of_some _ q, fun _ => True.intro, fun y hy => absurd rfl hy⟩


end



section
variable {X : Cx} {o e value : Expr} {f : Str} {pos pos' tpos : Pos} {ta tv : TE}
end


section
variable {X : Cx} {pins : List (Addr × Obj)} {σ : St} {H : Hp} {s : Shared} {A : Around} {E : Value → Shared → Prop} {Q : Value → Shared → Prop} {c : Value} {b : Bool}

inductive TyOf (K : PySem.W.Frag) (H : Hp) : V → Value → Prop where
  | non : TyOf K H .non (.type "NoneType")
  | bl (x : Bool) : TyOf K H (.bl x) (.type "bool")
  | int (i : Int) : TyOf K H (.int i) (.type "int")
  | str (x : Str) : TyOf K H (.str x) (.type "str")
  | flt (x : UInt64) : TyOf K H (.flt x) (.type "float")
  | lst {a : Addr} {xs : List V} (e : H a = some (.lst xs)) : TyOf K H (.ref a) (.type "list")
  | frz {a : Addr} {o : Obj} {xs : List V} (e : H a = some (.frz o (.lst xs))) : TyOf K H (.ref a) (.type "list")
  | tup {a : Addr} {xs : List V} (e : H a = some (.tup xs)) : TyOf K H (.ref a) (.type "tuple")
  | dK {a : Addr} {kvs : List (Key × V)} (e : H a = some (.dK kvs)) : TyOf K H (.ref a) (.type "dict")
  | dT {a : Addr} {kvs : List (List Key × V)} (e : H a = some (.dT kvs)) : TyOf K H (.ref a) (.type "dict")
  | ins {a C dx : Addr} {fs : List (Str × V)} (e : H a = some (.ins C dx fs)) (cl : Cls K C) (ha : PySem.W.findIn K (.ref C) "__class__" = some (some (.builtin "object.__class__")))
      (hn : PySem.W.specialIn K (.builtin "object.__class__") "__get__" = some (some (.builtin "getset_descriptor.__get__"))) (htk : PySem.W.takesIn K (.builtin "object.__class__") = some true)
      (hm : PySem.W.mroIn K C (.type "object") = some true) : TyOf K H (.ref a) (.ref C)

end
end L2

namespace L2
open PySem PySem.Spec PyProof.Rows


structure Room (k : Nat) (A : Around) : Prop where
  hd : 4 ≤ k → A.handled = none
  dp : A.depth + 3 * k + 5 < recursionLimit
  un : A.units + 16 * k + 200 < cLine
  gd : A.guards = some []
theorem Room.mono {j k : Nat} {A : Around} (r : Room k A) (h : j ≤ k) : Room j A := ⟨fun z => r.hd (Nat.le_trans z h), by have := r.dp; omega, by have := r.un; omega, r.gd⟩
theorem Room.deeper {k : Nat} {A : Around} (r : Room (k + 1) A) (env : Env) : Room k (A.deeper env) :=
  ⟨fun z => r.hd (Nat.le_succ_of_le z), by have := r.dp; show A.depth + 1 + 3 * k + 5 < _; omega, by have := r.un; show A.units + 3 + 16 * k + 200 < _; omega, r.gd⟩
theorem Room.in1 {k : Nat} {A : Around} (r : Room (k + 1) A) : Room k A.in1 :=
  ⟨fun z => r.hd (Nat.le_succ_of_le z), by have := r.dp; show A.depth + 3 * k + 5 < _; omega, by have := r.un; show A.units + 1 + 16 * k + 200 < _; omega, r.gd⟩
theorem Room.depth {k : Nat} {A : Around} (r : Room k A) : A.depth < recursionLimit := by have := r.dp; omega
theorem Room.units {k : Nat} {A : Around} (r : Room k A) : A.units + 64 < cLine := by have := r.un; omega
def tNil : TA := fun _ H Q => Q [] H
def tCons (ta : TE) (tr : TA) : TA := fun σ H Q => ta σ H fun x H1 => tr σ H1 fun xs H2 => Q (x :: xs) H2
section
variable {X : Cx} {e : Expr} {es : List Expr} {te : TE} {t : TA} {pos : Pos}
theorem pa_nil : PA X [] tNil := fun _ _ _ _ H Q I h => Calls.spliced_nil ⟨[], H, I, .nil, h⟩
theorem pa_cons (ha : PE X e te) (hr : PA X es t) (hs : starEach (e :: es) X.env = (false, eval e X.env) :: starEach es X.env := by rfl) : PA X (e :: es) (tCons te t) := by
  intro pos pins s σ H Q I h
  rw [hs]
  show wpAny _ _ (spliced ((false, eval e X.env) :: backTo pos (starEach es X.env))) _ _ s
  refine Calls.spliced_cons (thn (ha pins s σ H _ I h) fun u s1 ⟨x, H1, I1, r1, q1⟩ => ?_)
  exact thn (hr pos pins s1 σ H1 _ I1 q1) fun us s2 ⟨xs, H2, I2, r2, q2⟩ => ⟨x :: xs, H2, I2, .cons r1 r2, q2⟩


def tTup (t : TA) : TE := fun σ H Q => t σ H fun xs H1 => xs.length ≤ sizeLine ∧ ∀ p, H1 p = none → Q (.ref p) (upd H1 p (.tup xs))
def tLst (t : TA) : TE := fun σ H Q => t σ H fun xs H1 => xs.length ≤ sizeLine ∧ ∀ p, H1 p = none → Q (.ref p) (upd H1 p (.lst xs))
theorem pe_tup {x1} (h : PA X es t) : PE X (.Tuple es x1 pos) (tTup t) := by
  intro pins s σ H Q I hq
  refine wpAny_Tuple_spliced (thn (h pos pins s σ H _ I hq) fun us s1 ⟨xs, H1, I1, r, z, q⟩ => ⟨by rw [← r.length]; exact z, ?_⟩)
  have hf : H1 s1.heap.objs.size = none := I1.hok.fresh (Nat.le_refl _)
  refine ⟨.ref s1.heap.objs.size, upd H1 s1.heap.objs.size (.tup xs), I1.laid (t' := s1.toks) (fun b u e => Heap.get?_push_of_some _ e) (Nat.le_refl _) ?_, rfl, q _ hf⟩
  exact ⟨z, us, r, ⟨_, Heap.get?_push_size _ rfl, rfl, _, rfl⟩⟩
theorem pe_lst (h : PA X es t) : PE X (.List es pos) (tLst t) := by
  intro pins s σ H Q I hq
  refine wpAny_List_spliced (thn (h pos pins s σ H _ I hq) fun us s1 ⟨xs, H1, I1, r, z, q⟩ => ⟨by rw [← r.length]; exact z, ?_⟩)
  have hf : H1 s1.heap.objs.size = none := I1.hok.fresh (Nat.le_refl _)
  refine ⟨.ref s1.heap.objs.size, upd H1 s1.heap.objs.size (.lst xs), I1.laid (t' := s1.toks) (fun b u e => Heap.get?_push_of_some _ e) (Nat.le_refl _) ?_, rfl, q _ hf⟩
  exact ⟨z, us, 0, r, Heap.get?_push_size _ rfl⟩
end



abbrev Sp := List V → Hp → VK → XK → Prop

abbrev CXT := List Env → Hp → Shared → XK → Value → Shared → Prop


structure Env0 (P : Program) (w : World) (K : PySem.W.Frag) (mg : Str → Option Value) (base : Heap) (A : Around) (outer : List Env) (s : Shared) (H : Hp) : Prop where
  frames : A.frames = some outer
  mod : Mod K mg base
  bs : ∀ b o, base.get? b = some o → s.heap.get? b = some o ∧ H b = none
  bsz : base.objs.size ≤ s.heap.objs.size
  funs : s.heap.FunFrames base outer
  frf : ∀ b ∈ frs outer, H b = none
  hok : HOk P w H s.heap
  bare : AllBare s.gens

def CE (outer : List Env) (P : Program) (w : World) (H : Hp) (s : Shared) (Q : VK) (u : Value) (s' : Shared) : Prop :=
  ∃ v H', s'.os = s.os ∧ AllBare s'.gens ∧ Un (frs outer) [] H H' s.heap s'.heap ∧ HOk P w H' s'.heap ∧ RelV v u ∧ Q v H'
def CR (CX : CXT) (outer : List Env) (P : Program) (w : World) (H : Hp) (s : Shared) (Q : VK) (E : XK) (r : Result) (s' : Shared) : Prop :=
  match r with
  | .ok (.ret u) => CE outer P w H s Q u s'
  | .ok _ => False
  | .error e => CX outer H s E e s'
structure FnOk (P : Program) (w : World) (K : PySem.W.Frag) (mg : Str → Option Value) (base : Heap) (CX : CXT) (k : Nat) (f : Addr) (fd : FuncData) (ps : List Str) (sp : Sp) : Prop where
  len : ∀ vs H Q E, sp vs H Q E → vs.length = ps.length
  run : ∀ (A : Around) (outer : List Env) (s : Shared) (H : Hp) (args : Args) (us : List Value) (vs : List V) (Q : VK) (E : XK), Room k A → Env0 P w K mg base A outer s H → BindsTo s fd args (ps.zip us) → Vals vs us → sp vs H Q E →
    codeAny (model P w) A (.call (.ref f) args) (CR CX outer P w H s Q E) s
theorem FnOk.mono {P : Program} {w : World} {K : PySem.W.Frag} {mg : Str → Option Value} {base : Heap} {CX : CXT} {j k : Nat} {f : Addr} {fd : FuncData} {ps : List Str} {sp : Sp} (F : FnOk P w K mg base CX j f fd ps sp) (h : j ≤ k) :
    FnOk P w K mg base CX k f fd ps sp := ⟨F.len, fun A outer s H args us vs Q E hr => F.run A outer s H args us vs Q E (hr.mono h)⟩

theorem FnOk.imp {P : Program} {w : World} {K : PySem.W.Frag} {mg : Str → Option Value} {base : Heap} {CX : CXT} {k : Nat} {f : Addr} {fd : FuncData} {ps : List Str} {sp sp' : Sp} (F : FnOk P w K mg base CX k f fd ps sp)
    (h : ∀ vs H Q E, sp' vs H Q E → sp vs H Q E) : FnOk P w K mg base CX k f fd ps sp' :=
  ⟨fun vs H Q E q => F.len vs H Q E (h _ _ _ _ q), fun A outer s H args us vs Q E hr he hb hv hs => F.run A outer s H args us vs Q E hr he hb hv (h _ _ _ _ hs)⟩

theorem Env0.in1 {P : Program} {w : World} {K : PySem.W.Frag} {mg : Str → Option Value} {base : Heap} {A : Around} {outer : List Env} {s : Shared} {H : Hp} (e : Env0 P w K mg base A outer s H) :
    Env0 P w K mg base A.in1 outer s H := ⟨e.frames, e.mod, e.bs, e.bsz, e.funs, e.frf, e.hok, e.bare⟩

section
variable {X : Cx} {pins : List (Addr × Obj)} {σ : St} {H : Hp} {s s' : Shared}

theorem Inv.env0 (I : Inv X pins σ H s) : Env0 X.prog X.w X.K X.mg X.base X.A X.stack s H :=
  ⟨I.ok.frames, I.ok.mod, I.bs, Nat.le_trans I.ok.bsz I.sz, I.stack, I.stkFree, I.hok, I.bare⟩

theorem Inv.after {Q : VK} {u : Value} (I : Inv X pins σ H s) (h : CE X.stack X.prog X.w H s Q u s') : EP X pins σ Q u s' := by
  obtain ⟨v, H', os, bare, un, hok, r, q⟩ := h
  obtain ⟨hh, g, d, t, os'⟩ := s'
  obtain rfl : os' = s.os := os
  exact ⟨v, H', I.call (h' := hh) (g' := g) (d' := d) (t' := t) (ch := []) un hok bare (fun b z => absurd z (by simp)), r, q⟩
end



def tCall (sp : Sp) (dvs : List V) (E : XK) (t : TA) : TE := fun σ H Q => t σ H fun vs H1 => sp (vs ++ dvs) H1 Q E

def Binds (K : PySem.W.Frag) (fd : FuncData) (ps : List Str) (ds : List Value) : Prop :=
  ∀ (s : Shared) (us : List Value), K.In s.heap → (us ++ ds).length = ps.length → BindsTo s fd ⟨us, []⟩ (ps.zip (us ++ ds))

theorem Binds.all {K : PySem.W.Frag} {fd : FuncData} {ps : List Str} (h : ∀ us : List Value, us.length = ps.length → bindArgs fd ⟨us, []⟩ = pure (ps.zip us)) : Binds K fd ps [] := fun s us _ hl => by
  rw [List.append_nil] at hl ⊢
  exact .of_eq (h us hl)


def Passes (CX : CXT) (X : Cx) (E : XK) : Prop := ∀ (pins : List (Addr × Obj)) (σ : St) (H : Hp) (s : Shared) (e : Value) (s' : Shared), Inv X pins σ H s → CX X.stack H s E e s' → X.xe e s'

section
variable {X : Cx} {CX : CXT} {k : Nat} {f C : Addr} {fd : FuncData} {ps : List Str} {sp : Sp} {dvs : List V} {ds : List Value} {E : XK} {x m : Str} {p pos apos : Pos} {e o : Expr} {es : List Expr} {ta : TE} {t : TA}


theorem run_fn {pins : List (Addr × Obj)} {σ : St} {H : Hp} {s : Shared} {Q : VK} {us : List Value} {vs : List V} (F : FnOk X.prog X.w X.K X.mg X.base CX k f fd ps sp) (hr : Room k X.A) (hb : Binds X.K fd ps ds) (hd : Vals dvs ds) (hx : Passes CX X E)
    (I : Inv X pins σ H s) (r : Vals vs us) (h : sp (vs ++ dvs) H Q E) : wpAny (model X.prog X.w) X.A (call (.ref f) us) (EP X pins σ Q) X.xe s := by
  have r2 : Vals (vs ++ dvs) (us ++ ds) := r.append hd
  have hl : (us ++ ds).length = ps.length := by rw [← r2.length]; exact F.len _ _ _ _ h
  refine wpAny_call (codeAny_mono (F.run X.A X.stack s H ⟨us, []⟩ (us ++ ds) (vs ++ dvs) Q E hr I.env0 (hb s us I.kIn hl) r2 h) fun r s' hq => ?_)
  cases r with
  | error e => exact hx pins σ H s e s' I hq
  | ok fl =>
    cases fl with
    | ret u => exact I.after hq
    | next => exact False.elim hq
    | brk => exact False.elim hq
    | cont => exact False.elim hq

theorem pe_call (F : FnOk X.prog X.w X.K X.mg X.base CX k f fd ps sp) (hr : Room k X.A) (hg : Gl X x) (hm : X.mg x = some (.ref f)) (hk : PySem.W.keepIn X.K (.ref f) = true) (hb : Binds X.K fd ps ds) (hd : Vals dvs ds) (hx : Passes CX X E)
    (ha : PA X (e :: es) t) (hdb : (x == ("__debug__" : Str)) = false := by decide) (he : starEach (e :: es) X.env = (false, eval e X.env) :: starEach es X.env := by rfl) (hpl : (backTo pos (starEach es X.env)).any (·.1) = false := by rfl) :
    PE X (.Call (.Name x p) (e :: es) [] pos) (tCall sp dvs E t) := by
  intro pins s σ H Q I h
  refine wpAny_Call_Name_kw (ld_glob I hg hm ?_ hdb)
  refine PySem.W.callWith_K (h₀ := X.base) I.ok.mod.kin hk (thn (ha pos pins s σ H _ I h) fun us s1 ⟨vs, H1, I1, r, q⟩ => ⟨I1.kIn, ?_⟩) he hpl
  exact run_fn F hr hb hd hx I1 r q
structure Mk (K : PySem.W.Frag) (C f : Addr) : Prop where
  makes : PySem.W.makesIn K C = true
  init : PySem.W.findIn K (.ref C) "__init__" = some (some (.ref f))
  fn : PySem.W.isFn K (.ref f) = true
  kp : PySem.W.keepIn K (.ref C) = true

end



def PK (X : Cx) (kws : List Keyword) (t : TA) : Prop :=
  ∀ (pos : Pos) (pins : List (Addr × Obj)) (s : Shared) (σ : St) (H : Hp) (Q : List V → Hp → Prop), Inv X pins σ H s → t σ H Q → wpAny (model X.prog X.w) X.A (evalAll ((backToKw pos (keywordEach kws X.env)).map (·.2))) (AP X pins σ Q) X.xe s
section
variable {X : Cx} {CX : CXT} {k : Nat} {f C : Addr} {fd : FuncData} {ps ks : List Str} {sp : Sp} {E : XK} {x m : Str} {p pos apos kpos : Pos} {e o : Expr} {es : List Expr} {kws : List Keyword} {te ta : TE} {t tk : TA} {nm : Option Str}
structure KBinds (K : PySem.W.Frag) (fd : FuncData) (ps ks : List Str) (g : List Value → List Value → List Value) (gV : List V → List V → List V) : Prop where
  to : ∀ (s : Shared) (us ws : List Value), K.In s.heap → (g us ws).length = ps.length → BindsTo s fd ⟨us, ks.zip ws⟩ (ps.zip (g us ws))
  rel : ∀ {vs : List V} {us : List Value} {zs : List V} {ws : List Value}, Vals vs us → Vals zs ws → Vals (gV vs zs) (g us ws)
variable {g : List Value → List Value → List Value} {gV : List V → List V → List V}
end



structure FnScope (N P : List Str) (sc : Scope) : Prop where
  kind : sc.kind = .function
  co : sc.isCoroutine = false
  gen : sc.isGenerator = false
  nd : N.Nodup
  pre : N.take P.length = P
  par : ∀ x ∈ P, sc.names.lookup x = some .local ∨ sc.names.lookup x = some .cell
  nofree : ∀ y ∈ sc.names, y.2 ≠ .free

theorem bindL_out {kindOf : Str → Option NameKind} {x : Str} : ∀ {binds : List (Str × Value)} {m : Str → Option Value}, (∀ v, (x, v) ∉ binds) → bindL kindOf binds m x = m x
  | [], _, _ => rfl
  | (n, v) :: r, m, h => by
    unfold bindL
    rw [bindL_out fun w hw => h w (List.mem_cons_of_mem _ hw)]
    split
    · have : x ≠ n := by rintro rfl; exact h v List.mem_cons_self
      simp [this]
    · rfl
theorem bindC_out {kindOf : Str → Option NameKind} {x : Str} : ∀ {binds : List (Str × Value)} {m : Str → Option Value}, (∀ v, (x, v) ∉ binds) → bindC kindOf binds m x = m x
  | [], _, _ => rfl
  | (n, v) :: r, m, h => by
    unfold bindC
    rw [bindC_out fun w hw => h w (List.mem_cons_of_mem _ hw)]
    split
    · rfl
    · have : x ≠ n := by rintro rfl; exact h v List.mem_cons_self
      simp [this]
theorem bindL_get {kindOf : Str → Option NameKind} {x : Str} {v : Value} : ∀ {P : List Str} {vs : List Value} {i : Nat} {m : Str → Option Value}, P.Nodup → P[i]? = some x → vs[i]? = some v → kindOf x = some .local →
    bindL kindOf (P.zip vs) m x = some v
  | [], _, _, _, _, h, _, _ => by simp at h
  | _ :: _, [], _, _, _, _, h, _ => by simp at h
  | p :: P, w :: vs, 0, m, nd, h1, h2, hk => by
    simp at h1 h2; subst h1; subst h2
    show bindL kindOf ((p, w) :: P.zip vs) m p = _
    unfold bindL
    rw [bindL_out fun v hv => (List.nodup_cons.mp nd).1 (List.of_mem_zip hv).1, if_pos hk]
    simp
  | p :: P, w :: vs, i + 1, m, nd, h1, h2, hk => by
    show bindL kindOf ((p, w) :: P.zip vs) m x = _
    unfold bindL
    exact bindL_get (i := i) (List.nodup_cons.mp nd).2 (by simpa using h1) (by simpa using h2) hk
theorem bindC_get {kindOf : Str → Option NameKind} {x : Str} {v : Value} : ∀ {P : List Str} {vs : List Value} {i : Nat} {m : Str → Option Value}, P.Nodup → P[i]? = some x → vs[i]? = some v → kindOf x ≠ some .local →
    bindC kindOf (P.zip vs) m x = some v
  | [], _, _, _, _, h, _, _ => by simp at h
  | _ :: _, [], _, _, _, _, h, _ => by simp at h
  | p :: P, w :: vs, 0, m, nd, h1, h2, hk => by
    simp at h1 h2; subst h1; subst h2
    show bindC kindOf ((p, w) :: P.zip vs) m p = _
    unfold bindC
    rw [bindC_out fun v hv => (List.nodup_cons.mp nd).1 (List.of_mem_zip hv).1, if_neg hk]
    simp
  | p :: P, w :: vs, i + 1, m, nd, h1, h2, hk => by
    show bindC kindOf ((p, w) :: P.zip vs) m x = _
    unfold bindC
    exact bindC_get (i := i) (List.nodup_cons.mp nd).2 (by simpa using h1) (by simpa using h2) hk


def start (N : List Str) (vs : List V) : St := vs.map some ++ List.replicate (N.length - vs.length) none


def cxOf (CX : CXT) (P : Program) (w : World) (K : PySem.W.Frag) (mg : Str → Option Value) (base : Heap) (N : List Str) (qual : Str) (scope : Scope) (f : Addr) (cd : Value) (A : Around) (outer : List Env) (s : Shared) (H : Hp) (E : XK) : Cx where
  prog := P
  w := w
  K := K
  mg := mg
  base := base
  A := A.deeper (envOfC qual scope s.heap.objs.size f cd)
  N := N
  s_0 := s
  H_0 := H
  env := envOfC qual scope s.heap.objs.size f cd
  outer := outer
  stack := envOfC qual scope s.heap.objs.size f cd :: outer
  ex := []
  calm := A.handled.isNone
  fn := fun _ => true
  pn := []
  xe := fun e s' => wpAny (model P w) (A.deeper (envOfC qual scope s.heap.objs.size f cd)) (leaving (envOfC qual scope s.heap.objs.size f cd) e) (fun _ s'' => CX outer H s E e s'') (fun e' s'' => CX outer H s E e' s'') s'

theorem cell_has {sc : Scope} {n : Nat} {x : Str} (h : sc.names.lookup x = some .cell) : ∃ c, (cellsFrom n sc.names []).lookup x = some c := by
  have q := PySem.W.cellsFrom_some sc.names n [] (.inl h)
  exact Option.isSome_iff_exists.mp q

theorem inv_start {CX : CXT} {P : Program} {w : World} {K : PySem.W.Frag} {mg : Str → Option Value} {base : Heap} {N ps : List Str} {qual : Str} {scope : Scope} {f : Addr} {cd : Value} {A : Around} {outer : List Env} {s s1 : Shared} {H : Hp} {E : XK} {us : List Value} {vs : List V}
    (S : FnScope N ps scope) (e0 : Env0 P w K mg base A outer s H) (hl : vs.length = ps.length) (r : Vals vs us)
    (x : InCallC s s.heap.objs.size (bindL (envOfC qual scope s.heap.objs.size f cd).kindOf (ps.zip us) fun _ => none) (cellsFrom (s.heap.objs.size + 1) scope.names []) (bindC (envOfC qual scope s.heap.objs.size f cd).kindOf (ps.zip us) fun _ => none) s1) :
    Inv (cxOf CX P w K mg base N qual scope f cd A outer s H E) [] (start N vs) H s1 := by
  have hpl : ps.length ≤ N.length := by have := congrArg List.length S.pre; rw [List.length_take] at this; omega
  obtain ⟨h1, tk, rfl, hk⟩ := x.done
  have noA : ∀ b : Addr, b ∉ (cxOf CX P w K mg base N qual scope f cd A outer s H E).ex := fun b z => absurd (show b ∈ ([] : List Addr) from z) (by simp)
  refine ⟨⟨e0.mod, S.kind, rfl, rfl, Nat.le_refl _, fun y z c h1 h2 => ?_, fun y hy => ?_, fun y c _ h => ?_, fun z => Option.isNone_iff_eq_none.mp z, Around.frames_deeper e0.frames, .inr ⟨rfl, rfl⟩, fun b z => absurd z (noA b), e0.bs, e0.bsz, fun b _ _ => noA b, fun b z => absurd z (noA b), e0.funs, e0.frf⟩,
    rfl, e0.bare, Un.kept hk, ⟨_, x.toInCall.ns, fun i y v h1 h2 h3 => ?_⟩, fun y c h => ⟨_, x.cell y c h⟩, e0.hok.fresh (Nat.le_refl _), fun y c h => ?_, fun p hp => absurd (show p ∈ ([] : List (Addr × Obj)) from hp) (by simp), e0.hok.kept hk, ?_⟩
  · exact name_of_addr x.apart (PySem.mem_of_lookup h1) (PySem.mem_of_lookup h2)
  · have hy : scope.names.lookup y = some .cell ∨ scope.names.lookup y = some .free := hy
    rcases hy with hy | hy
    · exact cell_has hy
    · exact absurd rfl (S.nofree _ (PySem.mem_of_lookup hy))
  · exact Nat.le_of_lt (x.above y c (PySem.mem_of_lookup h))
  · have hi : i < vs.length := by
      unfold start at h2
      by_cases hi : i < vs.length
      · exact hi
      · rw [List.getElem?_append_right (by simpa using hi)] at h2
        rw [List.getElem?_replicate] at h2
        split at h2 <;> cases h2
    have ha : vs[i]? = some v := by
      unfold start at h2
      rw [List.getElem?_append_left (by simpa using hi), List.getElem?_map] at h2
      cases e : vs[i]? with
      | none => rw [e] at h2; cases h2
      | some a => rw [e] at h2; cases h2; rfl
    obtain ⟨u, hu, rv⟩ := r.get ha
    have hp : ps[i]? = some y := by
      rw [← S.pre, List.getElem?_take_of_lt (by omega)]; exact h1
    have ndP : ps.Nodup := by rw [← S.pre]; exact S.nd.sublist (List.take_sublist _ _)
    refine ⟨u, rv, ?_⟩
    rcases S.par y (List.mem_of_getElem? hp) with k | k
    · exact .inl ⟨k, bindL_get ndP hp hu k⟩
    · obtain ⟨c, e⟩ := cell_has (n := s.heap.objs.size + 1) k
      refine .inr ⟨.inl k, c, e, ?_⟩
      have q := x.cell y c e
      rw [bindC_get ndP hp hu (by show scope.names.lookup y ≠ _; rw [k]; decide)] at q
      exact q
  · exact e0.hok.fresh (Nat.le_of_lt (x.above y c (PySem.mem_of_lookup h)))
  · unfold start
    show _ = N.length
    rw [List.length_append, List.length_map, List.length_replicate]
    omega


theorem fn_of {CX : CXT} {P : Program} {w : World} {K : PySem.W.Frag} {mg : Str → Option Value} {base : Heap} {k : Nat} {f : Addr} {name qual : Str} {params : Arguments} {body : List Stmt} {scope : Scope} {dV kV doc pm cdv ct oc : Value} {an od : Option Addr}
    {osl : Array (Option Value)} {N ps : List Str} {sp : Sp} (lk : K.lookup f = some ⟨oc, od, .func (PySem.W.fnOf name qual params body scope dV kV doc pm an cdv ct), osl⟩) (hcd : PySem.W.codeIn K cdv qual = true) (S : FnScope N ps scope)
    (len : ∀ vs H Q E, sp vs H Q E → vs.length = ps.length)
    (hbody : ∀ (A : Around) (outer : List Env) (s : Shared) (H : Hp) (vs : List V) (Q : VK) (E : XK), Room k (A.deeper (envOfC qual scope s.heap.objs.size f cdv)) → sp vs H Q E →
      ∃ t, PSs (cxOf CX P w K mg base N qual scope f cdv A outer s H E) body t ∧ t { nx := fun _ H' => Q .non H', rt := Q } (start N vs) H) :
    FnOk P w K mg base CX (k + 1) f (PySem.W.fnOf name qual params body scope dV kV doc pm an cdv ct) ps sp := by
  refine ⟨len, fun A outer s H args us vs Q E hr e0 hb r hsp => ?_⟩
  have hl := len _ _ _ _ hsp
  have KX : K.In s.heap := e0.mod.kin.keeps fun b o e => (e0.bs b o e).1
  have lim : s.heap.NoLimit := e0.mod.nolimit.keeps fun b o e => (e0.bs b o e).1
  have hkind : ∀ y ∈ ps.zip us, scope.names.lookup y.1 = some .local ∨ (scope.names.lookup y.1 = some .cell ∧ ((cellsFrom (s.heap.objs.size + 1) scope.names []).lookup y.1).isSome = true) := fun ⟨n, v⟩ hy => by
    rcases S.par n (List.of_mem_zip hy).1 with q | q
    · exact .inl q
    · exact .inr ⟨q, PySem.W.cellsFrom_some _ _ _ (.inl q)⟩
  refine codeAny_call_function hr.depth (KX _ _ lk) rfl S.co S.gen rfl (PySem.W.codeRec_of KX hcd) (hb _ _ _ _ ?_)
  refine wpAny_newFunctionEnv_cells S.kind hkind fun env he s1 x => ?_
  subst he
  refine ⟨lim.keeps x.toInCall.keep, codeAny_func ?_⟩
  obtain ⟨t, ht, hq⟩ := hbody A outer s H vs Q E (hr.deeper _) hsp
  have I : Inv (cxOf CX P w K mg base N qual scope f cdv A outer s H E) [] (start N vs) H s1 := inv_start S e0 hl r x
  refine wpAny_mono (ht [] s1 (start N vs) H _ I hq) (fun fl s' hs => ?_) fun e s' hs => hs
  have fin : ∀ {σ' : St} {H' : Hp} {v : V} {u : Value}, Inv (cxOf CX P w K mg base N qual scope f cdv A outer s H E) [] σ' H' s' → RelV v u → Q v H' → CE outer P w H s Q u s' :=
    fun {σ' H' v u} J rv q => ⟨v, H', J.os, J.bare, J.base, J.hok, rv, q⟩
  cases fl with
  | ret u =>
    obtain ⟨v, σ', H', J, rv, q⟩ := hs
    exact fin J rv q
  | next =>
    obtain ⟨σ', H', J, q⟩ := hs
    exact fin (v := V.non) (u := Value.none) J rfl q
  | brk =>
    obtain ⟨_, _, _, q⟩ := hs
    exact False.elim q
  | cont =>
    obtain ⟨_, _, _, q⟩ := hs
    exact False.elim q
end L2

namespace L2
open PySem PySem.Spec PyProof.Rows
section
variable {X : Cx} {x : Str} {p pos : Pos} {e : Expr} {es : List Expr} {t : TA} {id T : String} {r : List V → Hp → VK → Prop}

def tCB (r : List V → Hp → VK → Prop) (t : TA) : TE := fun σ H Q => t σ H fun vs H1 => r vs H1 Q

theorem pe_callB (hc : CallR X (.builtin id) r) (hg : Gl X x) (hm : X.mg x = none) (hv : bootBuiltins x = some (.builtin id)) (ha : PA X (e :: es) t) (hn : x ≠ "__name__" := by decide) (hdb : (x == ("__debug__" : Str)) = false := by decide)
    (he : starEach (e :: es) X.env = (false, eval e X.env) :: starEach es X.env := by rfl) (hpl : (backTo pos (starEach es X.env)).any (·.1) = false := by rfl) : PE X (.Call (.Name x p) (e :: es) [] pos) (tCB r t) := by
  intro pins s σ H Q I h
  refine wpAny_Call_Name_kw (ld_blt I hg hm hv ?_ hn hdb)
  exact PyProof.Rows.callWith_builtin1 (thn (ha pos pins s σ H _ I h) fun us s1 ⟨vs, H1, I1, r1, q1⟩ => hc pins s1 σ H1 vs us Q I1 r1 q1) he hpl

theorem pe_callTy (hc : CallR X (.type T) r) (hg : Gl X x) (hm : X.mg x = none) (hv : bootBuiltins x = some (.type T)) (ha : PA X (e :: es) t) (hn : x ≠ "__name__" := by decide) (hdb : (x == ("__debug__" : Str)) = false := by decide)
    (he : starEach (e :: es) X.env = (false, eval e X.env) :: starEach es X.env := by rfl) (hpl : (backTo pos (starEach es X.env)).any (·.1) = false := by rfl) : PE X (.Call (.Name x p) (e :: es) [] pos) (tCB r t) := by
  intro pins s σ H Q I h
  refine wpAny_Call_Name_kw (ld_blt I hg hm hv ?_ hn hdb)
  exact PyProof.Rows.callWith_type1 (thn (ha pos pins s σ H _ I h) fun us s1 ⟨vs, H1, I1, r1, q1⟩ => hc pins s1 σ H1 vs us Q I1 r1 q1) he hpl

end
end L2

namespace HT
open PySem PyProof.Rows


section
open PySem.SeqAt
open PySem.AutoSeq1 (wpAny_loadPart')
open PySem.MeetsSeq PySem.MeetsSeq2 PySem.MeetsSeq3

end

section
variable {prog : Program} {w : World} {A : Around} {E : Value → Shared → Prop} {s : Shared}

theorem cat_tup {t b : Addr} {vs ws : List Value} {Q : Value → Shared → Prop} (ht : IsTup s.heap t vs.toArray) (hb : IsTup s.heap b ws.toArray) (hv : vs ≠ [])
    (h1 : ws = [] → Q (.ref t) s) (h2 : ws ≠ [] → Q (.ref s.heap.objs.size) { s with heap := s.heap.push { cls := .type "tuple", data := .seq (vs ++ ws).toArray } })
    (hsz : vs.length + ws.length ≤ sizeLine) : wpAny (model prog w) A (binaryOp .Add (.ref t) (.ref b)) Q E s := by
  obtain ⟨⟨cls, dd, data, sl⟩, ho, hc, n, hd⟩ := id ht
  obtain ⟨⟨cls2, dd2, data2, sl2⟩, ho2, hc2, n2, hd2⟩ := id hb
  simp only at hc hd hc2 hd2
  subst hc hd hc2 hd2
  have e : vs.toArray ++ ws.toArray = (vs ++ ws).toArray := by simp
  by_cases hw : ws = []
  · exact concat_meets ⟨_, ho, rfl⟩ ⟨_, ho2, rfl⟩ noFill_tuple_add seq_tuple_add PySem.F.slot_tuple_add PySem.F.entry_tuple_add (PySem.F.args_tuple_add_2 _ _)
      (tuple_addW1 t b vs.toArray ws.toArray n n2 dd dd2 sl sl2 (by simpa using hv) (by simp [hw])) ⟨ho, ho2, h1 hw⟩
  · refine concat_meets ⟨_, ho, rfl⟩ ⟨_, ho2, rfl⟩ noFill_tuple_add seq_tuple_add PySem.F.slot_tuple_add PySem.F.entry_tuple_add (PySem.F.args_tuple_add_2 _ _)
      (tuple_addW2 t b vs.toArray ws.toArray n n2 dd dd2 sl sl2 (by simpa using hv) (by simpa using hw) (by rw [List.size_toArray, List.size_toArray]; exact hsz)) ⟨ho, ho2, ?_⟩
    rw [e]
    exact h2 hw



def sIx (n d : Nat) : Option Int → Nat
  | none => d
  | some v => if v < 0 then (v + (n : Int)).toNat else min v.toNat n
theorem sIx_none (n d : Nat) : sIx n d none = d := rfl
theorem sIx_nat (n d k : Nat) : sIx n d (some (k : Int)) = min k n := by
  show (if (k : Int) < 0 then ((k : Int) + (n : Int)).toNat else min (k : Int).toNat n) = min k n
  rw [if_neg (by omega), Int.toNat_natCast]
theorem sIx_le (n d : Nat) (hd : d ≤ n) (o : Option Int) : sIx n d o ≤ n := by
  cases o with
  | none => exact hd
  | some v =>
    show (if v < 0 then (v + (n : Int)).toNat else min v.toNat n) ≤ n
    by_cases hv : v < 0
    · rw [if_pos hv]; omega
    · rw [if_neg hv]; exact Nat.min_le_right _ _
theorem clip_eq (v : Int) (n d : Nat) : (if v < 0 then max (v + (n : Int)) 0 else min v (n : Int)) = ((sIx n d (some v) : Nat) : Int) := by
  show (if v < 0 then max (v + (n : Int)) 0 else min v (n : Int)) = (((if v < 0 then (v + (n : Int)).toNat else min v.toNat n) : Nat) : Int)
  by_cases hv : v < 0
  · simp only [if_pos hv]; omega
  · simp only [if_neg hv]; omega
theorem adjust_gen (lo hi : Option Int) (n : Nat) : Builtin.Slice.sliceAdjust lo hi 1 (n : Int) = (((sIx n 0 lo : Nat) : Int), ((sIx n n hi : Nat) : Int)) := by
  have h1 : ¬ ((1 : Int) < 0) := by omega
  unfold Builtin.Slice.sliceAdjust
  simp only [h1, if_false]
  refine Prod.ext ?_ ?_
  · cases lo with
    | none => rfl
    | some v => exact clip_eq v n 0
  · cases hi with
    | none => rfl
    | some v => exact clip_eq v n n
theorem places_gen (i j : Nat) : Builtin.Slice.slicePlaces (i : Int) (j : Int) 1 = j - i := by
  unfold Builtin.Slice.slicePlaces
  have h1 : (1 : Int) > 0 := by omega
  simp only [h1, if_true, Int.ediv_one]
  split <;> omega
theorem slicePart_ {v : Value} {o : Option Int} {Q : Option Int → Shared → Prop} (p : IsPart v o) (h : Q o s) : wpAny (model prog w) A (Builtin.Slice.slicePartIndex v) Q E s := by
  cases p with
  | none => exact slicePart_none h
  | int i t => exact slicePart_int h
theorem sliceApplied_gen {sl : Addr} {vl vu : Value} {lo hi : Option Int} {n : Nat} {Q : Int × Int × Nat → Shared → Prop} (hs : s.heap.IsSliceOf sl vl vu .none) (pl : IsPart vl lo) (pu : IsPart vu hi)
    (h : Q (((sIx n 0 lo : Nat) : Int), 1, sIx n n hi - sIx n 0 lo) s) : wpAny (model prog w) A (Builtin.Slice.sliceApplied (.ref sl) (pure (n : Int))) Q E s := by
  obtain ⟨os, hos, hcs, hds⟩ := id hs
  unfold Builtin.Slice.sliceApplied Builtin.Slice.sliceFields
  refine wpAny_bind (wpAny_bind (wpAny_field hos hds (x := vl) rfl (wpAny_bind (wpAny_field hos hds (x := vu) rfl (wpAny_bind (wpAny_field hos hds (x := .none) rfl (wpAny_pure ?_)))))))
  refine wpAny_bind (slicePart_none ?_)
  show wpAny _ _ (if ((1 : Int) == 0) = true then _ else _) _ _ s
  rw [if_neg (by decide)]
  refine wpAny_bind (slicePart_ pl (wpAny_bind (slicePart_ pu (wpAny_bind (wpAny_pure ?_)))))
  show wpAny _ _ (match Builtin.Slice.sliceAdjust lo hi 1 (n : Int) with | (lo, hi) => pure (lo, (1 : Int), Builtin.Slice.slicePlaces lo hi 1)) _ _ s
  rw [adjust_gen lo hi n]
  show wpAny _ _ (pure (((sIx n 0 lo : Nat) : Int), (1 : Int), Builtin.Slice.slicePlaces ((sIx n 0 lo : Nat) : Int) ((sIx n n hi : Nat) : Int) 1)) _ _ s
  rw [places_gen]
  exact wpAny_pure h
theorem pick_gen (xs : Array Value) (i k : Nat) : ((List.range k).filterMap fun (m : Nat) => xs[((i : Int) + (m : Int) * 1).toNat]?).toArray = ((xs.toList.drop i).take k).toArray := by
  have e : (fun (m : Nat) => xs[((i : Int) + (m : Int) * 1).toNat]?) = fun m => xs[i + m]? := by
    funext m
    have : ((i : Int) + (m : Int) * 1).toNat = i + m := by omega
    rw [this]
  rw [e]
  have := pick_run xs i k
  rw [List.filterMap_map] at this
  have e2 : ((fun x => xs[x]?) ∘ fun x => i + x) = fun m => xs[i + m]? := rfl
  rw [e2] at this
  rw [this]

theorem getItem_tuple_cut {t sl : Addr} {items : Array Value} {vl vu : Value} {lo hi : Option Int} {Q : Value → Shared → Prop} (ht : IsTup s.heap t items) (hs : s.heap.IsSliceOf sl vl vu .none) (pl : IsPart vl lo) (pu : IsPart vu hi)
    (hw : ¬ (sIx items.size 0 lo = 0 ∧ sIx items.size items.size hi = items.size))
    (h : Q (.ref s.heap.objs.size) { s with heap := s.heap.push { cls := .type "tuple", data := .seq ((items.toList.drop (sIx items.size 0 lo)).take (sIx items.size items.size hi - sIx items.size 0 lo)).toArray } })
    (hsz : items.size ≤ sizeLine) : wpAny (model prog w) A (getItem (.ref t) (.ref sl)) Q E s := by
  have htake : sizeOk (.seq ((items.toList.drop (sIx items.size 0 lo)).take (sIx items.size items.size hi - sIx items.size 0 lo)).toArray) := by
    show ((items.toList.drop (sIx items.size 0 lo)).take (sIx items.size items.size hi - sIx items.size 0 lo)).toArray.size ≤ sizeLine
    rw [List.size_toArray, List.length_take, List.length_drop, Array.length_toList]
    omega
  have hj : sIx items.size items.size hi ≤ items.size := sIx_le _ _ (Nat.le_refl _) hi
  obtain ⟨os, hos, hcs, hds⟩ := id hs
  have hTs : s.TypeIs (.ref sl) "slice" := ⟨os, hos, hcs⟩
  unfold getItem
  try with_reducible refine wpAny_holding ?_
  first | refine wpAny_bind (wpAny_pure ?_) | skip
  refine wpAny_bind (wpAny_sequenceKey ht.typeIs (by decide) ?_)
  refine wpAny_bind (wpAny_callSpecial?_slot (name := Str.ofString "__getitem__") ht.typeIs PyProof.Rows.slot_tuple_getitem
    (wpAny_call_entry PyProof.Rows.slot_tuple_getitem ht.typeIs entry_tuple_getitem ?_ (args_tuple_getitem _ _)))
  show wpAny _ _ (Builtin.Tuple.tupleItemsOf (.ref t) >>= _) _ _ s
  refine wpAny_bind (tupleItemsOf_ ht ?_)
  refine wpAny_bind (wpAny_typeOf hTs ?_)
  rw [if_pos (by decide)]
  refine wpAny_bind (sliceApplied_gen hs pl pu ?_)
  have hno : ¬ ((((sIx items.size 0 lo : Nat) : Int) == 0 && (1 : Int) == 1 && (sIx items.size items.size hi - sIx items.size 0 lo) == items.size) = true) := by
    intro q
    rw [Bool.and_eq_true, Bool.and_eq_true] at q
    have q1 : ((sIx items.size 0 lo : Nat) : Int) = 0 := eq_of_beq q.1.1
    have q2 : sIx items.size items.size hi - sIx items.size 0 lo = items.size := eq_of_beq q.2
    exact hw ⟨by omega, by omega⟩
  show wpAny _ _ (if (((sIx items.size 0 lo : Nat) : Int) == 0 && (1 : Int) == 1 && (sIx items.size items.size hi - sIx items.size 0 lo) == items.size) = true then _ else _) _ _ s
  rw [if_neg hno, pick_gen]
  first
    | exact wpAny_bind (m := Builtin.Tuple.tupleExact _) (wpAny_newObj_type (wpAny_pure ⟨_, rfl, wpAny_pure h⟩) htake)
    | exact wpAny_bind (m := Builtin.Tuple.tupleExact _) (wpAny_newObj_type (wpAny_bind (wpAny_pure (wpAny_pure ⟨_, rfl, wpAny_pure h⟩))) htake)
    | exact wpAny_bind (wpAny_bind (m := Builtin.Tuple.tupleExact _) (wpAny_newObj_type (wpAny_pure (wpAny_pure ⟨_, rfl, wpAny_pure h⟩)) htake))
    | exact wpAny_bind (wpAny_bind (m := Builtin.Tuple.tupleExact _) (wpAny_newObj_type (wpAny_pure ⟨_, rfl, wpAny_pure h⟩) htake))
end
end HT

namespace L2
open PySem PySem.Spec PyProof.Rows


abbrev TO := St → Hp → (Option Int → Hp → Prop) → Prop

def PO (X : Cx) (e : Option Expr) (t : TO) : Prop :=
  ∀ (pins : List (Addr × Obj)) (s : Shared) (σ : St) (H : Hp) (Q : Option Int → Hp → Prop), Inv X pins σ H s → t σ H Q →
    wpAny (model X.prog X.w) X.A (evalPart e X.env) (fun u s' => ∃ o H', Inv X pins σ H' s' ∧ IsPart u o ∧ Q o H') X.xe s
def tNoPart : TO := fun _ H Q => Q none H
def tPart (t : TE) : TO := fun σ H Q => t σ H fun x H1 => ∃ i, x = .int i ∧ Q (some i) H1

section
variable {X : Cx} {e : Expr} {te : TE} {lo hi : Option Expr} {tl th : TO} {pos p2 : Pos}

theorem po_none : PO X none tNoPart := by
  intro pins s σ H Q I h
  rw [evalPart_none]
  exact wpAny_pure ⟨none, H, I, .none, h⟩
theorem po_some (h : PE X e te) : PO X (some e) (tPart te) := by
  intro pins s σ H Q I hw
  rw [evalPart_some]
  refine thn (h pins s σ H _ I hw) fun u s1 ⟨x, H1, I1, r1, q1⟩ => ?_
  obtain ⟨i, rfl, q⟩ := q1
  obtain ⟨t, rfl⟩ := r1
  exact ⟨some i, H1, I1, .int i t, q⟩


def SlR (X : Cx) (r : V → Option Int → Option Int → Hp → VK → Prop) : Prop :=
  ∀ (pins : List (Addr × Obj)) (s : Shared) (σ : St) (H : Hp) (x : V) (v vl vu : Value) (lo hi : Option Int) (sl : Addr) (Q : VK), Inv X pins σ H s → RelV x v → s.heap.IsSliceOf sl vl vu .none → IsPart vl lo → IsPart vu hi → r x lo hi H Q →
    ∃ T id, typeLookup (.type T) "__getitem__" = pure (some (.builtin id)) ∧ s.TypeIs v T ∧ wpAny (model X.prog X.w) X.A (getItem v (.ref sl)) (EP X pins σ Q) X.xe s
theorem SlR.or {r r' : V → Option Int → Option Int → Hp → VK → Prop} (h : SlR X r) (h' : SlR X r') : SlR X (fun x lo hi H Q => r x lo hi H Q ∨ r' x lo hi H Q) := by
  intro pins s σ H x v vl vu lo hi sl Q I rx hs pl pu q
  rcases q with q | q
  · exact h pins s σ H x v vl vu lo hi sl Q I rx hs pl pu q
  · exact h' pins s σ H x v vl vu lo hi sl Q I rx hs pl pu q
def tSl (r : V → Option Int → Option Int → Hp → VK → Prop) (te : TE) (tl th : TO) : TE := fun σ H Q => te σ H fun x H1 => tl σ H1 fun l H2 => th σ H2 fun u H3 => r x l u H3 Q

theorem pe_slice {r : V → Option Int → Option Int → Hp → VK → Prop} (hr : SlR X r) (he : PE X e te) (hl : PO X lo tl) (hu : PO X hi th) : PE X (.Subscript e (.Slice lo hi none p2) pos) (tSl r te tl th) := by
  intro pins s σ H Q I h
  refine Subscript_ (thn (he pins s σ H _ I h) fun v s1 ⟨x, H1, I1, r1, q1⟩ => ?_)
  refine wpAny_Slice (thn (hl pins s1 σ H1 _ I1 q1) fun vl s2 ⟨l, H2, I2, pl, q2⟩ => thn (hu pins s2 σ H2 _ I2 q2) fun vu s3 ⟨u, H3, I3, pu, q3⟩ => ?_)
  rw [evalPart_none]
  refine wpAny_pure ?_
  have I4 : Inv X pins σ H3 { s3 with heap := s3.heap.push { cls := .type "slice", data := .fields #[vl, vu, .none] } } := I3.kept (t' := s3.toks) fun b ob q => Heap.get?_push_of_some _ q
  obtain ⟨T, id, hT, ht, hg⟩ := hr pins { s3 with heap := s3.heap.push { cls := .type "slice", data := .fields #[vl, vu, .none] } } σ H3 x v vl vu l u s3.heap.objs.size Q I4 r1 (Heap.IsSliceOf.new ..) pl pu q3
  show wpAny (model X.prog X.w) X.A (subscriptTail e (.Slice lo hi none p2) v (.ref s3.heap.objs.size)) (EP X pins σ Q) X.xe { s3 with heap := s3.heap.push { cls := .type "slice", data := .fields #[vl, vu, .none] } }
  exact tail_any (ops := [.ref s3.heap.objs.size, v]) ht hT hg (by with_unfolding_all rfl)


def cutV (xs : List V) (lo hi : Option Int) : List V := (xs.drop (HT.sIx xs.length 0 lo)).take (HT.sIx xs.length xs.length hi - HT.sIx xs.length 0 lo)
theorem cutV_length (xs : List V) (lo hi : Option Int) : (cutV xs lo hi).length ≤ xs.length := by
  unfold cutV
  rw [List.length_take, List.length_drop]
  omega

def rSlT (K : PySem.W.Frag) : V → Option Int → Option Int → Hp → VK → Prop := fun x lo hi H Q => ∃ a xs, x = .ref a ∧ SqT K H a xs ∧
  ¬ (HT.sIx xs.length 0 lo = 0 ∧ HT.sIx xs.length xs.length hi = xs.length) ∧ ∀ p, H p = none → Q (.ref p) (upd H p (.tup (cutV xs lo hi)))
theorem sl_tup : SlR X (rSlT X.K) := by
  intro pins s σ H x v vl vu lo hi sl Q I rx hs pl pu h
  obtain ⟨a, xs, rfl, hx, hw, q⟩ := h
  cases rx
  obtain ⟨its, r, ht, hz⟩ := I.tuple hx
  have hlen : its.toArray.size = xs.length := by rw [List.size_toArray]; exact r.length.symm
  refine ⟨"tuple", _, PyProof.Rows.slot_tuple_getitem.lookup, ht.typeIs, ?_⟩
  refine HT.getItem_tuple_cut ht hs pl pu (by rw [hlen]; exact hw) ?_ (by rw [hlen]; exact hz)
  rw [hlen]
  refine ⟨.ref s.heap.objs.size, _, I.laid (t' := s.toks) (o := .tup (cutV xs lo hi)) (fun b ob q => Heap.get?_push_of_some _ q) (Nat.le_refl _) ?_, rfl, q _ (I.hok.fresh (Nat.le_refl _))⟩
  exact ⟨Nat.le_trans (cutV_length xs lo hi) hz, _, (r.drop (HT.sIx xs.length 0 lo)).take (HT.sIx xs.length xs.length hi - HT.sIx xs.length 0 lo), IsTup.new _ _⟩


def rCatT (K : PySem.W.Frag) : R2 := fun x y H Q => ∃ a b xs ys, x = .ref a ∧ y = .ref b ∧ SqT K H a xs ∧ SqT K H b ys ∧ xs ≠ [] ∧ xs.length + ys.length ≤ sizeLine ∧
  (ys = [] → Q (.ref a) H) ∧ (ys ≠ [] → ∀ p, H p = none → Q (.ref p) (upd H p (.tup (xs ++ ys))))
theorem Vals.nil_iff {xs : List V} {us : List Value} (r : Vals xs us) : us = [] ↔ xs = [] := by
  cases r with
  | nil => simp
  | cons _ _ => simp
theorem op_catT : OpR X (binaryOp .Add) (rCatT X.K) := by
  intro pins s σ H x y v u Q I rx ry h
  obtain ⟨a, b, xs, ys, rfl, rfl, ha, hb, hx, hz, q1, q2⟩ := h
  cases rx
  cases ry
  obtain ⟨its, r1, p1, _⟩ := I.tuple ha
  obtain ⟨its2, r2, p2, _⟩ := I.tuple hb
  refine HT.cat_tup p1 p2 (fun z => hx (r1.nil_iff.mp z)) (fun z => ⟨.ref a, H, I, rfl, q1 (r2.nil_iff.mp z)⟩) (fun z => ?_) (by rw [← r1.length, ← r2.length]; exact hz)
  refine ⟨.ref s.heap.objs.size, _, I.laid (t' := s.toks) (o := .tup (xs ++ ys)) (fun b ob q => Heap.get?_push_of_some _ q) (Nat.le_refl _) ?_, rfl, q2 (fun w => z (r2.nil_iff.mpr w)) _ (I.hok.fresh (Nat.le_refl _))⟩
  exact ⟨by rw [List.length_append]; exact hz, _, r1.append r2, IsTup.new _ _⟩

end
end L2

namespace L2
open PySem PySem.Spec PyProof.Rows



def ixN (n : Nat) (i : Int) : Option Nat := if 0 ≤ i then (if i < n then some i.toNat else none) else if -(n : Int) ≤ i then some (i + n).toNat else none
def atI {α : Type} (xs : List α) (i : Int) : Option α := (ixN xs.length i).bind fun j => xs[j]?
theorem ixN_seq {n : Nat} {i : Int} {j : Nat} (h : ixN n i = some j) : seqIndex? i n = some j ∧ j < n ∧ -(n : Int) ≤ i ∧ i < n := by
  unfold ixN at h
  by_cases h0 : 0 ≤ i
  · rw [if_pos h0] at h
    by_cases h1 : i < n
    · rw [if_pos h1] at h
      have e : i.toNat = j := Option.some.inj h
      exact ⟨by rw [seqIndex_of h0 h1, e], by omega, by omega, h1⟩
    · rw [if_neg h1] at h; cases h
  · rw [if_neg h0] at h
    by_cases h1 : -(n : Int) ≤ i
    · rw [if_pos h1] at h
      have e : (i + n).toNat = j := Option.some.inj h
      exact ⟨by rw [seqIndex_neg (by omega) h1, e], by omega, h1, by omega⟩
    · rw [if_neg h1] at h; cases h
theorem atI_get {α : Type} {xs : List α} {i : Int} {v : α} (h : atI xs i = some v) : ∃ j, seqIndex? i xs.length = some j ∧ xs[j]? = some v ∧ j < xs.length ∧ -(xs.length : Int) ≤ i ∧ i < xs.length := by
  unfold atI at h
  cases e : ixN xs.length i with
  | none => rw [e] at h; cases h
  | some j =>
    rw [e] at h
    obtain ⟨h1, h2, h3, h4⟩ := ixN_seq e
    exact ⟨j, h1, h, h2, h3, h4⟩
theorem atI_nat {α : Type} {xs : List α} {j : Nat} {v : α} (h : xs[j]? = some v) : atI xs (j : Int) = some v := by
  have hj : j < xs.length := (List.getElem?_eq_some_iff.mp h).1
  have e : ixN xs.length (j : Int) = some j := by
    unfold ixN
    rw [if_pos (by omega), if_pos (by omega)]; simp
  unfold atI; rw [e]; exact h
def PlainIx (b : Expr) : Prop := ∀ o i, subscripted b false o i = operate [o, i] (getItem o i)

def IxR (X : Cx) (r : R2) : Prop :=
  ∀ (value slice : Expr) (pins : List (Addr × Obj)) (s : Shared) (σ : St) (H : Hp) (x y : V) (v u : Value) (Q : VK), Inv X pins σ H s → RelV x v → RelV y u → r x y H Q →
    subscripted slice false v u = operate [v, u] (getItem v u) → wpAny (model X.prog X.w) X.A (subscriptTail value slice v u) (EP X pins σ Q) X.xe s

def MtR (X : Cx) (id : String) (r : V → List V → Hp → VK → Prop) : Prop :=
  ∀ (pins : List (Addr × Obj)) (s : Shared) (σ : St) (H : Hp) (x : V) (xs : List V) (v : Value) (us : List Value) (Q : VK), Inv X pins σ H s → RelV x v → Vals xs us → r x xs H Q →
    wpAny (model X.prog X.w) X.A (call (.builtin id) (v :: us)) (EP X pins σ Q) X.xe s
section
variable {X : Cx} {a b : Expr} {ta tb : TE} {pos : Pos}
theorem IxR.or {r r' : R2} (h : IxR X r) (h' : IxR X r') : IxR X (fun x y H Q => r x y H Q ∨ r' x y H Q) := by
  intro value slice pins s σ H x y v u Q I rx ry q hs
  rcases q with q | q
  · exact h value slice pins s σ H x y v u Q I rx ry q hs
  · exact h' value slice pins s σ H x y v u Q I rx ry q hs
theorem MtR.or {id : String} {r r' : V → List V → Hp → VK → Prop} (h : MtR X id r) (h' : MtR X id r') : MtR X id (fun x xs H Q => r x xs H Q ∨ r' x xs H Q) := by
  intro pins s σ H x xs v us Q I rx rs q
  rcases q with q | q
  · exact h pins s σ H x xs v us Q I rx rs q
  · exact h' pins s σ H x xs v us Q I rx rs q

theorem pe_ix {r : R2} (hr : IxR X r) (ha : PE X a ta) (hb : PE X b tb) (hs : PlainIx b) : PE X (.Subscript a b pos) (tOp r ta tb) := by
  intro pins s σ H Q I h
  exact Subscript_ (binT ha hb I h fun v u s2 x y H2 I2 rx ry q => hr a b pins s2 σ H2 x y v u Q I2 rx ry q (hs _ _))

def rIxL (K : PySem.W.Frag) : R2 := fun x y H Q => ∃ p xs i v, x = .ref p ∧ y = .int i ∧ SqL K H p xs ∧ atI xs i = some v ∧ Q v H
def rIxT (K : PySem.W.Frag) : R2 := fun x y H Q => ∃ p xs i v, x = .ref p ∧ y = .int i ∧ SqT K H p xs ∧ atI xs i = some v ∧ Q v H
def rIxS : R2 := fun x y H Q => ∃ z i c, x = .str z ∧ y = .int i ∧ z.length ≤ sizeLine ∧ atI z.cps.toList i = some c ∧ Q (.str ⟨#[c]⟩) H
theorem ix_list : IxR X (rIxL X.K) := by
  intro value slice pins s σ H x y v u Q I rx ry h hs
  obtain ⟨p, xs, i, z, rfl, rfl, hq, he, q⟩ := h
  cases rx
  obtain ⟨t, rfl⟩ := ry
  obtain ⟨its, r, pl, hz⟩ := I.list hq
  obtain ⟨j, h1, h2, h3, h4, h5⟩ := atI_get he
  obtain ⟨w, ew, rw'⟩ := r.get h2
  have hl := r.length
  have hn := line63
  have fin : EP X pins σ Q w s := ⟨z, H, I, rw', q⟩
  by_cases h0 : 0 ≤ i
  · have hj : i.toNat = j := by
      rw [seqIndex_of h0 h5] at h1
      exact Option.some.inj h1
    exact item_listR pl.isList h0 (by omega) (by rw [hj]; simpa using ew) fin hs
  · have hj : (i + (its.toArray.size : Int)).toNat = j := by
      rw [seqIndex_neg (by omega) h4] at h1
      rw [List.size_toArray, ← hl]
      exact Option.some.inj h1
    exact subscriptTail_builtinR (x := w) pl.isList.typeIs slot_list_getitem.lookup
      (wpAny_getItem_list_neg (Q := fun r s' => r = w ∧ EP X pins σ Q r s') pl.isList (by omega) (by rw [List.size_toArray] <;> omega) (by omega) (by rw [hj]; simpa using ew) ⟨rfl, fin⟩) hs
theorem ix_tup : IxR X (rIxT X.K) := by
  intro value slice pins s σ H x y v u Q I rx ry h hs
  obtain ⟨p, xs, i, z, rfl, rfl, hq, he, q⟩ := h
  cases rx
  obtain ⟨t, rfl⟩ := ry
  obtain ⟨its, r, pl, hz⟩ := I.tuple hq
  obtain ⟨j, h1, h2, h3, h4, h5⟩ := atI_get he
  obtain ⟨w, ew, rw'⟩ := r.get h2
  have hl := r.length
  have hn := line63
  have fin : EP X pins σ Q w s := ⟨z, H, I, rw', q⟩
  exact subscriptTail_builtinR (x := w) pl.typeIs slot_tuple_getitem.lookup
    (getItem_tuple (j := j) (Q := fun r s' => r = w ∧ EP X pins σ Q r s') pl (by omega) (by omega) (by rw [List.size_toArray, ← hl]; exact h1) (by simpa using ew) ⟨rfl, fin⟩) hs
theorem ix_str : IxR X rIxS := by
  intro value slice pins s σ H x y v u Q I rx ry h hs
  obtain ⟨z, i, c, rfl, rfl, hz, he, q⟩ := h
  obtain ⟨t, rfl⟩ := rx
  obtain ⟨t', rfl⟩ := ry
  obtain ⟨j, h1, h2, h3, h4, h5⟩ := atI_get he
  have hl : z.cps.toList.length = z.length := by simp [Str.length]
  rw [hl] at h1 h4 h5
  have hn := line63
  exact tail_any (typeIs_str s z t) slot_str_getitem.lookup (getItem_str (c := c) (by
    have e1 : decide (i < -(2 ^ 63 : Int)) = false := decide_eq_false (by omega)
    have e2 : decide (i ≥ 2 ^ 63) = false := decide_eq_false (by omega)
    rw [e1, e2, Bool.or_false]) (by rw [h1]; simpa using h2) ⟨.str ⟨#[c]⟩, H, I.tok _, ⟨_, rfl⟩, q⟩) hs

def rIx (K : PySem.W.Frag) : R2 := fun x y H Q => rIxL K x y H Q ∨ rIxT K x y H Q ∨ rIxS x y H Q
theorem ix_seq : IxR X (rIx X.K) := ix_list.or (ix_tup.or ix_str)



theorem mapSeq_set (its : List Value) (n j : Nat) (u : Value) : Obj.mapSeq (·.setIfInBounds j u) { cls := .type "list", data := .seq its.toArray n } = { cls := .type "list", data := .seq (its.set j u).toArray n } := by
  simp [Obj.mapSeq]
theorem Inv.lst {pins : List (Addr × Obj)} {σ : St} {H : Hp} {s : Shared} {p : Addr} {xs : List V} (I : Inv X pins σ H s) (h : H p = some (.lst xs)) :
    ∃ (its : List Value) (n : Nat), Vals xs its ∧ s.heap.get? p = some { cls := .type "list", data := .seq its.toArray n } ∧ xs.length ≤ sizeLine := by
  obtain ⟨z, its, n, r, e⟩ := I.hok p _ h
  exact ⟨its, n, r, e, z⟩

theorem Inv.lstUpd {pins : List (Addr × Obj)} {σ : St} {H : Hp} {s : Shared} {p : Addr} {xs ys : List V} {its its' : List Value} {n n' : Nat} {f : Obj → Obj} (I : Inv X pins σ H s) (h : H p = some (.lst xs))
    (ho : s.heap.get? p = some { cls := .type "list", data := .seq its.toArray n }) (hf : f { cls := .type "list", data := .seq its.toArray n } = { cls := .type "list", data := .seq its'.toArray n' }) (r : Vals ys its') (hz : ys.length ≤ sizeLine) (t : Nat) :
    Inv X pins σ (upd H p (.lst ys)) { s with heap := s.heap.update p f, toks := t } := by
  have e : (s.heap.update p f).get? p = some { cls := .type "list", data := .seq its'.toArray n' } := by
    rw [Heap.get?_update_self f ho (by rw [hf] <;> rfl), hf]
  refine I.write (x := p) (e := p) (by rw [h]; trivial) (.inl rfl) (fun b u hb q => (Heap.get?_update_other _ _ (Ne.symm hb)).trans q) ⟨_, e⟩ ?_
  exact ⟨hz, its', n', r, e⟩
def rSetL : V → V → V → Hp → (Hp → Prop) → Prop := fun o i v H Q => ∃ p xs k j, o = .ref p ∧ i = .int k ∧ H p = some (.lst xs) ∧ ixN xs.length k = some j ∧ Q (upd H p (.lst (xs.set j v)))
theorem set_list : PSet X rSetL := by
  intro pins s σ H o i v ov iv u Q I ro ri rv h
  obtain ⟨p, xs, k, j, rfl, rfl, hp, hj, q⟩ := h
  cases ro
  obtain ⟨t, rfl⟩ := ri
  obtain ⟨its, n, r, ho, hz⟩ := I.lst hp
  obtain ⟨h1, h2, h3, h4⟩ := ixN_seq hj
  have hl := r.length
  have hn := line63
  have I' : Inv X pins σ (upd H p (.lst (xs.set j v))) { s with heap := s.heap.update p (Obj.mapSeq (·.setIfInBounds j u)) } :=
    I.lstUpd hp ho (mapSeq_set its n j u) (r.set rv j) (by rw [List.length_set]; exact hz) s.toks
  by_cases h0 : 0 ≤ k
  · have hk : k.toNat = j := by
      rw [seqIndex_of h0 h4] at h1
      exact Option.some.inj h1
    exact PySem.W.ki_setAt ho h0 (by omega) (by rw [List.size_toArray, ← hl]; exact h4) (by rw [hk]; exact ⟨_, I', q⟩)
  · have hk : (k + (its.toArray.size : Int)).toNat = j := by
      rw [seqIndex_neg (by omega) h3] at h1
      rw [List.size_toArray, ← hl]
      exact Option.some.inj h1
    exact PySem.W.ki_setBack ho (by omega) (by rw [List.size_toArray, ← hl]; exact h3) (by omega) (by rw [hk]; exact ⟨_, I', q⟩)


theorem slice_bounds (lo hi : Option Int) (n : Nat) : (sliceBounds lo hi none n).1 = ((HT.sIx n 0 lo : Nat) : Int) ∧ (sliceBounds lo hi none n).2.1 = ((HT.sIx n n hi : Nat) : Int) ∧ (sliceBounds lo hi none n).2.2 = 1 := by
  refine ⟨?_, ?_, rfl⟩
  · cases lo with
    | none => simp [sliceBounds, HT.sIx]
    | some i =>
      simp only [sliceBounds, HT.sIx, Option.getD_none, show (1 : Int) > 0 by decide, if_true]
      by_cases h : i < 0
      · simp only [h, if_true] <;> omega
      · simp only [h, if_false] <;> omega
  · cases hi with
    | none => simp [sliceBounds, HT.sIx]
    | some i =>
      simp only [sliceBounds, HT.sIx, Option.getD_none, show (1 : Int) > 0 by decide, if_true]
      by_cases h : i < 0
      · simp only [h, if_true] <;> omega
      · simp only [h, if_false] <;> omega
theorem slicePick_cut (its : List Value) (lo hi : Option Int) : slicePick its.toArray lo hi none = ((its.drop (HT.sIx its.length 0 lo)).take (HT.sIx its.length its.length hi - HT.sIx its.length 0 lo)).toArray := by
  obtain ⟨h1, h2, h3⟩ := slice_bounds lo hi its.toArray.size
  unfold slicePick
  rw [h1, h2, h3]
  simp only [sliceRange_one, pick_run, List.size_toArray] <;> rfl

def rSlL (K : PySem.W.Frag) : V → Option Int → Option Int → Hp → VK → Prop := fun x lo hi H Q => ∃ a xs, x = .ref a ∧ SqL K H a xs ∧ ∀ p, H p = none → Q (.ref p) (upd H p (.lst (cutV xs lo hi)))
theorem sl_list : SlR X (rSlL X.K) := by
  intro pins s σ H x v vl vu lo hi sl Q I rx hs pl pu h
  obtain ⟨a, xs, rfl, hx, q⟩ := h
  cases rx
  obtain ⟨its, r, ht, hz⟩ := I.list hx
  have hlen := r.length
  refine ⟨"list", _, slot_list_getitem.lookup, ht.isList.typeIs, ?_⟩
  refine wpAny_getItem_list_slice ht.isList hs pl pu .none (by simp) ?_ (by rw [List.size_toArray] <;> omega)
  rw [slicePick_cut, ← hlen]
  refine ⟨.ref s.heap.objs.size, _, I.laid (t' := s.toks) (o := .lst (cutV xs lo hi)) (fun b ob q => Heap.get?_push_of_some _ q) (Nat.le_refl _) ?_, rfl, q _ (I.hok.fresh (Nat.le_refl _))⟩
  exact ⟨Nat.le_trans (cutV_length xs lo hi) hz, _, 0, (r.drop (HT.sIx xs.length 0 lo)).take (HT.sIx xs.length xs.length hi - HT.sIx xs.length 0 lo), Heap.get?_push_size _ rfl⟩


def flatV : V → Bool
  | .non => true
  | .bl _ => true
  | .int _ => true
  | .str _ => true
  | _ => false

def eqV : V → V → Bool
  | .non, .non => true
  | .bl a, .bl b => a == b
  | .bl a, .int b => (if a then 1 else 0) == b
  | .int a, .bl b => a == (if b then 1 else 0)
  | .int a, .int b => a == b
  | .str a, .str b => a == b
  | _, _ => false
theorem eqAt_V {A : Around} {s : Shared} {y x : V} {u v : Value} (ry : RelV y u) (rx : RelV x v) (fy : flatV y = true) (fx : flatV x = true) : SeqAt.EqAt A s u v (eqV y x) := by
  cases y with
  | non =>
    cases ry
    cases x with
    | non => cases rx; exact SeqAt.EqAt.same _
    | bl b => cases rx; exact SeqAt.EqAt.none_bool b
    | int b => obtain ⟨t, rfl⟩ := rx; exact SeqAt.EqAt.none_int b t
    | str b => obtain ⟨t, rfl⟩ := rx; exact SeqAt.EqAt.none_str b t
    | _ => exact absurd (show false = true from fx) Bool.false_ne_true
  | bl a =>
    cases ry
    cases x with
    | non => cases rx; exact SeqAt.EqAt.bool_none a
    | bl b => cases rx; exact SeqAt.EqAt.bool_bool a b
    | int b => obtain ⟨t, rfl⟩ := rx; exact SeqAt.EqAt.bool_int a b t
    | str b => obtain ⟨t, rfl⟩ := rx; exact SeqAt.EqAt.bool_str a b t
    | _ => exact absurd (show false = true from fx) Bool.false_ne_true
  | int a =>
    obtain ⟨t', rfl⟩ := ry
    cases x with
    | non => cases rx; exact SeqAt.EqAt.int_none a t'
    | bl b => cases rx; exact SeqAt.EqAt.int_bool a t' b
    | int b => obtain ⟨t, rfl⟩ := rx; exact SeqAt.EqAt.int_int a t' b t
    | str b => obtain ⟨t, rfl⟩ := rx; exact SeqAt.EqAt.int_str a t' b t
    | _ => exact absurd (show false = true from fx) Bool.false_ne_true
  | str a =>
    obtain ⟨t', rfl⟩ := ry
    cases x with
    | non => cases rx; exact SeqAt.EqAt.str_none a t'
    | bl b => cases rx; exact SeqAt.EqAt.str_bool a t' b
    | int b => obtain ⟨t, rfl⟩ := rx; exact SeqAt.EqAt.str_int a t' b t
    | str b => obtain ⟨t, rfl⟩ := rx; exact SeqAt.EqAt.str_str a t' b t
    | _ => exact absurd (show false = true from fx) Bool.false_ne_true
  | _ => exact absurd (show false = true from fy) Bool.false_ne_true

def eqU (x : V) (u : Value) : Bool := match u with
  | .none => eqV .non x
  | .bool b => eqV (.bl b) x
  | .int i _ => eqV (.int i) x
  | .str z _ => eqV (.str z) x
  | _ => false
theorem eqU_of {x y : V} {u : Value} (r : RelV y u) (f : flatV y = true) : eqU x u = eqV y x := by
  cases y with
  | non => cases r; rfl
  | bl b => cases r; rfl
  | int i => obtain ⟨t, rfl⟩ := r; rfl
  | str z => obtain ⟨t, rfl⟩ := r; rfl
  | _ => exact absurd (show false = true from f) Bool.false_ne_true
theorem mem_eqAt {A : Around} {s : Shared} {x : V} {v : Value} (rx : RelV x v) (fx : flatV x = true) : ∀ {xs : List V} {us : List Value}, Vals xs us → xs.all flatV = true → ∀ u ∈ us, SeqAt.EqAt A s u v (eqU x u)
  | _, _, .nil, _ => fun u hu => by cases hu
  | y :: xs, u :: us, .cons r t, f => fun u' hu => by
    rw [List.all_cons, Bool.and_eq_true] at f
    rcases List.mem_cons.mp hu with rfl | hu
    · rw [eqU_of r f.1]; exact eqAt_V r rx f.1 fx
    · exact mem_eqAt rx fx t f.2 u' hu
theorem CallR.or {f : Value} {r r' : List V → Hp → VK → Prop} (h : CallR X f r) (h' : CallR X f r') : CallR X f (fun xs H Q => r xs H Q ∨ r' xs H Q) := by
  intro pins s σ H xs us Q I rs q
  rcases q with q | q
  · exact h pins s σ H xs us Q I rs q
  · exact h' pins s σ H xs us Q I rs q
theorem call_list_of : CallR X (.type "list") (fun xs H Q => ∃ p ys, xs = [.ref p] ∧ (SqL X.K H p ys ∨ SqT X.K H p ys) ∧ ∀ l, H l = none → Q (.ref l) (upd H l (.lst ys))) := by
  intro pins s σ H xs us Q I r h
  obtain ⟨p, ys, rfl, hq, q⟩ := h
  obtain ⟨u, rfl, rx⟩ := vals1 r
  cases rx
  have fin : ∀ (its : List Value), Vals ys its → ys.length ≤ sizeLine → ∀ (h' : Heap) (c' : Nat), (∀ b o', s.heap.get? b = some o' → h'.get? b = some o') →
      h'.get? s.heap.objs.size = some { cls := .type "list", dict := none, data := .seq its.toArray c', slots := #[] } → EP X pins σ Q (.ref s.heap.objs.size) { s with heap := h' } := fun its r' hz h' c' kp e =>
    ⟨.ref s.heap.objs.size, _, I.laid (t' := s.toks) kp (Nat.le_refl _) (show ObjOk X.prog X.w _ h' _ (.lst ys) from ⟨hz, its, c', r', e⟩), rfl, q _ (I.hok.fresh (Nat.le_refl _))⟩
  rcases hq with hq | hq
  · obtain ⟨its, r', pl, hz⟩ := I.list hq
    have hlen := r'.length
    obtain ⟨o, ho, hc, n, hd⟩ := pl.isList
    exact call_list_seq p (.inl rfl) ho hc hd (fun h' c' kp e => fin its r' hz h' c' kp e) (by simp only [List.size_toArray] <;> omega)
  · obtain ⟨its, r', pl, hz⟩ := I.tuple hq
    have hlen := r'.length
    obtain ⟨o, ho, hc, n, hd⟩ := pl
    exact call_list_seq p (.inr rfl) ho hc hd (fun h' c' kp e => fin its r' hz h' c' kp e) (by simp only [List.size_toArray] <;> omega)
theorem call_tuple_of : CallR X (.type "tuple") (fun xs H Q => ∃ p ys, xs = [.ref p] ∧ ((SqL X.K H p ys ∧ ∀ l, H l = none → Q (.ref l) (upd H l (.tup ys))) ∨ (SqT X.K H p ys ∧ Q (.ref p) H))) := by
  intro pins s σ H xs us Q I r h
  obtain ⟨p, ys, rfl, h⟩ := h
  obtain ⟨u, rfl, rx⟩ := vals1 r
  cases rx
  rcases h with ⟨hq, q⟩ | ⟨hq, q⟩
  · obtain ⟨its, r', pl, hz⟩ := I.list hq
    have hlen := r'.length
    refine call_tuple_list pl.isList (fun h' kp => ?_) (by simp only [List.size_toArray] <;> omega)
    have I1 : Inv X pins σ H { s with heap := h' } := I.kept (t' := s.toks) kp
    have I2 : Inv X pins σ (upd H h'.objs.size (.tup ys)) { s with heap := h'.push { cls := .type "tuple", data := .seq its.toArray } } :=
      I1.laid (t' := s.toks) (fun b o e => Heap.get?_push_of_some _ e) (Nat.le_refl _) (show ObjOk X.prog X.w _ _ _ (.tup ys) from ⟨hz, its, r', IsTup.new _ _⟩)
    exact ⟨.ref h'.objs.size, _, I2, rfl, q _ (I1.hok.fresh (Nat.le_refl _))⟩
  · obtain ⟨its, r', pl, hz⟩ := I.tuple hq
    exact call_tuple_same pl ⟨.ref p, H, I, rfl, q⟩



def tyV (K : PySem.W.Frag) (T : String) (x : V) (H : Hp) : Prop := match x with
  | .str _ => T = "str"
  | .int _ => T = "int"
  | .ref p => (T = "list" ∧ ∃ xs, SqL K H p xs) ∨ (T = "tuple" ∧ ∃ o, K.lookup p = some o ∧ o.cls = .type "tuple" ∧ o.dict = none) ∨
      (T = "dict" ∧ ((∃ kvs, H p = some (.dK kvs)) ∨ ∃ kvs, H p = some (.dT kvs))) ∨ (T = "set" ∧ ∃ S n, H p = some (.set S n))
  | _ => False
theorem tyV_is {pins : List (Addr × Obj)} {σ : St} {H : Hp} {s : Shared} {T : String} {x : V} {v : Value} (I : Inv X pins σ H s) (r : RelV x v) (ty : tyV X.K T x H) :
    s.TypeIs v T ∧ ∀ a, v = .ref a → ∃ ob, s.heap.get? a = some ob ∧ ob.dict = none := by
  cases x with
  | str z =>
    obtain ⟨t, rfl⟩ := r
    cases (show T = "str" from ty)
    exact ⟨typeIs_str s z t, fun _ e => nomatch e⟩
  | int i =>
    obtain ⟨t, rfl⟩ := r
    cases (show T = "int" from ty)
    exact ⟨typeIs_int s i t, fun _ e => nomatch e⟩
  | ref p =>
    cases r
    rcases ty with ⟨rfl, xs, hq⟩ | ⟨rfl, o, hk, hc, hd⟩ | ⟨rfl, hk⟩ | ⟨rfl, S, n, hk⟩
    · obtain ⟨its, _, pl, _⟩ := I.list hq
      refine ⟨pl.isList.typeIs, fun a e => ?_⟩
      cases e
      obtain ⟨o, n, e, c, hd, _⟩ := pl
      exact ⟨o, e, hd⟩
    · refine ⟨⟨o, I.kIn p o hk, hc⟩, fun a e => ?_⟩
      cases e
      exact ⟨o, I.kIn _ o hk, hd⟩
    · have z : ∃ o, s.heap.get? p = some o ∧ o.ExactDict := by
        rcases hk with ⟨kvs, hk⟩ | ⟨kvs, hk⟩
        · obtain ⟨_, _, _, _, o, _, _, e, ex, _⟩ := I.hok p _ hk
          exact ⟨o, e, ex⟩
        · obtain ⟨_, _, _, _, o, _, _, e, ex, _⟩ := I.hok p _ hk
          exact ⟨o, e, ex⟩
      obtain ⟨o, e, ex⟩ := z
      refine ⟨⟨o, e, ex.1⟩, fun a e2 => ?_⟩
      cases e2
      exact ⟨o, e, ex.2.1⟩
    · obtain ⟨o, _, _, _, e, ex, _⟩ := I.hok p _ hk
      refine ⟨⟨o, e, ex.1⟩, fun a e2 => ?_⟩
      cases e2
      exact ⟨o, e, ex.2.1⟩
  | _ => exact False.elim ty
def tBM (K : PySem.W.Frag) (T : String) (r : V → List V → Hp → VK → Prop) (to : TE) (t : TA) : TE := fun σ H Q => to σ H fun x H1 => tyV K T x H1 ∧ t σ H1 fun xs H2 => r x xs H2 Q
variable {o e : Expr} {es : List Expr} {to : TE} {t : TA} {name : Str} {apos cpos : Pos} {T id : String} {r : V → List V → Hp → VK → Prop}
theorem pe_bm (pa : PlainAttrs T) (slot : Slot T name id) (hty : typeOf (.builtin id) = pure (.type "method_descriptor")) (hm : MtR X id r) (ho : PE X o to) (ha : PA X (e :: es) t)
    (hbase : attributeBase o name X.env (eval o X.env) = eval o X.env := by rfl)
    (hfew : ((backTo cpos (starEach (e :: es) X.env)).all (fun x => !x.1) && (backToKw cpos (keywordEach [] X.env)).all (fun x => x.1.isSome)
      && decide ((e :: es).length + ([] : List Keyword).length + (if ([] : List Keyword).isEmpty then 0 else 1) < 30)) = true := by rfl)
    (hline : (apos.endLine == cpos.line) = true := by rfl) (hs : starEach (e :: es) X.env = (false, eval e X.env) :: starEach es X.env := by rfl) (hplain : (backTo cpos (starEach es X.env)).any (·.1) = false := by rfl) :
    PE X (.Call (.Attribute o name apos) (e :: es) [] cpos) (tBM X.K T r to t) := by
  intro pins s σ H Q I h
  refine wpAny_Call_method_late hbase hfew hline rfl (thn (ho pins s σ H _ I h) fun v s1 ⟨x, H1, I1, r1, ty, q1⟩ => ?_)
  obtain ⟨h1, h2⟩ := tyV_is I1 r1 ty
  refine ⟨T, id, pa, slot, hty, h1, h2, ?_⟩
  have hA := ha cpos pins s1 σ H1 _ I1 q1
  rw [hs] at hA ⊢
  refine Calls.callWith_builtin (by show (false || (backTo cpos (starEach es X.env)).any (·.1)) = false; rw [hplain] <;> rfl) (Calls.evalArgs_plain ?_)
  exact thn hA fun us s2 ⟨vs, H2, I2, r2, q2⟩ => hm pins s2 σ H2 x vs v us Q I2 r1 r2 q2

end
end L2

namespace L2
open PySem PySem.Spec PyProof.Rows

def MtM (X : Cx) (id : String) (r : V → List V → Hp → VK → Prop) : Prop :=
  ∀ (pins : List (Addr × Obj)) (s : Shared) (σ : St) (H : Hp) (x : V) (xs : List V) (v : Value) (us : List Value) (Q : VK), Inv X pins σ H s → RelV x v → Vals xs us → r x xs H Q →
    wpAny (model X.prog X.w) X.A (call (.builtin id) (v :: us)) (EP X pins σ Q) X.xe s


theorem Vals.one : ∀ {x : V} {us : List Value}, Vals [x] us → ∃ u, us = [u] ∧ RelV x u
  | _, _, .cons r .nil => ⟨_, rfl, r⟩
theorem Vals.two : ∀ {x y : V} {us : List Value}, Vals [x, y] us → ∃ u v, us = [u, v] ∧ RelV x u ∧ RelV y v
  | _, _, _, .cons r (.cons q .nil) => ⟨_, _, rfl, r, q⟩
theorem Vals.zero : ∀ {us : List Value}, Vals [] us → us = []
  | _, .nil => rfl
theorem Vals.dropLast {xs : List V} {us : List Value} (h : Vals xs us) : Vals xs.dropLast us.dropLast := by
  induction h with
  | nil => exact .nil
  | cons r t ih =>
    cases t with
    | nil => exact .nil
    | cons q t' => exact .cons r ih
theorem Vals.reverse {xs : List V} {us : List Value} (h : Vals xs us) : Vals xs.reverse us.reverse := by
  induction h with
  | nil => exact .nil
  | cons r t ih => rw [List.reverse_cons, List.reverse_cons]; exact Vals.append ih (.cons r .nil)
theorem Vals.rep {xs : List V} {us : List Value} (h : Vals xs us) : ∀ k : Nat, Vals (List.replicate k xs).flatten (List.replicate k us).flatten
  | 0 => .nil
  | k + 1 => by
    rw [List.replicate_succ, List.replicate_succ, List.flatten_cons, List.flatten_cons]
    exact Vals.append h (Vals.rep h k)
theorem foldl_rep (its : List Value) : ∀ (k : Nat) (acc : List Value),
    List.foldl (fun x1 x2 => x1 ++ x2) acc.toArray (List.replicate k its.toArray) = (acc ++ (List.replicate k its).flatten).toArray
  | 0, acc => by simp
  | k + 1, acc => by
    have e : acc.toArray ++ its.toArray = (acc ++ its).toArray := by simp
    have e2 : (acc ++ its) ++ (List.replicate k its).flatten = acc ++ (List.replicate (k + 1) its).flatten := by
      rw [List.replicate_succ, List.flatten_cons, List.append_assoc]
    rw [← e2, ← foldl_rep its k (acc ++ its), ← e, List.replicate_succ, List.foldl_cons]

section
variable {X : Cx} {pins : List (Addr × Obj)} {σ : St} {H : Hp} {s : Shared} {l b : Addr} {xs ys zs : List V}


theorem Inv.lset {its its' : List Value} {n : Nat} {f : Array Value → Array Value} {t' : Nat} (I : Inv X pins σ H s) (hH : H l = some (.lst xs))
    (e : s.heap.get? l = some { cls := .type "list", data := .seq its.toArray n }) (hf : f its.toArray = its'.toArray) (hv : Vals ys its') (hz : ys.length ≤ sizeLine) :
    Inv X pins σ (upd H l (.lst ys)) { s with heap := s.heap.update l (Obj.mapSeq f), toks := t' } := by
  have q := PySem.IsL.update e f
  rw [hf] at q
  refine I.write (x := l) (e := l) (by rw [hH]; exact trivial) (.inl rfl) (fun b' u hb hu => (Heap.get?_update_other s.heap (Obj.mapSeq f) (Ne.symm hb)).trans hu) ⟨_, q⟩ ?_
  exact ⟨hz, its', _, hv, q⟩
theorem Inv.lnew {its : List Value} {t' : Nat} (I : Inv X pins σ H s) (hv : Vals ys its) (hz : ys.length ≤ sizeLine) :
    Inv X pins σ (upd H s.heap.objs.size (.lst ys)) { s with heap := s.heap.push { cls := .type "list", data := .seq its.toArray }, toks := t' } :=
  I.laid (fun _ _ q => Heap.get?_push_of_some _ q) (Nat.le_refl _) ⟨hz, its, 0, hv, Heap.get?_push_size _ rfl⟩
theorem Inv.fresh (I : Inv X pins σ H s) : H s.heap.objs.size = none := I.hok.fresh (Nat.le_refl _)
theorem Inv.lstM (I : Inv X pins σ H s) (hH : H l = some (.lst xs)) : xs.length ≤ sizeLine ∧ ∃ (its : List Value) (n : Nat), Vals xs its ∧ xs.length = its.length ∧ s.heap.get? l = some { cls := .type "list", data := .seq its.toArray n } := by
  obtain ⟨z, its, n, r, e⟩ := I.hok l _ hH
  exact ⟨z, its, n, r, r.length, e⟩

theorem notLongL {n : Nat} (h : n ≤ sizeLine) : Builtin.List.listTooLong n = false := by
  unfold Builtin.List.listTooLong
  exact decide_eq_false (by omega)
end

section
variable {X : Cx}


def rAppend : V → List V → Hp → VK → Prop := fun x vs H Q => ∃ l xs y, x = .ref l ∧ vs = [y] ∧ H l = some (.lst xs) ∧ xs.length < sizeLine ∧ Q .non (upd H l (.lst (xs ++ [y])))
theorem mt_append : MtM X "list.append" rAppend := by
  intro pins s σ H x vs v us Q I rx rv h
  obtain ⟨l, xs, y, rfl, rfl, hH, hz, q⟩ := h
  cases rx
  obtain ⟨u, rfl, ru⟩ := rv.one
  obtain ⟨z, its, n, r, hl, e⟩ := I.lstM hH
  refine call_meets F.slot_list_append ⟨_, e, rfl⟩ F.entry_list_append (F.args_list_append_2 _ _) (PySem.list_append l its.toArray n u (by rw [List.size_toArray]; omega)) ⟨e, ?_⟩
  refine ⟨.non, _, I.lset (its' := its ++ [u]) hH e (by simp) (r.append (.cons ru .nil)) ?_, rfl, q⟩
  rw [List.length_append, List.length_singleton]
  omega

def rCat : R2 := fun x y H Q => ∃ l b xs zs, x = .ref l ∧ y = .ref b ∧ H l = some (.lst xs) ∧ H b = some (.lst zs) ∧ xs.length + zs.length ≤ sizeLine ∧ ∀ p, H p = none → Q (.ref p) (upd H p (.lst (xs ++ zs)))
theorem op_cat : OpR X (binaryOp .Add) rCat := by
  intro pins s σ H x y v u Q I rx ry h
  obtain ⟨l, b, xs, zs, rfl, rfl, hH, hB, hz, q⟩ := h
  cases rx
  cases ry
  obtain ⟨z, its, n, r, hl, e⟩ := I.lstM hH
  obtain ⟨z2, its2, n2, r2, hl2, e2⟩ := I.lstM hB
  refine PySem.P.add_list e e2 ?_ (by rw [List.size_toArray, List.size_toArray]; omega)
  have ea : its.toArray ++ its2.toArray = (its ++ its2).toArray := by simp
  rw [ea]
  exact ⟨.ref _, _, I.lnew (t' := s.toks) (r.append r2) (by rw [List.length_append]; omega), rfl, q _ I.fresh⟩

def rRep : R2 := fun x y H Q => ∃ l k xs, x = .ref l ∧ y = .int k ∧ H l = some (.lst xs) ∧ -(2 ^ 63) ≤ k ∧ k < 2 ^ 63 ∧ xs.length * k.toNat ≤ sizeLine ∧
  ∀ p, H p = none → Q (.ref p) (upd H p (.lst (List.replicate k.toNat xs).flatten))
theorem len_rep {α : Type} (xs : List α) (k : Nat) : (List.replicate k xs).flatten.length = k * xs.length := by
  induction k with
  | zero => simp
  | succ k ih => rw [List.replicate_succ, List.flatten_cons, List.length_append, ih, Nat.succ_mul, Nat.add_comm]
theorem op_rep : OpR X (binaryOp .Mult) rRep := by
  intro pins s σ H x y v u Q I rx ry h
  obtain ⟨l, k, xs, rfl, rfl, hH, h1, h2, hz, q⟩ := h
  cases rx
  obtain ⟨t, rfl⟩ := ry
  obtain ⟨z, its, n, r, hl, e⟩ := I.lstM hH
  have hlen : its.toArray.size * k.toNat ≤ sizeLine := by rw [List.size_toArray, ← hl]; exact hz
  have hcap : ¬ its.toArray.size * k.toNat > (2 ^ 63 - 1) / 8 := by
    have : (sizeLine : Nat) ≤ (2 ^ 63 - 1) / 8 := by decide
    omega
  have hfit : ¬ (!Builtin.List.listFitsIndex k) = true := by
    rw [fitsIndex_both h1 h2]
    exact Bool.false_ne_true
  have hlong : ¬ Builtin.List.listTooLong (its.toArray.size * k.toNat) = true := by
    rw [notLongL hlen]
    exact Bool.false_ne_true
  have hnew : List.foldl (fun x1 x2 => x1 ++ x2) #[] (List.replicate (if its.toArray.isEmpty = true then 0 else k.toNat) its.toArray) = (List.replicate k.toNat its).flatten.toArray := by
    have f0 : ∀ m : Nat, List.foldl (fun x1 x2 => x1 ++ x2) #[] (List.replicate m its.toArray) = (List.replicate m its).flatten.toArray := fun m => by
      have := foldl_rep its m []
      rw [List.nil_append] at this
      exact this
    rw [f0]
    cases its with
    | nil => simp
    | cons a r' => rw [if_neg (by simp)]
  refine wpAny_binaryOp_repeat_ref (T := "list") (U := "int") (by decide) ⟨_, e, rfl⟩ (fun s' => typeIs_int s' k t) noFill_list_mul F.fills_int_mul F.slot_int_rmul repeat_list F.slot_int_index.lookup
    (call_meets F.slot_int_rmul (typeIs_int s k t) F.entry_int_rmul (F.args_int_rmul_2 _ _) (int___rmul___int_list k t l its.toArray n)
      ⟨e, rfl, ⟨_, e, rfl⟩, call_meets F.slot_list_mul ⟨_, e, rfl⟩ F.entry_list_mul (F.args_list_mul_2 _ _) (AutoListH.list___mul___list_int_3 l its.toArray n k t hfit hcap hlong) ⟨e, ?_⟩⟩)
  rw [hnew]
  exact ⟨.ref _, _, I.lnew (t' := s.toks) (r.rep k.toNat) (by rw [len_rep, Nat.mul_comm]; exact hz), rfl, q _ I.fresh⟩


end


section
variable {prog : Program} {w : World} {A : Around} {E : Value → Shared → Prop} {s : Shared}
set_option maxRecDepth 100000 in

end

section
variable {X : Cx}

end
end L2

namespace L2
open PySem PySem.Spec PyProof.Rows

theorem Vals.ints : ∀ {ns : List Int} {us : List Value}, Vals (ns.map V.int) us → IntsAre us ns
  | [], us, h => by
    rw [List.map_nil] at h
    cases h
    exact IntsAre.nil
  | n :: ns, us, h => by
    rw [List.map_cons] at h
    cases h with
    | cons r t =>
      obtain ⟨k, rfl⟩ := r
      exact IntsAre.cons n k (Vals.ints t)
theorem Vals.bls : ∀ {bs : List Bool} {us : List Value}, Vals (bs.map V.bl) us → us = bs.map Value.bool
  | [], us, h => by
    rw [List.map_nil] at h
    cases h
    rfl
  | b :: bs, us, h => by
    rw [List.map_cons] at h
    cases h with
    | cons r t =>
      cases r
      rw [Vals.bls t, List.map_cons]
theorem Vals.ref1 {a : Addr} {us : List Value} (r : Vals [V.ref a] us) : us = [Value.ref a] := by
  cases r with
  | cons r t =>
    cases t
    cases r
    rfl
section
variable {prog : Program} {w : World} {A : Around} {E : Value → Shared → Prop} {s : Shared} {l : Addr} {its : List Value} {ns : List Int} {Q : Value → Shared → Prop}
theorem sum_raw (hh : A.handled = none) (hl : s.heap.IsList l its.toArray) (hi : IntsAre its ns)
    (h : ∀ h' tk t', (∀ b o, s.heap.get? b = some o → h'.get? b = some o) → Q (.int ns.sum t') { s with heap := h', toks := tk }) : wpAny (model prog w) A (call (.builtin "sum") [.ref l]) Q E s := by
  obtain ⟨xs, e⟩ := hi.allInts.items
  have hn : numsOf (intItems xs).toList = ns := by rw [← e]; exact hi.numsOf
  rw [nums_intItems] at hn
  rw [e] at hl
  refine PySem.sum_intListG hh hl fun h' tk t' hk => ?_
  have := h h' tk t' hk
  rw [preSum_eq, List.take_of_length_le (by simp), hn]; exact this
end


section
variable {X : Cx}

def rSum (K : PySem.W.Frag) : List V → Hp → VK → Prop := fun vs H Q => ∃ (a : Addr) (ns : List Int), vs = [V.ref a] ∧ SqL K H a (ns.map V.int) ∧ Q (.int ns.sum) H

theorem cr_sum (hc : X.calm = true) : CallR X (.builtin "sum") (rSum X.K) := by
  intro pins s σ H vs us Q I r h
  obtain ⟨a, ns, rfl, hs, q⟩ := h
  obtain ⟨its, rv, hl, _⟩ := I.list hs
  rw [Vals.ref1 r]
  exact sum_raw (I.ok.hd hc) hl.isList rv.ints fun h' tk t' hk => ⟨.int _, H, I.kept hk, ⟨_, rfl⟩, q⟩
end


section
variable {X : Cx}
def rIndex (K : PySem.W.Frag) : V → List V → Hp → VK → Prop := fun x xs H Q => ∃ (a : Addr) (ys : List V) (y : V) (j : Nat) (z : V), x = V.ref a ∧ xs = [y] ∧ SqL K H a ys ∧ flatV y = true ∧ ys.all flatV = true ∧ ys[j]? = some z ∧ eqV z y = true ∧
  (∀ (m : Nat) (z' : V), m < j → ys[m]? = some z' → eqV z' y = false) ∧ Q (.int (j : Nat)) H
theorem flat_at {ys : List V} (f : ys.all flatV = true) {j : Nat} {z : V} (h : ys[j]? = some z) : flatV z = true := List.all_eq_true.mp f z (List.mem_of_getElem? h)
theorem mt_index : MtR X "list.index" (rIndex X.K) := by
  intro pins s σ H x xs v us Q I rx rxs h
  obtain ⟨a, ys, y, j, z, rfl, rfl, hs, fy, fys, hz, hzj, hno, q⟩ := h
  cases rx
  cases rxs with
  | cons ry rt =>
    rename_i uy ut
    cases rt
    obtain ⟨its, rv, ⟨⟨cls, dd, data, sl⟩, n, ho, hc, hdn, hd⟩, hlen⟩ := I.list hs
    simp only at hc hd
    subst hc hd
    obtain ⟨u, hu, ru⟩ := rv.get hz
    obtain ⟨hjl, hje⟩ := List.getElem?_eq_some_iff.mp hu
    have hvl := rv.length
    have hj : j < its.toArray.size := by simpa using hjl
    have hsl := sizeLine_eq
    refine call_meets PySem.F.slot_list_index ⟨_, ho, rfl⟩ PySem.F.entry_list_index (PySem.F.args_list_index_2 _ _)
      (SeqAt.list_indexAt a its.toArray n dd sl uy (eqU y) j hj (by omega) ?_ ?_) ⟨ho, fun u' hu' => mem_eqAt ry fy rv fys u' (by simpa using hu'), ?_⟩
    · have e1 : its.toArray[j] = u := by simpa using hje
      rw [e1, eqU_of ru (flat_at fys hz)]
      exact hzj
    · intro m hm hmj
      have hml : m < its.length := by simpa using hm
      have hmy : m < ys.length := by omega
      have hy' : ys[m]? = some ys[m] := List.getElem?_eq_getElem hmy
      obtain ⟨u2, hu2, ru2⟩ := rv.get hy'
      obtain ⟨_, hme⟩ := List.getElem?_eq_some_iff.mp hu2
      have e1 : its.toArray[m] = u2 := by simpa using hme
      rw [e1, eqU_of ru2 (flat_at fys hy')]
      exact hno m _ hmj hy'
    · exact ⟨.int (j : Nat), H, I.tok _, ⟨_, rfl⟩, q⟩
end


section
variable {X : Cx}
end


theorem iter_any {prog : Program} {w : World} {A : Around} {E : Value → Shared → Prop} {s : Shared} {l : Addr} {items : Array Value} {Q : Value → Shared → Prop} (hl : s.heap.IsList l items)
    (h : ∀ s₂ : Shared, s₂ = { s with heap := s.heap.push { cls := .type "list_iterator", data := .fields #[.ref l, .int 0 0] } } →
      (s₂.heap.IsListIter s.heap.objs.size l 0 ∧ s₂.heap.IsList l items) → l ≠ s.heap.objs.size → Q (.ref s.heap.objs.size) s₂) : wpAny (model prog w) A (pyIter (.ref l)) Q E s := by
  have hlt : l < s.heap.objs.size := by obtain ⟨_, e, _⟩ := hl; exact Heap.lt_size e
  exact wpAny_pyIter_list hl (h _ rfl ⟨⟨_, Heap.get?_push_size _ rfl, rfl, rfl⟩, hl.push _⟩ (Nat.ne_of_lt hlt))
theorem truth_bools {prog : Program} {w : World} {A : Around} {bs : List Bool} {its : List Value} (e : its = bs.map Value.bool) :
    TruthOf prog w A (fun i v => its.toArray[i]? = some v) (fun i => bs.getD i false) := fun i v s Q E hv hq => by
  have hv' : its[i]? = some v := by simpa using hv
  rw [e, List.getElem?_map] at hv'
  obtain ⟨b, hb, rfl⟩ := Option.map_eq_some_iff.mp hv'
  have hg : bs.getD i false = b := by rw [List.getD_eq_getElem?_getD, hb] <;> rfl
  have hq' : Q (bs.getD i false) s := hq
  rw [hg] at hq'
  exact wpAny_truthy_bool hq'
theorem all_range : ∀ bs : List Bool, (List.range bs.length).all (fun i => bs.getD i false) = bs.all id
  | [] => rfl
  | b :: bs => by
    rw [List.length_cons, List.range_succ_eq_map, List.all_cons, List.all_map, List.all_cons, ← all_range bs]
    all_goals rfl
section
variable {X : Cx}
def rAll (K : PySem.W.Frag) : List V → Hp → VK → Prop := fun vs H Q => ∃ (a : Addr) (bs : List Bool), vs = [V.ref a] ∧ SqL K H a (bs.map V.bl) ∧ Q (.bl (bs.all id)) H
theorem cr_all (hc : X.calm = true) : CallR X (.builtin "all") (rAll X.K) := by
  intro pins s σ H vs us Q I r h
  obtain ⟨a, bs, rfl, hs, q⟩ := h
  obtain ⟨its, rv, hl, _⟩ := I.list hs
  rw [Vals.ref1 r]
  have hb := rv.bls
  refine call_all_walk (iter_any hl.isList fun s₂ e2 st hne => ?_)
  subst e2
  refine ⟨_, _, _, _, _, _, _, rfl, Walks.list (A := X.A.in1) (I.ok.hd hc) _ a hne its.toArray, st, truth_bools hb, fun h' tk hk => ?_⟩
  refine ⟨.bl _, H, I.kept fun b o eo => hk b o (fun hmem => ?_) (Heap.get?_push_of_some _ eo), ?_, q⟩
  · rcases List.mem_cons.mp hmem with e1 | hmem
    · exact absurd (e1 ▸ Heap.lt_size eo) (Nat.lt_irrefl _)
    · cases hmem
  · show Value.bool _ = Value.bool _
    rw [← all_range, hb, List.size_toArray, List.length_map]
end


mutual
inductive Dp (K : PySem.W.Frag) (H : Hp) : V → PyData → Prop
  | non : Dp K H .non .none
  | bl (b : Bool) : Dp K H (.bl b) (.bool b)
  | int (i : Int) : Dp K H (.int i) (.int i)
  | str (x : Str) : Dp K H (.str x) (.str x)
  | lst {a : Addr} {xs : List V} {ds : List PyData} : SqL K H a xs → DpAll K H xs ds → Dp K H (.ref a) (.list ds)
  | tup {a : Addr} {xs : List V} {ds : List PyData} : SqT K H a xs → DpAll K H xs ds → Dp K H (.ref a) (.tuple ds)
inductive DpAll (K : PySem.W.Frag) (H : Hp) : List V → List PyData → Prop
  | nil : DpAll K H [] []
  | cons {v : V} {vs : List V} {d : PyData} {ds : List PyData} : Dp K H v d → DpAll K H vs ds → DpAll K H (v :: vs) (d :: ds)
end
section
variable {X : Cx} {pins : List (Addr × Obj)} {σ : St} {H : Hp} {s : Shared}
mutual
theorem Dp.reads (I : Inv X pins σ H s) : ∀ (d : PyData) (v : V) (u : Value), Dp X.K H v d → RelV v u → ∃ as, Reads s.heap u d as
  | .none, _, _, h, r => by
    cases h
    cases r
    exact ⟨_, Reads.none⟩
  | .bool b, _, _, h, r => by
    cases h
    cases r
    exact ⟨_, Reads.bool b⟩
  | .int i, _, _, h, r => by
    cases h
    obtain ⟨t, rfl⟩ := r
    exact ⟨_, Reads.int i t⟩
  | .str x, _, _, h, r => by
    cases h
    obtain ⟨t, rfl⟩ := r
    exact ⟨_, Reads.str x t⟩
  | .list ds, _, _, h, r => by
    cases h with
    | lst hs ha =>
      cases r
      obtain ⟨its, rv, ⟨o, n, ho, hc, _, hd⟩, _⟩ := I.list hs
      obtain ⟨as, hr⟩ := Dp.readsAll I ds _ its ha rv
      exact ⟨_, Reads.list ho hc hd hr⟩
  | .tuple ds, _, _, h, r => by
    cases h with
    | tup hs ha =>
      cases r
      obtain ⟨its, rv, ⟨o, ho, hc, n, hd⟩, _⟩ := I.tuple hs
      obtain ⟨as, hr⟩ := Dp.readsAll I ds _ its ha rv
      exact ⟨_, Reads.tuple ho hc hd hr⟩
  | .dict _, _, _, h, _ => by cases h
theorem Dp.readsAll (I : Inv X pins σ H s) : ∀ (ds : List PyData) (vs : List V) (us : List Value), DpAll X.K H vs ds → Vals vs us → ∃ as, ReadsAll s.heap us ds as
  | [], _, _, h, r => by
    cases h
    cases r
    exact ⟨_, ReadsAll.nil⟩
  | d :: ds, _, _, h, r => by
    cases h with
    | cons h1 h2 =>
      cases r with
      | cons r1 r2 =>
        obtain ⟨as, q1⟩ := Dp.reads I d _ _ h1 r1
        obtain ⟨bs, q2⟩ := Dp.readsAll I ds _ _ h2 r2
        exact ⟨_, ReadsAll.cons q1 q2⟩
end
end
section
variable {X : Cx}
def rEqD (K : PySem.W.Frag) : R2 := fun x y H Q => ∃ d e, Dp K H x d ∧ Dp K H y e ∧ SeqAt.shaped d = true ∧ SeqAt.shaped e = true ∧ Q (.bl (PyData.eqv d e)) H
def rNeD (K : PySem.W.Frag) : R2 := fun x y H Q => ∃ d e, Dp K H x d ∧ Dp K H y e ∧ SeqAt.shaped d = true ∧ SeqAt.shaped e = true ∧ Q (.bl (!PyData.eqv d e)) H
theorem op_eqD (hu : X.A.units + 64 < cLine) : OpR X (compareOp .Eq) (rEqD X.K) := by
  intro pins s σ H x y v u Q I rx ry h
  obtain ⟨d, e, hd, he, sd, se, q⟩ := h
  obtain ⟨as, r1⟩ := Dp.reads I d x v hd rx
  obtain ⟨bs, r2⟩ := Dp.reads I e y u he ry
  exact SeqAt.compareEq_shaped r1 r2 sd se hu ⟨.bl _, H, I, rfl, q⟩
theorem op_neD (hu : X.A.units + 64 < cLine) : OpR X (compareOp .NotEq) (rNeD X.K) := by
  intro pins s σ H x y v u Q I rx ry h
  obtain ⟨d, e, hd, he, sd, se, q⟩ := h
  obtain ⟨as, r1⟩ := Dp.reads I d x v hd rx
  obtain ⟨bs, r2⟩ := Dp.reads I e y u he ry
  exact SeqAt.compareNe_shaped r1 r2 sd se hu ⟨.bl _, H, I, rfl, q⟩
end
end L2

namespace L2
open PySem PySem.Spec PyProof.Rows
abbrev CellAt (h : Heap) (c : Addr) (v : Option Value) : Prop := h.IsCell c v
def relS (scope sc : Scope) : Scope :=
  { scope with names := scope.names.map fun (n, k) => if (k == .free && sc.kind == .function && sc.names.lookup n == some .cell) then (n, .cell) else (n, k) }

def cloFrom (cells : List (Str × Addr)) : List (Str × NameKind) → List (Str × Addr) → List (Str × Addr)
  | [], acc => acc
  | (n, k) :: r, acc => if k == .free then cloFrom cells r ((n, (cells.lookup n).getD 0) :: acc) else cloFrom cells r acc

theorem closure_loop (env : Env) (f : Str × NameKind → List (Str × Addr) → Sem (ForInStep (List (Str × Addr))))
    (hf : ∀ n k c, f (n, k) c = if k == .free then (do let a ← cellOf env n; pure (.yield ((n, a) :: c))) else pure (.yield c)) :
    ∀ (names : List (Str × NameKind)) (acc : List (Str × Addr)), (∀ y ∈ names, y.2 = .free → ∃ c, env.cells.lookup y.1 = some c) → forIn names acc f = pure (cloFrom env.cells names acc)
  | [], acc, _ => by rw [List.forIn_nil]; rfl
  | (n, k) :: r, acc, h => by
    rw [List.forIn_cons, hf]
    have ih := fun acc => closure_loop env f hf r acc fun y hy => h y (List.mem_cons_of_mem _ hy)
    unfold cloFrom
    by_cases hk : (k == NameKind.free) = true
    · rw [if_pos hk, if_pos hk]
      obtain ⟨c, hc⟩ := h (n, k) List.mem_cons_self (by simpa using hk)
      have e : cellOf env n = pure c := by unfold cellOf; rw [hc]
      rw [e]
      have e2 : (env.cells.lookup n).getD 0 = c := by rw [hc]; rfl
      rw [e2]
      exact ih _
    · rw [if_neg hk, if_neg hk]
      exact ih _
theorem closure_ok {scope : Scope} {env : Env} (h : ∀ y ∈ scope.names, y.2 = .free → ∃ c, env.cells.lookup y.1 = some c) : closureFor scope env = pure (cloFrom env.cells scope.names []) := by
  simp only [closureFor]
  rw [closure_loop env _ (fun n k c => rfl) scope.names [] h]
  rfl

theorem mem_lookup {α : Type} : ∀ {l : List (Str × α)} {n : Str} {c : α}, (n, c) ∈ l → ∃ c', l.lookup n = some c'
  | (k, v) :: r, n, c, h => by
    rw [List.lookup_cons]
    cases hb : n == k with
    | true => exact ⟨_, rfl⟩
    | false =>
      rcases List.mem_cons.mp h with e | h
      · cases e; simp at hb
      · exact mem_lookup h

theorem cloFrom_mem {cells : List (Str × Addr)} : ∀ {names : List (Str × NameKind)} {acc : List (Str × Addr)} {n : Str} {c : Addr}, (n, c) ∈ cloFrom cells names acc → (n, c) ∈ acc ∨ ((n, .free) ∈ names ∧ c = (cells.lookup n).getD 0)
  | [], _, _, _, h => .inl h
  | (m, k) :: r, acc, n, c, h => by
    unfold cloFrom at h
    split at h
    · rename_i hk
      have hk : k = .free := by simpa using hk
      rcases cloFrom_mem h with h | ⟨h1, h2⟩
      · rcases List.mem_cons.mp h with e | h
        · cases e; exact .inr ⟨hk ▸ List.mem_cons_self, rfl⟩
        · exact .inl h
      · exact .inr ⟨List.mem_cons_of_mem _ h1, h2⟩
    · rcases cloFrom_mem h with h | ⟨h1, h2⟩
      · exact .inl h
      · exact .inr ⟨List.mem_cons_of_mem _ h1, h2⟩
theorem cloFrom_acc {cells : List (Str × Addr)} : ∀ {names : List (Str × NameKind)} {acc : List (Str × Addr)} {p : Str × Addr}, p ∈ acc → p ∈ cloFrom cells names acc
  | [], _, _, h => h
  | (m, k) :: r, acc, p, h => by
    unfold cloFrom
    split
    · exact cloFrom_acc (List.mem_cons_of_mem _ h)
    · exact cloFrom_acc h
theorem cloFrom_has {cells : List (Str × Addr)} : ∀ {names : List (Str × NameKind)} {acc : List (Str × Addr)} {n : Str}, (n, .free) ∈ names → (n, (cells.lookup n).getD 0) ∈ cloFrom cells names acc
  | (m, k) :: r, acc, n, h => by
    unfold cloFrom
    rcases List.mem_cons.mp h with e | h
    · cases e
      exact cloFrom_acc List.mem_cons_self
    · split
      · exact cloFrom_has h
      · exact cloFrom_has h

theorem cells_mem : ∀ {names : List (Str × NameKind)} {h : Heap} {acc : List (Str × Addr)} {x : Str} {c : Addr}, (x, c) ∈ cellsFrom h.objs.size names acc →
    (x, c) ∈ acc ∨ ((x, .cell) ∈ names ∧ h.objs.size ≤ c ∧ CellAt (pushCells h names) c none)
  | [], _, _, _, _, h => .inl h
  | (n, k) :: r, h, acc, x, c, hm => by
    unfold cellsFrom at hm
    unfold pushCells
    split at hm
    · rename_i hk
      rw [if_pos hk]
      have hk : k = .cell := by simpa using hk
      rw [← Heap.size_push h { cls := .type "cell", data := .cell none }] at hm
      rcases cells_mem hm with hm | ⟨h1, h2, h3⟩
      · rcases List.mem_cons.mp hm with e | hm
        · cases e
          exact .inr ⟨hk ▸ List.mem_cons_self, Nat.le_refl _, _, pushCells_keeps r _ _ _ (Heap.get?_push_size _ rfl), rfl⟩
        · exact .inl hm
      · rw [Heap.size_push] at h2
        exact .inr ⟨List.mem_cons_of_mem _ h1, Nat.le_of_succ_le h2, h3⟩
    · rename_i hk
      rw [if_neg hk]
      rcases cells_mem hm with hm | ⟨h1, h2, h3⟩
      · exact .inl hm
      · exact .inr ⟨List.mem_cons_of_mem _ h1, h2, h3⟩
theorem cells_acc : ∀ {names : List (Str × NameKind)} {n : Nat} {acc : List (Str × Addr)} {p : Str × Addr}, p ∈ acc → p ∈ cellsFrom n names acc
  | [], _, _, _, h => h
  | (m, k) :: r, n, acc, p, h => by
    unfold cellsFrom
    split
    · exact cells_acc (List.mem_cons_of_mem _ h)
    · exact cells_acc h
theorem cells_has : ∀ {names : List (Str × NameKind)} {n : Nat} {acc : List (Str × Addr)} {x : Str}, (x, .cell) ∈ names → ∃ c, (x, c) ∈ cellsFrom n names acc
  | (m, k) :: r, n, acc, x, h => by
    unfold cellsFrom
    rcases List.mem_cons.mp h with e | h
    · cases e
      exact ⟨n, cells_acc List.mem_cons_self⟩
    · split
      · exact cells_has h
      · exact cells_has h
theorem cells_inj : ∀ {names : List (Str × NameKind)} {h : Heap} {acc : List (Str × Addr)} {x y : Str} {c : Addr}, (∀ p ∈ acc, p.2 < h.objs.size) → (∀ x y c, (x, c) ∈ acc → (y, c) ∈ acc → x = y) →
    (x, c) ∈ cellsFrom h.objs.size names acc → (y, c) ∈ cellsFrom h.objs.size names acc → x = y
  | [], _, _, _, _, _, _, hi, h1, h2 => hi _ _ _ h1 h2
  | (n, k) :: r, h, acc, x, y, c, hl, hi, h1, h2 => by
    unfold cellsFrom at h1 h2
    split at h1
    · rename_i hk
      rw [if_pos hk] at h2
      rw [← Heap.size_push h { cls := .type "cell", data := .cell none }] at h1 h2
      refine cells_inj (h := h.push _) (fun p hp => ?_) (fun x y c a b => ?_) h1 h2
      · rw [Heap.size_push]
        rcases List.mem_cons.mp hp with rfl | hp
        · exact Nat.lt_succ_self _
        · exact Nat.lt_succ_of_lt (hl p hp)
      · rcases List.mem_cons.mp a with e | a <;> rcases List.mem_cons.mp b with e' | b
        · cases e; cases e'; rfl
        · cases e; exact absurd (hl _ b) (Nat.lt_irrefl _)
        · cases e'; exact absurd (hl _ a) (Nat.lt_irrefl _)
        · exact hi _ _ _ a b
    · rename_i hk
      rw [if_neg hk] at h2
      exact cells_inj hl hi h1 h2

theorem newEnv_comp {M : Model} {A : Around} {E : Value → Shared → Prop} {s : Shared} {scope : Scope} {globals : Addr} {closure : List (Str × Addr)} {qual : Str} {func : Option Addr} {code : Value} {around : Env} {builtins : Addr} {Q : Env → Shared → Prop}
    (h : Q (newEnv scope s.heap.objs.size globals (cellsFrom (s.heap.objs.size + 1) scope.names closure) qual func code (some around) builtins)
      { s with heap := pushCells (s.heap.push { cls := .type "dict", data := .dict #[] }) scope.names }) :
    wpAny M A (newFunctionEnv scope globals closure [] qual func code (some around) builtins) Q E s := by
  simp only [newFunctionEnv, Option.isSome_some, if_true]
  refine wpAny_bind (wpAny_alloc ?_)
  refine wpAny_bind (wpAny_layCells _ (fun n k c => rfl) scope.names closure _ _ ?_)
  rw [show ({ s with heap := s.heap.push { cls := .type "dict", data := .dict #[] } } : Shared).heap.objs.size = s.heap.objs.size + 1 from Heap.size_push ..]
  rw [List.forIn_nil]
  exact wpAny_bind (wpAny_pure (wpAny_pure h))


theorem lookup_relS {sc : Scope} : ∀ {names : List (Str × NameKind)} {x : Str} {k : NameKind},
    (names.map fun (n, k) => if (k == NameKind.free && sc.kind == .function && sc.names.lookup n == some .cell) then (n, NameKind.cell) else (n, k)).lookup x = some k →
    ∃ k', names.lookup x = some k' ∧ (k = k' ∨ (k' = .free ∧ k = .cell))
  | [], _, _, h => by simp at h
  | (n, k₀) :: r, x, k, h => by
    have ih := @lookup_relS sc r x k
    have h' : List.lookup x ((if (k₀ == NameKind.free && sc.kind == .function && sc.names.lookup n == some .cell) = true then (n, NameKind.cell) else (n, k₀)) :: (r.map _)) = some k := h
    cases hx : x == n with
    | true =>
      simp only [List.lookup_cons, hx]
      by_cases hc : (k₀ == NameKind.free && sc.kind == .function && sc.names.lookup n == some .cell) = true
      · rw [if_pos hc] at h'
        simp only [List.lookup_cons, hx] at h'
        cases h'
        simp only [Bool.and_eq_true, beq_iff_eq] at hc
        exact ⟨k₀, rfl, .inr ⟨hc.1.1, rfl⟩⟩
      · rw [if_neg hc] at h'
        simp only [List.lookup_cons, hx] at h'
        cases h'
        exact ⟨_, rfl, .inl rfl⟩
    | false =>
      simp only [List.lookup_cons, hx]
      by_cases hc : (k₀ == NameKind.free && sc.kind == .function && sc.names.lookup n == some .cell) = true
      · rw [if_pos hc] at h'
        simp only [List.lookup_cons, hx] at h'
        exact ih h'
      · rw [if_neg hc] at h'
        simp only [List.lookup_cons, hx] at h'
        exact ih h'
structure BlkOk (N : List Str) (sc scope : Scope) (own : List (Str × Nat)) : Prop where
  kind : scope.kind = .function
  uniq : ∀ y ∈ scope.names, scope.names.lookup y.1 = some y.2
  ix : ∀ p ∈ own, N[p.2]? = some p.1
  free : ∀ y ∈ scope.names, y.2 = .free → sc.names.lookup y.1 = some .cell ∨ sc.names.lookup y.1 = some .free
  own : ∀ y ∈ scope.names, y.2 = .local ∨ y.2 = .cell → y.1 ∈ own.map (·.1) ∨ y.1 ∉ N

def wipe (σ : St) : List Nat → St
  | [] => σ
  | v :: vs => (wipe σ vs).set v none
theorem wipe_length (σ : St) : ∀ vs : List Nat, (wipe σ vs).length = σ.length
  | [] => rfl
  | v :: vs => by unfold wipe; rw [List.length_set, wipe_length σ vs]
theorem wipe_some {σ : St} {i : Nat} {x : V} : ∀ {vs : List Nat}, (wipe σ vs)[i]? = some (some x) → σ[i]? = some (some x) ∧ i ∉ vs
  | [], h => ⟨h, by simp⟩
  | v :: vs, h => by
    unfold wipe at h
    by_cases hi : v = i
    · subst hi
      by_cases hv : v < (wipe σ vs).length
      · rw [List.getElem?_set_self hv] at h; cases h
      · rw [List.getElem?_eq_none (by simpa using hv)] at h; cases h
    · rw [List.getElem?_set_ne hi] at h
      obtain ⟨h1, h2⟩ := wipe_some h
      exact ⟨h1, by simp only [List.mem_cons, not_or]; exact ⟨fun e => hi e.symm, h2⟩⟩


abbrev Cx.blk (X : Cx) (s : Shared) (H : Hp) (scope : Scope) (cenv : Env) (fp : List Addr) : Cx := { X with s_0 := s, H_0 := H, env := cenv, outer := X.stack, ex := fp, fn := fun x => scope.names.lookup x == some .cell, pn := [], xe := fun _ _ => False }
section
variable {X : Cx} {pins : List (Addr × Obj)} {σ : St} {H : Hp} {s : Shared}
theorem block_start {scope : Scope} {own : List (Str × Nat)} {fp : List Addr} (I : Inv X pins σ H s) (ok : BlkOk X.N X.env.scope scope own) (hN : X.N.Nodup) (hfp : ∀ b ∈ fp, FpOk X pins H b ∧ b < s.heap.objs.size) :
    Inv (X.blk s H scope (compEnvC scope (cellsFrom (s.heap.objs.size + 1) scope.names (cloFrom X.env.cells scope.names [])) s.heap.objs.size X.env) fp) [] (wipe σ (own.map (·.2))) H { s with heap := pushCells (s.heap.push { cls := .type "dict", data := .dict #[] }) scope.names } := by
  have hfree : ∀ y ∈ scope.names, y.2 = .free → ∃ c, X.env.cells.lookup y.1 = some c := fun y hy e => by
    rcases ok.free y hy e with k | k
    · exact I.ok.has _ (.inl k)
    · exact I.ok.has _ (.inr k)
  generalize hcenv : compEnvC scope (cellsFrom (s.heap.objs.size + 1) scope.names (cloFrom X.env.cells scope.names [])) s.heap.objs.size X.env = cenv
  have kp : ∀ b o, s.heap.get? b = some o → (pushCells (s.heap.push { cls := .type "dict", data := .dict #[] }) scope.names).get? b = some o := fun b o e => pushCells_keeps _ _ _ _ (Heap.get?_push_of_some _ e)
  have hL : cenv.locals = s.heap.objs.size := by rw [← hcenv]; rfl
  have hcl : cenv.cells = cellsFrom (s.heap.objs.size + 1) scope.names (cloFrom X.env.cells scope.names []) := by rw [← hcenv]; rfl
  have hsc : cenv.scope = relS scope X.env.scope := by rw [← hcenv]; rfl
  rw [← Heap.size_push s.heap { cls := .type "dict", data := .dict #[] }] at hcl
  have cm : ∀ {y c}, (y, c) ∈ cloFrom X.env.cells scope.names [] → X.env.cells.lookup y = some c ∧ c < s.heap.objs.size := fun {y c} hm => by
    rcases cloFrom_mem hm with hm | ⟨h1, rfl⟩
    · cases hm
    · obtain ⟨c, hc⟩ := hfree _ h1 rfl
      rw [hc]
      obtain ⟨w, z⟩ := I.cell _ _ hc
      exact ⟨rfl, z.lt⟩
  have mem : ∀ {y c}, cenv.cells.lookup y = some c → (X.env.cells.lookup y = some c ∧ c < s.heap.objs.size) ∨ (s.heap.objs.size + 1 ≤ c ∧ CellAt (pushCells (s.heap.push { cls := .type "dict", data := .dict #[] }) scope.names) c none) := fun {y c} e => by
    rw [hcl] at e
    rcases cells_mem (PySem.mem_of_lookup e) with hm | ⟨_, h2, h3⟩
    · exact .inl (cm hm)
    · rw [Heap.size_push] at h2; exact .inr ⟨h2, h3⟩
  have look : ∀ {y}, scope.names.lookup y = some .free → ∃ c, cenv.cells.lookup y = some c ∧ X.env.cells.lookup y = some c := fun {y} hl => by
    have hy : (y, NameKind.free) ∈ scope.names := PySem.mem_of_lookup hl
    obtain ⟨c', e'⟩ := mem_lookup (cells_acc (names := scope.names) (n := (s.heap.push { cls := .type "dict", data := .dict #[] }).objs.size) (cloFrom_has (cells := X.env.cells) (acc := []) hy))
    rw [← hcl] at e'
    refine ⟨c', e', ?_⟩
    rw [hcl] at e'
    rcases cells_mem (PySem.mem_of_lookup e') with hm | ⟨h1, _, _⟩
    · exact (cm hm).1
    · have := ok.uniq _ h1
      rw [hl] at this; cases this
  have okB : (X.blk s H scope cenv fp).Ok := by
    refine ⟨I.ok.mod, by show cenv.scope.kind = _; rw [hsc]; exact ok.kind, by show cenv.globals = _; rw [← hcenv]; exact I.ok.glob, by show cenv.builtins = _; rw [← hcenv]; exact I.ok.blt, by show s.heap.objs.size ≤ cenv.locals; rw [hL]; exact Nat.le_refl _,
      fun y z c e1 e2 => ?_, fun y hy => ?_, fun y c z e => ?_, I.ok.hd, I.ok.frames, .inl rfl, fun b hb => ⟨?_, fun y c e z => ?_⟩, I.bs, Nat.le_trans I.ok.bsz I.sz, fun b o e hb => ?_, fun b hb z => ?_, I.stack, I.stkFree⟩
    · have e1 : cenv.cells.lookup y = some c := e1
      have e2 : cenv.cells.lookup z = some c := e2
      rw [hcl] at e1 e2
      refine cells_inj (fun p hp => ?_) (fun y z c a b => I.ok.inj y z c (cm a).1 (cm b).1) (PySem.mem_of_lookup e1) (PySem.mem_of_lookup e2)
      rw [Heap.size_push]
      exact Nat.lt_succ_of_lt (cm (y := p.1) (c := p.2) hp).2
    · show ∃ c, cenv.cells.lookup y = some c
      have key : ∀ k, cenv.kindOf y = some k → (k = .cell ∨ k = .free) → ∃ c, cenv.cells.lookup y = some c := fun k hk hk' => by
        unfold Env.kindOf at hk
        rw [hsc] at hk
        obtain ⟨k', e, r⟩ := lookup_relS hk
        have : k' = .cell ∨ k' = .free := by
          rcases r with rfl | ⟨rfl, _⟩
          · exact hk'
          · exact .inr rfl
        rcases this with rfl | rfl
        · obtain ⟨c, hm⟩ := cells_has (n := (s.heap.push { cls := .type "dict", data := .dict #[] }).objs.size) (acc := cloFrom X.env.cells scope.names []) (PySem.mem_of_lookup e)
          obtain ⟨c', e'⟩ := mem_lookup hm
          exact ⟨c', by rw [hcl]; exact e'⟩
        · obtain ⟨c, h1, _⟩ := look e
          exact ⟨c, h1⟩
      rcases hy with hy | hy
      · exact key _ hy (.inl rfl)
      · exact key _ hy (.inr rfl)
    · have z : (scope.names.lookup y == some NameKind.cell) = true := z
      have z : scope.names.lookup y = some .cell := by simpa using z
      have e : cenv.cells.lookup y = some c := e
      rw [hcl] at e
      rcases cells_mem (PySem.mem_of_lookup e) with hm | ⟨_, h2, _⟩
      · rcases cloFrom_mem hm with hm | ⟨h1, _⟩
        · cases hm
        · have q := ok.uniq _ h1
          rw [z] at q; cases q
      · rw [Heap.size_push] at h2
        exact Nat.le_of_succ_le h2
    · show b ≠ cenv.locals
      rw [hL]; exact Nat.ne_of_lt (hfp b hb).2
    · have e : cenv.cells.lookup y = some c := e
      rcases mem e with ⟨h1, _⟩ | ⟨h1, _⟩
      · exact (hfp b hb).1.2.2.2.2.1 y c h1 z
      · have h2 : s.heap.objs.size + 1 ≤ b := by rw [← z]; exact h1
        exact absurd (Nat.lt_of_lt_of_le (hfp b hb).2 (Nat.le_of_succ_le h2)) (Nat.lt_irrefl _)
    · rcases (hfp b hb).1.2.2.2.1 with z | z
      · exact I.ok.noex b o e z
      · exact absurd (Nat.lt_of_lt_of_le (Heap.lt_size e) (Nat.le_trans I.ok.bsz z)) (Nat.lt_irrefl _)
    · rcases List.mem_cons.mp (I.stkSub b z) with z | z
      · exact (hfp b hb).1.2.1 z
      · exact (hfp b hb).1.2.2.1 z
  refine ⟨okB, rfl, I.bare, Un.kept kp, ⟨fun _ => none, ?_, fun i y av e1 e2 e3 => ?_⟩, fun y c e => ?_, ?_, fun y c e => ?_, fun p hp => ?_, I.hok.kept kp, by rw [wipe_length]; exact I.len⟩
  · show Heap.Ns _ cenv.locals _
    rw [hL]
    exact Heap.Ns.keeps (Heap.Ns.new ..) fun b o e => pushCells_keeps _ _ _ _ e
  · obtain ⟨e2, hne⟩ := wipe_some e2
    have hfr : scope.names.lookup y = some .free ∧ (cenv.kindOf y = some .cell ∨ cenv.kindOf y = some .free) := by
      have key : ∀ k, cenv.scope.names.lookup y = some k → k = .local ∨ k = .cell ∨ k = .free → scope.names.lookup y = some .free ∧ (cenv.kindOf y = some .cell ∨ cenv.kindOf y = some .free) := fun k hk hk' => by
        have hk0 := hk
        rw [hsc] at hk
        obtain ⟨k', e, r⟩ := lookup_relS hk
        have no : ¬ (k' = .local ∨ k' = .cell) := fun hh => by
          rcases ok.own _ (PySem.mem_of_lookup e) hh with e' | e'
          · obtain ⟨p, hp, hpy⟩ := List.mem_map.mp e'
            have e3 := ok.ix p hp
            have : p.1 = y := hpy
            rw [this] at e3
            exact hne (List.mem_map.mpr ⟨p, hp, nodup_ix hN e3 e1⟩)
          · exact e' (List.mem_of_getElem? e1)
        rcases r with rfl | ⟨rfl, rfl⟩
        · rcases hk' with rfl | rfl | rfl
          · exact absurd (.inl rfl) no
          · exact absurd (.inr rfl) no
          · exact ⟨e, .inr hk0⟩
        · exact ⟨e, .inl hk0⟩
      have e3 : Vis cenv.scope y := e3
      rcases e3 with e3 | e3 | e3
      · exact key _ e3 (.inl rfl)
      · exact key _ e3 (.inr (.inl rfl))
      · exact key _ e3 (.inr (.inr rfl))
    obtain ⟨m, hn, hl⟩ := I.loc
    have hvis : Vis X.env.scope y := (ok.free _ (PySem.mem_of_lookup hfr.1) rfl).elim (fun k => .inr (.inl k)) (fun k => .inr (.inr k))
    obtain ⟨w, r, q⟩ := hl i y av e1 e2 hvis
    refine ⟨w, r, .inr ⟨hfr.2, ?_⟩⟩
    obtain ⟨c, h1, h2⟩ := look hfr.1
    rcases q with ⟨k, _⟩ | ⟨_, c', e', z⟩
    · have k : X.env.scope.names.lookup y = some .local := k
      rcases ok.free _ (PySem.mem_of_lookup hfr.1) rfl with k' | k' <;> rw [show X.env.scope.names.lookup y = _ from k'] at k <;> cases k
    · rw [h2] at e'; cases e'
      exact ⟨c, h1, z.keeps kp⟩
  · have e : cenv.cells.lookup y = some c := e
    rcases mem e with ⟨h1, _⟩ | ⟨_, z⟩
    · obtain ⟨w, z⟩ := I.cell y c h1
      exact ⟨w, z.keeps kp⟩
    · exact ⟨_, z⟩
  · show H cenv.locals = none
    rw [hL]; exact I.hok.fresh (Nat.le_refl _)
  · have e : cenv.cells.lookup y = some c := e
    rcases mem e with ⟨h1, _⟩ | ⟨h1, _⟩
    · exact I.freeC y c h1
    · exact I.hok.fresh (Nat.le_of_succ_le h1)
  · exact absurd (show p ∈ ([] : List (Addr × Obj)) ++ [] from hp) (by simp)


theorem app_ok {E : Value → Shared → Prop} {D : Addr} {xs : List V} {y : V} {v : Value} {Q : Value → Shared → Prop} (I : Inv X pins σ H s) (hD : H D = some (.lst xs)) (hz : xs.length < sizeLine) (r : RelV y v)
    (h : ∀ s', Inv X pins σ (upd H D (.lst (xs ++ [y]))) s' → Q .none s') : wpAny (model X.prog X.w) X.A (call (.builtin "list.append") [.ref D, v]) Q E s := by
  obtain ⟨hz', its, n, ri, e⟩ := I.hok D _ hD
  have hl := ri.length
  refine append_at (hsz := by rw [List.size_toArray]; omega) e fun h' sb ho' => ?_
  refine h { s with heap := h' } (I.write (t' := s.toks) (by rw [hD]; trivial) (.inl rfl) (fun b u hb q => (sb.2 b hb).trans q) ⟨_, ho'⟩ ⟨by rw [List.length_append]; exact hz, its ++ [v], n + 1, ri.append (.cons r .nil), ?_⟩)
  rw [ho']
  simp


def PTs (X : Cx) (ifs : List Expr) (t : TT) : Prop :=
  ∀ (pins : List (Addr × Obj)) (s : Shared) (σ : St) (H : Hp) (Q : Bool → Hp → Prop), Inv X pins σ H s → t σ H Q →
    wpAny (model X.prog X.w) X.A (forIn ifs true fun c r => if r = true then do let ok ← isTrue c X.env (eval c X.env); pure (ForInStep.yield ok) else pure (ForInStep.yield r)) (TP X pins σ Q) X.xe s
def tYes : TT := fun _ H Q => Q true H
theorem pts_nil : PTs X [] tYes := fun _ _ _ H _ I h => wpAny_tests_nil ⟨H, I, h⟩
theorem pts_one {c : Expr} {t : TT} (h : PT X c t) : PTs X [c] t := fun pins s σ H Q I hw => wpAny_tests_one (h pins s σ H Q I hw)
end

theorem thnF {α : Type} {t : Sem α} {Q Q' : α → Shared → Prop} {M : Model} {A : Around} {E : Value → Shared → Prop} {s : Shared} (h : wpAny M A t Q (fun _ _ => False) s) (hQ : ∀ a s, Q a s → Q' a s) : wpAny M A t Q' E s := wpAny_mono h hQ fun _ _ z => False.elim z


theorem compLoop_any {prog : Program} {w : World} {A : Around} {R : Result → Shared → Prop} {s : Shared} {elt target iter : Expr} {ifs : List Expr} {scope : Scope} {pos : Pos} {it acc : Value} {env : Env} (I : Nat → Shared → Prop)
    (turn : ∀ n s, I n s → wpAny (model prog w) A (pyNext it) (fun r s₁ => match r with
      | none => R (.ok .next) s₁
      | some v => wpAny (model prog w) A (letOwnedTupleGo target it v) (fun _ s₁' => wpAny (model prog w) A (assign target env v) (fun _ s₂ =>
          wpAny (model prog w) A (forIn ifs true fun c r => if r = true then do let ok ← isTrue c env (eval c env); pure (ForInStep.yield ok) else pure (ForInStep.yield r)) (fun ok s₃ =>
            if ok = true then wpAny (model prog w) A (eval elt env) (fun x s₄ =>
              wpAny (model prog w) A (call (.builtin "list.append") [acc, x]) (fun _ s₅ => ∃ m, m < n ∧ I m s₅) (notedBy (model prog w) A env fun e s' => R (.error e) s') s₄) (notedBy (model prog w) A env fun e s' => R (.error e) s') s₃
            else ∃ m, m < n ∧ I m s₃) (notedBy (model prog w) A env fun e s' => R (.error e) s') s₂) (notedBy (model prog w) A env fun e s' => R (.error e) s') s₁') (notedBy (model prog w) A env fun e s' => R (.error e) s') s₁) (notedBy (model prog w) A env fun e s' => R (.error e) s') s)
    (n : Nat) (h : I n s) :
    codeAny (model prog w) A (.compLoop (.ListComp elt [⟨target, iter, ifs, 0⟩] scope pos) 0 it acc env) R s := by
  refine codeAny_loop rfl I (fun n s hI => ?_) n h
  show wpAny _ A ((compTurn (.ListComp elt [⟨target, iter, ifs, 0⟩] scope pos) 0 it acc env).onRaise (fun x => do noteFrame x env; theTreesLotGoes x)) _ _ s
  refine wpAny_noted ?_
  rw [compTurn_list]
  refine wpAny_bind (wpAny_standAt (wpAny_bind (wpAny_mono (turn n s hI) (fun r s₁ h₁ => ?_) fun _ _ h' => h')))
  cases r with
  | none => exact wpAny_pure h₁
  | some v =>
    refine wpAny_bind (wpAny_mono h₁ (fun _ s₁' h₁' => ?_) fun _ _ h' => h')
    refine wpAny_bind (wpAny_mono h₁' (fun _ s₂ h₂ => wpAny_bind (wpAny_mono h₂ (fun ok s₃ h₃ => ?_) fun _ _ h' => h')) fun _ _ h' => h')
    cases ok with
    | false => exact wpAny_pure ⟨rfl, h₃⟩
    | true =>
      exact wpAny_bind (wpAny_bind (wpAny_mono h₃ (fun x s₄ h₄ => wpAny_bind (wpAny_mono h₄ (fun _ s₅ h₅ => wpAny_pure (wpAny_pure ⟨rfl, h₅⟩)) fun _ _ h' => h')) fun _ _ h' => h'))

section
variable {X : Cx}

def tLc (wi : TI) (g : TG) (tt : TT) (te : TE) (vs : List Nat) : TE := fun σ H Q => wi σ H fun J H1 => ∀ D, H1 D = none → ∃ W : Nat → Nat → Hp → Prop, (∃ m, W 0 m (upd H1 D (.lst []))) ∧ ∀ i m H, W i m H →
  (J.stop i H ∧ Q (.ref D) H) ∨ (J.go i H ∧ ∃ Nx : Hp → Prop, (∀ H', Nx H' → ∃ m', m' < m ∧ W (i + 1) m' H') ∧ ∀ x H', J.yld i H x H' → g x (wipe σ vs) H' fun σ2 H2 => wipe σ2 vs = wipe σ vs ∧ tt σ2 H2 fun b H3 =>
    if b = true then te σ2 H3 fun y H4 => ∃ acc, H4 D = some (.lst acc) ∧ acc.length < sizeLine ∧ Nx (upd H4 D (.lst (acc ++ [y]))) else Nx H3)
theorem lc_core {pins : List (Addr × Obj)} {s : Shared} {σ : St} {H : Hp} {Q : VK} {elt tg iter : Expr} {ifs : List Expr} {scope : Scope} {own : List (Str × Nat)} {pos pos' : Pos} {wi : TI} {g : TG} {tt : TT} {te : TE} {use : Option (Value → Sem Unit)} {Qf : Value → Shared → Prop}
    (hc : X.calm = true) (hN : X.N.Nodup) (I : Inv X pins σ H s) (hi : PI X tg iter wi) (ok : BlkOk X.N X.env.scope scope own)
    (hg : ∀ (s : Shared) (H : Hp) (C : Addr) (cl : List (Str × Addr)) (fp : List Addr), PG (X.blk s H scope (compEnvC scope cl C X.env) fp) tg g) (ht : ∀ (s : Shared) (H : Hp) (C : Addr) (cl : List (Str × Addr)) (fp : List Addr), PTs (X.blk s H scope (compEnvC scope cl C X.env) fp) ifs tt)
    (he : ∀ (s : Shared) (H : Hp) (C : Addr) (cl : List (Str × Addr)) (fp : List Addr), PE (X.blk s H scope (compEnvC scope cl C X.env) fp) elt te) (hs : ∀ x, foldedSetIterable iter X.env x = pure x)
    (h : tLc wi g tt te (own.map (·.2)) σ H Q)
    (hRR : ∀ D C s' m H', Inv X pins σ H' s' → Q (.ref D) H' → s'.heap.Ns C m → FpOk X pins H' C → compPost (model X.prog X.w) X.A X.xe use Qf (.ref D) C (.ok .next) s') :
    wpAny (model X.prog X.w) X.A (comprehension (.ListComp elt [⟨tg, iter, ifs, 0⟩] scope pos) scope X.env pos' (newList []) false (eval iter X.env) use) Qf X.xe s := by
  have hfree : ∀ y ∈ scope.names, y.2 = .free → ∃ c, X.env.cells.lookup y.1 = some c := fun y hy e => by
    rcases ok.free y hy e with k | k
    · exact I.ok.has _ (.inl k)
    · exact I.ok.has _ (.inr k)
  refine wpAny_comprehension_free (use := use) rfl hs (closure_ok hfree) ok.kind (fun y hy e => by rw [ok.uniq y hy, e])
    (thn (hi pins s σ H _ I h) fun xv s1 hx => thn hx fun itv s2 h2 => ?_)
  obtain ⟨it, fp, tn, J, H2, e, I2, T, st2, f2, q⟩ := h2
  subst e
  refine wpAny_newObj_type (newEnv_comp ?_) (by show 0 ≤ sizeLine; decide)
  generalize hD : s2.heap.objs.size = D
  have hDn : H2 D = none := I2.hok.fresh (Nat.le_of_eq hD)
  obtain ⟨W, ⟨m0, w0⟩, turn⟩ := q D hDn
  generalize hs3 : ({ s2 with heap := s2.heap.push { cls := .type "list", data := .seq ([] : List Value).toArray } } : Shared) = s3
  have I3 : Inv X pins σ (upd H2 D (.lst [])) s3 := by
    rw [← hs3]
    refine I2.laid (t' := s2.toks) (fun b o e => Heap.get?_push_of_some _ e) (Nat.le_of_eq hD) ⟨Nat.zero_le _, [], 0, .nil, ?_⟩
    rw [← hD]
    exact Heap.get?_push_size _ rfl
  have h3 : s3.heap = s2.heap.push { cls := .type "list", data := .seq ([] : List Value).toArray } := by rw [← hs3]
  have sz : ∀ b ∈ fp, b < s2.heap.objs.size := fun b hb => by
    obtain ⟨o, e, _⟩ := T.obj _ _ st2 b hb
    exact Heap.lt_size e
  have f3 : ∀ b ∈ fp, FpOk X pins (upd H2 D (.lst [])) b ∧ b < s3.heap.objs.size := fun b hb => by
    have hlt := sz b hb
    refine ⟨⟨?_, (f2 b hb).2⟩, by rw [h3, Heap.size_push]; exact Nat.lt_succ_of_lt hlt⟩
    rw [upd_ne (by rw [← hD]; exact Nat.ne_of_lt hlt)]
    exact (f2 b hb).1
  have st3 : tn 0 s3.heap := T.keep _ _ _ st2 fun b _ o e => by rw [h3]; exact Heap.get?_push_of_some _ e
  have I4 := block_start I3 ok hN f3
  have pg := hg s3 (upd H2 D (.lst [])) s3.heap.objs.size (cellsFrom (s3.heap.objs.size + 1) scope.names (cloFrom X.env.cells scope.names [])) fp
  have pt := ht s3 (upd H2 D (.lst [])) s3.heap.objs.size (cellsFrom (s3.heap.objs.size + 1) scope.names (cloFrom X.env.cells scope.names [])) fp
  have pe := he s3 (upd H2 D (.lst [])) s3.heap.objs.size (cellsFrom (s3.heap.objs.size + 1) scope.names (cloFrom X.env.cells scope.names [])) fp
  show codeAny _ _ (.compStart (.ListComp elt [⟨tg, iter, ifs, 0⟩] scope pos) 0 (.ref it) (.ref D) (compEnvC scope (cellsFrom (s3.heap.objs.size + 1) scope.names (cloFrom X.env.cells scope.names [])) s3.heap.objs.size X.env)) (compPost (model X.prog X.w) X.A X.xe use Qf (.ref D) s3.heap.objs.size) { s3 with heap := pushCells (s3.heap.push { cls := .type "dict", data := .dict #[] }) scope.names }
  have nfp : ∀ b ∈ fp, (upd H2 D (.lst [])) b = none := fun b hb => (f3 b hb).1.1
  generalize hce : compEnvC scope (cellsFrom (s3.heap.objs.size + 1) scope.names (cloFrom X.env.cells scope.names [])) s3.heap.objs.size X.env = ce at I4 pg pt pe ⊢
  have cL : ce.locals = s3.heap.objs.size := by subst hce; rfl
  generalize hH3 : upd H2 D (.lst []) = H3 at I3 I4 pg pt pe w0 nfp f3
  generalize hs4 : ({ s3 with heap := pushCells (s3.heap.push { cls := .type "dict", data := .dict #[] }) scope.names } : Shared) = s4 at I4 ⊢
  have st4 : tn 0 s4.heap := T.keep _ _ _ st3 fun b _ o e => by rw [← hs4]; exact pushCells_keeps _ _ _ _ (Heap.get?_push_of_some _ e)
  have stat : ∀ {σ' : St} {H' : Hp} {s' : Shared}, Inv (X.blk s3 H3 scope ce fp) [] σ' H' s' → (∀ b ∈ fp, H' b = none) → ∀ b ∈ fp, FpOk (X.blk s3 H3 scope ce fp) [] H' b := fun {σ' H' s'} I' hn b hb =>
    ⟨hn b hb, (I'.ok.exf b hb).1, I'.ok.exfs b hb, .inl hb, fun x c e => (I'.ok.exf b hb).2 x c e, fun p hp => absurd (show p ∈ ([] : List (Addr × Obj)) ++ [] from hp) (by simp)⟩
  have loop : codeAny (model X.prog X.w) X.A (.compLoop (.ListComp elt [⟨tg, iter, ifs, 0⟩] scope pos) 0 (.ref it) (.ref D) ce) (compPost (model X.prog X.w) X.A X.xe use Qf (.ref D) s3.heap.objs.size) s4 := by
    refine compLoop_any (fun n s' => ∃ i H', Inv (X.blk s3 H3 scope ce fp) [] (wipe σ (own.map (·.2))) H' s' ∧ tn i s'.heap ∧ (∀ b ∈ fp, H' b = none) ∧ W i n H') ?_ m0 ⟨0, H3, I4, st4, nfp, w0⟩
    rintro n s5 ⟨i, H5, I5, st5, n5, w5⟩
    rcases turn i n H5 w5 with ⟨stop, qq⟩ | ⟨go, Nx, hNx, step⟩
    · have td := T.done (X.blk s3 H3 scope ce fp) rfl rfl rfl hc i [] s5 _ H5 (fun _ _ => False) I5 (stat I5 n5) st5 stop
      refine thnF td fun r s6 ⟨hr, I6⟩ => ?_
      subst hr
      have I7 : Inv X pins σ H5 s6 := I3.call' (ch := fp) I6.os I6.base I6.hok I6.bare fun b hb => ⟨(f3 b hb).1.2.2.2.1, (f3 b hb).1.2.1, (f3 b hb).1.2.2.2.2.1, (f3 b hb).1.2.2.2.2.2⟩
      have nC : H5 s3.heap.objs.size = none := by
        have z : H5 ce.locals = none := I6.free
        rw [cL] at z
        exact z
      obtain ⟨m, hn, _⟩ := I6.loc
      have hn : s6.heap.Ns ce.locals m := hn
      rw [cL] at hn
      exact hRR D s3.heap.objs.size s6 m H5 I7 qq hn (I3.fpOk (Nat.le_refl _) nC)
    · have ti := T.item (X.blk s3 H3 scope ce fp) rfl rfl rfl hc i [] s5 _ H5 (fun _ _ => False) I5 (stat I5 n5) st5 go
      refine thnF ti fun r s6 ⟨u, hr, h6⟩ => ?_
      subst hr
      refine thnF h6 fun _ s7 ⟨x, H7, I7, r7, y7, st7, n7⟩ => ?_
      have I7' := I7.pinned (stat I7 n7) (T.obj _ _ st7)
      refine thnF (pg _ s7 _ H7 x u _ I7' r7 (step x H7 y7)) fun _ s8 ⟨σ8, H8, I8, hw8, q8⟩ => ?_
      refine thnF (pt _ s8 σ8 H8 _ I8 q8) fun b s9 ⟨H9, I9, q9⟩ => ?_
      have fin : ∀ {s' : Shared} {H' : Hp}, Inv (X.blk s3 H3 scope ce fp) ([] ++ pinsAt fp s7.heap) σ8 H' s' → Nx H' → ∃ m, m < n ∧ ∃ i H', Inv (X.blk s3 H3 scope ce fp) [] (wipe σ (own.map (·.2))) H' s' ∧ tn i s'.heap ∧ (∀ b ∈ fp, H' b = none) ∧ W i m H' := fun {s' H'} I' nx => by
        obtain ⟨m', hm, w'⟩ := hNx H' nx
        have pin' : ∀ b ∈ fp, ∀ o, s7.heap.get? b = some o → s'.heap.get? b = some o ∧ H' b = none := fun b hb o e =>
          let z := I'.pin (b, o) (List.mem_append_right _ (List.mem_append_right _ (mem_pinsAt hb e)))
          ⟨z.1, z.2.1⟩
        have hl : (wipe σ (own.map (·.2))).length = σ8.length := by rw [← hw8, wipe_length]
        refine ⟨m', hm, i + 1, H', (I'.unpinned (pins := [])).weak hl (fun j v e => ?_), T.keep _ _ _ st7 fun b hb o e => (pin' b hb o e).1, fun b hb => ?_, w'⟩
        · rw [← hw8] at e
          exact (wipe_some e).1
        · obtain ⟨o, e, _⟩ := T.obj _ _ st7 b hb
          exact (pin' b hb o e).2
      cases b with
      | false =>
        simp only [Bool.false_eq_true, if_false] at q9 ⊢
        exact fin I9 q9
      | true =>
        simp only [if_true] at q9 ⊢
        refine thnF (pe _ s9 σ8 H9 _ I9 q9) fun z s10 ⟨yv, H10, I10, r10, acc, hD10, hz10, nx⟩ => ?_
        exact app_ok (X := X.blk s3 H3 scope ce fp) I10 hD10 hz10 r10 fun s11 I11 => fin I11 nx
  exact codeAny_compStart_list loop (T.self X.A 0 _ _ _ st4 loop)

theorem pe_lc {elt tg iter : Expr} {ifs : List Expr} {scope : Scope} {own : List (Str × Nat)} {pos : Pos} {wi : TI} {g : TG} {tt : TT} {te : TE} (hc : X.calm = true) (hN : X.N.Nodup) (hi : PI X tg iter wi) (ok : BlkOk X.N X.env.scope scope own)
    (hg : ∀ (s : Shared) (H : Hp) (C : Addr) (cl : List (Str × Addr)) (fp : List Addr), PG (X.blk s H scope (compEnvC scope cl C X.env) fp) tg g) (ht : ∀ (s : Shared) (H : Hp) (C : Addr) (cl : List (Str × Addr)) (fp : List Addr), PTs (X.blk s H scope (compEnvC scope cl C X.env) fp) ifs tt)
    (he : ∀ (s : Shared) (H : Hp) (C : Addr) (cl : List (Str × Addr)) (fp : List Addr), PE (X.blk s H scope (compEnvC scope cl C X.env) fp) elt te) (hs : ∀ x, foldedSetIterable iter X.env x = pure x := by intro _; rfl) :
    PE X (.ListComp elt [⟨tg, iter, ifs, 0⟩] scope pos) (tLc wi g tt te (own.map (·.2))) := by
  intro pins s σ H Q I h
  rw [eval_ListComp]
  refine lc_core hc hN I hi ok hg ht he hs h fun D C s' m H' I' q hn f => ⟨m, hn, fun h'' sb => ?_⟩
  obtain ⟨f0, f1, f2, f3, f4, f5⟩ := f
  exact ⟨.ref D, H', I'.turned (t' := s'.toks) (fun b o hb e => (sb.2 b hb).trans e) f0 f1 f3 f4 f5, rfl, q⟩

theorem sw_true {elt : Expr} {gs : List Comprehension} {scope : Scope} {pos py : Pos} {y : Str} {l : Nat} {env : Env} (hk : env.scope.kind = .function) (hy : env.scope.names.lookup y = some .local) (hl : (py.line == pos.line) = true)
    (ha : (scope.names.any fun (n, k) => n == y && (k == .local || k == .cell)) = false) : swapsWith (.ListComp elt gs scope pos) (some (.Name y py)) l env = pure true := by
  have ky : env.kindOf y = some .local := hy
  have hb : env.blockKind = .function := by unfold Env.blockKind; rw [hk]; rfl
  unfold swapsWith
  simp only [hb, ky, ha, Expr.pos, hl]
  rfl
end



def blkC (N : List Str) (sc scope : Scope) (own : List (Str × Nat)) : Bool :=
  (match scope.kind with | .function => true | _ => false) && (scope.names.all fun y => decide (scope.names.lookup y.1 = some y.2)) && (own.all fun p => decide (N[p.2]? = some p.1)) &&
    (scope.names.all fun y => match y.2 with
      | .free => (match sc.names.lookup y.1 with | some .cell => true | some .free => true | _ => false)
      | .local => decide (y.1 ∈ own.map (·.1)) || decide (y.1 ∉ N)
      | .cell => decide (y.1 ∈ own.map (·.1)) || decide (y.1 ∉ N)
      | _ => true)
theorem blkOk_by {N : List Str} {sc scope : Scope} {own : List (Str × Nat)} (h : blkC N sc scope own = true) : BlkOk N sc scope own := by
  unfold blkC at h
  simp only [Bool.and_eq_true, List.all_eq_true, decide_eq_true_eq] at h
  obtain ⟨⟨⟨h1, h2⟩, h3⟩, h4⟩ := h
  refine ⟨?_, h2, h3, fun y hy e => ?_, fun y hy e => ?_⟩
  · split at h1
    · assumption
    · cases h1
  · have q := h4 y hy
    simp only [e] at q
    split at q <;> first | exact .inl (by assumption) | exact .inr (by assumption) | cases q
  · have q := h4 y hy
    rcases e with e | e <;> (simp only [e, Bool.or_eq_true, decide_eq_true_eq] at q; exact q)
end L2

namespace L2
open PySem PySem.Spec PyProof.Rows

section
variable {prog : Program} {w : World} {A : Around} {R : Result → Shared → Prop} {s : Shared} {elt t0 i0 t1 i1 : Expr} {ifs0 ifs1 : List Expr} {scope : Scope} {pos : Pos} {it acc : Value} {env : Env}

end

section
variable {X : Cx}

end
end L2

namespace L2
open PySem PySem.Spec PyProof.Rows


section
variable {κ : Type} [DecidableEq κ]
def valV (kvs : List (κ × V)) (k : κ) : Option V := (kvs.find? fun kv => decide (kv.1 = k)).map (·.2)

def putK (kvs : List (κ × V)) (k : κ) (v : V) : List (κ × V) :=
  if (kvs.any fun kv => decide (kv.1 = k)) = true then kvs.map (fun kv => if kv.1 = k then (kv.1, v) else kv) else kvs ++ [(k, v)]
def dropK (kvs : List (κ × V)) (k : κ) : List (κ × V) := kvs.filter fun kv => decide (kv.1 ≠ k)

theorem valV_pos {p : κ × V} {r : List (κ × V)} {k : κ} (e : p.1 = k) : valV (p :: r) k = some p.2 := by simp [valV, List.find?_cons, e]
theorem valV_neg {p : κ × V} {r : List (κ × V)} {k : κ} (e : ¬ p.1 = k) : valV (p :: r) k = valV r k := by simp [valV, List.find?_cons, e]
theorem valV_any (k : κ) : ∀ kvs : List (κ × V), (kvs.any fun kv => decide (kv.1 = k)) = (valV kvs k).isSome
  | [] => rfl
  | p :: r => by
    rw [List.any_cons]
    by_cases e : p.1 = k
    · simp only [valV_pos e, decide_eq_true e, Bool.true_or, Option.isSome_some]
    · rw [valV_neg e, decide_eq_false e, Bool.false_or]; exact valV_any k r
theorem length_putK (kvs : List (κ × V)) (k : κ) (v : V) : (putK kvs k v).length ≤ kvs.length + 1 := by
  unfold putK
  split
  · rw [List.length_map]; omega
  · rw [List.length_append, List.length_cons, List.length_nil]; omega
theorem RelO.isSome_eq {o : Option V} {u : Option Value} (r : RelO o u) : o.isSome = u.isSome := by
  cases o with
  | none => cases u with
    | none => rfl
    | some _ => exact (show False from r).elim
  | some _ => cases u with
    | none => exact (show False from r).elim
    | some _ => rfl
theorem RelO.getD {o : Option V} {u : Option Value} {d : V} {d' : Value} (r : RelO o u) (rd : RelV d d') : RelV (o.getD d) (u.getD d') := by
  cases o with
  | none => cases u with
    | none => exact rd
    | some _ => exact (show False from r).elim
  | some _ => cases u with
    | none => exact (show False from r).elim
    | some _ => exact r


theorem KV.val {kvs : List (κ × V)} {vs : List (κ × Value)} (r : KV kvs vs) (k : κ) : RelO (valV kvs k) (valueAt vs k) := by
  unfold KV at r
  induction r with
  | nil => exact True.intro
  | @cons p q ps qs h t ih =>
    obtain ⟨h1, h2⟩ := h
    by_cases e : p.1 = k
    · have e' : q.1 = k := h1.symm.trans e
      have b : valueAt (q :: qs) k = some q.2 := by simp [valueAt, List.find?_cons, e']
      rw [valV_pos e, b]; exact h2
    · have e' : ¬ q.1 = k := fun z => e (h1.trans z)
      have b : valueAt (q :: qs) k = valueAt qs k := by simp [valueAt, List.find?_cons, e']
      rw [valV_neg e, b]; exact ih
theorem KV.any {kvs : List (κ × V)} {vs : List (κ × Value)} (r : KV kvs vs) (k : κ) : (kvs.any fun kv => decide (kv.1 = k)) = vs.any fun kv => decide (kv.1 = k) := by
  unfold KV at r
  induction r with
  | nil => rfl
  | cons h t ih => rw [List.any_cons, List.any_cons, ih, h.1]
theorem KV.repl {kvs : List (κ × V)} {vs : List (κ × Value)} (r : KV kvs vs) (k : κ) {y : V} {u : Value} (ry : RelV y u) :
    KV (kvs.map fun kv => if kv.1 = k then (kv.1, y) else kv) (vs.map fun kv => if kv.1 = k then (kv.1, u) else kv) := by
  unfold KV at r ⊢
  induction r with
  | nil => exact .nil
  | @cons p q ps qs h t ih =>
    rw [List.map_cons, List.map_cons]
    refine .cons ?_ ih
    obtain ⟨h1, h2⟩ := h
    by_cases e : p.1 = k
    · rw [if_pos e, if_pos (h1.symm.trans e)]; exact ⟨h1, ry⟩
    · rw [if_neg e, if_neg (fun z => e (h1.trans z))]; exact ⟨h1, h2⟩
theorem KV.put {kvs : List (κ × V)} {vs : List (κ × Value)} (r : KV kvs vs) (k : κ) {y : V} {u : Value} (ry : RelV y u) : KV (putK kvs k y) (stored vs k u) := by
  unfold putK stored
  rw [r.any k]
  by_cases e : (vs.any fun kv => decide (kv.1 = k)) = true
  · rw [if_pos e, if_pos e]; exact r.repl k ry
  · rw [if_neg e, if_neg e]; exact Paired.snoc r ⟨rfl, ry⟩
theorem KV.drop {kvs : List (κ × V)} {vs : List (κ × Value)} (r : KV kvs vs) (k : κ) : KV (dropK kvs k) (without vs k) := by
  unfold KV at r ⊢
  unfold dropK without
  induction r with
  | nil => exact .nil
  | @cons p q ps qs h t ih =>
    obtain ⟨h1, h2⟩ := h
    rw [List.filter_cons, List.filter_cons]
    by_cases e : p.1 = k
    · have a : ¬ decide (p.1 ≠ k) = true := by simp [e]
      have b : ¬ decide (q.1 ≠ k) = true := by simp [h1.symm.trans e]
      rw [if_neg a, if_neg b]; exact ih
    · have e' : ¬ q.1 = k := fun z => e (h1.trans z)
      have a : decide (p.1 ≠ k) = true := by simp [e]
      have b : decide (q.1 ≠ k) = true := by simp [e']
      rw [if_pos a, if_pos b]; exact .cons ⟨h1, h2⟩ ih
theorem KV.keys {kvs : List (κ × V)} {vs : List (κ × Value)} (r : KV kvs vs) : kvs.map (·.1) = vs.map (·.1) := by
  unfold KV at r
  induction r with
  | nil => rfl
  | cons h t ih => rw [List.map_cons, List.map_cons, ih, h.1]
theorem KV.length {kvs : List (κ × V)} {vs : List (κ × Value)} (r : KV kvs vs) : kvs.length = vs.length := Paired.length r
end



theorem kV_is {P : Program} {w : World} {k : Key} {u : Value} (r : RelV (kV k) u) : (mixKind P w).is k u = true := by
  cases k with
  | inl i => obtain ⟨t, e⟩ := (show ∃ t, u = Value.int i t from r); subst e; exact mixKind_int P w i t
  | inr x => obtain ⟨t, e⟩ := (show ∃ t, u = Value.str x t from r); subst e; exact mixKind_str P w x t
abbrev KT (H : Hp) : List (List Key × V) → List (List Key × Addr × Value) → Prop := Paired fun p q => p.1 = q.1 ∧ H q.2.1 = some (.tup (p.1.map kV)) ∧ RelV p.2 q.2.2
theorem KT.val {H : Hp} {kvs : List (List Key × V)} {xs : List (List Key × Addr × Value)} (r : KT H kvs xs) (k : List Key) : RelO (valV kvs k) ((atKey xs k).map (·.2)) := by
  induction r with
  | nil => exact True.intro
  | @cons p q ps qs h t ih =>
    obtain ⟨h1, _, h2⟩ := h
    by_cases e : p.1 = k
    · have e' : q.1 = k := h1.symm.trans e
      have b : atKey (q :: qs) k = some q.2 := by simp [atKey, List.find?_cons, e']
      rw [valV_pos e, b]; exact h2
    · have e' : ¬ q.1 = k := fun z => e (h1.trans z)
      have b : atKey (q :: qs) k = atKey qs k := by simp [atKey, List.find?_cons, e']
      rw [valV_neg e, b]; exact ih
theorem KT.repl {H : Hp} {kvs : List (List Key × V)} {xs : List (List Key × Addr × Value)} (r : KT H kvs xs) (k : List Key) {y : V} {u : Value} (ry : RelV y u) :
    KT H (kvs.map fun kv => if kv.1 = k then (kv.1, y) else kv) (xs.map (putAt k u)) := by
  induction r with
  | nil => exact .nil
  | @cons p q ps qs h t ih =>
    rw [List.map_cons, List.map_cons]
    refine .cons ?_ ih
    obtain ⟨h1, h2, h3⟩ := h
    unfold putAt
    by_cases e : p.1 = k
    · rw [if_pos e, if_pos (h1.symm.trans e)]; exact ⟨h1, h2, ry⟩
    · rw [if_neg e, if_neg (fun z => e (h1.trans z))]; exact ⟨h1, h2, h3⟩
theorem KT.put {H : Hp} {kvs : List (List Key × V)} {xs : List (List Key × Addr × Value)} (r : KT H kvs xs) (k : List Key) {b : Addr} {y : V} {u : Value} (hb : H b = some (.tup (k.map kV))) (ry : RelV y u) :
    KT H (putK kvs k y) (storedH xs k b u) := by
  have e : (kvs.any fun kv => decide (kv.1 = k)) = (atKey xs k).isSome := by
    rw [valV_any, (r.val k).isSome_eq, Option.isSome_map]
  unfold putK storedH
  rw [e]
  by_cases q : (atKey xs k).isSome = true
  · rw [if_pos q, if_pos q]; exact r.repl k ry
  · rw [if_neg q, if_neg q]; exact Paired.snoc r ⟨rfl, hb, ry⟩
theorem KT.keeps {H H' : Hp} {kvs : List (List Key × V)} {xs : List (List Key × Addr × Value)} (r : KT H kvs xs) (ht : ∀ b ys, H b = some (.tup ys) → H' b = some (.tup ys)) : KT H' kvs xs :=
  Paired.mapP r fun _ _ z => ⟨z.1, ht _ _ z.2.1, z.2.2⟩

section
variable {P : Program} {w : World} {H : Hp} {h : Heap} {a : Addr}
theorem rd_of {u : HO} (ok : HOk P w H h) (e : Rd H a u) : ObjOk P w H h a u := e.ok ok
theorem dk_rd {kvs : List (Key × V)} (ok : HOk P w H h) (e : Rd H a (.dK kvs)) : kvs.length ≤ sizeLine ∧ (a == sysModules) = false ∧ ∃ vs, KV kvs vs ∧ h.DictOf (mixKind P w) a vs :=
  show ObjOk P w H h a (.dK kvs) from rd_of ok e
theorem dk_of {kvs : List (Key × V)} (ok : HOk P w H h) (e : H a = some (.dK kvs)) : kvs.length ≤ sizeLine ∧ (a == sysModules) = false ∧ ∃ vs, KV kvs vs ∧ h.DictOf (mixKind P w) a vs := dk_rd ok (.inl e)

end


def DGet (H : Hp) (a : Addr) (y : V) (r : Option V) : Prop :=
  (∃ kvs k, Rd H a (.dK kvs) ∧ y = kV k ∧ r = valV kvs k) ∨ ∃ kvs k b, Rd H a (.dT kvs) ∧ y = .ref b ∧ H b = some (.tup (k.map kV)) ∧ r = valV kvs k

def DPut (H : Hp) (a : Addr) (y v : V) (H' : Hp) : Prop :=
  (∃ kvs k, H a = some (.dK kvs) ∧ y = kV k ∧ kvs.length < sizeLine ∧ H' = upd H a (.dK (putK kvs k v))) ∨
  ∃ kvs k b, H a = some (.dT kvs) ∧ y = .ref b ∧ H b = some (.tup (k.map kV)) ∧ kvs.length < sizeLine ∧ H' = upd H a (.dT (putK kvs k v))
theorem DGet.k {H : Hp} {a : Addr} {kvs : List (Key × V)} {k : Key} (e : H a = some (.dK kvs)) : DGet H a (kV k) (valV kvs k) := .inl ⟨kvs, k, .inl e, rfl, rfl⟩
theorem DGet.t {H : Hp} {a b : Addr} {kvs : List (List Key × V)} {k : List Key} (e : H a = some (.dT kvs)) (eb : H b = some (.tup (k.map kV))) : DGet H a (.ref b) (valV kvs k) := .inr ⟨kvs, k, b, .inl e, rfl, eb, rfl⟩
theorem DPut.k {H : Hp} {a : Addr} {kvs : List (Key × V)} {k : Key} {v : V} (e : H a = some (.dK kvs)) (hl : kvs.length < sizeLine) : DPut H a (kV k) v (upd H a (.dK (putK kvs k v))) := .inl ⟨kvs, k, e, rfl, hl, rfl⟩
theorem DPut.t {H : Hp} {a b : Addr} {kvs : List (List Key × V)} {k : List Key} {v : V} (e : H a = some (.dT kvs)) (eb : H b = some (.tup (k.map kV))) (hl : kvs.length < sizeLine) :
    DPut H a (.ref b) v (upd H a (.dT (putK kvs k v))) := .inr ⟨kvs, k, b, e, rfl, eb, hl, rfl⟩


section
variable {X : Cx} {pins : List (Addr × Obj)} {σ : St} {H : Hp} {s : Shared} {a : Addr} {y v : V} {u r : Value} {o : Option V} {A : Around} {E : Value → Shared → Prop}

theorem Inv.big (I : Inv X pins σ H s) : sysModules < s.heap.objs.size := by
  have h : mainGlobals < s.heap.objs.size := (I.mod.glob.keeps I.bk).lt
  exact Nat.lt_trans (by decide) h


theorem d_write {h' : Heap} {t' : Nat} {ob : HO} (I : Inv X pins σ H s) (mu : Mut (H a)) (hs : Heap.SameBut a s.heap h') (he : ∃ q, h'.get? a = some q) (new : ObjOk X.prog X.w (upd H a ob) h' a ob) :
    Inv X pins σ (upd H a ob) { s with heap := h', toks := t' } :=
  I.write (x := a) (e := a) mu (.inl rfl) (fun b q hb z => (hs.2 b hb).trans z) he new
theorem dk_new {P : Program} {w : World} {H' : Hp} {h' : Heap} {kvs : List (Key × V)} {vs : List (Key × Value)} (z : kvs.length ≤ sizeLine) (hd : (a == sysModules) = false) (rel : KV kvs vs) (dd : h'.DictOf (mixKind P w) a vs) :
    ObjOk P w H' h' a (.dK kvs) := ⟨z, hd, vs, rel, dd⟩

end

section
variable {X : Cx} {pins : List (Addr × Obj)} {σ : St} {H : Hp} {s : Shared} {a : Addr} {kvs : List (Key × V)} {k : Key} {u : Value} {A : Around} {E : Value → Shared → Prop}

end




section
variable {X : Cx} {o i e value : Expr} {pos pos' tpos : Pos} {td ty tv : TE}
end



theorem dk_empty {P : Program} {w : World} {H : Hp} (h : Heap) (hb : sysModules < h.objs.size) : ObjOk P w H (h.push { cls := .type "dict", data := .dict #[] }) h.objs.size (.dK []) :=
  ⟨Nat.zero_le _, beq_eq_false_iff_ne.mpr (Ne.symm (Nat.ne_of_lt hb)), [], .nil, Heap.DictOf.new h⟩
def tDNewK : TE := fun _ H Q => ∀ p, H p = none → Q (.ref p) (upd H p (.dK []))
section
variable {X : Cx} {pos : Pos}
theorem pe_dnewK : PE X (.Dict [] [] pos) tDNewK := fun pins s σ H Q I h =>
  wpAny_Dict_empty ⟨.ref s.heap.objs.size, _, I.laid (a := s.heap.objs.size) (o := .dK []) (t' := s.toks) (fun _ _ q => Heap.get?_push_of_some _ q) (Nat.le_refl _) (dk_empty s.heap I.big), rfl, h _ (I.hok.fresh (Nat.le_refl _))⟩
end


def tPairs : List (TE × TE) → St → Hp → (List (V × V) → Hp → Prop) → Prop
  | [], _, H, Q => Q [] H
  | (tk, tv) :: r, σ, H, Q => tk σ H fun x H1 => tv σ H1 fun y H2 => tPairs r σ H2 fun ps H3 => Q ((x, y) :: ps) H3
abbrev VV : List (V × V) → List (Value × Value) → Prop := Paired fun p q => RelV p.1 q.1 ∧ RelV p.2 q.2
def PPs (X : Cx) (pos : Pos) (keys : List (Option Expr)) (values : List Expr) (trs : List (TE × TE)) : Prop :=
  ∀ (pins : List (Addr × Obj)) (s : Shared) (σ : St) (H : Hp) (Q : List (V × V) → Hp → Prop), Inv X pins σ H s → tPairs trs σ H Q →
    wpAny (model X.prog X.w) X.A (evalPairs (pairTrees keys values X.env pos)) (fun vs s' => ∃ ps H', Inv X pins σ H' s' ∧ VV ps vs ∧ Q ps H') X.xe s
theorem pps_nil {X : Cx} {pos : Pos} : PPs X pos [] [] [] := fun pins s σ H Q I h => pairTrees_nil_walk ⟨[], H, I, .nil, h⟩
theorem pps_cons {X : Cx} {pos : Pos} {k v : Expr} {ks : List (Option Expr)} {vs : List Expr} {tk tv : TE} {trs : List (TE × TE)} (hk : PE X k tk) (hv : PE X v tv) (hr : PPs X pos ks vs trs) :
    PPs X pos (some k :: ks) (v :: vs) ((tk, tv) :: trs) := fun pins s σ H Q I h =>
  pairTrees_cons_walk (thn (hk pins s σ H _ I h) fun u s1 ⟨x, H1, I1, rx, q1⟩ => thn (hv pins s1 σ H1 _ I1 q1) fun w2 s2 ⟨y, H2, I2, ry, q2⟩ =>
    thn (hr pins s2 σ H2 _ I2 q2) fun ws s3 ⟨ps, H3, I3, rel, q3⟩ => ⟨(x, y) :: ps, H3, I3, .cons ⟨rx, ry⟩ rel, q3⟩)

def mergeK (kvs more : List (Key × V)) : List (Key × V) := more.foldl (fun acc kv => putK acc kv.1 kv.2) kvs
theorem KV.merge : ∀ {more : List (Key × V)} {rs : List (Key × Value)} {kvs : List (Key × V)} {vs : List (Key × Value)}, KV more rs → KV kvs vs → KV (mergeK kvs more) (merged vs rs) := by
  intro more rs kvs vs r
  unfold KV at r
  induction r generalizing kvs vs with
  | nil => intro q; exact q
  | @cons p q ps qs h t ih =>
    intro r0
    have e : KV (putK kvs p.1 p.2) (stored vs q.1 q.2) := by
      have := r0.put p.1 h.2
      rw [← h.1]; exact this
    exact ih e
theorem length_mergeK : ∀ (more kvs : List (Key × V)), (mergeK kvs more).length ≤ kvs.length + more.length
  | [], kvs => by show kvs.length ≤ kvs.length + 0; omega
  | p :: r, kvs => by
    have h1 := length_mergeK r (putK kvs p.1 p.2)
    have h2 := length_putK kvs p.1 p.2
    show (mergeK (putK kvs p.1 p.2) r).length ≤ _
    rw [List.length_cons]; omega
theorem carries_of {P : Program} {w : World} : ∀ {kvs : List (Key × V)} {ws : List (Value × Value)}, VV (kvs.map fun kv => (kV kv.1, kv.2)) ws → ∃ rs, Carries (mixKind P w) ws rs ∧ KV kvs rs
  | [], _, r => by rw [List.map_nil] at r; cases r; exact ⟨[], True.intro, .nil⟩
  | p :: kvs, _, r => by
    rw [List.map_cons] at r
    cases r with
    | @cons a b as bs h t =>
      obtain ⟨rs, c, q⟩ := carries_of (P := P) (w := w) t
      obtain ⟨b1, b2⟩ := b
      exact ⟨(p.1, b2) :: rs, ⟨kV_is h.1, rfl, c⟩, .cons ⟨rfl, h.2⟩ q⟩

def tDisp (trs : List (TE × TE)) : TE := fun σ H Q => ∀ p, H p = none → tPairs trs σ (upd H p (.dK [])) fun ps H2 => H2 p = some (.dK []) ∧ ∃ kvs : List (Key × V), ps = kvs.map (fun kv => (kV kv.1, kv.2)) ∧ kvs.length ≤ 15 ∧ Q (.ref p) (upd H2 p (.dK (mergeK [] kvs)))
theorem pe_disp {X : Cx} {pos : Pos} {keys : List (Option Expr)} {values : List Expr} {trs : List (TE × TE)} (h : PPs X pos keys values trs) (hall : keys.all (·.isSome) = true) (hl : keys.length = values.length) (h0 : keys ≠ [])
    (h15 : keys.length ≤ 15) : PE X (.Dict keys values pos) (tDisp trs) := by
  intro pins s σ H Q I q
  have hn := I.hok.fresh (Nat.le_refl s.heap.objs.size)
  have I1 := I.laid (a := s.heap.objs.size) (o := .dK []) (h' := s.heap.push { cls := .type "dict", data := .dict #[] }) (t' := s.toks) (fun _ _ q => Heap.get?_push_of_some _ q) (Nat.le_refl _) (dk_empty s.heap I.big)
  refine wpAny_Dict_walk (knd := mixKind X.prog X.w) hall hl h0 h15 (thn (h pins _ σ _ _ I1 (q _ hn)) fun ws s2 ⟨ps, H2, I2, rel, e, kvs, ep, lk, q2⟩ => ?_)
  subst ep
  obtain ⟨rs, c, rk⟩ := carries_of (P := X.prog) (w := X.w) rel
  obtain ⟨z, hd, vs0, r0, dd⟩ := dk_of I2.hok e
  cases r0
  refine ⟨rs, c, dd, fun h' dd' hs => ⟨.ref s.heap.objs.size, _, ?_, rfl, q2⟩⟩
  have hz : (mergeK [] kvs).length ≤ sizeLine := by
    have h1 := length_mergeK kvs []
    rw [List.length_nil] at h1
    rw [sizeLine_eq]; omega
  have he : ∃ q, h'.get? s.heap.objs.size = some q := let ⟨q, _, _, hq, _⟩ := dd'; ⟨q, hq⟩
  exact d_write I2 (by rw [e]; exact True.intro) hs he (dk_new hz hd (rk.merge .nil) dd')




structure M1 (X : Cx) (o : Expr) (m : Str) (apos : Pos) (e : Expr) (cpos : Pos) : Prop where
  base : attributeBase o m X.env (eval o X.env) = eval o X.env
  few : ((backTo cpos (starEach [e] X.env)).all (fun x => !x.1) && (backToKw cpos (keywordEach [] X.env)).all (fun x => x.1.isSome)
    && decide (([e] : List Expr).length + ([] : List Keyword).length + (if ([] : List Keyword).isEmpty then 0 else 1) < 30)) = true
  line : (apos.endLine == cpos.line) = true
  trees : backTo cpos (starEach [e] X.env) = [(false, eval e X.env)]
structure M2 (X : Cx) (o : Expr) (m : Str) (apos : Pos) (e f : Expr) (cpos : Pos) : Prop where
  base : attributeBase o m X.env (eval o X.env) = eval o X.env
  few : ((backTo cpos (starEach [e, f] X.env)).all (fun x => !x.1) && (backToKw cpos (keywordEach [] X.env)).all (fun x => x.1.isSome)
    && decide (([e, f] : List Expr).length + ([] : List Keyword).length + (if ([] : List Keyword).isEmpty then 0 else 1) < 30)) = true
  line : (apos.endLine == cpos.line) = true
  trees : backTo cpos (starEach [e, f] X.env) = [(false, eval e X.env), (false, eval f X.env)]


section
variable {X : Cx} {pins : List (Addr × Obj)} {σ : St} {H : Hp} {s : Shared} {a : Addr} {y d : V} {u r : Value} {o : Option V} {A : Around} {E : Value → Shared → Prop}

end

section
variable {X : Cx} {o e f : Expr} {apos cpos : Pos} {td ty tx : TE}
end


section
variable {X : Cx} {pins : List (Addr × Obj)} {σ : St} {H : Hp} {s : Shared} {a : Addr} {kvs : List (Key × V)} {A : Around} {E : Value → Shared → Prop}
end


section
variable {X : Cx} {pins : List (Addr × Obj)} {σ : St} {H : Hp} {s : Shared} {a : Addr} {y : V} {u : Value} {A : Around} {E : Value → Shared → Prop}

end
end L2

namespace L2
open PySem PySem.Spec PyProof.Rows

section
variable {prog : Program} {w : World} {A : Around} {E : Value → Shared → Prop}

end

section
variable {X : Cx}
end
end L2

namespace L2
open PySem PySem.Spec PyProof.Rows

section
variable {X : Cx} {pins : List (Addr × Obj)} {σ : St} {H : Hp} {s : Shared} {h' : Heap}

theorem Inv.turnedNew {t' : Nat} {ch : List Addr} {T : Addr} {ob : HO} (I : Inv X pins σ H s) (k : ∀ b o, b ∉ ch → s.heap.get? b = some o → h'.get? b = some o) (hf : ∀ b ∈ ch, FpOk X pins H b) (hT : s.heap.objs.size ≤ T)
    (new : ObjOk X.prog X.w (upd H T ob) h' T ob) : Inv X pins σ (upd H T ob) { s with heap := h', toks := t' } := by
  have hn : H T = none := I.hok.fresh hT
  have nit : ∀ b u, H b = some u → b ∉ ch := fun b u e z => by
    have q := (hf b z).1
    rw [q] at e; cases e
  refine I.step (g' := s.gens) (d' := s.drawn) (ch := ch) (fun b hb => ⟨(hf b hb).2.2.2.1, (hf b hb).2.1, (hf b hb).2.2.2.2.1, (hf b hb).2.2.2.2.2⟩) (fun b o _ _ hc e _ => k b o hc e) (fun b o _ _ hc e _ => ⟨o.slots, k b o hc e⟩)
    (fun b o _ e n => ?_) (fun b o hc e => ⟨o, k b o hc e⟩) (fun b xs e => ?_) (fun b o u e => ?_) (fun b ps e => ⟨#[], ?_⟩) (fun m hm => ?_) (fun b u e => ?_) I.bare
  · rw [upd_ne (Nat.ne_of_lt (Nat.lt_of_lt_of_le (Heap.lt_size e) hT))]; exact n
  · rw [upd_ne (ne_of_none e hn)]; exact e
  · rw [upd_ne (ne_of_none e hn)]; exact e
  · rw [upd_ne (ne_of_none e hn), e]; simp
  · obtain ⟨o, es, ep, ho, r⟩ := hm
    exact ⟨o, es, ep, k _ o (fun z => (hf _ z).2.1 rfl) ho, r⟩
  · by_cases hb : b = T
    · subst hb
      rw [upd_same] at e
      cases e
      exact new
    · rw [upd_ne hb] at e
      refine (I.hok b u e).stay (fun c v hc q => k c v ?_ q) (fun c q => by rw [upd_ne (ne_of_none q hn)]; exact q) fun c xs q => by rw [upd_ne (ne_of_none q hn)]; exact q
      rcases hc with z | z
      · rw [z]; exact nit b u e
      · exact nit c _ z


end

section
variable {X : Cx}
end



section
variable {X : Cx} {tg : Expr}
end

section
variable {X : Cx} {tg : Expr}
end


section
variable {prog : Program} {w : World} {A : Around} {E : Value → Shared → Prop} {s : Shared}
end


section
variable {X : Cx} {pins : List (Addr × Obj)} {σ : St} {H : Hp} {s : Shared} {d : Addr} {o : Obj}
end


section
variable {P : Program} {w : World} {K : PySem.W.Frag} {tg : Expr} {d : Addr} {o : Obj} {es : Array DictEntry} {ep : Nat}
end



section
variable {X : Cx} {tg e : Expr} {td : TE} {apos cpos : Pos}
end



def Ite (K : PySem.W.Frag) (a : Addr) : It :=
  ⟨fun i H => ∃ (xs : List V) (x : V), SqL K H a xs ∧ xs[i]? = some x, fun i H v H' => ∃ T x, v = .ref T ∧ H T = none ∧ H' = upd H T (.tup [.int (i : Nat), x]) ∧ ∀ xs, SqL K H a xs → xs[i]? = some x, fun i H => ∃ xs : List V, SqL K H a xs ∧ xs.length ≤ i⟩
theorem turn_enum {P : Program} {w : World} {K : PySem.W.Frag} {elts : List Expr} {kk : Nat} {tpos : Pos} (a e it : Addr) :
    Turn P w K (.Tuple elts kk tpos) (Ite K a) [e, it] e (fun i h => (∃ old, IsEnum h e it ((i : Nat) : Int) old) ∧ h.IsListIter it a i ∧ e ≠ it) where
  mem := by simp
  obj := fun i h st b hb => by
    obtain ⟨⟨old, he⟩, ⟨o, ho, hc, hd⟩, _⟩ := st
    have e' : b = e ∨ b = it := by simpa using hb
    rcases e' with z | z
    · rw [z]; exact ⟨_, he, fun v q => nomatch q⟩
    · rw [z]; exact ⟨o, ho, fun v q => by rw [hd] at q; cases q⟩
  keep := fun i h h' st k => let ⟨⟨old, he⟩, hi, hne⟩ := st; ⟨⟨old, k e (by simp) _ he⟩, hi.at fun o q => k it (by simp) o q, hne⟩
  item := by
    intro X hP hw hK hc i pins s σ H E I hf st hg
    subst hP hw hK
    obtain ⟨⟨old, he⟩, hit, hne⟩ := st
    obtain ⟨xs, x, hq, hx⟩ := hg
    obtain ⟨its, rv, p, hz⟩ := I.list hq
    obtain ⟨u, hu, ru⟩ := rv.get hx
    have hel : e < s.heap.objs.size := Heap.lt_size he
    have hil : it < s.heap.objs.size := by obtain ⟨_, q, _⟩ := hit; exact Heap.lt_size q
    refine wpAny_pyNext_enum_item he hit p.isList (x := u) (by simpa using hu) hne fun h' ho hit' hT hsz hk => ?_
    refine ⟨_, rfl, wpAny_letOwnedTupleGo_enum (s := { s with heap := h', toks := s.toks + 1 }) ho fun h'' he' sb => ?_⟩
    have hT2 : h''.get? s.heap.objs.size = some { cls := .type "tuple", data := .seq #[.int i s.toks, u] } := (sb.2 _ (Nat.ne_of_gt hel)).trans hT
    have new : ObjOk X.prog X.w (upd H s.heap.objs.size (.tup [.int (i : Nat), x])) h'' s.heap.objs.size (.tup [.int (i : Nat), x]) :=
      ⟨by show 2 ≤ sizeLine; decide, [.int i s.toks, u], .cons ⟨_, rfl⟩ (.cons ru .nil), ⟨_, hT2, rfl, _, rfl⟩⟩
    have I1 : Inv X pins σ (upd H s.heap.objs.size (.tup [.int (i : Nat), x])) { s with heap := h'', toks := s.toks + 1 } :=
      I.turnedNew (ch := [e, it]) (fun b ob hb q => (sb.2 b (fun z => hb (by simp [z]))).trans (hk b ob (fun z => hb (by simp [z])) (fun z => hb (by simp [z])) q)) hf (Nat.le_refl _) new
    refine ⟨.ref s.heap.objs.size, _, I1, rfl, ⟨_, x, rfl, I.hok.fresh (Nat.le_refl _), rfl, fun ys hy => by rw [I.list_inj hy hq]; exact hx⟩, ⟨⟨u, ?_⟩, hit'.at fun o q => (sb.2 it (Ne.symm hne)).trans q, hne⟩, fun b hb => ?_⟩
    · have e1 : ((i + 1 : Nat) : Int) = (i : Int) + 1 := by omega
      rw [e1]; exact he'
    · have hb' : b < s.heap.objs.size := by
        have e' : b = e ∨ b = it := by simpa using hb
        rcases e' with z | z
        · rw [z]; exact hel
        · rw [z]; exact hil
      rw [upd_ne (Nat.ne_of_lt hb')]
      exact (hf b hb).1
  done := by
    intro X hP hw hK hc i pins s σ H E I hf st hg
    subst hP hw hK
    obtain ⟨⟨old, he⟩, hit, hne⟩ := st
    obtain ⟨xs, hq, hx⟩ := hg
    obtain ⟨its, rv, p, hz⟩ := I.list hq
    obtain ⟨f0, f1, f2, f3, f4, f5⟩ := hf it (by simp)
    have hl := rv.length
    exact wpAny_pyNext_enum_end (I.ok.hd hc) he hit p.isList (by simp; omega) fun h' eb => ⟨rfl, I.turned (t' := s.toks) (fun b o hb q => eb b o hb q) f0 f1 f3 f4 f5⟩
  self := fun A i s Q E st h => let ⟨⟨_, he⟩, _⟩ := st; wpAny_pyIter_enum he h
def iEnum (K : PySem.W.Frag) (ta : TA) : TI := fun σ H R => ta σ H fun vs H1 => ∃ a xs, vs = [.ref a] ∧ SqL K H1 a xs ∧ R (Ite K a) H1
theorem pi_enum {X : Cx} {e : Expr} {ta : TA} {p pos tpos : Pos} {elts : List Expr} {kk : Nat} (hg : Gl X "enumerate") (hm : X.mg "enumerate" = none) (ha : PA X [e] ta) (hs : starEach [e] X.env = [(false, eval e X.env)] := by rfl) :
    PI X (.Tuple elts kk tpos) (.Call (.Name "enumerate" p) [e] [] pos) (iEnum X.K ta) := by
  intro pins s σ H R I h
  refine Call_ (ld_blt I hg hm boot_enumerate (PyProof.Rows.callWith_type1 (thn (ha pos pins s σ H _ I h) fun us s1 ⟨vs, H1, I1, r1, q1⟩ => ?_) hs rfl))
  obtain ⟨a, xs, ex, hq, q⟩ := q1
  subst ex
  cases r1 with
  | cons r rr =>
    cases rr
    cases r
    obtain ⟨its, rv, p', hz⟩ := I1.list hq
    refine call_enumerate_list p'.isList fun h' he hit hsz hk => wpAny_pyIter_enum he ?_
    have I2 : Inv X pins σ H1 { s1 with heap := h' } := I1.kept (t' := s1.toks) hk
    refine ⟨s1.heap.objs.size + 1, [s1.heap.objs.size + 1, s1.heap.objs.size], _, _, H1, rfl, I2, turn_enum a (s1.heap.objs.size + 1) s1.heap.objs.size, ⟨⟨.none, he⟩, hit, Nat.succ_ne_self _⟩, fun b hb => ?_, q⟩
    have e' : b = s1.heap.objs.size + 1 ∨ b = s1.heap.objs.size := by simpa using hb
    have hle : s1.heap.objs.size ≤ b := by
      rcases e' with z | z
      · rw [z]; exact Nat.le_add_right _ _
      · rw [z]; exact Nat.le_refl _
    exact I1.fpOk hle (I1.hok.fresh hle)

end L2

section
namespace Bits
open PySem PyProof.Rows

end Bits
end

section
namespace TL
open PySem PySem.Builtin PySem.Builtin.Str PySem.StrLaws

abbrev tl (x : Str) : List Nat := x.cps.toList
def pre (S l : List Nat) : Bool := l.take S.length == S

def spl (S : List Nat) : Nat → List Nat → List Nat → List (List Nat)
  | _, acc, [] => [acc]
  | 0, acc, c :: r => if pre S (c :: r) = true then acc :: spl S (S.length - 1) [] r else spl S 0 (acc ++ [c]) r
  | k + 1, acc, _ :: r => spl S k acc r

def par (S : List Nat) : List Nat → List Nat → Option (List Nat × List Nat)
  | _, [] => none
  | acc, c :: r => if pre S (c :: r) = true then some (acc, (c :: r).drop S.length) else par S (acc ++ [c]) r

end TL
end

namespace L2
open PySem PySem.Spec PyProof.Rows

section
variable {X : Cx} {pins : List (Addr × Obj)} {σ : St} {H : Hp} {s : Shared} {Q : VK}
end

section
variable {X : Cx}


end

section
variable {X : Cx} {o e : Expr} {to te : TE}
end
end L2

namespace L2
open PySem PySem.Spec PyProof.Rows

section
variable {X : Cx}
end


end L2

namespace Att
open PySem PySem.W PySem.Calls PyProof.Rows


theorem ints_of_wellAll {P : Params} {h : Heap} : ∀ (ns : List Int) (vs : List Value), WellAll P h vs (ns.map WData.int) → IntsAre vs ns := by
  intro ns
  induction ns with
  | nil =>
    intro vs w
    rw [List.map_nil] at w
    cases w
    exact .nil
  | cons n ns ih =>
    intro vs w
    rw [List.map_cons] at w
    cases w with
    | cons a b =>
      cases a
      exact .cons _ _ (ih _ b)

theorem script_of {l : OpenLaw} {n : Nat} (hn : l.most = some n) {P : Params} {h : Heap} {args : List WData} {vals : List Value}
    (hpre : l.row.toRowW.claim.pre args = true) (hwl : WellAll P h vals args) :
    ∃ a vs ns, vals = [Value.ref a] ∧ args = [WData.list (ns.map WData.int)] ∧ h.get? a = some { cls := .type "list", data := .seq vs.toArray } ∧ IntsAre vs ns ∧ ns.length ≤ n := by
  have hsh : WShape.hasAll [] args [.list .int] = true := (pre_splitW hpre).1
  have hc : l.pre.holds [] { args := args } = true := (pre_splitW hpre).2
  obtain ⟨d, r, rfl, h1, h2⟩ := hasAllW_cons hsh
  obtain rfl := hasAllW_nil h2
  obtain ⟨xs, rfl, h3⟩ := hasW_list h1
  obtain ⟨ns, rfl⟩ := items_int h3
  have hlen : ns.length ≤ n := by
    unfold OpenLaw.pre at hc
    have h4 : (WTm.not (.lt (.lit (.int (n : Int))) (.len (.arg 0)))).holds [] { args := [.list (ns.map .int)] } = true := by
      have h4 := (holds_andW hc).1
      rw [hn] at h4
      exact h4
    have h5 := condW_of h4 (w_not (w_lt w_lit (w_len_list (w_arg rfl))))
    rw [List.length_map] at h5
    refine Nat.le_of_not_lt fun q => ?_
    have q' : (n : Int) < ((ns.length : Nat) : Int) := by omega
    first
      | (rw [decide_eq_true q'] at h5; exact absurd h5 (by decide))
      | (simp at h5; omega)
  cases hwl with
  | cons w1 w2 =>
    cases w2
    cases w1 with
    | list ho hall => exact ⟨_, _, ns, rfl, rfl, ho, ints_of_wellAll ns _ hall, hlen⟩

theorem post_true (l : OpenLaw) (args : List WData) : l.row.toRowW.claim.post args (.bool true) args = true :=
  postW_of (r := l.row.toRowW) (X := (true == true))
    (show WShape.has [] (.bool true) .bool = true by first | rfl | decide | simp [WShape.has, WShape.arms, WShape.armsAll])
    (show (WTm.eq .res (.lit (.bool true))).value [] { args := args, res := some (.bool true), after := args } = some (.bool (true == true)) from w_eq_bool (w_res rfl) w_lit) rfl


theorem attach_call {l : OpenLaw} {n : Nat} {q : Program} {loose : List Str} {XP : (Str → Option Value) → Heap → Prop} {YP : World → Heap → Prop} {d : DefRec}
    (hn : l.most = some n) (hdf : d.params.defaults = [])
    (call : ∀ (w : World) (s₀ s₁ : Shared) (mg mb : Str → Option Value) (fa : Addr) (o : Obj) (pm cd doc : Value) (a : Addr) (vs : List Value) (ns : List Int),
      Ground q loose [] XP w s₀ mg mb s₁.heap → YP w s₁.heap →
      s₁.heap.get? fa = some o → o.data = .func (docDef d.name d.params d.body d.scope pm cd doc) → s₁.heap.CodeRec cd d.name → mg d.name = some (.ref fa) →
      s₁.heap.get? a = some { cls := .type "list", data := .seq vs.toArray } → IntsAre vs ns → ns.length ≤ n → s₁.gens = #[] →
      codeAny (model l.prog w) callerA (.call (.ref fa) ⟨[.ref a], []⟩) (fun r s' => r = .ok (.ret (.bool true)) ∧ OldK s₁.heap s'.heap ∧ s'.os = s₁.os ∧ AllBare s'.gens) s₁) :
    WalkO q loose XP YP l.row.toRowW d [] (fun f vs => PySem.call f vs) := by
  intro w s₀ s₁ mg mb G Y fa o pm cd doc dV kV ho hd hcd hD hmg hg args vals as hpre hlay hrd hwl hlo
  obtain rfl : dV = .none := Dflts.none hD hdf
  obtain rfl : kV = .none := Dflts.noKw hD
  obtain ⟨a, vs, ns, rfl, rfl, hobj, hints, hlen⟩ := script_of hn hpre hwl
  refine enter_call (codeAny_mono (call w s₀ s₁ mg mb fa o pm cd doc a vs ns G Y ho (fd_plain hd) hcd hmg hobj hints hlen hg) fun r s' hq => ?_)
  obtain ⟨rfl, h2, h3, h4⟩ := hq
  exact ⟨.inl ⟨.bool true, .bool true, [], rfl, fun _ => rfl, .bool true, post_true l _, fun _ => ⟨List.Pairwise.nil, fun _ hm => (nomatch hm)⟩⟩, h2, h3, h4⟩


section
variable {prog : Program} {w : World} {A : Around} {E : Value → Shared → Prop} {s : Shared} {K : Frag}


end
end Att

namespace L2
open PySem PySem.Spec PyProof.Rows

theorem vals_ints : ∀ {vs : List Value} {ns : List Int}, IntsAre vs ns → Vals (ns.map V.int) vs
  | _, _, .nil => .nil
  | _, _, .cons n t h => .cons ⟨t, rfl⟩ (vals_ints h)


end L2

namespace L2
open PySem PySem.Spec PyProof.Rows

end L2




namespace L2
open PySem PySem.Spec PyProof.Rows



def defArgs (s : Stmt) : Arguments := match s with
  | .FunctionDef _ a _ _ _ _ _ _ _ _ => a
  | _ => { posonlyargs := [], args := [], vararg := none, kwonlyargs := [], kw_defaults := [], kwarg := none, defaults := [] }
def defBody (s : Stmt) : List Stmt := match s with
  | .FunctionDef _ _ b _ _ _ _ _ _ _ => b
  | _ => []
def defScope (s : Stmt) : Scope := match s with
  | .FunctionDef _ _ _ _ _ _ sc _ _ _ => sc
  | _ => { kind := .function, names := [], isGenerator := false, isCoroutine := false }


abbrev CX0 : CXT := fun _ _ _ _ _ _ => False
structure Fun (K : PySem.W.Frag) (x qual : Str) (st : Stmt) (f : Addr) (fd : FuncData) : Prop where
  ex : ∃ (oc : Value) (od : Option Addr) (kV doc pm : Value) (an : Option Addr) (cdv ct : Value) (osl : Array (Option Value)),
    fd = PySem.W.fnOf x qual (defArgs st) (defBody st) (defScope st) .none kV doc pm an cdv ct ∧ K.lookup f = some ⟨oc, od, .func fd, osl⟩ ∧ PySem.W.codeIn K cdv qual = true
  kp : PySem.W.keepIn K (.ref f) = true
section
variable {P : Program} {w : World} {K : PySem.W.Frag} {mg : Str → Option Value} {base : Heap}

theorem Fun.ok {x qual : Str} {st : Stmt} {f : Addr} {fd : FuncData} {N ps : List Str} {k : Nat} {sp : Sp} (F : Fun K x qual st f fd) (S : FnScope N ps (defScope st)) (len : ∀ vs H Q E, sp vs H Q E → vs.length = ps.length)
    (hbody : ∀ (cdv : Value) (A : Around) (outer : List Env) (s : Shared) (H : Hp) (vs : List V) (Q : VK) (E : XK), Room k (A.deeper (envOfC qual (defScope st) s.heap.objs.size f cdv)) → sp vs H Q E →
      ∃ t, PSs (cxOf CX0 P w K mg base N qual (defScope st) f cdv A outer s H E).nox (defBody st) t ∧ t { nx := fun _ H' => Q .non H', rt := Q } (start N vs) H) : FnOk P w K mg base CX0 (k + 1) f fd ps sp := by
  obtain ⟨oc, od, kV, doc, pm, an, cdv, ct, osl, rfl, lk, hcd⟩ := F.ex
  refine fn_of lk hcd S len fun A outer s H vs Q E hr hsp => ?_
  obtain ⟨t, h, q⟩ := hbody cdv A outer s H vs Q E hr hsp
  exact ⟨t, h.nox, q⟩

theorem Fun.binds {x qual : Str} {st : Stmt} {f : Addr} {fd : FuncData} {ps : List Str} (F : Fun K x qual st f fd)
    (h : ∀ (kV doc pm : Value) (an : Option Addr) (cdv ct : Value) (us : List Value), us.length = ps.length → bindArgs (PySem.W.fnOf x qual (defArgs st) (defBody st) (defScope st) .none kV doc pm an cdv ct) ⟨us, []⟩ = pure (ps.zip us)) : Binds K fd ps [] := by
  obtain ⟨oc, od, kV, doc, pm, an, cdv, ct, osl, rfl, lk, hcd⟩ := F.ex
  exact .all (h kV doc pm an cdv ct)
theorem fun_mk {x qual : Str} {st : Stmt} {f : Addr} {oc : Value} {od an : Option Addr} {osl : Array (Option Value)} {kV doc pm cdv ct : Value} (l : K.lookup f = some ⟨oc, od, .func (PySem.W.fnOf x qual (defArgs st) (defBody st) (defScope st) .none kV doc pm an cdv ct), osl⟩)
    (c : PySem.W.codeIn K cdv qual = true) (k : PySem.W.keepIn K (.ref f) = true) : Fun K x qual st f (PySem.W.fnOf x qual (defArgs st) (defBody st) (defScope st) .none kV doc pm an cdv ct) := ⟨⟨oc, od, kV, doc, pm, an, cdv, ct, osl, rfl, l, c⟩, k⟩
end
theorem small1000 {n : Nat} (h : n ≤ 1000) : n < sizeLine := Nat.lt_of_le_of_lt h (by decide)


section
variable {X : Cx}
end


theorem iteF {A B : Prop} (h : B) : if false = true then A else B := by
  rw [if_neg Bool.false_ne_true]
  exact h
theorem iteT {A B : Prop} (h : A) : if true = true then A else B := by
  rw [if_pos rfl]
  exact h
def Same (H H' : Hp) : Prop := ∀ b o, H b = some o → H' b = some o
theorem Same.refl (H : Hp) : Same H H := fun _ _ h => h
theorem Same.trans {H H1 H2 : Hp} (a : Same H H1) (b : Same H1 H2) : Same H H2 := fun c o h => b c o (a c o h)
theorem Same.free {H H' : Hp} (e : Same H H') {l : Addr} (h : H' l = Option.none) : H l = Option.none := by
  cases q : H l with
  | none => rfl
  | some o =>
    rw [e l o q] at h
    cases h
theorem Same.seq {K : PySem.W.Frag} {H H' : Hp} {a : Addr} {xs : List V} (e : Same H H') (h : SqL K H a xs) : SqL K H' a xs := by
  rcases h with (h | ⟨o, h⟩) | h
  · exact .inl (.inl (e _ _ h))
  · exact .inl (.inr ⟨o, e _ _ h⟩)
  · exact .inr h


section
variable {κ : Type} [DecidableEq κ]
theorem nd_snoc : ∀ {l : List κ} {k : κ}, l.Nodup → ¬ k ∈ l → (l ++ [k]).Nodup
  | [], k, _, _ => by simp
  | a :: r, k, h, hk => by
    obtain ⟨h1, h2⟩ := List.nodup_cons.mp h
    show (a :: (r ++ [k])).Nodup
    refine List.nodup_cons.mpr ⟨fun m => ?_, nd_snoc h2 fun m => hk (List.mem_cons.mpr (Or.inr m))⟩
    rcases List.mem_append.mp m with q | q
    · exact h1 q
    · exact hk (List.mem_cons.mpr (Or.inl (List.mem_singleton.mp q).symm))
end

theorem nd_ix {α : Type} {l : List α} (hN : l.Nodup) {i j : Nat} {x : α} (a : l[i]? = some x) (b : l[j]? = some x) : i = j := by
  obtain ⟨h1, e1⟩ := List.getElem?_eq_some_iff.mp a
  obtain ⟨h2, e2⟩ := List.getElem?_eq_some_iff.mp b
  exact (List.getElem_inj hN).mp (e1.trans e2.symm)
theorem Same.made {H H1 : Hp} {x dx C : Addr} (nx : H x = Option.none) (nd : H dx = Option.none) (k : ∀ b o, (upd (upd H dx (.own x)) x (.ins C dx [])) b = some o → b ≠ x → H1 b = some o) : Same H H1 := fun b o e =>
  k b o (by rw [upd_ne (ne_of_none e nx), upd_ne (ne_of_none e nd)]; exact e) (ne_of_none e nx)
end L2

set_option autoImplicit false

namespace L2
open PySem PySem.Spec PyProof.Rows

theorem ObjOk.ex {P : Program} {w : World} {H : Hp} {h : Heap} {a : Addr} {o : HO} (x : ObjOk P w H h a o) : ∃ u, h.get? a = some u := by
  cases o with
  | lst xs => obtain ⟨_, _, _, _, e⟩ := x; exact ⟨_, e⟩
  | tup xs => obtain ⟨_, _, _, _, e, _⟩ := x; exact ⟨_, e⟩
  | dK kvs => obtain ⟨_, _, _, _, o, _, _, e, _⟩ := x; exact ⟨_, e⟩
  | dT kvs => obtain ⟨_, _, _, _, o, _, _, e, _⟩ := x; exact ⟨_, e⟩
  | set S n => obtain ⟨o, _, _, _, e, _⟩ := x; exact ⟨_, e⟩
  | ins C dx fs => obtain ⟨_, _, _, e, _⟩ := x; exact ⟨_, e⟩
  | own y => obtain ⟨_, e⟩ := x; exact ⟨_, e⟩
  | xd fs => obtain ⟨_, ⟨_, _, _, e, _⟩, _⟩ := x; exact ⟨_, e⟩
  | rng lo hi => obtain ⟨_, _, _, e⟩ := x; exact ⟨_, e⟩
  | frz ob u => obtain ⟨e, _⟩ := x; exact ⟨_, e⟩
  | tbl ps => exact ⟨_, (show h.get? a = some _ from x)⟩
  | met f y => exact ⟨_, (show h.get? a = some _ from x)⟩
  | ext φ => obtain ⟨_, ⟨_, e⟩, _⟩ := x; exact ⟨_, e⟩
theorem HOk.freeOf {P : Program} {w : World} {H : Hp} {h : Heap} {a : Addr} (x : HOk P w H h) (e : h.get? a = none) : H a = none := by
  cases q : H a with
  | none => rfl
  | some o =>
    obtain ⟨u, z⟩ := (x a o q).ex
    rw [e] at z; cases z


structure Lies0 (P : Program) (w : World) (outer : List Env) (H : Hp) (s : Shared) (ea : Addr) (H' : Hp) (s' : Shared) : Prop where
  os : s'.os = s.os
  bare : AllBare s'.gens
  un : Un (frs outer) [] H H' s.heap s'.heap
  hok : HOk P w H' s'.heap
  free : H' ea = none
  new : s.heap.get? ea = none
  fr : ∀ b ∈ frs outer, H' b = none
structure Lies (P : Program) (w : World) (outer : List Env) (H : Hp) (s : Shared) (ea C : Addr) (H' : Hp) (s' : Shared) : Prop extends Lies0 P w outer H s ea H' s' where
  fly : ∃ (B : Heap) (a0 : Value), Heap.FlyingW B outer ea (.ref C) a0 s'.heap ∧ ∀ b, b ∉ frs outer → (H' b ≠ none ∨ ∃ o, s.heap.get? b = some o) → ∃ o, B.get? b = some o
def CXE (P : Program) (w : World) : CXT := fun outer H s E e s' => ∃ ea C H', e = .ref ea ∧ Lies P w outer H s ea C H' s' ∧ E (.ref C) none H'

structure XOk (X : Cx) (C : Addr) (H' : Hp) : Prop where
  pass : ∀ (pins : List (Addr × Obj)) (σ : St) (H : Hp) (s : Shared) (ea : Addr) (s' : Shared), Inv X pins σ H s → Lies X.prog X.w X.stack H s ea C H' s' → X.xe (.ref ea) s'
  made : ∀ (pins : List (Addr × Obj)) (σ : St) (s : Shared) (ea : Addr) (h' : Heap) (args : List Value), Inv X pins σ H' s → Heap.MadeExcOf s.heap h' ea (.ref C) args → X.xe (.ref ea) { s with heap := h' }
def EX (X : Cx) : XK := fun cls _ H' => ∃ C, cls = .ref C ∧ XOk X C H'
theorem passX {X : Cx} : Passes (CXE X.prog X.w) X (EX X) := fun pins σ H s e s' I h => by
  obtain ⟨ea, C, H', rfl, l, C', ec, ok⟩ := h
  cases ec
  exact ok.pass pins σ H s ea s' I l
theorem funFrames_to {h b1 b2 : Heap} : ∀ {l : List Env}, h.FunFrames b1 l → (∀ b ∈ frs l, b2.get? b = none) → h.FunFrames b2 l
  | [], _, _ => trivial
  | env :: r, ⟨hk, ⟨L, o, hf, hn, ho, hd⟩, hr⟩, k => ⟨hk, ⟨L, o, hf, k L (by unfold frs; rw [List.filterMap_cons, hf]; exact List.mem_cons_self), ho, hd⟩, funFrames_to hr fun b hb => k b (by
      unfold frs at hb ⊢
      rw [List.filterMap_cons, hf]
      exact List.mem_cons_of_mem _ hb)⟩
section
variable {P : Program} {w : World} {K : PySem.W.Frag} {mg : Str → Option Value} {base : Heap} {N : List Str} {qual : Str} {scope : Scope} {f : Addr} {cd : Value} {A : Around} {outer : List Env} {s : Shared} {H : Hp} {E : XK}
theorem mem_stack {b : Addr} : b ∈ frs (envOfC qual scope s.heap.objs.size f cd :: outer) ↔ b = s.heap.objs.size ∨ b ∈ frs outer := by
  unfold frs
  rw [List.filterMap_cons]
  exact List.mem_cons

theorem lies_up {env : Env} {H1 H' : Hp} {s1 s' : Shared} {h' B : Heap} {a0 : Value} {ea C : Addr} (un0 : Un (frs outer) [] H H1 s.heap s1.heap) (os0 : s1.os = s.os) (hm : ∀ b, b ∈ frs (env :: outer) ↔ b = s.heap.objs.size ∨ b ∈ frs outer) (l : Lies0 P w (env :: outer) H1 s1 ea H' s')
    (st : B.StaysIn s'.heap) (cov : ∀ b, b ∉ frs (env :: outer) → (H' b ≠ none ∨ ∃ o, s1.heap.get? b = some o) → ∃ o, B.get? b = some o) (ff : s'.heap.FunFrames B (env :: outer))
    (fly' : Heap.FlyingW B outer ea (.ref C) a0 h') (up : s'.heap.UpToSlots h') : Lies P w outer H s ea C H' { s' with heap := h' } := by
  have hL : ∀ b o, s.heap.get? b = some o → b ≠ s.heap.objs.size := fun b o e => Nat.ne_of_lt (Heap.lt_size e)
  have old : ∀ b o, s.heap.get? b = some o → ∃ o', s1.heap.get? b = some o' := fun b o e => un0.there b o e (by simp)
  have un2 : Un (frs (env :: outer)) [] H H' s.heap s'.heap := (un0.mono (fun b z => (hm b).mpr (.inr z)) (fun _ z => z)).trans l.un
  have kept : ∀ b, b ∉ frs (env :: outer) → (H' b ≠ none ∨ ∃ o, s1.heap.get? b = some o) → ∀ o, s'.heap.get? b = some o → h'.get? b = some o := fun b hb hc o e => by
    obtain ⟨o1, e1⟩ := cov b hb hc
    have e2 := st b o1 e1
    rw [e] at e2; cases e2
    exact fly'.1 b _ e1
  have nst : ∀ b, b ∉ frs outer → b ≠ s.heap.objs.size → b ∉ frs (env :: outer) := fun b h1 h2 z => ((hm b).mp z).elim h2 h1
  refine ⟨⟨l.os.trans os0, l.bare, ⟨fun b o e n hb _ => ?_, fun b o e n hb _ => ?_, un2.free, fun b o e _ => ?_, un2.tups, un2.frzs, un2.tbls⟩, fun a o e => ?_, l.free, ?_, fun b hb => l.fr b ((hm b).mpr (.inr hb))⟩, B, a0, fly', fun b hb hc => ?_⟩
  · have ns := nst b hb (hL b o e)
    exact kept b ns (.inr (old b o e)) o (un2.keep b o e n ns (by simp))
  · have ns := (hm b).mpr (.inr hb)
    obtain ⟨sl, e1⟩ := un2.slot b o e n ns (by simp)
    obtain ⟨_, o2, e2, nf⟩ := ff.mem ns
    rw [e1] at e2; cases e2
    obtain ⟨sl2, e3⟩ := up b _ e1 nf
    exact ⟨sl2, e3⟩
  · obtain ⟨o', e1⟩ := un2.there b o e (by simp)
    by_cases hb : b ∈ frs outer
    · have ns := (hm b).mpr (.inr hb)
      obtain ⟨_, o2, e2, nf⟩ := ff.mem ns
      rw [e1] at e2; cases e2
      obtain ⟨sl2, e3⟩ := up b _ e1 nf
      exact ⟨_, e3⟩
    · exact ⟨o', kept b (nst b hb (hL b o e)) (.inr (old b o e)) o' e1⟩
  · refine (l.hok a o e).stay (fun b u hb q => ?_) (fun _ q => q) (fun _ _ q => q)
    have tr : H' b ≠ none := by
      rcases hb with z | z
      · rw [z, e]; simp
      · rw [z]; simp
    exact kept b (fun z => tr (l.fr b z)) (.inl tr) u q
  · cases q : s.heap.get? ea with
    | none => rfl
    | some o =>
      obtain ⟨o', e1⟩ := old ea o q
      rw [l.new] at e1; cases e1
  · rcases hc with hc | ⟨o, hc⟩
    · exact cov b (fun z => hc (l.fr b z)) (.inl hc)
    · exact cov b (nst b hb (hL b o hc)) (.inr (old b o hc))
theorem xok_cx {C : Addr} {H' : Hp} (hE : E (.ref C) none H') : XOk (cxOf (CXE P w) P w K mg base N qual scope f cd A outer s H E) C H' := by
  refine ⟨fun pins σ H1 s1 ea s' I l => ?_, fun pins σ s1 ea h1 args I hx => ?_⟩
  · obtain ⟨B, a0, fly, cov⟩ := l.fly
    refine wpAny_leaves_onW I.ok.frames rfl fly fun h' fly' up => ⟨ea, C, H', rfl, ?_, hE⟩
    exact lies_up I.base I.os (fun b => mem_stack) l.toLies0 fly.1 cov fly.2.2.1 fly' up
  · have st : (PySem.W.hideAll s1.heap (frs (cxOf (CXE P w) P w K mg base N qual scope f cd A outer s H E).stack)).StaysIn s1.heap := fun b o e => PySem.W.of_hideAll _ e
    have ff := funFrames_to (b2 := PySem.W.hideAll s1.heap (frs (cxOf (CXE P w) P w K mg base N qual scope f cd A outer s H E).stack)) I.stack fun b hb => PySem.W.hideAll_none _ hb
    have cov : ∀ b, b ∉ frs (cxOf (CXE P w) P w K mg base N qual scope f cd A outer s H E).stack → (H' b ≠ none ∨ ∃ o, s1.heap.get? b = some o) → ∃ o, (PySem.W.hideAll s1.heap (frs (cxOf (CXE P w) P w K mg base N qual scope f cd A outer s H E).stack)).get? b = some o := fun b hb hc => by
      rcases hc with hc | ⟨o, hc⟩
      · cases q : H' b with
        | none => exact absurd q hc
        | some u =>
          obtain ⟨o, e⟩ := (I.hok b u q).ex
          exact ⟨o, PySem.W.hideAll_get _ e hb⟩
      · exact ⟨o, PySem.W.hideAll_get _ hc hb⟩
    refine wpAny_leaves_madeW (h := s1.heap) I.ok.frames rfl st ff hx fun h' t fly' tup tn up => ⟨ea, C, H', rfl, ?_, hE⟩
    refine lies_up (s' := { s1 with heap := h1 }) I.base I.os (fun b => mem_stack) ⟨rfl, I.bare, Un.kept hx.keeps, I.hok.kept hx.keeps, I.hok.freeOf hx.new, hx.new, fun b hb => I.stkFree b hb⟩ (fun b o e => hx.keeps b o (st b o e)) cov (ff.of_keeps fun b o e _ => ⟨o, hx.keeps b o e, rfl⟩) fly' up
end
end L2

namespace L2
open PySem PySem.Spec PyProof.Rows

theorem own_cls {K : PySem.W.Frag} {base : Heap} {mg : Str → Option Value} {x : Str} {C : Addr} {bmB : List Value} {newId : String} (X : K.In base) (hm : mg x = some (.ref C)) (q : PySem.W.excIn K C bmB newId = true) : OwnCls x C bmB newId mg base := by
  refine ⟨hm, ?_⟩
  unfold PySem.W.excIn at q
  split at q
  case h_2 => exact nomatch q
  rename_i dd cd sl ho
  split at q
  case h_2 => exact nomatch q
  rename_i C' bm k0 k1 k2 k3 n k5 hmro hs
  simp only [Bool.and_eq_true, beq_iff_eq, Bool.not_eq_true'] at q
  obtain ⟨⟨⟨⟨⟨e1, e2⟩, hdel⟩, ht⟩, hok⟩, hni⟩ := q
  subst e1 e2
  obtain ⟨nm, bs, mro, ns, qn, hd, sn, sub, ab, col, del⟩ := cd
  dsimp only at hmro hdel hok hni
  subst hmro hdel
  obtain ⟨l⟩ := sl
  dsimp only at hs
  subst hs
  exact ⟨bm, ns, nm, qn, bs, hd, sn, sub, ab, col, dd, k0, k1, k2, k3, k5, _, X _ _ ho, .of_isNs (PySem.W.isNs_of_in X hok), PySem.W.nsMap_none_of_in X hok hni, PySem.W.tail_of_in X ht⟩
section
variable {X : Cx} {x : Str} {C : Addr} {bm bmN : List Value} {Bn newId inN B nid initId : String} {e₀ : Expr} {rest : List Expr} {t : TA} {np cpos pos : Pos}
def tRaise (X : Cx) (C : Addr) (t : TA) : TS := fun _ σ H => t σ H fun vs H1 => vs.length ≤ sizeLine ∧ XOk X C H1
theorem ps_raise (O : OwnCls x C bm newId X.mg X.base) (Fn : ExcBaseFacts Bn newId inN bmN) (hBn : bm.contains (.type Bn) = true) (FB : ExcBaseFacts B nid initId bm) (hc : X.calm = true) (hg : Gl X x) (ha : PA X (e₀ :: rest) t)
    (he : starEach (e₀ :: rest) X.env = (false, eval e₀ X.env) :: starEach rest X.env := by rfl) (hplain : (backTo cpos (starEach rest X.env)).any (·.1) = false := by rfl) (hdb : (x == ("__debug__" : Str)) = false := by decide) :
    PS X (.Raise (some (.Call (.Name x np) (e₀ :: rest) [] cpos)) none pos) (tRaise X C t) := by
  intro pins s σ H D I h
  obtain ⟨tl, N, nm, q, bs, hdct, sn, sub, ab, col, dd, k0, k1, k2, k3, k5, mN, hC, hN, hni, T⟩ := O.obj
  refine wpAny_Raise_call_subU (C := C) (nm := nm) (q := q) (N := N) (bs := bs) (bm := tl) (hdct := hdct) (sn := sn) (sub := sub) (ab := ab) (col := col) (dd := dd) (k0 := k0) (k1 := k1) (k2 := k2) (k3 := k3) (k5 := k5)
    Fn hBn FB (mN := mN) (T.hasType FB.hasBase) (I.ok.hd hc) (by rw [he]; show (false || (backTo cpos (starEach rest X.env)).any (·.1)) = false; rw [hplain]; rfl) hni (ld_glob I hg O.bound ⟨rfl, ?_⟩ hdb)
  have hh := ha cpos pins s σ H _ I h
  rw [he] at hh ⊢
  exact Calls.evalArgs_plain (wpAny_mono hh (fun vs s₂ ⟨us, H1, I1, rv, hl, ok⟩ => ⟨rfl, by rw [← rv.length]; exact hl, I1.bk _ _ hC, hN.keeps I1.bk, T.keeps I1.bk, fun h' e hm => ok.made pins σ s₂ e h' vs I1 hm⟩) fun _ _ y => y)
end
end L2

namespace L2
open PySem PySem.Spec PySem.Calls PyProof.Rows PySem.W Builtin Builtin.ObjectAttr Builtin.Getset_descriptor
structure EC (K : Frag) (C : Addr) : Prop where
  ga : findIn K (.ref C) "__getattribute__" = some (some (.builtin "BaseException.__getattribute__"))
  gt : findIn K (.ref C) "__getattr__" = some none
  at_ : findIn K (.ref C) "__class__" = some (some (.builtin "object.__class__"))
  sp : specialIn K (.builtin "object.__class__") "__get__" = some (some (.builtin "getset_descriptor.__get__"))
  tk : takesIn K (.builtin "object.__class__") = some true
  mo : mroIn K C (.type "object") = some true
  mb : mroIn K C (.type "BaseException") = some true
section
variable {prog : Program} {w : World} {A : Around} {E : Value → Shared → Prop} {s : Shared} {K : Frag} {a C : Addr}
theorem exc_get {tp : Value} {R : Result → Shared → Prop} (X : K.In s.heap) (e : EC K C) (LT : ∀ M, Looks M s.heap (typeOf (.ref a)) (.ref C)) (h : R (.ok (.ret (.ref C))) s) :
    codeAny (model prog w) A (.call (.builtin "getset_descriptor.__get__") ⟨[.builtin "object.__class__", .ref a, tp], []⟩) R s := by
  obtain ⟨hh, g, dr, t, os⟩ := s
  have L0 := LT (model prog w)
  have L1 := looks_mroIn (M := model prog w) X e.mo
  refine codeAny_call_builtin KF.slot_gs.plain KF.entry_gs (KF.slot_gs.check _ _ _ _ _ _ _ _ KF.type_class (KF.args_gs _ _ _) ?_)
  unfold Builtin.«getset_descriptor.__get__» descrGet
  rw [dga_obj]
  refine wpAny_bind (wpAny_pure ?_)
  unfold descrGetter descrCheckInstance descrNameAndClass isInstance
  simp only [KF.owner_class]
  repeat lk
  refine ⟨Code.quiet_builtin _ (by decide +kernel), codeAny_builtin KF.entry_class ?_⟩
  unfold Builtin.«object.__class__» shownTypeOf
  repeat lk
  exact h
theorem exc_getClass {Q : Option Value → Shared → Prop} (X : K.In s.heap) (e : EC K C) (LT : ∀ M, Looks M s.heap (typeOf (.ref a)) (.ref C)) (h : Q (some (.ref C)) { s with toks := s.toks + 1 }) :
    wpAny (model prog w) A (getAttr? (.ref a) "__class__") Q E s := by
  obtain ⟨hh, g, d, t, os⟩ := s
  have L0 := LT (model prog w)
  have L1 := looks_findIn (M := model prog w) X e.ga
  have L2 := looks_findIn (M := model prog w) X e.gt
  have LF : Looks (model prog w) hh (find (.ref a) (.ref C) "__class__") (.bind (.builtin "getset_descriptor.__get__") (.builtin "object.__class__")) :=
    (looks_findIn X e.at_).andThen ((show Looks (model prog w) hh (getOf (some (.builtin "object.__class__"))) (some (.builtin "getset_descriptor.__get__")) from looks_specialIn X e.sp).andThen
      ((show Looks (model prog w) hh (dataDescriptor? (some (.builtin "object.__class__")) (some (.builtin "getset_descriptor.__get__"))) (some (.builtin "getset_descriptor.__get__", .builtin "object.__class__")) from (looks_takesIn X e.tk).andThen .now).andThen (Looks.tag .now)))
  have LI : Looks (model prog w) hh (isInstance (.ref a) (.type "BaseException")) true := L0.andThen (looks_mroIn X e.mb)
  have hx2 : (Value.builtin "BaseException.__getattribute__" == Value.builtin "object.__getattribute__") = false := by decide +kernel
  have hk : builtinKind "BaseException.__getattribute__" = some .slot := by decide +kernel
  have hsplit : splitId "BaseException.__getattribute__" = some ("BaseException", "__getattribute__") := by decide +kernel
  unfold getAttr? getAttrBy? getAttrBy
  refine wpAny_bind (wpAny_mkText (wpAny_bind (wpAny_attempt (wpAny_holding (wpAny_bind (L0.at (wpAny_bind (L1.at ?_))))))))
  dsimp only
  rw [hx2, Bool.and_false, if_neg Bool.false_ne_true]
  unfold getAttrByItsOwn
  refine wpAny_bind ((show Looks (model prog w) hh (hookBefore (.ref C)) none from L2).at ?_)
  refine wpAny_bind (wpAny_attempt (wpAny_holding ?_))
  show wpAny _ _ (boundAndCalled _ _ _) _ _ _
  unfold boundAndCalled
  rw [F.excAttr_ValueError.ga.bind (.ref a)]
  refine wpAny_bind (wpAny_pure (wpAny_call ?_))
  refine codeAny_call_builtin F.excAttr_ValueError.ga.plain F.entry_bexc_ga ?_
  simp only [checkBuiltinCall, hk, hsplit]
  refine wpAny_bind (LI.at ?_)
  simp only [Bool.not_true, Bool.false_eq_true, if_false]
  have ha := F.args_bexc_ga (.ref a) (.str "__class__" t)
  refine wpAny_of_eq (a := ()) (by first | exact ha | (unfold argsOk at ha; exact ha)) ?_
  show wpAny _ _ (Builtin.«object.__getattribute__» ⟨[.ref a, .str "__class__" t], []⟩) _ _ _
  unfold Builtin.«object.__getattribute__»
  refine wpAny_bind (m := slotArgs "__getattribute__" 1 ⟨[.ref a, .str "__class__" t], []⟩) (wpAny_pure (a := (Value.ref a, [Value.str "__class__" t])) ?_)
  refine wpAny_bind (m := attrName (.str "__class__" t)) (wpAny_pure (a := ("__class__" : Str)) ?_)
  refine wpAny_bind (L0.at (wpAny_bind (LF.at ?_)))
  show wpAny _ _ (bindTo _ _ _ _) _ _ _
  show wpAny _ _ (holding [Value.builtin "object.__class__"] (call (.builtin "getset_descriptor.__get__") [.builtin "object.__class__", .ref a, .ref C]) >>= ret) _ _ _
  refine wpAny_bind (wpAny_holding (wpAny_call (exc_get (K := K) (C := C) X e LT ?_)))
  refine wpAny_pure ?_
  show wpAny _ _ (handedOut (.ref C)) _ _ _
  exact wpAny_pure (wpAny_pure h)
def ExAt (C a : Addr) (h : Heap) : Prop := ∃ o, h.get? a = some o ∧ o.cls = .ref C
theorem exAt_ty {M : Model} {h : Heap} (p : ExAt C a h) : Looks M h (typeOf (.ref a)) (.ref C) := by
  obtain ⟨o, h1, h2⟩ := p
  exact h2 ▸ (Looks.ld h1).andThen .now
theorem exAt_isType {M : Model} {h : Heap} (X : K.In h) (e : EC K C) : Looks M h (isType (.ref C)) true := by
  have hm := e.mo
  unfold mroIn at hm
  obtain ⟨cd, hc, _⟩ := Option.bind_eq_some_iff.mp hm
  unfold clsIn at hc
  split at hc
  · rename_i c' d' cd' sl' ho
    intro A' Q' E' s' k q
    unfold isType loadHead
    exact wpAny_bind (wpAny_loadPart (k _ _ (X _ _ ho)) (wpAny_pure q))
  · cases hc
theorem kitx_exc (e : EC K C) : KitX K (.ref a) (.ref C) (ExAt C a) where
  ty := fun _ _ _ p => exAt_ty p
  it := fun _ _ X _ => exAt_isType X e
  ne := fun h tp dd its n sl X htp => by
    refine Bool.eq_false_iff.mpr fun q => ?_
    have e1 : C = tp := Value.ref.inj (beq_iff_eq.mp q)
    subst e1
    have hm := e.mo
    unfold mroIn at hm
    obtain ⟨cd, hc, _⟩ := Option.bind_eq_some_iff.mp hm
    unfold clsIn at hc
    split at hc
    · rename_i c' d' cd' sl' ho
      have z := (X _ _ ho).symm.trans htp
      cases z
    · cases hc
  ca := fun X p k => exc_getClass X e (fun _ => exAt_ty p) k
end
end L2

namespace L2
open PySem PySem.Spec PyProof.Rows

theorem lies_here {P : Program} {w : World} {stack : List Env} {H1 H' : Hp} {s1 s' : Shared} {h5 B : Heap} {a0 : Value} {ea C : Addr} (l : Lies0 P w stack H1 s1 ea H' s') (st : B.StaysIn s'.heap)
    (cov : ∀ b, b ∉ frs stack → (H' b ≠ none ∨ ∃ o, s1.heap.get? b = some o) → ∃ o, B.get? b = some o) (ff : s'.heap.FunFrames B stack) (fly : Heap.FlyingW B stack ea (.ref C) a0 h5) (up : s'.heap.UpToSlots h5) :
    Un (frs stack) [] H1 (upd H' ea (.ext (ExAt C ea))) s1.heap h5 ∧ HOk P w (upd H' ea (.ext (ExAt C ea))) h5 := by
  have kept : ∀ b, b ∉ frs stack → (H' b ≠ none ∨ ∃ o, s1.heap.get? b = some o) → ∀ o, s'.heap.get? b = some o → h5.get? b = some o := fun b hb hc o e => by
    obtain ⟨o1, e1⟩ := cov b hb hc
    have e2 := st b o1 e1
    rw [e] at e2; cases e2
    exact fly.1 b _ e1
  have nea : ∀ b u, H' b = some u → b ≠ ea := fun b u e z => by rw [z, l.free] at e; cases e
  have new : ∀ b o, s1.heap.get? b = some o → b ≠ ea := fun b o e z => by rw [z, l.new] at e; cases e
  refine ⟨⟨fun b o e n hb _ => kept b hb (.inr ⟨o, e⟩) o (l.un.keep b o e n hb (by simp)), fun b o e n hb _ => ?_, fun b o e n hx => by rw [upd_ne (new b o e)]; exact l.un.free b o e n hx, fun b o e _ => ?_, fun b xs e => ?_, fun b o u e => ?_, fun b ps e => ?_⟩, fun a o e => ?_⟩
  · obtain ⟨sl, e1⟩ := l.un.slot b o e n hb (by simp)
    obtain ⟨_, o2, e2, nf⟩ := ff.mem hb
    rw [e1] at e2; cases e2
    obtain ⟨sl2, e3⟩ := up b _ e1 nf
    exact ⟨sl2, e3⟩
  · obtain ⟨o', e1⟩ := l.un.there b o e (by simp)
    by_cases hb : b ∈ frs stack
    · obtain ⟨_, o2, e2, nf⟩ := ff.mem hb
      rw [e1] at e2; cases e2
      obtain ⟨sl2, e3⟩ := up b _ e1 nf
      exact ⟨_, e3⟩
    · exact ⟨o', kept b hb (.inr ⟨o, e⟩) o' e1⟩
  · have z := l.un.tups b xs e
    rw [upd_ne (nea b _ z)]; exact z
  · have z := l.un.frzs b o u e
    rw [upd_ne (nea b _ z)]; exact z
  · obtain ⟨m, z⟩ := l.un.tbls b ps e
    exact ⟨m, by rw [upd_ne (nea b _ z)]; exact z⟩
  · by_cases hb : a = ea
    · subst hb
      rw [upd_same] at e
      cases e
      obtain ⟨ob, hob, hc⟩ := fly.there
      refine ⟨⟨ob, hob, hc⟩, ⟨ob, hob⟩, fun h1 h2 p k => ?_⟩
      obtain ⟨o, e1, e2⟩ := p
      exact ⟨o, k o e1, e2⟩
    · rw [upd_ne hb] at e
      refine (l.hok a o e).stay (fun b u hb q => ?_) (fun b q => by rw [upd_ne (nea b _ q)]; exact q) (fun b xs q => by rw [upd_ne (nea b _ q)]; exact q)
      have tr : H' b ≠ none := by
        rcases hb with z | z
        · rw [z, e]; simp
        · rw [z]; simp
      exact kept b (fun z => tr (l.fr b z)) (.inl tr) u q

abbrev Cx.pinned (X : Cx) (pins : List (Addr × Obj)) (E : Value → Shared → Prop) : Cx := { X with pn := X.pn ++ pins, xe := E }
abbrev Cx.suite (X : Cx) (pins : List (Addr × Obj)) (ea : Addr) : Cx := { X with A := X.A.mark (some (.ref ea)), calm := false, pn := X.pn ++ pins, xe := fun _ _ => False }
section
variable {X : Cx} {pins pins' : List (Addr × Obj)} {σ : St} {H : Hp} {s : Shared} {E : Value → Shared → Prop} {ea : Addr}
theorem Cx.Ok.pinned (ok : X.Ok) : (X.pinned pins E).Ok :=
  ⟨ok.mod, ok.kind, ok.glob, ok.blt, ok.above, ok.inj, ok.has, ok.cab, ok.hd, ok.frames, ok.stk, ok.exf, ok.bs, ok.bsz, ok.noex, ok.exfs, ok.funs, ok.frf⟩
theorem Cx.Ok.unpin (ok : (X.pinned pins E).Ok) : X.Ok :=
  ⟨ok.mod, ok.kind, ok.glob, ok.blt, ok.above, ok.inj, ok.has, ok.cab, ok.hd, ok.frames, ok.stk, ok.exf, ok.bs, ok.bsz, ok.noex, ok.exfs, ok.funs, ok.frf⟩
theorem Cx.Ok.suite (ok : X.Ok) : (X.suite pins ea).Ok :=
  ⟨ok.mod, ok.kind, ok.glob, ok.blt, ok.above, ok.inj, ok.has, ok.cab, (fun z => nomatch z), ok.frames, ok.stk, ok.exf, ok.bs, ok.bsz, ok.noex, ok.exfs, ok.funs, ok.frf⟩
theorem Inv.pinTo (I : Inv X pins σ H s) : Inv (X.pinned pins E) [] σ H s := ⟨I.ok.pinned, I.os, I.bare, I.base, I.loc, I.cell, I.free, I.freeC, fun p hp => I.pin p (by simpa using hp), I.hok, I.len⟩
theorem Inv.unpin (I : Inv (X.pinned pins E) pins' σ H s) : Inv X pins σ H s := ⟨I.ok.unpin, I.os, I.bare, I.base, I.loc, I.cell, I.free, I.freeC, fun p hp => I.pin p (List.mem_append_left _ hp), I.hok, I.len⟩
theorem Inv.suite (I : Inv X pins σ H s) : Inv (X.suite pins ea) [] σ H s := ⟨I.ok.suite, I.os, I.bare, I.base, I.loc, I.cell, I.free, I.freeC, fun p hp => I.pin p (by simpa using hp), I.hok, I.len⟩

theorem Inv.gone {h' : Heap} {m' : Str → Option Value} {tk : Nat} (ok : X.Ok) (I : Inv (X.suite pins ea) pins' σ H s) (hn : h'.Ns X.env.locals m') (sb : Heap.SameBut X.env.locals s.heap h') : Inv X pins (List.replicate X.N.length none) H { s with heap := h', toks := tk } := by
  have ne : ∀ b o, X.s_0.heap.get? b = some o → b ≠ X.env.locals := fun b o e z => by
    have := Nat.lt_of_lt_of_le (Heap.lt_size e) ok.above
    rw [z] at this
    exact Nat.lt_irrefl _ this
  refine ⟨ok, I.os, I.bare, ⟨fun b o e n hb hx => by rw [sb.2 b (ne b o e)]; exact I.base.keep b o e n hb hx, fun b o e n hb hx => by
      obtain ⟨sl, z⟩ := I.base.slot b o e n hb hx
      exact ⟨sl, by rw [sb.2 b (ne b o e)]; exact z⟩, I.base.free, fun b o e hx => by
      obtain ⟨o', z⟩ := I.base.there b o e hx
      exact ⟨o', by rw [sb.2 b (ne b o e)]; exact z⟩, I.base.tups, I.base.frzs, I.base.tbls⟩, ⟨m', hn, fun i x v _ h2 _ => ?_⟩, fun x c e => ?_, I.free, I.freeC, fun p hp => ?_, fun a o e => ?_, by simp⟩
  · rw [List.getElem?_replicate] at h2
    split at h2 <;> cases h2
  · obtain ⟨v, o, e1, e2⟩ := I.cell x c e
    exact ⟨v, o, by rw [sb.2 c (I.cne x c e)]; exact e1, e2⟩
  · obtain ⟨h1, h2, h3, h4, h5⟩ := I.pin p (List.mem_append_left _ hp)
    exact ⟨by rw [sb.2 p.1 h3]; exact h1, h2, h3, h4, h5⟩
  · refine (I.hok a o e).stay (fun b u hb q => ?_) (fun _ q => q) (fun _ _ q => q)
    rw [sb.2 b ?_]; exact q
    intro z
    have fr : H X.env.locals = none := I.free
    rcases hb with z2 | z2
    · rw [← z2, z, fr] at e; cases e
    · rw [z, fr] at z2; cases z2

def XTry (X : Cx) (pins : List (Addr × Obj)) (Ψ : Addr → Hp → Prop) : Value → Shared → Prop := fun e s' => ∃ ea C H1 s1 pins1 σ1 H', e = .ref ea ∧ Inv (X.pinned pins fun _ _ => False) pins1 σ1 H1 s1 ∧ Lies X.prog X.w X.stack H1 s1 ea C H' s' ∧ Ψ C H'
theorem passTry {Ψ : Addr → Hp → Prop} : Passes (CXE X.prog X.w) (X.pinned pins (XTry X pins Ψ)) (fun cls _ H' => ∃ C, cls = .ref C ∧ Ψ C H') := fun pins1 σ1 H1 s1 e s' I h => by
  obtain ⟨ea, C, H', rfl, l, C', ec, ψ⟩ := h
  cases ec
  exact ⟨ea, C, H1, s1, pins1, σ1, H', rfl, ⟨I.ok.unpin.pinned, I.os, I.bare, I.base, I.loc, I.cell, I.free, I.freeC, I.pin, I.hok, I.len⟩, l, ψ⟩
theorem try_ok {body suite : List Stmt} {b₀ : Stmt} {n x : Str} {i : Nat} {CS : Addr} {np hpos pos : Pos} {D : Ends} {Ψ : Addr → Hp → Prop} {t2 : TS} (I : Inv X pins σ H s) (hst : X.stack = X.env :: X.outer) (hfl : X.env.frame = some X.env.locals)
    (hN : X.N.Nodup) (hi : X.N[i]? = some n) (hl : X.env.scope.names.lookup n = some .local) (hg : Gl X x) (hm : X.mg x = some (.ref CS)) (hdb : (x == ("__debug__" : Str)) = false)
    (hbody : wpAny (model X.prog X.w) X.A (execs body X.env) (SP (X.pinned pins (XTry X pins Ψ)) [] D) (XTry X pins Ψ) s)
    (hs : ∀ ea : Addr, PSs (X.suite pins ea) (b₀ :: suite) t2) (hΨ : ∀ (C ea : Addr) (H' : Hp) (σ1 : St), σ1.length = X.N.length → Ψ C H' → H' ea = none → PySem.W.exmOne X.K (.ref C) (.ref CS) = some true ∧
      t2 { nx := fun _ _ => False, rt := D.rt } (σ1.set i (some (.ref ea))) (upd H' ea (.ext (ExAt C ea)))) :
    wpAny (model X.prog X.w) X.A (exec (.Try body [.ExceptHandler (some (.Name x np)) (some n) (b₀ :: suite) hpos] [] [] pos) X.env) (SP X pins D) X.xe s := by
  have un : ∀ f s1, SP (X.pinned pins (XTry X pins Ψ)) [] D f s1 → SP X pins D f s1 := fun f s1 h => by
    cases f with
    | next => obtain ⟨σ', H', J, q⟩ := h; exact ⟨σ', H', J.unpin, q⟩
    | brk => obtain ⟨σ', H', J, q⟩ := h; exact ⟨σ', H', J.unpin, q⟩
    | cont => obtain ⟨σ', H', J, q⟩ := h; exact ⟨σ', H', J.unpin, q⟩
    | ret u => obtain ⟨v, σ', H', J, r, q⟩ := h; exact ⟨v, σ', H', J.unpin, r, q⟩
  refine wpAny_Try_except (wpAny_mono hbody (fun f s1 h1 => ?_) fun e s' hx => ?_)
  · cases f with
    | next => exact wpAny_execs_nil (un .next s1 h1)
    | brk => exact un .brk s1 h1
    | cont => exact un .cont s1 h1
    | ret u => exact un (.ret u) s1 h1
  · obtain ⟨ea, C, H1, s1, pins1, σ1, H', rfl, I1, l, ψ⟩ := hx
    obtain ⟨B, a0, fly, cov⟩ := l.fly
    rw [hst] at fly
    refine wpAny_looks_onW (hst ▸ I.ok.frames) hfl fly fun h4 held up4 => wpAny_landsW held fun h5 fly5 up5 => ?_
    rw [← hst] at fly fly5
    obtain ⟨hex, ht2⟩ := hΨ C ea H' σ1 I1.len ψ l.free
    have step : ∀ h6 : Heap, Heap.FlyingW B X.stack ea (.ref C) a0 h6 → s'.heap.UpToSlots h6 → Inv (X.suite pins ea) [] σ1 (upd H' ea (.ext (ExAt C ea))) { s' with heap := h6 } := fun h6 fly6 up6 => by
      obtain ⟨u6, hok6⟩ := lies_here l.toLies0 fly.1 cov fly.2.2.1 fly6 up6
      have J := Inv.call' (s' := { s' with heap := h6 }) (ch := []) I1 l.os u6 hok6 l.bare (fun b z => absurd z (by simp))
      exact J.unpin.suite
    have I5 := step h5 fly5 (up4.trans up5)
    refine wpAny_handleBy_cons (codeAny_handlers_test (ld_glob (X := X.suite pins ea) I5 hg hm ?_ hdb)) (by intro q; cases q)
    have LT : PySem.W.Looks (model X.prog X.w) h5 (typeOf (.ref ea)) (.ref C) := exAt_ty fly5.there
    refine (PySem.W.exm_one (K := X.K) (c := .ref CS) I5.kIn LT hex).at ?_
    refine codeAny_handlers_suite_as (lands_againW fly5 fun h6 fly6 up6 => ?_)
    have I6 := step h6 fly6 ((up4.trans up5).trans up6)
    refine store_ok (X := X.suite pins ea) (v := .ref ea) I6 hN hi (.inl hl) rfl (fun s7 I7 => ?_) (.inr hl)
    refine wpAny_mono (hs ea [] s7 _ _ _ I7 ht2) (fun f s8 h8 => ?_) fun _ _ z => False.elim z
    cases f with
    | next => obtain ⟨_, _, _, q⟩ := h8; exact False.elim q
    | brk => obtain ⟨_, _, _, q⟩ := h8; exact False.elim q
    | cont => obtain ⟨_, _, _, q⟩ := h8; exact False.elim q
    | ret u =>
      obtain ⟨v, σ', H8, J, r, q⟩ := h8
      obtain ⟨m8, hn8, _⟩ := id J.loc
      refine wpAny_nameGoes (s := s8) hl hn8 (by rw [I.ok.kind]; rfl) fun h9 m9 hn9 sb => ?_
      exact ⟨v, _, H8, J.gone I.ok hn9 sb, r, q⟩
end
end L2

namespace DD
open PySem PySem.Spec PyProof.Rows L2


inductive D where
  | non | bl (b : Bool) | int (i : Int) | str (x : Str) | tup (xs : List D) | lv (xs : List D) | lst (k : Nat) | sv (xs : List D) | ty (n : String) | ob (a : Addr) | ex (x : Str) | cl (x : Str) | dc (kvs : List (Int × Int))
  | dv (ks : List (List Int)) (ds : List D) | dm (k : Nat) | ins (x : Str) (k : Nat) | lam (f c : Addr) (q : Str) | exn (x : Str) (i : Int)

inductive Knd where
  | lst | dct | ins (x : Str)

def fldsOf (x : Str) : List Str := if x = "Counter" then ["sale", "past", "stands"] else if x = "Desk" then ["counter"] else []
abbrev Sto := List (List D)
abbrev Rho := List (Option D)

structure XD where
  ex : Str → Sto → Prop
  tb : List (Addr × Str)
abbrev KD := D → Sto → Prop
abbrev WE := XD → Rho → Sto → KD → Prop
abbrev WT := XD → Rho → Sto → (Bool → Sto → Prop) → Prop
abbrev WA := XD → Rho → Sto → (List D → Sto → Prop) → Prop
structure EndD where
  nx : Rho → Sto → Prop
  rt : KD
  bk : Rho → Sto → Prop := fun _ _ => False
  ct : Rho → Sto → Prop := fun _ _ => False
abbrev WS := XD → EndD → Rho → Sto → Prop
abbrev GF := List D → XD → Sto → KD → Prop


structure Gx where
  M : List Addr
  F : Addr → Prop
  T : List (Addr × Str)
  J : Nat → Knd

def Gx.ls (G : Gx) (k : Nat) (a : Addr) : Prop := G.M[k]? = some a ∧ G.J k = .lst
abbrev Gx.tabs (G : Gx) : List Addr := G.T.map (·.1)

def exO (C a : Addr) : HO := .ext (ExAt C a)

def dcO (kvs : List (Int × Int)) : HO := .dK (kvs.map fun p => (Sum.inl p.1, V.int p.2))
def cdO (q : Str) (c : Addr) : HO := .ext fun h => h.CodeRec (.ref c) q
def TabOk (H : Hp) (p : Addr × Str) : Prop := ∃ ps : Array Value, H p.1 = some (.tbl ps) ∧ TriplesOk ps.toList ∧ ∀ pos cv, codeAmong pos ps.toList = some cv → ∃ c, cv = .ref c ∧ H c = some (cdO p.2 c)

def Fix (u : HO) : Prop := (∃ ps, u = .tbl ps) ∨ ∃ q c, u = cdO q c
theorem TabOk.go {H H' : Hp} {p : Addr × Str} (h : TabOk H p) (k : ∀ a u, H a = some u → Fix u → H' a = some u) : TabOk H' p := by
  obtain ⟨ps, e, t, q⟩ := h
  exact ⟨ps, k _ _ e (.inl ⟨_, rfl⟩), t, fun pos cv z => by
    obtain ⟨c, e1, e2⟩ := q pos cv z
    exact ⟨c, e1, k _ _ e2 (.inr ⟨_, _, rfl⟩)⟩⟩

def keyL (ns : List Int) : List Key := ns.map Sum.inl

def prD (k : List Int) (d : D) : D := .tup [.tup (k.map D.int), d]

def ClsAt (K : PySem.W.Frag) (x : Str) (C : Addr) : Prop := PySem.W.nsIn K mainGlobals x = some (some (.ref C))
def TupK (K : PySem.W.Frag) (a : Addr) (xs : List V) : Prop :=
  (∃ (o : Obj) (its : Array Value) (n : Nat), K.lookup a = some o ∧ o.cls = .type "tuple" ∧ o.data = .seq its n ∧ its.size ≤ sizeLine ∧ Vals xs its.toList) ∧ ∀ i : Int, xs ≠ [V.int i]
def LstK (K : PySem.W.Frag) (a : Addr) (xs : List V) : Prop :=
  ∃ (o : Obj) (its : Array Value) (n : Nat), K.lookup a = some o ∧ o.cls = .type "list" ∧ o.dict = none ∧ o.data = .seq its n ∧ its.size ≤ sizeLine ∧ Vals xs its.toList
def FxT (K : PySem.W.Frag) (G : Gx) (H : Hp) (a : Addr) (xs : List V) : Prop := (G.F a ∧ H a = some (.tup xs)) ∨ TupK K a xs
def FxL (K : PySem.W.Frag) (G : Gx) (H : Hp) (a : Addr) (xs : List V) : Prop := G.F a ∧ H a = some (.lst xs)
def FxS (K : PySem.W.Frag) (G : Gx) (H : Hp) (a : Addr) (xs : List V) : Prop := (G.F a ∧ Rd H a (.lst xs)) ∨ LstK K a xs
theorem FxT.sq {K : PySem.W.Frag} {G : Gx} {H : Hp} {a : Addr} {xs : List V} (h : FxT K G H a xs) : SqT K H a xs := by
  rcases h with ⟨_, h⟩ | h
  · exact .inl (.inl h)
  · exact .inr h.1
theorem FxL.sq {K : PySem.W.Frag} {G : Gx} {H : Hp} {a : Addr} {xs : List V} (h : FxL K G H a xs) : SqL K H a xs := .of h.2
theorem FxS.sq {K : PySem.W.Frag} {G : Gx} {H : Hp} {a : Addr} {xs : List V} (h : FxS K G H a xs) : SqL K H a xs := by
  rcases h with ⟨_, h⟩ | h
  · exact .inl h
  · exact .inr h
mutual
inductive RD (K : PySem.W.Frag) (G : Gx) (H : Hp) : D → V → Prop
  | non : RD K G H .non .non
  | bl (b : Bool) : RD K G H (.bl b) (.bl b)
  | int (i : Int) : RD K G H (.int i) (.int i)
  | str (x : Str) : RD K G H (.str x) (.str x)
  | ty (n : String) : RD K G H (.ty n) (.ty n)
  | ob (a : Addr) : RD K G H (.ob a) (.ref a)
  | tup {a : Addr} {ds : List D} {vs : List V} : FxT K G H a vs → RDs K G H ds vs → RD K G H (.tup ds) (.ref a)
  | lv {a : Addr} {ds : List D} {vs : List V} : FxL K G H a vs → RDs K G H ds vs → RD K G H (.lv ds) (.ref a)
  | lst {k : Nat} {a : Addr} : G.ls k a → RD K G H (.lst k) (.ref a)
  | sv {a : Addr} {ds : List D} {vs : List V} : FxS K G H a vs → RDs K G H ds vs → RD K G H (.sv ds) (.ref a)
  | ex {a C : Addr} {x : Str} : ClsAt K x C → G.F a → H a = some (exO C a) → RD K G H (.ex x) (.ref a)
  | cl {C : Addr} {x : Str} : ClsAt K x C → RD K G H (.cl x) (.ref C)
  | dc {a : Addr} {kvs : List (Int × Int)} : G.F a → H a = some (dcO kvs) → RD K G H (.dc kvs) (.ref a)
  | dv {a : Addr} {o : Obj} {ks : List (List Int)} {ds : List D} {vs : List V} : G.F a → ks.length = ds.length → H a = some (.frz o (.dT ((ks.map keyL).zip vs))) → RDs K G H ds vs → RD K G H (.dv ks ds) (.ref a)
  | dm {k : Nat} {a : Addr} : G.M[k]? = some a → G.J k = .dct → RD K G H (.dm k) (.ref a)
  | ins {k : Nat} {a : Addr} {x : Str} : G.M[k]? = some a → G.J k = .ins x → RD K G H (.ins x k) (.ref a)
  | lam {f c : Addr} {q : Str} : H c = some (cdO q c) → RD K G H (.lam f c q) (.ref f)
inductive RDs (K : PySem.W.Frag) (G : Gx) (H : Hp) : List D → List V → Prop
  | nil : RDs K G H [] []
  | cons {d : D} {v : V} {ds : List D} {vs : List V} : RD K G H d v → RDs K G H ds vs → RDs K G H (d :: ds) (v :: vs)
end
structure Go (G : Gx) (H : Hp) (G' : Gx) (H' : Hp) : Prop where
  m : ∀ (k : Nat) (a : Addr), G.M[k]? = some a → G'.M[k]? = some a
  f : ∀ a, G.F a → G'.F a
  h : ∀ a o, G.F a → H a = some o → H' a = some o
  j : ∀ (k : Nat) (a : Addr), G.M[k]? = some a → G'.J k = G.J k
  c : ∀ a q, H a = some (cdO q a) → H' a = some (cdO q a)
section
variable {K : PySem.W.Frag} {G G' : Gx} {H H' : Hp}
theorem Go.rd {a : Addr} {u : HO} (x : Go G H G' H') (f : G.F a) (r : Rd H a u) : Rd H' a u := by
  rcases r with r | ⟨o, r⟩
  · exact .inl (x.h _ _ f r)
  · exact .inr ⟨o, x.h _ _ f r⟩
theorem Go.fxT {a : Addr} {xs : List V} (x : Go G H G' H') (h : FxT K G H a xs) : FxT K G' H' a xs := by
  rcases h with ⟨f, r⟩ | h
  · exact .inl ⟨x.f _ f, x.h _ _ f r⟩
  · exact .inr h
theorem Go.fxL {a : Addr} {xs : List V} (x : Go G H G' H') (h : FxL K G H a xs) : FxL K G' H' a xs := ⟨x.f _ h.1, x.h _ _ h.1 h.2⟩
theorem Go.fxS {a : Addr} {xs : List V} (x : Go G H G' H') (h : FxS K G H a xs) : FxS K G' H' a xs := by
  rcases h with ⟨f, r⟩ | h
  · exact .inl ⟨x.f _ f, x.rd f r⟩
  · exact .inr h
mutual
theorem RD.go (x : Go G H G' H') : ∀ {d : D} {v : V}, RD K G H d v → RD K G' H' d v
  | _, _, .non => .non
  | _, _, .bl b => .bl b
  | _, _, .int i => .int i
  | _, _, .str y => .str y
  | _, _, .ty n => .ty n
  | _, _, .ob a => .ob a
  | _, _, .tup h r => .tup (x.fxT h) (RDs.go x r)
  | _, _, .lv h r => .lv (x.fxL h) (RDs.go x r)
  | _, _, .lst h => .lst ⟨x.m _ _ h.1, (x.j _ _ h.1).trans h.2⟩
  | _, _, .sv h r => .sv (x.fxS h) (RDs.go x r)
  | _, _, .ex c f h => .ex c (x.f _ f) (x.h _ _ f h)
  | _, _, .cl c => .cl c
  | _, _, .dc f h => .dc (x.f _ f) (x.h _ _ f h)
  | _, _, .dv f l h r => .dv (x.f _ f) l (x.h _ _ f h) (RDs.go x r)
  | _, _, .dm h j => .dm (x.m _ _ h) ((x.j _ _ h).trans j)
  | _, _, .ins h j => .ins (x.m _ _ h) ((x.j _ _ h).trans j)
  | _, _, .lam c => .lam (x.c _ _ c)
theorem RDs.go (x : Go G H G' H') : ∀ {ds : List D} {vs : List V}, RDs K G H ds vs → RDs K G' H' ds vs
  | _, _, .nil => .nil
  | _, _, .cons r t => .cons (RD.go x r) (RDs.go x t)
end
theorem RDs.length : ∀ {ds : List D} {vs : List V}, RDs K G H ds vs → ds.length = vs.length
  | _, _, .nil => rfl
  | _, _, .cons _ t => by rw [List.length_cons, List.length_cons, RDs.length t]
theorem RDs.append : ∀ {ds es : List D} {vs us : List V}, RDs K G H ds vs → RDs K G H es us → RDs K G H (ds ++ es) (vs ++ us)
  | _, _, _, _, .nil, q => q
  | _, _, _, _, .cons r t, q => .cons r (RDs.append t q)
theorem RDs.get : ∀ {ds : List D} {vs : List V} {i : Nat} {d : D}, RDs K G H ds vs → ds[i]? = some d → ∃ v, vs[i]? = some v ∧ RD K G H d v
  | _, _, _, _, .nil, e => by simp at e
  | _, _, 0, _, .cons r _, e => by simp at e; subst e; exact ⟨_, rfl, r⟩
  | _, _, i + 1, d, .cons _ t, e => by
    obtain ⟨u, h1, h2⟩ := RDs.get (i := i) (d := d) t (by simpa using e)
    exact ⟨u, by simpa using h1, h2⟩
theorem RDs.set {d : D} {v : V} (r : RD K G H d v) : ∀ {ds : List D} {vs : List V} (i : Nat), RDs K G H ds vs → RDs K G H (ds.set i d) (vs.set i v)
  | _, _, _, .nil => .nil
  | _, _, 0, .cons _ t => .cons r t
  | _, _, i + 1, .cons q t => .cons q (RDs.set r i t)
theorem RDs.take : ∀ {ds : List D} {vs : List V} (n : Nat), RDs K G H ds vs → RDs K G H (ds.take n) (vs.take n)
  | _, _, 0, _ => .nil
  | _, _, _ + 1, .nil => .nil
  | _, _, n + 1, .cons r t => .cons r (RDs.take n t)
theorem RDs.drop : ∀ {ds : List D} {vs : List V} (n : Nat), RDs K G H ds vs → RDs K G H (ds.drop n) (vs.drop n)
  | _, _, 0, r => r
  | _, _, _ + 1, .nil => .nil
  | _, _, n + 1, .cons _ t => RDs.drop n t
theorem RDs.one {d : D} {vs : List V} (h : RDs K G H [d] vs) : ∃ v, vs = [v] ∧ RD K G H d v := by
  cases h with
  | cons r t => cases t; exact ⟨_, rfl, r⟩
theorem RDs.two {d e : D} {vs : List V} (h : RDs K G H [d, e] vs) : ∃ v u, vs = [v, u] ∧ RD K G H d v ∧ RD K G H e u := by
  cases h with
  | cons r t =>
    cases t with
    | cons q t => cases t; exact ⟨_, _, rfl, r, q⟩
end


def Sta (o : Option HO) : Prop := (∃ xs, o = some (.tup xs)) ∨ (∃ d u, o = some (.frz d u)) ∨ ∃ q c, o = some (cdO q c)
theorem Sta.ne {o : Option HO} {xs : List V} (h : Sta o) (e : o = some (.lst xs)) : False := by
  rcases h with ⟨_, h⟩ | ⟨_, _, h⟩ | ⟨_, _, h⟩ <;> (rw [e] at h; cases h)
theorem Sta.no {o : Option HO} (h : Sta o) (e : o = none) : False := by
  rcases h with ⟨_, h⟩ | ⟨_, _, h⟩ | ⟨_, _, h⟩ <;> (rw [e] at h; cases h)
structure Ext (G : Gx) (H : Hp) (G' : Gx) (H' : Hp) : Prop where
  pre : ∃ t, G'.M = G.M ++ t
  sub : ∀ a, G.F a → G'.F a
  keep : ∀ a o, H a = some o → a ∉ G.M → a ∉ G.tabs → H' a = some o
  tr : ∀ a, H' a = none → H a = none
  newF : ∀ a, G'.F a → G.F a ∨ H a = none ∨ (Sta (H a) ∧ a ∉ G.M ∧ a ∉ G.tabs)
  newM : ∀ a, a ∈ G'.M → a ∈ G.M ∨ H a = none
  tt : G'.T = G.T
  jj : ∀ k, k < G.M.length → G'.J k = G.J k
  fz : ∀ a o u, H a = some (.frz o u) → H' a = some (.frz o u)
theorem Ext.refl (G : Gx) (H : Hp) : Ext G H G H := ⟨⟨[], by simp⟩, fun _ h => h, fun _ _ h _ _ => h, fun _ h => h, fun _ h => .inl h, fun _ h => .inl h, rfl, fun _ _ => rfl, fun _ _ _ h => h⟩
theorem Ext.mlen {G G' : Gx} {H H' : Hp} (x : Ext G H G' H') : G.M.length ≤ G'.M.length := by
  obtain ⟨t, e⟩ := x.pre
  rw [e, List.length_append]
  exact Nat.le_add_right _ _
theorem Ext.mem {G G' : Gx} {H H' : Hp} (x : Ext G H G' H') {a : Addr} (h : a ∈ G.M) : a ∈ G'.M := by
  obtain ⟨t, e⟩ := x.pre
  rw [e]
  exact List.mem_append_left _ h
theorem Ext.trans {G G1 G2 : Gx} {H H1 H2 : Hp} (x : Ext G H G1 H1) (y : Ext G1 H1 G2 H2) : Ext G H G2 H2 := by
  obtain ⟨t, e⟩ := x.pre
  obtain ⟨u, e2⟩ := y.pre
  refine ⟨⟨t ++ u, by rw [e2, e, List.append_assoc]⟩, fun a h => y.sub a (x.sub a h), fun a o h n nt => ?_, fun a h => x.tr a (y.tr a h), fun a h => ?_, fun a h => ?_, y.tt.trans x.tt, fun k hk => (y.jj k (Nat.lt_of_lt_of_le hk x.mlen)).trans (x.jj k hk), fun a o u h => y.fz a o u (x.fz a o u h)⟩
  · refine y.keep a o (x.keep a o h n nt) (fun z => ?_) (by unfold Gx.tabs; rw [x.tt]; exact nt)
    rcases x.newM a z with z | z
    · exact n z
    · rw [h] at z; cases z
  · rcases y.newF a h with z | z | ⟨z, z1, z2⟩
    · exact x.newF a z
    · exact .inr (.inl (x.tr a z))
    · cases e3 : H a with
      | none => exact .inr (.inl rfl)
      | some o =>
        have nm : a ∉ G.M := fun w => z1 (x.mem w)
        have nt : a ∉ G.tabs := fun w => z2 (by unfold Gx.tabs; rw [x.tt]; exact w)
        have e4 := x.keep a o e3 nm nt
        rw [e4] at z
        exact .inr (.inr ⟨z, nm, nt⟩)
  · rcases y.newM a h with z | z
    · exact x.newM a z
    · exact .inr (x.tr a z)
theorem Ext.idx {G G' : Gx} {H H' : Hp} (x : Ext G H G' H') {k : Nat} {a : Addr} (h : G.M[k]? = some a) : G'.M[k]? = some a := by
  obtain ⟨t, e⟩ := x.pre
  rw [e, List.getElem?_append_left (List.getElem?_eq_some_iff.mp h).1]
  exact h


def DtAt (H : Hp) (a : Addr) (b : Bool) (kvs : List (List Key × V)) : Prop := if b = true then ∃ o, H a = some (.frz o (.dT kvs)) else H a = some (.dT kvs)

def KAt (K : PySem.W.Frag) (G : Gx) (H : Hp) : Knd → Addr → List D → Prop
  | .lst, a, es => ∃ vs, H a = some (.lst vs) ∧ RDs K G H es vs
  | .dct, a, es => ∃ (b : Bool) (ks : List (List Int)) (ds : List D) (vs : List V), es = .bl b :: List.zipWith prD ks ds ∧ ks.length = ds.length ∧ DtAt H a b ((ks.map keyL).zip vs) ∧ RDs K G H ds vs
  | .ins x, a, es => ∃ (C dx : Addr) (vs : List V), ClsAt K x C ∧ H dx = some (.own a) ∧ vs.length ≤ (fldsOf x).length ∧ H a = some (.ins C dx ((fldsOf x).zip vs)) ∧ RDs K G H es vs
theorem KAt.stay {K : PySem.W.Frag} {G G' : Gx} {H H' : Hp} {n : Knd} {a : Addr} {es : List D} (h : KAt K G H n a es) (x : Go G H G' H') (hk : ∀ o, H a = some o → H' a = some o) (ho : ∀ d, H d = some (.own a) → H' d = some (.own a)) : KAt K G' H' n a es := by
  cases n with
  | lst => obtain ⟨vs, e, q⟩ := h; exact ⟨vs, hk _ e, q.go x⟩
  | dct =>
    obtain ⟨b, ks, ds, vs, e, l, dt, q⟩ := h
    refine ⟨b, ks, ds, vs, e, l, ?_, q.go x⟩
    unfold DtAt at dt ⊢
    cases b with
    | true => rw [if_pos rfl] at dt ⊢; obtain ⟨o, e⟩ := dt; exact ⟨o, hk _ e⟩
    | false => rw [if_neg Bool.false_ne_true] at dt ⊢; exact hk _ dt
  | ins y => obtain ⟨C, dx, vs, c, d, l, e, q⟩ := h; exact ⟨C, dx, vs, c, ho _ d, l, hk _ e, q.go x⟩

def MO (o : HO) : Prop := (∃ xs, o = .lst xs) ∨ (∃ kvs, o = .dT kvs) ∨ (∃ d kvs, o = .frz d (.dT kvs)) ∨ ∃ C dx fs, o = .ins C dx fs
theorem MO.fix {o : HO} (h : MO o) : ¬ Fix o := by
  rcases h with ⟨_, rfl⟩ | ⟨_, rfl⟩ | ⟨_, _, rfl⟩ | ⟨_, _, _, rfl⟩ <;> (rintro (⟨_, z⟩ | ⟨_, _, z⟩) <;> cases z)
theorem MO.own {o : HO} {y : Addr} (h : MO o) (e : o = .own y) : False := by
  subst e
  rcases h with ⟨_, h⟩ | ⟨_, h⟩ | ⟨_, _, h⟩ | ⟨_, _, _, h⟩ <;> cases h
theorem MO.tup {o : HO} {xs : List V} (h : MO o) (e : o = .tup xs) : False := by
  subst e
  rcases h with ⟨_, h⟩ | ⟨_, h⟩ | ⟨_, _, h⟩ | ⟨_, _, _, h⟩ <;> cases h
theorem KAt.mo {K : PySem.W.Frag} {G : Gx} {H : Hp} {n : Knd} {a : Addr} {es : List D} (h : KAt K G H n a es) : ∃ o, H a = some o ∧ MO o := by
  cases n with
  | lst => obtain ⟨vs, e, q⟩ := h; exact ⟨_, e, .inl ⟨_, rfl⟩⟩
  | dct =>
    obtain ⟨b, ks, ds, vs, e, l, dt, q⟩ := h
    unfold DtAt at dt
    cases b with
    | true => rw [if_pos rfl] at dt; obtain ⟨o, e⟩ := dt; exact ⟨_, e, .inr (.inr (.inl ⟨_, _, rfl⟩))⟩
    | false => rw [if_neg Bool.false_ne_true] at dt; exact ⟨_, dt, .inr (.inl ⟨_, rfl⟩)⟩
  | ins y => obtain ⟨C, dx, vs, c, d, l, e, q⟩ := h; exact ⟨_, e, .inr (.inr (.inr ⟨_, _, _, rfl⟩))⟩

structure RS (K : PySem.W.Frag) (G : Gx) (S : Sto) (H : Hp) : Prop where
  len : G.M.length = S.length
  nd : G.M.Nodup
  dj : ∀ a, G.F a → a ∉ G.M
  tf : ∀ a, G.F a → ∃ o, H a = some o
  mt : ∀ a, a ∈ G.M → a ∉ G.tabs
  ft : ∀ a, G.F a → a ∉ G.tabs
  tb : ∀ p, p ∈ G.T → TabOk H p
  tu : ∀ p p', p ∈ G.T → p' ∈ G.T → p.1 = p'.1 → p = p'
  ot : ∀ (k : Nat) (a : Addr) (ds : List D), G.M[k]? = some a → S[k]? = some ds → KAt K G H (G.J k) a ds
  jn : ∀ k, G.M.length ≤ k → G.J k = .lst
theorem RS.at_ {K : PySem.W.Frag} {G : Gx} {S : Sto} {H : Hp} (r : RS K G S H) (k : Nat) (a : Addr) (ds : List D) (h : G.ls k a) (e : S[k]? = some ds) : ∃ vs, H a = some (.lst vs) ∧ RDs K G H ds vs := by
  have q := r.ot k a ds h.1 e
  rw [h.2] at q
  exact q
theorem RS.trkM {K : PySem.W.Frag} {G : Gx} {S : Sto} {H : Hp} (r : RS K G S H) {a : Addr} (h : a ∈ G.M) : ∃ o, H a = some o ∧ MO o := by
  obtain ⟨k, hk⟩ := List.mem_iff_getElem?.mp h
  have hl : k < S.length := by rw [← r.len]; exact (List.getElem?_eq_some_iff.mp hk).1
  exact (r.ot k a S[k] hk (List.getElem?_eq_getElem hl)).mo
theorem RS.go {K : PySem.W.Frag} {G G' : Gx} {S : Sto} {H H' : Hp} (r : RS K G S H) (x : Ext G H G' H') : Go G H G' H' :=
  ⟨fun _ _ h => x.idx h, x.sub, fun a o f h => x.keep a o h (r.dj a f) (r.ft a f), fun k a h => x.jj k (List.getElem?_eq_some_iff.mp h).1, fun a q h => x.keep a _ h (fun z => by
    obtain ⟨o, e, m⟩ := r.trkM z
    rw [e] at h; cases h
    exact m.fix (.inr ⟨_, _, rfl⟩)) fun z => by
    obtain ⟨p, hp, rfl⟩ := List.mem_map.mp z
    obtain ⟨ps, e, _⟩ := r.tb p hp
    rw [e] at h; cases h⟩
theorem RS.trk {K : PySem.W.Frag} {G : Gx} {S : Sto} {H : Hp} (r : RS K G S H) {a : Addr} (h : a ∈ G.M) : ∃ o, H a = some o := let ⟨o, e, _⟩ := r.trkM h; ⟨o, e⟩


structure OutX (X : Cx) (E : XD) (G : Gx) (H : Hp) : Prop where
  ex : ∀ (x : Str) (C : Addr) (S' : Sto) (G' : Gx) (H' : Hp), Ext G H G' H' → RS X.K G' S' H' → ClsAt X.K x C → E.ex x S' → XOk X C H'
  tb : ∀ p, p ∈ E.tb → p ∈ G.T
structure RE (X : Cx) (E : XD) (G : Gx) (H : Hp) (r : Rho) (sg : L2.St) : Prop where
  len : r.length = sg.length
  at_ : ∀ (i : Nat) (d : D), r[i]? = some (some d) → ∃ v, sg[i]? = some (some v) ∧ RD X.K G H d v
  out : OutX X E G H
theorem OutX.of {X : Cx} {E : XD} {G G' : Gx} {H H' : Hp} (x : Ext G H G' H') (h : OutX X E G H) : OutX X E G' H' := ⟨fun n C S2 G2 H2 y => h.ex n C S2 G2 H2 (x.trans y), fun p hp => by rw [x.tt]; exact h.tb p hp⟩
theorem RE.ext {X : Cx} {E : XD} {G G' : Gx} {S : Sto} {H H' : Hp} {r : Rho} {sg : L2.St} (h : RE X E G H r sg) (rs : RS X.K G S H) (x : Ext G H G' H') : RE X E G' H' r sg :=
  ⟨h.1, fun i d e => let ⟨v, e1, q⟩ := h.2 i d e; ⟨v, e1, q.go (rs.go x)⟩, h.3.of x⟩
theorem RE.set {X : Cx} {E : XD} {G : Gx} {H : Hp} {r : Rho} {sg : L2.St} {d : D} {v : V} (h : RE X E G H r sg) (q : RD X.K G H d v) (i : Nat) : RE X E G H (r.set i (some d)) (sg.set i (some v)) := by
  refine ⟨by rw [List.length_set, List.length_set]; exact h.1, fun j e hj => ?_, h.3⟩
  by_cases hij : i = j
  · subst hij
    have hl : i < r.length := by
      have := (List.getElem?_eq_some_iff.mp hj).1
      rwa [List.length_set] at this
    rw [List.getElem?_set_self hl] at hj
    cases hj
    exact ⟨v, by rw [List.getElem?_set_self (by rw [← h.1]; exact hl)], q⟩
  · rw [List.getElem?_set_ne hij] at hj
    obtain ⟨u, e1, q1⟩ := h.2 j e hj
    exact ⟨u, by rw [List.getElem?_set_ne hij]; exact e1, q1⟩

theorem trk_upd {H : Hp} {p a : Addr} {o : HO} (h : ∃ u, H a = some u) : ∃ u, upd H p o a = some u := by
  by_cases e : a = p
  · subst e; exact ⟨o, upd_same⟩
  · rw [upd_ne e]; exact h

section
variable {K : PySem.W.Frag} {G : Gx} {S : Sto} {H : Hp} {p : Addr} {o : HO}
theorem RS.notM (r : RS K G S H) (hp : H p = none) : p ∉ G.M := fun z => by
  obtain ⟨o, e⟩ := r.trk z
  rw [hp] at e; cases e

theorem ext_new (hp : H p = none) : Ext G H G (upd H p o) :=
  ⟨⟨[], by simp⟩, fun _ h => h, fun a u h _ _ => by rw [upd_ne (ne_of_none h hp)]; exact h, fun a h => by
    by_cases e : a = p
    · rw [e]; exact hp
    · rw [upd_ne e] at h; exact h, fun _ h => .inl h, fun _ h => .inl h, rfl, fun _ _ => rfl, fun a o u h => by rw [upd_ne (ne_of_none h hp)]; exact h⟩
theorem RS.notF (r : RS K G S H) (hp : H p = none) : ¬ G.F p := fun z => by
  obtain ⟨o, e⟩ := r.tf p z
  rw [hp] at e; cases e
theorem RS.notT (r : RS K G S H) (hp : H p = none) : p ∉ G.tabs := fun z => by
  obtain ⟨q, hq, rfl⟩ := List.mem_map.mp z
  obtain ⟨ps, e, _⟩ := r.tb q hq
  rw [hp] at e; cases e
theorem tb_new (r : RS K G S H) (hp : H p = none) : ∀ q, q ∈ G.T → TabOk (upd H p o) q := fun q hq => (r.tb q hq).go fun a u e _ => by rw [upd_ne (ne_of_none e hp)]; exact e
theorem tb_mo {u : HO} (r : RS K G S H) (hp : H p = some u) (hm : ¬ Fix u) : ∀ q, q ∈ G.T → TabOk (upd H p o) q := fun q hq => (r.tb q hq).go fun a v e n => by
  rw [upd_ne (fun z => by rw [z, hp] at e; cases e; exact hm n)]; exact e
theorem tb_lst {xs : List V} (r : RS K G S H) (hp : H p = some (.lst xs)) : ∀ q, q ∈ G.T → TabOk (upd H p o) q := tb_mo r hp (MO.fix (.inl ⟨_, rfl⟩))
theorem go_new (hp : H p = none) : Go G H G (upd H p o) := ⟨fun _ _ h => h, fun _ h => h, fun a u _ h => by rw [upd_ne (ne_of_none h hp)]; exact h, fun _ _ _ => rfl, fun a q h => by rw [upd_ne (ne_of_none h hp)]; exact h⟩
theorem rs_new (r : RS K G S H) (hp : H p = none) : RS K G S (upd H p o) :=
  ⟨r.len, r.nd, r.dj, fun a f => trk_upd (r.tf a f), r.mt, r.ft, tb_new r hp, r.tu, fun k a ds e1 e2 =>
    (r.ot k a ds e1 e2).stay (go_new hp) (fun u e => by rw [upd_ne (ne_of_none e hp)]; exact e) fun d e => by rw [upd_ne (ne_of_none e hp)]; exact e, r.jn⟩

theorem go_other {u : HO} (hp : p ∉ G.M) (hf : ¬ G.F p) (hu : H p = some u) (hm : ¬ Fix u) : Go G H G (upd H p o) :=
  ⟨fun _ _ h => h, fun _ h => h, fun a u f h => by rw [upd_ne (fun (z : a = p) => hf (by rw [← z]; exact f))]; exact h, fun _ _ _ => rfl, fun a q h => by
    rw [upd_ne (fun (z : a = p) => by rw [z, hu] at h; cases h; exact hm (.inr ⟨_, _, rfl⟩))]; exact h⟩
theorem rs_other {xs : List V} (r : RS K G S H) (hp : p ∉ G.M) (hf : ¬ G.F p) (hl : H p = some (.lst xs)) : RS K G S (upd H p o) :=
  ⟨r.len, r.nd, r.dj, fun a f => trk_upd (r.tf a f), r.mt, r.ft, tb_lst r hl, r.tu, fun k a ds e1 e2 =>
    (r.ot k a ds e1 e2).stay (go_other hp hf hl (MO.fix (.inl ⟨_, rfl⟩))) (fun u e => by rw [upd_ne (fun (z : a = p) => hp (by rw [← z]; exact List.mem_of_getElem? e1))]; exact e) fun d e => by
      rw [upd_ne (fun (z : d = p) => by rw [z, hl] at e; cases e)]; exact e, r.jn⟩
def Gx.addF (G : Gx) (p : Addr) : Gx := ⟨G.M, fun a => G.F a ∨ a = p, G.T, G.J⟩
def Gx.addM (G : Gx) (p : Addr) : Gx := ⟨G.M ++ [p], G.F, G.T, G.J⟩

def Gx.addO (G : Gx) (p : Addr) (n : Knd) : Gx := ⟨G.M ++ [p], G.F, G.T, fun k => if k = G.M.length then n else G.J k⟩

theorem ext_newF (hp : H p = none) : Ext G H (G.addF p) (upd H p o) :=
  let x := ext_new (G := G) (o := o) hp
  ⟨x.pre, fun _ h => .inl h, x.keep, x.tr, fun a h => by
    rcases h with h | h
    · exact .inl h
    · rw [h]; exact .inr (.inl hp), x.newM, rfl, fun _ _ => rfl, x.fz⟩
theorem go_addF (hp : H p = none) : Go G H (G.addF p) (upd H p o) :=
  ⟨fun _ _ h => h, fun _ h => .inl h, fun a u _ h => by rw [upd_ne (ne_of_none h hp)]; exact h, fun _ _ _ => rfl, fun a q h => by rw [upd_ne (ne_of_none h hp)]; exact h⟩
theorem rs_newF (r : RS K G S H) (hp : H p = none) : RS K (G.addF p) S (upd H p o) :=
  ⟨r.len, r.nd, fun a h => by
    rcases h with h | h
    · exact r.dj a h
    · rw [h]; exact r.notM hp, fun a h => by
    rcases h with h | h
    · exact trk_upd (r.tf a h)
    · rw [h]; exact ⟨_, upd_same⟩, r.mt, fun a h => by
    rcases h with h | h
    · exact r.ft a h
    · rw [h]; exact r.notT hp, fun q hq => tb_new r hp q hq, r.tu, fun k a ds e1 e2 =>
    (r.ot k a ds e1 e2).stay (go_addF hp) (fun u e => by rw [upd_ne (ne_of_none e hp)]; exact e) fun d e => by rw [upd_ne (ne_of_none e hp)]; exact e, r.jn⟩

theorem go_sta : Go G H (G.addF p) H := ⟨fun _ _ h => h, fun _ h => .inl h, fun _ _ _ h => h, fun _ _ _ => rfl, fun _ _ h => h⟩
theorem go_addO {n : Knd} (hp : H p = none) : Go G H (G.addO p n) (upd H p o) :=
  ⟨fun k a h => by
    show (G.M ++ [p])[k]? = some a
    rw [List.getElem?_append_left (List.getElem?_eq_some_iff.mp h).1]; exact h, fun _ h => h, fun a u _ h => by rw [upd_ne (ne_of_none h hp)]; exact h,
    fun k a h => if_neg (Nat.ne_of_lt (List.getElem?_eq_some_iff.mp h).1), fun a q h => by rw [upd_ne (ne_of_none h hp)]; exact h⟩
theorem rs_newO {n : Knd} {ds : List D} (r : RS K G S H) (hp : H p = none) (q : KAt K (G.addO p n) (upd H p o) n p ds) : RS K (G.addO p n) (S ++ [ds]) (upd H p o) := by
  have nm := r.notM hp
  have hf := r.notF hp
  refine ⟨by show (G.M ++ [p]).length = _; rw [List.length_append, List.length_append, r.len]; rfl, ?_, fun a h z => ?_, fun a h => trk_upd (r.tf a h), fun a h => ?_, r.ft, fun q hq => tb_new r hp q hq, r.tu, fun k a es e1 e2 => ?_, fun k hk => ?_⟩
  · show (G.M ++ [p]).Nodup
    exact nd_snoc r.nd nm
  · rcases List.mem_append.mp z with z | z
    · exact r.dj a h z
    · rw [List.mem_singleton.mp z] at h; exact hf h
  · rcases List.mem_append.mp h with h | h
    · exact r.mt a h
    · rw [List.mem_singleton.mp h]; exact r.notT hp
  · have e1 : (G.M ++ [p])[k]? = some a := e1
    show KAt K (G.addO p n) (upd H p o) (if k = G.M.length then n else G.J k) a es
    by_cases hk : k < G.M.length
    · rw [List.getElem?_append_left hk] at e1
      rw [List.getElem?_append_left (by rw [← r.len]; exact hk)] at e2
      rw [if_neg (Nat.ne_of_lt hk)]
      exact (r.ot k a es e1 e2).stay (go_addO hp) (fun u e => by rw [upd_ne (ne_of_none e hp)]; exact e) fun d e => by rw [upd_ne (ne_of_none e hp)]; exact e
    · have hk' : k = G.M.length := by
        have := (List.getElem?_eq_some_iff.mp e1).1
        rw [List.length_append, List.length_singleton] at this
        omega
      subst hk'
      rw [if_pos rfl]
      rw [List.getElem?_append_right (Nat.le_refl _)] at e1
      rw [r.len, List.getElem?_append_right (Nat.le_refl _)] at e2
      simp at e1 e2
      subst e1 e2
      exact q
  · show (if k = G.M.length then n else G.J k) = .lst
    have hk : (G.M ++ [p]).length ≤ k := hk
    rw [List.length_append, List.length_singleton] at hk
    rw [if_neg (by omega)]
    exact r.jn k (by omega)

theorem ext_newM (hp : H p = none) : Ext G H (G.addM p) (upd H p o) :=
  let x := ext_new (G := G) (o := o) hp
  ⟨⟨[p], rfl⟩, fun _ h => h, x.keep, x.tr, fun _ h => .inl h, fun a h => by
    rcases List.mem_append.mp h with h | h
    · exact .inl h
    · rw [List.mem_singleton.mp h]; exact .inr hp, rfl, fun _ _ => rfl, x.fz⟩
theorem go_addM (hp : H p = none) : Go G H (G.addM p) (upd H p o) :=
  ⟨fun k a h => by
    show (G.M ++ [p])[k]? = some a
    rw [List.getElem?_append_left (List.getElem?_eq_some_iff.mp h).1]; exact h, fun _ h => h, fun a u _ h => by rw [upd_ne (ne_of_none h hp)]; exact h, fun _ _ _ => rfl, fun a q h => by rw [upd_ne (ne_of_none h hp)]; exact h⟩
theorem RS.addM_eq (r : RS K G S H) : G.addM p = G.addO p .lst := by
  unfold Gx.addM Gx.addO
  congr 1
  funext k
  by_cases e : k = G.M.length
  · rw [if_pos e, e]; exact r.jn _ (Nat.le_refl _)
  · rw [if_neg e]
theorem RS.ls_new (r : RS K G S H) : (G.addM p).ls S.length p := by
  refine ⟨?_, r.jn _ (by rw [r.len]; exact Nat.le_refl _)⟩
  show (G.M ++ [p])[S.length]? = some p
  rw [← r.len, List.getElem?_append_right (Nat.le_refl _), Nat.sub_self]
  rfl
theorem rs_newM {ds : List D} {vs : List V} (r : RS K G S H) (hp : H p = none) (q : RDs K G H ds vs) : RS K (G.addM p) (S ++ [ds]) (upd H p (.lst vs)) := by
  have g := go_addM (G := G) (o := .lst vs) hp
  rw [r.addM_eq] at g ⊢
  exact rs_newO r hp ⟨vs, upd_same, q.go g⟩

theorem ext_write (hp : p ∈ G.M) (ht : ∃ u, H p = some u ∧ ∀ o v, u ≠ .frz o v) : Ext G H G (upd H p o) :=
  ⟨⟨[], by simp⟩, fun _ h => h, fun a u h n _ => by rw [upd_ne (fun z => n (by rw [z]; exact hp))]; exact h, fun a h => by
    by_cases e : a = p
    · subst e; rw [upd_same] at h; cases h
    · rw [upd_ne e] at h; exact h, fun _ h => .inl h, fun _ h => .inl h, rfl, fun _ _ => rfl, fun a o u h => by rw [upd_ne (fun z => by obtain ⟨u2, e2, n2⟩ := ht; rw [z, e2] at h; cases h; exact n2 _ _ rfl)]; exact h⟩
theorem go_write (r : RS K G S H) (hm : p ∈ G.M) : Go G H G (upd H p o) :=
  ⟨fun _ _ h => h, fun _ h => h, fun a u f h => by rw [upd_ne (fun z => r.dj a f (by rw [z]; exact hm))]; exact h, fun _ _ _ => rfl, fun a q h => by
    rw [upd_ne (fun z => by
      obtain ⟨u, e, m⟩ := r.trkM hm
      rw [z, e] at h; cases h
      exact m.fix (.inr ⟨_, _, rfl⟩))]
    exact h⟩
theorem rs_writeG {k : Nat} {ds : List D} (r : RS K G S H) (hk : G.M[k]? = some p) (q : Go G H G (upd H p o) → KAt K G (upd H p o) (G.J k) p ds) : RS K G (S.set k ds) (upd H p o) := by
  have hm := List.mem_of_getElem? hk
  obtain ⟨u, hu, mo⟩ := r.trkM hm
  have x : Go G H G (upd H p o) := go_write r hm
  have hl : k < S.length := by rw [← r.len]; exact (List.getElem?_eq_some_iff.mp hk).1
  refine ⟨by rw [List.length_set]; exact r.len, r.nd, r.dj, fun a f => trk_upd (r.tf a f), r.mt, r.ft, tb_mo r hu mo.fix, r.tu, fun j a es e1 e2 => ?_, r.jn⟩
  by_cases hj : k = j
  · subst hj
    rw [hk] at e1; cases e1
    rw [List.getElem?_set_self hl] at e2; cases e2
    exact q x
  · rw [List.getElem?_set_ne hj] at e2
    have ne : a ≠ p := fun z => hj (nd_ix r.nd hk (z ▸ e1))
    exact (r.ot j a es e1 e2).stay x (fun u e => by rw [upd_ne ne]; exact e) fun d e => by
      rw [upd_ne (fun (z : d = p) => by rw [z, hu] at e; cases e; exact mo.own rfl)]; exact e
theorem rs_write {k : Nat} {ds : List D} {vs : List V} (r : RS K G S H) (hk : G.ls k p) (q : RDs K G H ds vs) : RS K G (S.set k ds) (upd H p (.lst vs)) :=
  rs_writeG r hk.1 fun x => by rw [hk.2]; exact ⟨vs, upd_same, q.go x⟩
end
end DD

namespace DD
open PySem PySem.Spec PyProof.Rows L2

section
variable (K : PySem.W.Frag) (G : Gx) (H : Hp)
def OutE (Q : VK) : KD := fun d S' => ∀ (G' : Gx) (v : V) (H' : Hp), Ext G H G' H' → RS K G' S' H' → RD K G' H' d v → Q v H'
def OutT (Q : Bool → Hp → Prop) : Bool → Sto → Prop := fun b S' => ∀ (G' : Gx) (H' : Hp), Ext G H G' H' → RS K G' S' H' → Q b H'
def OutA (Q : List V → Hp → Prop) : List D → Sto → Prop := fun ds S' => ∀ (G' : Gx) (vs : List V) (H' : Hp), Ext G H G' H' → RS K G' S' H' → RDs K G' H' ds vs → Q vs H'
end
section
variable (X : Cx) (E : XD) (G : Gx) (H : Hp)
def OutR (Q : L2.St → Hp → Prop) : Rho → Sto → Prop := fun r' S' => ∀ (G' : Gx) (sg' : L2.St) (H' : Hp), Ext G H G' H' → RS X.K G' S' H' → RE X E G' H' r' sg' → Q sg' H'
def OutS (Dn : Ends) : EndD := ⟨OutR X E G H Dn.nx, OutE X.K G H Dn.rt, OutR X E G H Dn.bk, OutR X E G H Dn.ct⟩
end
def tD (X : Cx) (w : WE) (E : XD) : TE := fun sg H Q => ∃ G S r, RS X.K G S H ∧ RE X E G H r sg ∧ w E r S (OutE X.K G H Q)
def tDT (X : Cx) (w : WT) (E : XD) : TT := fun sg H Q => ∃ G S r, RS X.K G S H ∧ RE X E G H r sg ∧ w E r S (OutT X.K G H Q)
def tDA (X : Cx) (w : WA) (E : XD) : TA := fun sg H Q => ∃ G S r, RS X.K G S H ∧ RE X E G H r sg ∧ w E r S (OutA X.K G H Q)
def tDS (X : Cx) (w : WS) (E : XD) : TS := fun Dn sg H => ∃ G S r, RS X.K G S H ∧ RE X E G H r sg ∧ w E (OutS X E G H Dn) r S

def MoE (w : WE) : Prop := ∀ (E : XD) (r : Rho) (S : Sto) (Q Q' : KD), (∀ d S, Q d S → Q' d S) → w E r S Q → w E r S Q'
def MoT (w : WT) : Prop := ∀ (E : XD) (r : Rho) (S : Sto) (Q Q' : Bool → Sto → Prop), (∀ d S, Q d S → Q' d S) → w E r S Q → w E r S Q'
def MoA (w : WA) : Prop := ∀ (E : XD) (r : Rho) (S : Sto) (Q Q' : List D → Sto → Prop), (∀ d S, Q d S → Q' d S) → w E r S Q → w E r S Q'
structure LeS (A B : EndD) : Prop where
  nx : ∀ r S, A.nx r S → B.nx r S
  rt : ∀ d S, A.rt d S → B.rt d S
  bk : ∀ r S, A.bk r S → B.bk r S
  ct : ∀ r S, A.ct r S → B.ct r S
theorem LeS.refl (A : EndD) : LeS A A := ⟨fun _ _ h => h, fun _ _ h => h, fun _ _ h => h, fun _ _ h => h⟩
def MoS (w : WS) : Prop := ∀ (E : XD) (A B : EndD) (r : Rho) (S : Sto), LeS A B → w E A r S → w E B r S
def MoG (g : GF) : Prop := ∀ (ds : List D) (E : XD) (S : Sto) (Q Q' : KD), (∀ d S, Q d S → Q' d S) → g ds E S Q → g ds E S Q'
structure DE (X : Cx) (e : Expr) (w : WE) : Prop where
  mo : MoE w
  pe : ∀ E, PE X e (tD X w E)
structure DT (X : Cx) (e : Expr) (w : WT) : Prop where
  mo : MoT w
  pe : ∀ E, PT X e (tDT X w E)
structure DW (X : Cx) (e : Expr) (w : WT) : Prop where
  mo : MoT w
  pe : ∀ E, PW X e (tDT X w E)
structure DA (X : Cx) (es : List Expr) (w : WA) : Prop where
  mo : MoA w
  pe : ∀ E, PA X es (tDA X w E)
structure DS (X : Cx) (st : Stmt) (w : WS) : Prop where
  mo : MoS w
  pe : ∀ E, PS X st (tDS X w E)
structure DSs (X : Cx) (st : List Stmt) (w : WS) : Prop where
  mo : MoS w
  pe : ∀ E, PSs X st (tDS X w E)

section
variable {X : Cx} {e : Expr}
theorem PE.wk {t t' : TE} (h : PE X e t) (k : ∀ sg H Q, t' sg H Q → t sg H Q) : PE X e t' := fun pins s sg H Q I q => h pins s sg H Q I (k _ _ _ q)
theorem PT.wk {t t' : TT} (h : PT X e t) (k : ∀ sg H Q, t' sg H Q → t sg H Q) : PT X e t' := fun pins s sg H Q I q => h pins s sg H Q I (k _ _ _ q)
theorem PW.wk {t t' : TT} (h : PW X e t) (k : ∀ sg H Q, t' sg H Q → t sg H Q) : PW X e t' := fun wh pins s sg H Q I q => h wh pins s sg H Q I (k _ _ _ q)
theorem PA.wk {es : List Expr} {t t' : TA} (h : PA X es t) (k : ∀ sg H Q, t' sg H Q → t sg H Q) : PA X es t' := fun pos pins s sg H Q I q => h pos pins s sg H Q I (k _ _ _ q)
theorem PS.wk {st : Stmt} {t t' : TS} (h : PS X st t) (k : ∀ Dn sg H, t' Dn sg H → t Dn sg H) : PS X st t' := fun pins s sg H Dn I q => h pins s sg H Dn I (k _ _ _ q)
theorem PSs.wk {st : List Stmt} {t t' : TS} (h : PSs X st t) (k : ∀ Dn sg H, t' Dn sg H → t Dn sg H) : PSs X st t' := fun pins s sg H Dn I q => h pins s sg H Dn I (k _ _ _ q)
end


section
variable {K : PySem.W.Frag} {G G' : Gx} {H H' : Hp} {S : Sto} {r : Rho} {sg : L2.St}
theorem OutE.of {Q : VK} {d : D} (x : Ext G H G' H') (h : OutE K G H Q d S) : OutE K G' H' Q d S := fun G2 v H2 y => h G2 v H2 (x.trans y)
theorem OutT.of {Q : Bool → Hp → Prop} {d : Bool} (x : Ext G H G' H') (h : OutT K G H Q d S) : OutT K G' H' Q d S := fun G2 H2 y => h G2 H2 (x.trans y)
theorem OutA.of {Q : List V → Hp → Prop} {d : List D} (x : Ext G H G' H') (h : OutA K G H Q d S) : OutA K G' H' Q d S := fun G2 v H2 y => h G2 v H2 (x.trans y)
theorem OutR.of {X : Cx} {E : XD} {Q : L2.St → Hp → Prop} (x : Ext G H G' H') (h : OutR X E G H Q r S) : OutR X E G' H' Q r S := fun G2 v H2 y => h G2 v H2 (x.trans y)
theorem OutS.of {X : Cx} {E : XD} {Dn : Ends} (x : Ext G H G' H') : LeS (OutS X E G H Dn) (OutS X E G' H' Dn) := ⟨fun _ _ h => OutR.of x h, fun _ _ h => OutE.of x h, fun _ _ h => OutR.of x h, fun _ _ h => OutR.of x h⟩

theorem DE.next {X : Cx} {e : Expr} {w : WE} {E : XD} (h : DE X e w) (rs : RS X.K G S H) (re : RE X E G H r sg) {P : KD} {Q : VK} (q : w E r S P)
    (k : ∀ d S1 G1 v H1, Ext G H G1 H1 → RS X.K G1 S1 H1 → RE X E G1 H1 r sg → RD X.K G1 H1 d v → P d S1 → Q v H1) : tD X w E sg H Q :=
  ⟨G, S, r, rs, re, h.mo _ _ _ _ _ (fun d S1 p G1 v H1 x1 rs1 rd1 => k d S1 G1 v H1 x1 rs1 (re.ext rs x1) rd1 p) q⟩
theorem DT.next {X : Cx} {e : Expr} {w : WT} {E : XD} (mo : MoT w) (rs : RS X.K G S H) (re : RE X E G H r sg) {P : Bool → Sto → Prop} {Q : Bool → Hp → Prop} (q : w E r S P)
    (k : ∀ d S1 G1 H1, Ext G H G1 H1 → RS X.K G1 S1 H1 → RE X E G1 H1 r sg → P d S1 → Q d H1) : tDT X w E sg H Q :=
  ⟨G, S, r, rs, re, mo _ _ _ _ _ (fun d S1 p G1 H1 x1 rs1 => k d S1 G1 H1 x1 rs1 (re.ext rs x1) p) q⟩
theorem DA.next {X : Cx} {es : List Expr} {w : WA} {E : XD} (h : DA X es w) (rs : RS X.K G S H) (re : RE X E G H r sg) {P : List D → Sto → Prop} {Q : List V → Hp → Prop} (q : w E r S P)
    (k : ∀ ds S1 G1 vs H1, Ext G H G1 H1 → RS X.K G1 S1 H1 → RE X E G1 H1 r sg → RDs X.K G1 H1 ds vs → P ds S1 → Q vs H1) : tDA X w E sg H Q :=
  ⟨G, S, r, rs, re, h.mo _ _ _ _ _ (fun d S1 p G1 v H1 x1 rs1 rd1 => k d S1 G1 v H1 x1 rs1 (re.ext rs x1) rd1 p) q⟩
end


section
variable {X : Cx} {pos : Pos} {j : Option Str}
def wVar (i : Nat) : WE := fun _ r S Q => match r.getD i none with | some d => Q d S | none => False
theorem getD_some {r : Rho} {i : Nat} {d : D} (h : r.getD i none = some d) : r[i]? = some (some d) := by
  rw [List.getD_eq_getElem?_getD] at h
  cases e : r[i]? with
  | none => rw [e] at h; cases h
  | some o => rw [e] at h; have h : o = some d := h; rw [h]
theorem de_var (i : Nat) {x : Str} (hN : X.N[i]? = some x := by rfl) (hv : Vis X.env.scope x := by first | exact Or.inl rfl | exact Or.inr (Or.inl rfl) | exact Or.inr (Or.inr rfl)) (hd : (x == ("__debug__" : Str)) = false := by decide)
    (hcd : (x == ("__classdict__" : Str)) = false := by decide) : DE X (.Name x pos) (wVar i) := by
  refine ⟨fun E r S Q Q' k h => ?_, fun E => PE.wk (pe_var hN hv hd hcd) fun sg H Q h => ?_⟩
  · unfold wVar at h ⊢
    cases e : r.getD i none with
    | none => rw [e] at h; exact h
    | some d => rw [e] at h; exact k _ _ h
  · obtain ⟨G, S, r, rs, re, h⟩ := h
    unfold wVar at h
    cases e : r.getD i none with
    | none => rw [e] at h; exact h.elim
    | some d =>
      rw [e] at h
      obtain ⟨v, e1, q⟩ := re.2 i d (getD_some e)
      exact ⟨v, e1, h G v H (Ext.refl _ _) rs q⟩
def wC (d : D) : WE := fun _ _ S Q => Q d S
theorem de_c {e : Expr} {d : D} {v : V} (h : PE X e (tC v)) (q : ∀ G H, RD X.K G H d v) : DE X e (wC d) := by
  refine ⟨fun E r S Q Q' k h => k _ _ h, fun E => PE.wk h fun sg H Q h => ?_⟩
  obtain ⟨G, S, r, rs, re, h⟩ := h
  exact h G v H (Ext.refl _ _) rs (q _ _)
theorem de_int {i j pos} : DE X (.Constant (.int i) j pos) (wC (.int i)) := de_c pe_int fun _ _ => .int i
theorem de_bl {i j pos} : DE X (.Constant (.bool i) j pos) (wC (.bl i)) := de_c pe_bl fun _ _ => .bl i
theorem de_non {j pos} : DE X (.Constant .none j pos) (wC .non) := de_c pe_non fun _ _ => .non
theorem de_str {x j pos} : DE X (.Constant (.str x) j pos) (wC (.str x)) := de_c pe_str fun _ _ => .str x
theorem de_ty {x : Str} {n : String} {pos : Pos} (hg : Gl X x) (hm : X.mg x = none) (hv : bootBuiltins x = some (.type n)) (hn : x ≠ "__name__" := by decide) (hd : (x == ("__debug__" : Str)) = false := by decide) : DE X (.Name x pos) (wC (.ty n)) :=
  de_c (pe_bltn (v := .ty n) hg hm hv rfl hn hd) fun _ _ => .ty n
end


abbrev RD2 := D → D → Sto → KD → Prop
def wOp (rd : RD2) (wa wb : WE) : WE := fun E r S Q => wa E r S fun x S1 => wb E r S1 fun y S2 => rd x y S2 Q
structure OpD (K : PySem.W.Frag) (r : R2) (rd : RD2) : Prop where
  mo : ∀ x y S (Q Q' : KD), (∀ d S, Q d S → Q' d S) → rd x y S Q → rd x y S Q'
  ok : ∀ G S H x y v u Q, RS K G S H → RD K G H x v → RD K G H y u → rd x y S (OutE K G H Q) → r v u H Q
section
variable {X : Cx} {a b : Expr} {pos : Pos} {wa wb : WE}
theorem mo_op {rd : RD2} (hr : ∀ x y S (Q Q' : KD), (∀ d S, Q d S → Q' d S) → rd x y S Q → rd x y S Q') (ha : MoE wa) (hb : MoE wb) : MoE (wOp rd wa wb) := fun E r S Q Q' k h =>
  ha _ _ _ _ _ (fun x S1 h1 => hb _ _ _ _ _ (fun y S2 h2 => hr _ _ _ _ _ k h2) h1) h
theorem op_read {r : R2} {rd : RD2} (hr : OpD X.K r rd) (ha : DE X a wa) (hb : DE X b wb) {E : XD} {sg : L2.St} {H : Hp} {Q : VK} (h : tD X (wOp rd wa wb) E sg H Q) : tOp r (tD X wa E) (tD X wb E) sg H Q := by
  obtain ⟨G, S, rr, rs, re, h⟩ := h
  refine ha.next rs re h fun x S1 G1 v H1 x1 rs1 re1 rd1 h1 => ?_
  refine hb.next rs1 re1 h1 fun y S2 G2 u H2 x2 rs2 re2 rd2 h2 => ?_
  exact hr.ok G2 S2 H2 x y v u Q rs2 (rd1.go (rs1.go x2)) rd2 (hr.mo _ _ _ _ _ (fun d S3 q => OutE.of (x1.trans x2) q) h2)
theorem de_op {op : Operator} {r : R2} {rd : RD2} (ho : OpR X (binaryOp op) r) (hr : OpD X.K r rd) (ha : DE X a wa) (hb : DE X b wb) : DE X (.BinOp a op b pos) (wOp rd wa wb) :=
  ⟨mo_op hr.mo ha.mo hb.mo, fun E => PE.wk (pe_op ho (ha.pe E) (hb.pe E)) fun sg H Q h => op_read hr ha hb h⟩
theorem de_cmp {op : CmpOp} {r : R2} {rd : RD2} (ho : OpR X (compareOp op) r) (hr : OpD X.K r rd) (ha : DE X a wa) (hb : DE X b wb) (hm : behindInMarks op b = false) : DE X (.Compare a [op] [b] pos) (wOp rd wa wb) :=
  ⟨mo_op hr.mo ha.mo hb.mo, fun E => PE.wk (pe_cmpR ho (ha.pe E) (hb.pe E) hm) fun sg H Q h => op_read hr ha hb h⟩
def wB (w : WE) : WT := fun E r S Q => w E r S fun d S1 => match d with | .bl c => Q c S1 | _ => False
theorem mo_B {w : WE} (h : MoE w) : MoT (wB w) := fun E r S Q Q' k q => h _ _ _ _ _ (fun d S1 q1 => by
  cases d <;> first | exact q1.elim | exact k _ _ q1) q
theorem B_read {w : WE} {t : TE} (mo : MoE w) {E : XD} {sg : L2.St} {H : Hp} {Q : Bool → Hp → Prop} (k : ∀ Q, tD X w E sg H Q → t sg H Q) (h : tDT X (wB w) E sg H Q) : t sg H (fun x H1 => ∃ c, x = .bl c ∧ Q c H1) := by
  obtain ⟨G, S, rr, rs, re, h⟩ := h
  refine k _ ⟨G, S, rr, rs, re, mo _ _ _ _ _ (fun d S1 q G1 v H1 x1 rs1 rd1 => ?_) h⟩
  cases d <;> first | exact q.elim | skip
  cases rd1
  exact ⟨_, rfl, q G1 H1 x1 rs1⟩
theorem dt_cmp {op : CmpOp} {r : R2} {rd : RD2} (ho : OpR X (compareOp op) r) (hr : OpD X.K r rd) (ha : DE X a wa) (hb : DE X b wb) (hm : behindInMarks op b = false) : DT X (.Compare a [op] [b] pos) (wB (wOp rd wa wb)) :=
  ⟨mo_B (mo_op hr.mo ha.mo hb.mo), fun E => PT.wk (pt_cmpR ho (ha.pe E) (hb.pe E) hm) fun sg H Q h => B_read (mo_op hr.mo ha.mo hb.mo) (fun Q h => op_read hr ha hb h) h⟩
theorem dt_val {e : Expr} {w : WE} (h : DE X e w) (he : ∀ whole, isTrue e X.env whole = (do let v ← whole; standAt e.pos; holding [v] (truthy v)) := by intro _; rfl) : DT X e (wB w) :=
  ⟨mo_B h.mo, fun E => PT.wk (pt_val (h.pe E) he) fun sg H Q q => B_read h.mo (fun _ z => z) q⟩
end
def dI (C : Int → Int → Prop) (f : Int → Int → D) : RD2 := fun x y S Q => match x, y with | .int i, .int j => C i j ∧ Q (f i j) S | _, _ => False
def dI0 (f : Int → Int → D) : RD2 := fun x y S Q => match x, y with | .int i, .int j => Q (f i j) S | _, _ => False
theorem dI_ok {K : PySem.W.Frag} {C : Int → Int → Prop} {f : Int → Int → D} {g : Int → Int → V} (hf : ∀ G H i j, RD K G H (f i j) (g i j)) : OpD K (rI C g) (dI C f) := by
  refine ⟨fun x y S Q Q' k h => ?_, fun G S H x y v u Q rs rx ry h => ?_⟩
  · cases x <;> first | exact h.elim | skip
    cases y <;> first | exact h.elim | skip
    exact ⟨h.1, k _ _ h.2⟩
  · cases x <;> first | exact h.elim | skip
    cases y <;> first | exact h.elim | skip
    cases rx
    cases ry
    exact ⟨_, _, rfl, rfl, h.1, h.2 G _ H (Ext.refl _ _) rs (hf _ _ _ _)⟩
theorem dI0_ok {K : PySem.W.Frag} {f : Int → Int → D} {g : Int → Int → V} (hf : ∀ G H i j, RD K G H (f i j) (g i j)) : OpD K (rI0 g) (dI0 f) := by
  refine ⟨fun x y S Q Q' k h => ?_, fun G S H x y v u Q rs rx ry h => ?_⟩
  · cases x <;> first | exact h.elim | skip
    cases y <;> first | exact h.elim | skip
    exact k _ _ h
  · cases x <;> first | exact h.elim | skip
    cases y <;> first | exact h.elim | skip
    cases rx
    cases ry
    exact ⟨_, _, rfl, rfl, h G _ H (Ext.refl _ _) rs (hf _ _ _ _)⟩


def Sm (i : Int) : Prop := i.natAbs < 2 ^ 4000
theorem Sm.log2 {i : Int} (h : Sm i) : i.natAbs.log2 < 9000 := by
  rcases Nat.eq_zero_or_pos i.natAbs with h0 | hp
  · rw [h0]; decide
  · exact Nat.lt_of_lt_of_le ((Nat.log2_lt (Nat.ne_of_gt hp)).mpr h) (by decide)
theorem Sm.bits {i : Int} (h : Sm i) : Builtin.Int.intBits i ≤ 2 ^ 20 := by
  unfold Builtin.Int.intBits
  split
  · exact Nat.zero_le _
  · rename_i hn
    rcases Nat.eq_zero_or_pos i.natAbs with h0 | hp
    · rw [h0]; decide
    · have := (Nat.log2_lt (Nat.ne_of_gt hp)).mpr h
      omega
section
variable {X : Cx} {a b : Expr} {pos : Pos} {wa wb : WE}
def CDv (i j : Int) : Prop := 0 < j ∧ Sm j
def CMl (i j : Int) : Prop := Sm i ∧ Sm j
theorem op_mulS : OpR X (binaryOp .Mult) (rI CMl fun i j => .int (i * j)) := opI fun _ _ _ _ _ _ _ hc q => mul_int q (IntMulOk.of_bits hc.1.bits hc.2.bits)
theorem op_fdivS : OpR X (binaryOp .FloorDiv) (rI CDv fun i j => .int (i / j)) := opI fun i j _ _ _ _ _ hc q => by
  have h1 : (0 : Int) < j := hc.1
  exact floordiv_int (by omega) (by rw [Int.fdiv_eq_ediv_of_nonneg i (by omega)]; exact q) (.inl (PyProof.noPylong_of_log2 hc.2.log2))
theorem de_add (ha : DE X a wa) (hb : DE X b wb) : DE X (.BinOp a .Add b pos) (wOp (dI0 fun i j => .int (i + j)) wa wb) := de_op op_add (dI0_ok fun _ _ _ _ => .int _) ha hb
theorem de_sub (ha : DE X a wa) (hb : DE X b wb) : DE X (.BinOp a .Sub b pos) (wOp (dI0 fun i j => .int (i - j)) wa wb) := de_op op_sub (dI0_ok fun _ _ _ _ => .int _) ha hb
theorem de_mul (ha : DE X a wa) (hb : DE X b wb) : DE X (.BinOp a .Mult b pos) (wOp (dI CMl fun i j => .int (i * j)) wa wb) := de_op op_mulS (dI_ok fun _ _ _ _ => .int _) ha hb
theorem de_fdiv (ha : DE X a wa) (hb : DE X b wb) : DE X (.BinOp a .FloorDiv b pos) (wOp (dI CDv fun i j => .int (i / j)) wa wb) := de_op op_fdivS (dI_ok fun _ _ _ _ => .int _) ha hb
theorem de_mod (ha : DE X a wa) (hb : DE X b wb) : DE X (.BinOp a .Mod b pos) (wOp (dI (fun _ j => 0 < j) fun i j => .int (i % j)) wa wb) := de_op op_mod (dI_ok fun _ _ _ _ => .int _) ha hb
theorem de_pow (ha : DE X a wa) (hb : DE X b wb) : DE X (.BinOp a .Pow b pos) (wOp (dI CPow fun i j => .int (i ^ j.toNat)) wa wb) := de_op op_pow (dI_ok fun _ _ _ _ => .int _) ha hb
theorem de_lt (ha : DE X a wa) (hb : DE X b wb) : DE X (.Compare a [.Lt] [b] pos) (wOp (dI0 fun i j => .bl (decide (i < j))) wa wb) := de_cmp op_lt (dI0_ok fun _ _ _ _ => .bl _) ha hb (nomark _)
theorem de_le (ha : DE X a wa) (hb : DE X b wb) : DE X (.Compare a [.LtE] [b] pos) (wOp (dI0 fun i j => .bl (decide (i ≤ j))) wa wb) := de_cmp op_le (dI0_ok fun _ _ _ _ => .bl _) ha hb (nomark _)
theorem de_gt (ha : DE X a wa) (hb : DE X b wb) : DE X (.Compare a [.Gt] [b] pos) (wOp (dI0 fun i j => .bl (decide (j < i))) wa wb) := de_cmp op_gt (dI0_ok fun _ _ _ _ => .bl _) ha hb (nomark _)
theorem de_ge (ha : DE X a wa) (hb : DE X b wb) : DE X (.Compare a [.GtE] [b] pos) (wOp (dI0 fun i j => .bl (decide (j ≤ i))) wa wb) := de_cmp op_ge (dI0_ok fun _ _ _ _ => .bl _) ha hb (nomark _)
theorem dt_lt (ha : DE X a wa) (hb : DE X b wb) : DT X (.Compare a [.Lt] [b] pos) (wB (wOp (dI0 fun i j => .bl (decide (i < j))) wa wb)) := dt_cmp op_lt (dI0_ok fun _ _ _ _ => .bl _) ha hb (nomark _)
theorem dt_le (ha : DE X a wa) (hb : DE X b wb) : DT X (.Compare a [.LtE] [b] pos) (wB (wOp (dI0 fun i j => .bl (decide (i ≤ j))) wa wb)) := dt_cmp op_le (dI0_ok fun _ _ _ _ => .bl _) ha hb (nomark _)
theorem dt_gt (ha : DE X a wa) (hb : DE X b wb) : DT X (.Compare a [.Gt] [b] pos) (wB (wOp (dI0 fun i j => .bl (decide (j < i))) wa wb)) := dt_cmp op_gt (dI0_ok fun _ _ _ _ => .bl _) ha hb (nomark _)
end


def consO {al : Type} (x : al) : Option (List al) → Option (List al)
  | some y => some (x :: y)
  | none => none
def seqO {al : Type} : List (Option al) → Option (List al)
  | [] => some []
  | none :: _ => none
  | some x :: r => consO x (seqO r)
def pyd (S : Sto) : Nat → D → Option PyData
  | 0, _ => none
  | n + 1, d => match d with
    | .non => some .none
    | .bl b => some (.bool b)
    | .int i => some (.int i)
    | .str x => some (.str x)
    | .tup ds => (seqO (ds.map (pyd S n))).map .tuple
    | .lv ds => (seqO (ds.map (pyd S n))).map .list
    | .lst k => match S[k]? with | some ds => (seqO (ds.map (pyd S n))).map .list | none => none
    | .sv _ => none
    | .ty _ => none
    | .ob _ => none
    | .ex _ => none
    | _ => none
section
variable {K : PySem.W.Frag} {G : Gx} {S : Sto} {H : Hp}
theorem pyds_ok {f : D → Option PyData} (hf : ∀ d v p, RD K G H d v → f d = some p → Dp K H v p) : ∀ {ds : List D} {vs : List V} {ps : List PyData}, RDs K G H ds vs → seqO (ds.map f) = some ps → DpAll K H vs ps
  | _, _, ps, .nil, e => by
    have e : some ([] : List PyData) = some ps := e
    cases e
    exact .nil
  | d :: ds, v :: vs, ps, .cons q t, e => by
    have e : seqO (f d :: ds.map f) = some ps := e
    cases e1 : f d with
    | none => rw [e1] at e; cases e
    | some p =>
      rw [e1] at e
      cases e2 : seqO (ds.map f) with
      | none =>
        have e : consO p (seqO (ds.map f)) = some ps := e
        rw [e2] at e; cases e
      | some qs =>
        have e : consO p (seqO (ds.map f)) = some ps := e
        rw [e2] at e
        cases e
        exact .cons (hf d v p q e1) (pyds_ok hf t e2)
theorem pyd_ok (rs : RS K G S H) : ∀ (n : Nat) (d : D) (v : V) (p : PyData), RD K G H d v → pyd S n d = some p → Dp K H v p
  | 0, _, _, _, _, e => by cases e
  | n + 1, d, v, p, q, e => by
    cases q with
    | non => cases e; exact .non
    | bl b => cases e; exact .bl b
    | int b => cases e; exact .int b
    | str b => cases e; exact .str b
    | ty b => cases e
    | ob b => cases e
    | ex _ _ _ => cases e
    | cl _ => cases e
    | dc _ _ => cases e
    | dv _ _ _ _ => cases e
    | dm _ _ => cases e
    | ins _ _ => cases e
    | lam _ => cases e
    | sv _ _ => cases e
    | @tup a ds vs h t =>
      have e : (seqO (ds.map (pyd S n))).map PyData.tuple = some p := e
      cases e2 : seqO (ds.map (pyd S n)) with
      | none => rw [e2] at e; cases e
      | some qs =>
        rw [e2] at e; cases e
        exact .tup h.sq (pyds_ok (pyd_ok rs n) t e2)
    | @lv a ds vs h t =>
      have e : (seqO (ds.map (pyd S n))).map PyData.list = some p := e
      cases e2 : seqO (ds.map (pyd S n)) with
      | none => rw [e2] at e; cases e
      | some qs =>
        rw [e2] at e; cases e
        exact .lst h.sq (pyds_ok (pyd_ok rs n) t e2)
    | @lst k a h =>
      have e : (match S[k]? with | some ds => (seqO (ds.map (pyd S n))).map PyData.list | none => none) = some p := e
      cases e1 : S[k]? with
      | none => rw [e1] at e; cases e
      | some ds =>
        rw [e1] at e
        obtain ⟨vs, e3, t⟩ := rs.at_ k a ds h e1
        have e : (seqO (ds.map (pyd S n))).map PyData.list = some p := e
        cases e2 : seqO (ds.map (pyd S n)) with
        | none => rw [e2] at e; cases e
        | some qs =>
          rw [e2] at e; cases e
          exact .lst (.of e3) (pyds_ok (pyd_ok rs n) t e2)
end
def dEq (ng : Bool) : RD2 := fun x y S Q => ∃ p q, pyd S 8 x = some p ∧ pyd S 8 y = some q ∧ SeqAt.shaped p = true ∧ SeqAt.shaped q = true ∧ Q (.bl (ng ^^ PyData.eqv p q)) S
theorem dEq_ok {K : PySem.W.Frag} : OpD K (rEqD K) (dEq false) := by
  refine ⟨fun x y S Q Q' k ⟨p, q, h1, h2, h3, h4, h⟩ => ⟨p, q, h1, h2, h3, h4, k _ _ h⟩, fun G S H x y v u Q rs rx ry ⟨p, q, h1, h2, h3, h4, h⟩ => ?_⟩
  refine ⟨p, q, pyd_ok rs 8 x v p rx h1, pyd_ok rs 8 y u q ry h2, h3, h4, ?_⟩
  have z := h G _ H (Ext.refl _ _) rs (.bl _)
  rw [Bool.false_xor] at z
  exact z
theorem dNe_ok {K : PySem.W.Frag} : OpD K (rNeD K) (dEq true) := by
  refine ⟨fun x y S Q Q' k ⟨p, q, h1, h2, h3, h4, h⟩ => ⟨p, q, h1, h2, h3, h4, k _ _ h⟩, fun G S H x y v u Q rs rx ry ⟨p, q, h1, h2, h3, h4, h⟩ => ?_⟩
  refine ⟨p, q, pyd_ok rs 8 x v p rx h1, pyd_ok rs 8 y u q ry h2, h3, h4, ?_⟩
  have z := h G _ H (Ext.refl _ _) rs (.bl _)
  rw [Bool.true_xor] at z
  exact z
section
variable {X : Cx} {a b : Expr} {pos : Pos} {wa wb : WE}
theorem dt_eq (hu : X.A.units + 64 < cLine) (ha : DE X a wa) (hb : DE X b wb) : DT X (.Compare a [.Eq] [b] pos) (wB (wOp (dEq false) wa wb)) := dt_cmp (op_eqD hu) dEq_ok ha hb (nomark _)
theorem dt_ne (hu : X.A.units + 64 < cLine) (ha : DE X a wa) (hb : DE X b wb) : DT X (.Compare a [.NotEq] [b] pos) (wB (wOp (dEq true) wa wb)) := dt_cmp (op_neD hu) dNe_ok ha hb (nomark _)
def rEqI (ng : Bool) : R2 := rI0 fun i j => .bl (ng ^^ decide (i = j))
theorem op_eqI : OpR X (compareOp .Eq) (rEqI false) := opB0 fun i j _ _ _ _ _ q => eq_int (by rw [Bool.beq_eq_decide_eq]; rw [Bool.false_xor] at q; exact q)
theorem op_neI : OpR X (compareOp .NotEq) (rEqI true) := opB0 fun i j _ _ _ _ _ q => ne_int (by rw [bne, Bool.beq_eq_decide_eq]; rw [Bool.true_xor] at q; exact q)
theorem de_eqI (ha : DE X a wa) (hb : DE X b wb) : DE X (.Compare a [.Eq] [b] pos) (wOp (dI0 fun i j => .bl (false ^^ decide (i = j))) wa wb) := de_cmp op_eqI (dI0_ok fun _ _ _ _ => .bl _) ha hb (nomark _)
theorem dt_neI (ha : DE X a wa) (hb : DE X b wb) : DT X (.Compare a [.NotEq] [b] pos) (wB (wOp (dI0 fun i j => .bl (true ^^ decide (i = j))) wa wb)) := dt_cmp op_neI (dI0_ok fun _ _ _ _ => .bl _) ha hb (nomark _)
end


section
variable {X : Cx} {a b c : Expr} {rest : List Expr} {pos : Pos} {wa wb : WE} {ua ub : WT}
def wOrT (u v : WT) : WT := fun E r S Q => u E r S fun c S1 => if c = true then Q true S1 else v E r S1 Q
def wNotT (u : WT) : WT := fun E r S Q => u E r S fun c S1 => Q (!c) S1
theorem dw_one {op} (h : DT X a ua) : DW X (.BoolOp op [a] pos) ua := ⟨h.mo, fun E => by
  cases op
  · exact pw_and1 (h.pe E)
  · exact pw_or1 (h.pe E)⟩
theorem dw_or (ha : DT X a ua) (hb : DW X (.BoolOp .Or (b :: rest) pos) ub) : DW X (.BoolOp .Or (a :: b :: rest) pos) (wOrT ua ub) := by
  refine ⟨fun E r S Q Q' k h => ha.mo _ _ _ _ _ (fun c S1 h1 => ?_) h, fun E => PW.wk (pw_or (ha.pe E) (hb.pe E)) fun sg H Q h => ?_⟩
  · cases c
    · exact iteF (hb.mo _ _ _ _ _ k (by simpa using h1))
    · exact iteT (k _ _ (by simpa using h1))
  · obtain ⟨G, S, r, rs, re, h⟩ := h
    refine DT.next (e := a) ha.mo rs re h fun c S1 G1 H1 x1 rs1 re1 h1 => ?_
    cases c
    · exact iteF ⟨G1, S1, r, rs1, re1, hb.mo _ _ _ _ _ (fun d S2 q => OutT.of x1 q) (by simpa using h1)⟩
    · exact iteT ((show OutT X.K G H Q true S1 by simpa using h1) G1 H1 x1 rs1)
theorem DW.dt {w : WT} (h : DW X a w) : DT X a w := ⟨h.mo, fun E => (h.pe E).pt⟩
theorem dt_not (ha : DT X a ua) : DT X (.UnaryOp .Not a pos) (wNotT ua) := by
  refine ⟨fun E r S Q Q' k h => ha.mo _ _ _ _ _ (fun c S1 h1 => k _ _ h1) h, fun E => PT.wk (pt_not (ha.pe E)) fun sg H Q h => ?_⟩
  obtain ⟨G, S, r, rs, re, h⟩ := h
  exact DT.next (e := a) ha.mo rs re h fun c S1 G1 H1 x1 rs1 re1 h1 => h1 G1 H1 x1 rs1
def wAndV (wa wb : WE) : WE := fun E r S Q => wB wa E r S fun c S1 => if c = true then wb E r S1 Q else Q (.bl false) S1
def wNotV (wa : WE) : WE := fun E r S Q => wB wa E r S fun c S1 => Q (.bl (!c)) S1
theorem de_one {op} (h : DE X a wa) : DE X (.BoolOp op [a] pos) wa := ⟨h.mo, fun E => pe_one (h.pe E)⟩
theorem B_next {w : WE} {E : XD} {G : Gx} {H : Hp} {S : Sto} {r : Rho} {sg : L2.St} (h : DE X a w) (rs : RS X.K G S H) (re : RE X E G H r sg) {P : Bool → Sto → Prop} {Q : Bool → Hp → Prop} (q : wB w E r S P)
    (k : ∀ d S1 G1 H1, Ext G H G1 H1 → RS X.K G1 S1 H1 → RE X E G1 H1 r sg → P d S1 → Q d H1) : tD X w E sg H (fun x H1 => ∃ c, x = .bl c ∧ Q c H1) := by
  refine h.next rs re q fun d S1 G1 v H1 x1 rs1 re1 rd1 p => ?_
  cases d <;> first | exact p.elim | skip
  cases rd1
  exact ⟨_, rfl, k _ S1 G1 H1 x1 rs1 re1 p⟩
theorem de_and (ha : DE X a wa) (hb : DE X (.BoolOp .And (b :: rest) pos) wb) : DE X (.BoolOp .And (a :: b :: rest) pos) (wAndV wa wb) := by
  refine ⟨fun E r S Q Q' k h => mo_B ha.mo _ _ _ _ _ (fun c S1 h1 => ?_) h, fun E => PE.wk (pe_and (ha.pe E) (hb.pe E)) fun sg H Q h => ?_⟩
  · cases c
    · exact iteF (k _ _ (by simpa using h1))
    · exact iteT (hb.mo _ _ _ _ _ k (by simpa using h1))
  · obtain ⟨G, S, r, rs, re, h⟩ := h
    refine B_next ha rs re h fun c S1 G1 H1 x1 rs1 re1 h1 => ?_
    cases c
    · exact iteF ((show OutE X.K G H Q (.bl false) S1 by simpa using h1) G1 _ H1 x1 rs1 (.bl _))
    · exact iteT ⟨G1, S1, r, rs1, re1, hb.mo _ _ _ _ _ (fun d S2 q => OutE.of x1 q) (by simpa using h1)⟩
theorem de_not (ha : DE X a wa) : DE X (.UnaryOp .Not a pos) (wNotV wa) := by
  refine ⟨fun E r S Q Q' k h => mo_B ha.mo _ _ _ _ _ (fun c S1 h1 => k _ _ h1) h, fun E => PE.wk (pe_not (ha.pe E)) fun sg H Q h => ?_⟩
  obtain ⟨G, S, r, rs, re, h⟩ := h
  exact B_next ha rs re h fun c S1 G1 H1 x1 rs1 re1 h1 => h1 G1 _ H1 x1 rs1 (.bl _)
def wIfE (u : WT) (wa wb : WE) : WE := fun E r S Q => u E r S fun c S1 => if c = true then wa E r S1 Q else wb E r S1 Q
theorem de_if (hc : DT X c ua) (ha : DE X a wa) (hb : DE X b wb) : DE X (.IfExp c a b pos) (wIfE ua wa wb) := by
  refine ⟨fun E r S Q Q' k h => hc.mo _ _ _ _ _ (fun c S1 h1 => ?_) h, fun E => PE.wk (pe_ifExp (hc.pe E) (ha.pe E) (hb.pe E)) fun sg H Q h => ?_⟩
  · cases c
    · exact iteF (hb.mo _ _ _ _ _ k (by simpa using h1))
    · exact iteT (ha.mo _ _ _ _ _ k (by simpa using h1))
  · obtain ⟨G, S, r, rs, re, h⟩ := h
    refine DT.next (e := c) hc.mo rs re h fun c S1 G1 H1 x1 rs1 re1 h1 => ?_
    cases c
    · exact iteF ⟨G1, S1, r, rs1, re1, hb.mo _ _ _ _ _ (fun d S2 q => OutE.of x1 q) (by simpa using h1)⟩
    · exact iteT ⟨G1, S1, r, rs1, re1, ha.mo _ _ _ _ _ (fun d S2 q => OutE.of x1 q) (by simpa using h1)⟩
end
end DD

namespace DD
open PySem PySem.Spec PyProof.Rows L2


def wNil : WA := fun _ _ S Q => Q [] S
def wCons (w : WE) (u : WA) : WA := fun E r S Q => w E r S fun d S1 => u E r S1 fun ds S2 => Q (d :: ds) S2
theorem le1000 {n : Nat} (h : n ≤ 1000) : n ≤ sizeLine := Nat.le_of_lt (small1000 h)
section
variable {X : Cx} {e : Expr} {es : List Expr} {we : WE} {wa : WA} {pos : Pos}
theorem da_nil : DA X [] wNil := by
  refine ⟨fun E r S Q Q' k h => k _ _ h, fun E => PA.wk pa_nil fun sg H Q h => ?_⟩
  obtain ⟨G, S, r, rs, re, h⟩ := h
  exact h G [] H (Ext.refl _ _) rs .nil
theorem da_cons (ha : DE X e we) (hr : DA X es wa) (hs : starEach (e :: es) X.env = (false, eval e X.env) :: starEach es X.env := by rfl) : DA X (e :: es) (wCons we wa) := by
  refine ⟨fun E r S Q Q' k h => ha.mo _ _ _ _ _ (fun d S1 h1 => hr.mo _ _ _ _ _ (fun ds S2 h2 => k _ _ h2) h1) h, fun E => PA.wk (pa_cons (ha.pe E) (hr.pe E) hs) fun sg H Q h => ?_⟩
  obtain ⟨G, S, r, rs, re, h⟩ := h
  refine ha.next rs re h fun d S1 G1 v H1 x1 rs1 re1 rd1 h1 => ?_
  refine hr.next rs1 re1 h1 fun ds S2 G2 vs H2 x2 rs2 re2 rd2 h2 => ?_
  exact h2 G2 (v :: vs) H2 (x1.trans x2) rs2 (.cons (rd1.go (rs1.go x2)) rd2)
def wTup (u : WA) : WE := fun E r S Q => u E r S fun ds S1 => ds.length ≤ 1000 ∧ Q (.tup ds) S1
def wLv (u : WA) : WE := fun E r S Q => u E r S fun ds S1 => ds.length ≤ 1000 ∧ Q (.lv ds) S1
def wLst (u : WA) : WE := fun E r S Q => u E r S fun ds S1 => ds.length ≤ 1000 ∧ Q (.lst S1.length) (S1 ++ [ds])
theorem rd_newTup {K : PySem.W.Frag} {G : Gx} {H : Hp} {p : Addr} {ds : List D} {vs : List V} (hp : H p = none) (q : RDs K G H ds vs) : RD K (G.addF p) (upd H p (.tup vs)) (.tup ds) (.ref p) :=
  .tup (.inl ⟨.inr rfl, upd_same⟩) (q.go (go_addF hp))
theorem rd_newLv {K : PySem.W.Frag} {G : Gx} {H : Hp} {p : Addr} {ds : List D} {vs : List V} (hp : H p = none) (q : RDs K G H ds vs) : RD K (G.addF p) (upd H p (.lst vs)) (.lv ds) (.ref p) :=
  .lv ⟨.inr rfl, upd_same⟩ (q.go (go_addF hp))
theorem rd_newLst {K : PySem.W.Frag} {G : Gx} {S : Sto} {H H' : Hp} {p : Addr} (rs : RS K G S H) : RD K (G.addM p) H' (.lst S.length) (.ref p) :=
  .lst rs.ls_new
theorem de_tup {x1} (h : DA X es wa) : DE X (.Tuple es x1 pos) (wTup wa) := by
  refine ⟨fun E r S Q Q' k q => h.mo _ _ _ _ _ (fun d S1 h1 => ⟨h1.1, k _ _ h1.2⟩) q, fun E => PE.wk (pe_tup (h.pe E)) fun sg H Q q => ?_⟩
  obtain ⟨G, S, r, rs, re, q⟩ := q
  refine h.next rs re q fun ds S1 G1 vs H1 x1 rs1 re1 rd1 h1 => ⟨by rw [← rd1.length]; exact le1000 h1.1, fun p hp => ?_⟩
  exact h1.2 _ _ _ (x1.trans (ext_newF hp)) (rs_newF rs1 hp) (rd_newTup hp rd1)
theorem de_lv (h : DA X es wa) : DE X (.List es pos) (wLv wa) := by
  refine ⟨fun E r S Q Q' k q => h.mo _ _ _ _ _ (fun d S1 h1 => ⟨h1.1, k _ _ h1.2⟩) q, fun E => PE.wk (pe_lst (h.pe E)) fun sg H Q q => ?_⟩
  obtain ⟨G, S, r, rs, re, q⟩ := q
  refine h.next rs re q fun ds S1 G1 vs H1 x1 rs1 re1 rd1 h1 => ⟨by rw [← rd1.length]; exact le1000 h1.1, fun p hp => ?_⟩
  exact h1.2 _ _ _ (x1.trans (ext_newF hp)) (rs_newF rs1 hp) (rd_newLv hp rd1)
theorem de_lst (h : DA X es wa) : DE X (.List es pos) (wLst wa) := by
  refine ⟨fun E r S Q Q' k q => h.mo _ _ _ _ _ (fun d S1 h1 => ⟨h1.1, k _ _ h1.2⟩) q, fun E => PE.wk (pe_lst (h.pe E)) fun sg H Q q => ?_⟩
  obtain ⟨G, S, r, rs, re, q⟩ := q
  refine h.next rs re q fun ds S1 G1 vs H1 x1 rs1 re1 rd1 h1 => ⟨by rw [← rd1.length]; exact le1000 h1.1, fun p hp => ?_⟩
  exact h1.2 _ _ _ (x1.trans (ext_newM hp)) (rs_newM rs1 hp rd1) (rd_newLst rs1)
end


def dAt (ds : List D) (i : Int) (S : Sto) (Q : KD) : Prop := match atI ds i with | some d => Q d S | none => False
def dIx : RD2 := fun x y S Q => match y with
  | .int i => (match x with
    | .tup ds => dAt ds i S Q
    | .lv ds => dAt ds i S Q
    | .sv ds => dAt ds i S Q
    | .lst k => (match S[k]? with | some ds => dAt ds i S Q | none => False)
    | _ => False)
  | _ => False
theorem RDs.atI {K : PySem.W.Frag} {G : Gx} {H : Hp} {ds : List D} {vs : List V} {i : Int} {d : D} (h : RDs K G H ds vs) (e : L2.atI ds i = some d) : ∃ v, L2.atI vs i = some v ∧ RD K G H d v := by
  unfold L2.atI at e ⊢
  rw [← h.length]
  cases e1 : ixN ds.length i with
  | none => rw [e1] at e; cases e
  | some j =>
    rw [e1] at e
    exact h.get (i := j) e
theorem dAt_mo {ds : List D} {i : Int} {S : Sto} {Q Q' : KD} (k : ∀ d S, Q d S → Q' d S) (h : dAt ds i S Q) : dAt ds i S Q' := by
  unfold dAt at h ⊢
  cases e : L2.atI ds i with
  | none => rw [e] at h; exact h
  | some d => rw [e] at h; exact k _ _ h
theorem dAt_get {K : PySem.W.Frag} {G : Gx} {S : Sto} {H : Hp} {ds : List D} {vs : List V} {i : Int} {Q : VK} (rs : RS K G S H) (q : RDs K G H ds vs) (h : dAt ds i S (OutE K G H Q)) : ∃ v, L2.atI vs i = some v ∧ Q v H := by
  unfold dAt at h
  cases e : L2.atI ds i with
  | none => rw [e] at h; exact h.elim
  | some d =>
    rw [e] at h
    obtain ⟨v, e1, r⟩ := q.atI e
    exact ⟨v, e1, h G v H (Ext.refl _ _) rs r⟩
theorem dIx_ok {K : PySem.W.Frag} : OpD K (rIx K) dIx := by
  refine ⟨fun x y S Q Q' k h => ?_, fun G S H x y v u Q rs rx ry h => ?_⟩
  · unfold dIx at h ⊢
    cases y <;> first | exact h.elim | skip
    cases x <;> first | exact h.elim | exact dAt_mo k h | skip
    rename_i i kk
    dsimp only at h ⊢
    cases e : S[kk]? with
    | none => rw [e] at h; exact h
    | some ds => rw [e] at h; exact dAt_mo k h
  · unfold dIx at h
    cases y <;> first | exact h.elim | skip
    cases ry
    cases rx with
    | tup hx q =>
      obtain ⟨z, e1, w⟩ := dAt_get rs q h
      exact .inr (.inl ⟨_, _, _, z, rfl, rfl, hx.sq, e1, w⟩)
    | lv hx q =>
      obtain ⟨z, e1, w⟩ := dAt_get rs q h
      exact .inl ⟨_, _, _, z, rfl, rfl, hx.sq, e1, w⟩
    | sv hx q =>
      obtain ⟨z, e1, w⟩ := dAt_get rs q h
      exact .inl ⟨_, _, _, z, rfl, rfl, hx.sq, e1, w⟩
    | @lst kk a hk =>
      dsimp only at h
      cases e : S[kk]? with
      | none => rw [e] at h; exact h.elim
      | some ds =>
        rw [e] at h
        obtain ⟨vs, e3, t⟩ := rs.at_ kk a ds hk e
        obtain ⟨z, e1, w⟩ := dAt_get rs t h
        exact .inl ⟨_, _, _, z, rfl, rfl, .of e3, e1, w⟩
    | _ => exact h.elim
section
variable {X : Cx} {a b : Expr} {pos : Pos} {wa wb : WE}
theorem de_ix (ha : DE X a wa) (hb : DE X b wb) (hs : PlainIx b := by exact fun _ _ => rfl) : DE X (.Subscript a b pos) (wOp dIx wa wb) :=
  ⟨mo_op (dIx_ok (K := X.K)).mo ha.mo hb.mo, fun E => PE.wk (pe_ix ix_seq (ha.pe E) (hb.pe E) hs) fun sg H Q h => op_read dIx_ok ha hb h⟩
end



structure OutK (K : PySem.W.Frag) (Ed : XD) (E : XK) (G : Gx) (H : Hp) : Prop where
  ex : ∀ (x : Str) (C : Addr) (S' : Sto) (G' : Gx) (H' : Hp), Ext G H G' H' → RS K G' S' H' → ClsAt K x C → Ed.ex x S' → E (.ref C) none H'
  tb : ∀ p, p ∈ Ed.tb → p ∈ G.T
def spD (K : PySem.W.Frag) (g : GF) : Sp := fun vs H Q E => ∃ G S ds Ed, RS K G S H ∧ RDs K G H ds vs ∧ g ds Ed S (OutE K G H Q) ∧ OutK K Ed E G H
theorem OutX.k {X : Cx} {E : XD} {G : Gx} {H : Hp} (h : OutX X E G H) : OutK X.K E (EX X) G H := ⟨fun x C S' G' H' y rs c e => ⟨C, rfl, h.ex x C S' G' H' y rs c e⟩, h.tb⟩
structure FnI (P : Program) (w : World) (K : PySem.W.Frag) (mg : Str → Option Value) (base : Heap) (k : Nat) (x : Str) (n : Nat) (g : GF) : Prop where
  ex : ∃ (f : Addr) (fd : FuncData) (ps : List Str), ps.length = n ∧ FnOk P w K mg base (CXE P w) k f fd ps (spD K g) ∧ mg x = some (.ref f) ∧ PySem.W.keepIn K (.ref f) = true ∧ Binds K fd ps []
  mo : MoG g
theorem FnI.up {P : Program} {w : World} {K : PySem.W.Frag} {mg : Str → Option Value} {base : Heap} {j k n : Nat} {x : Str} {g : GF} (F : FnI P w K mg base j x n g) (h : j ≤ k) : FnI P w K mg base k x n g := by
  obtain ⟨f, fd, ps, h1, h2, h3⟩ := F.ex
  exact ⟨⟨f, fd, ps, h1, h2.mono h, h3⟩, F.mo⟩
def wCall (g : GF) (u : WA) : WE := fun E r S Q => u E r S fun ds S1 => g ds E S1 Q
section
variable {X : Cx} {e : Expr} {es : List Expr} {we : WE} {wa : WA} {pos p : Pos} {x : Str} {k n : Nat} {g : GF}
theorem de_call (F : FnI X.prog X.w X.K X.mg X.base k x n g) (hr : Room k X.A) (ha : DA X (e :: es) wa) (hg : Gl X x := by rfl) (hdb : (x == ("__debug__" : Str)) = false := by decide)
    (he : starEach (e :: es) X.env = (false, eval e X.env) :: starEach es X.env := by rfl) (hpl : (backTo pos (starEach es X.env)).any (·.1) = false := by rfl) : DE X (.Call (.Name x p) (e :: es) [] pos) (wCall g wa) := by
  obtain ⟨f, fd, ps, hn, hF, hm, hk, hb⟩ := F.ex
  refine ⟨fun E r S Q Q' k h => ha.mo _ _ _ _ _ (fun d S1 h1 => F.mo _ _ _ _ _ k h1) h, fun E => PE.wk (pe_call hF hr hg hm hk hb .nil passX (ha.pe E) hdb he hpl) fun sg H Q h => ?_⟩
  obtain ⟨G, S, r, rs, re, h⟩ := h
  refine ha.next rs re h fun ds S1 G1 vs H1 x1 rs1 re1 rd1 h1 => ?_
  refine ⟨G1, S1, ds, E, rs1, by rw [List.append_nil]; exact rd1, F.mo _ _ _ _ _ (fun d S2 q => OutE.of x1 q) h1, re1.out.k⟩
end

structure FnK (P : Program) (w : World) (K : PySem.W.Frag) (mg : Str → Option Value) (base : Heap) (k : Nat) (x : Str) (g : GF) (ks : List Str) (m : Nat) (ix : List Nat) : Prop where
  ex : ∃ (f : Addr) (fd : FuncData) (ps : List Str), ps.length ≠ 0 ∧ FnOk P w K mg base (CXE P w) k f fd ps (spD K g) ∧ mg x = some (.ref f) ∧ PySem.W.keepIn K (.ref f) = true ∧ ∀ ws : List Value, ws.length = m → bindArgs fd ⟨[], ks.zip ws⟩ = pure (ps.zip (ix.filterMap fun i => ws[i]?))
  mo : MoG g
structure DK (X : Cx) (kws : List Keyword) (w : WA) : Prop where
  mo : MoA w
  pe : ∀ E, PK X kws (tDA X w E)
theorem DK.next {K : PySem.W.Frag} {G : Gx} {H : Hp} {S : Sto} {r : Rho} {sg : L2.St} {X : Cx} {kws : List Keyword} {w : WA} {E : XD} (h : DK X kws w) (rs : RS X.K G S H) (re : RE X E G H r sg) {P : List D → Sto → Prop} {Q : List V → Hp → Prop} (q : w E r S P)
    (k : ∀ ds S1 G1 vs H1, Ext G H G1 H1 → RS X.K G1 S1 H1 → RE X E G1 H1 r sg → RDs X.K G1 H1 ds vs → P ds S1 → Q vs H1) : tDA X w E sg H Q :=
  ⟨G, S, r, rs, re, h.mo _ _ _ _ _ (fun d S1 p G1 v H1 x1 rs1 rd1 => k d S1 G1 v H1 x1 rs1 (re.ext rs x1) rd1 p) q⟩
section
variable {X : Cx} {e : Expr} {kws : List Keyword} {we : WE} {wa : WA} {pos p kpos : Pos} {x : Str} {nm : Option Str} {k m : Nat} {ix : List Nat} {g : GF} {ks : List Str}
end


abbrev RDn := List D → Sto → KD → Prop
structure CallD (K : PySem.W.Frag) (r : List V → Hp → VK → Prop) (rd : RDn) : Prop where
  mo : ∀ ds S (Q Q' : KD), (∀ d S, Q d S → Q' d S) → rd ds S Q → rd ds S Q'
  ok : ∀ G S H ds vs Q, RS K G S H → RDs K G H ds vs → rd ds S (OutE K G H Q) → r vs H Q
def wCB (rd : RDn) (u : WA) : WE := fun E r S Q => u E r S fun ds S1 => rd ds S1 Q
section
variable {X : Cx} {e : Expr} {es : List Expr} {we : WE} {wa : WA} {pos p : Pos} {x : Str} {id T : String} {r : List V → Hp → VK → Prop} {rd : RDn}
theorem cb_read (hr : CallD X.K r rd) (ha : DA X (e :: es) wa) {E : XD} {sg : L2.St} {H : Hp} {Q : VK} (h : tD X (wCB rd wa) E sg H Q) : tCB r (tDA X wa E) sg H Q := by
  obtain ⟨G, S, rr, rs, re, h⟩ := h
  refine ha.next rs re h fun ds S1 G1 vs H1 x1 rs1 re1 rd1 h1 => ?_
  exact hr.ok G1 S1 H1 ds vs Q rs1 rd1 (hr.mo _ _ _ _ (fun d S2 q => OutE.of x1 q) h1)
theorem de_callB (hc : CallR X (.builtin id) r) (hr : CallD X.K r rd) (hm : X.mg x = none) (ha : DA X (e :: es) wa) (hv : bootBuiltins x = some (.builtin id) := by decide +kernel) (hg : Gl X x := by rfl) (hn : x ≠ "__name__" := by decide) (hdb : (x == ("__debug__" : Str)) = false := by decide)
    (he : starEach (e :: es) X.env = (false, eval e X.env) :: starEach es X.env := by rfl) (hpl : (backTo pos (starEach es X.env)).any (·.1) = false := by rfl) : DE X (.Call (.Name x p) (e :: es) [] pos) (wCB rd wa) :=
  ⟨fun E r S Q Q' k h => ha.mo _ _ _ _ _ (fun d S1 h1 => hr.mo _ _ _ _ k h1) h, fun E => PE.wk (pe_callB hc hg hm hv (ha.pe E) hn hdb he hpl) fun sg H Q h => cb_read hr ha h⟩
theorem de_callTy (hc : CallR X (.type T) r) (hr : CallD X.K r rd) (hm : X.mg x = none) (ha : DA X (e :: es) wa) (hv : bootBuiltins x = some (.type T) := by decide +kernel) (hg : Gl X x := by rfl) (hn : x ≠ "__name__" := by decide) (hdb : (x == ("__debug__" : Str)) = false := by decide)
    (he : starEach (e :: es) X.env = (false, eval e X.env) :: starEach es X.env := by rfl) (hpl : (backTo pos (starEach es X.env)).any (·.1) = false := by rfl) : DE X (.Call (.Name x p) (e :: es) [] pos) (wCB rd wa) :=
  ⟨fun E r S Q Q' k h => ha.mo _ _ _ _ _ (fun d S1 h1 => hr.mo _ _ _ _ k h1) h, fun E => PE.wk (pe_callTy hc hg hm hv (ha.pe E) hn hdb he hpl) fun sg H Q h => cb_read hr ha h⟩
end
def d2I (f : Int → Int → Int) : RDn := fun ds S Q => match ds with | [.int i, .int j] => Q (.int (f i j)) S | _ => False
theorem d2I_ok {K : PySem.W.Frag} {f : Int → Int → Int} : CallD K (fun xs H Q => ∃ i j, xs = [.int i, .int j] ∧ Q (.int (f i j)) H) (d2I f) := by
  refine ⟨fun ds S Q Q' k h => ?_, fun G S H ds vs Q rs rd h => ?_⟩
  · unfold d2I at h ⊢
    split at h
    · exact k _ _ h
    · exact h.elim
  · unfold d2I at h
    split at h
    · rename_i i j
      obtain ⟨v, u, rfl, q1, q2⟩ := rd.two
      cases q1
      cases q2
      exact ⟨i, j, rfl, h G _ H (Ext.refl _ _) rs (.int _)⟩
    · exact h.elim
def dLen : RDn := fun ds S Q => match ds with
  | [.tup xs] => Q (.int xs.length) S
  | [.lv xs] => Q (.int xs.length) S
  | [.sv xs] => Q (.int xs.length) S
  | [.lst k] => (match S[k]? with | some xs => Q (.int xs.length) S | none => False)
  | _ => False
theorem dLen_ok {K : PySem.W.Frag} : CallD K (fun xs H Q => ∃ x n, xs = [x] ∧ LenV K x H n ∧ Q (.int n) H) dLen := by
  refine ⟨fun ds S Q Q' k h => ?_, fun G S H ds vs Q rs rd h => ?_⟩
  · unfold dLen at h ⊢
    split at h
    · exact k _ _ h
    · exact k _ _ h
    · exact k _ _ h
    · split at h
      · exact k _ _ h
      · exact h.elim
    · exact h.elim
  · unfold dLen at h
    split at h
    · obtain ⟨v, rfl, q1⟩ := rd.one
      cases q1 with
      | tup hx q => exact ⟨_, _, rfl, .inr ⟨_, hx.sq, rfl⟩, by rw [← q.length]; exact h G _ H (Ext.refl _ _) rs (.int _)⟩
    · obtain ⟨v, rfl, q1⟩ := rd.one
      cases q1 with
      | lv hx q => exact ⟨_, _, rfl, .inl ⟨_, hx.sq, rfl⟩, by rw [← q.length]; exact h G _ H (Ext.refl _ _) rs (.int _)⟩
    · obtain ⟨v, rfl, q1⟩ := rd.one
      cases q1 with
      | sv hx q => exact ⟨_, _, rfl, .inl ⟨_, hx.sq, rfl⟩, by rw [← q.length]; exact h G _ H (Ext.refl _ _) rs (.int _)⟩
    · rename_i kk
      split at h
      · rename_i xs e
        obtain ⟨v, rfl, q1⟩ := rd.one
        cases q1 with
        | lst hk =>
          obtain ⟨ws, e3, t⟩ := rs.at_ kk _ xs hk e
          exact ⟨_, _, rfl, .inl ⟨_, .of e3, rfl⟩, by rw [← t.length]; exact h G _ H (Ext.refl _ _) rs (.int _)⟩
      · exact h.elim
    · exact h.elim


def TyV (K : PySem.W.Frag) (H : Hp) (x : V) (T : String) : Prop :=
  match x with
  | .non => T = "NoneType"
  | .bl _ => T = "bool"
  | .int _ => T = "int"
  | .str _ => T = "str"
  | .ref a => (T = "tuple" ∧ ∃ xs, SqT K H a xs) ∨ (T = "list" ∧ ∃ xs, SqL K H a xs) ∨ (T = "dict" ∧ ∃ kvs, H a = some (.dK kvs))
  | _ => False
def rIsin (K : PySem.W.Frag) : List V → Hp → VK → Prop := fun xs H Q => (∃ x n T b, xs = [x, .ty n] ∧ TyV K H x T ∧ PySem.W.kitOne K (.type T) (.type n) = some b ∧ Q (.bl b) H) ∨
  (∃ a C y u b, xs = [.ref a, y] ∧ RelV y u ∧ (∀ u', RelV y u' → u' = u) ∧ H a = some (exO C a) ∧ EC K C ∧ PySem.W.kitOne K (.ref C) u = some b ∧ Q (.bl b) H)
theorem call_isinst {X : Cx} : CallR X (.builtin "isinstance") (rIsin X.K) := by
  intro pins s sg H xs us Q I r h
  rcases h with ⟨x, n, T, b, rfl, ty, e, q⟩ | ⟨a, C, y, u, b, rfl, ry, ru, ha, ec, e, q⟩
  · obtain ⟨u, u2, rfl, rx, r2⟩ := vals2 r
    cases (show u2 = Value.type n from r2)
    have fin : ∀ tk, EP X pins sg Q (.bool b) { s with toks := tk } := fun tk => ⟨.bl b, H, I.tok tk, rfl, q⟩
    cases x with
    | non => cases (show u = Value.none from rx); cases (show T = "NoneType" from ty); exact PySem.W.kia_one PySem.W.kitx_none I.kIn True.intro e (fun z => nomatch z) fin
    | bl y => cases (show u = Value.bool y from rx); cases (show T = "bool" from ty); exact PySem.W.kia_one PySem.W.kitx_bool I.kIn True.intro e (fun z => nomatch z) fin
    | int i => obtain ⟨t, z⟩ := (show ∃ t, u = Value.int i t from rx); cases z; cases (show T = "int" from ty); exact PySem.W.kia_one PySem.W.kitx_int I.kIn True.intro e (fun z => nomatch z) fin
    | str y => obtain ⟨t, z⟩ := (show ∃ t, u = Value.str y t from rx); cases z; cases (show T = "str" from ty); exact PySem.W.kia_one PySem.W.kitx_str I.kIn True.intro e (fun z => nomatch z) fin
    | ref a =>
      cases (show u = Value.ref a from rx)
      rcases (show (T = "tuple" ∧ ∃ xs, SqT X.K H a xs) ∨ (T = "list" ∧ ∃ xs, SqL X.K H a xs) ∨ (T = "dict" ∧ ∃ kvs, H a = some (.dK kvs)) from ty) with ⟨rfl, xs, hx⟩ | ⟨rfl, xs, hx⟩ | ⟨rfl, kvs, hx⟩
      · obtain ⟨its, _, ⟨o, h1, h2, _⟩, _⟩ := I.tuple hx
        exact PySem.W.kia_one PySem.W.kitx_tuple I.kIn ⟨o, h1, h2⟩ e (fun z => nomatch z) fin
      · obtain ⟨its, _, ⟨o, m, h1, h2, _⟩, _⟩ := I.list hx
        exact PySem.W.kia_one PySem.W.kitx_list I.kIn ⟨o, h1, h2⟩ e (fun z => nomatch z) fin
      · obtain ⟨_, _, vs, _, hd⟩ := I.hok a _ hx
        have z : s.TypeIs (.ref a) "dict" := hd.typeIs
        exact PySem.W.kia_one PySem.W.kitx_dict I.kIn z e (fun z => nomatch z) fin
    | _ => exact (show False from ty).elim
  · obtain ⟨u1, u2, rfl, r1, r2⟩ := vals2 r
    cases (show u1 = Value.ref a from r1)
    cases ru u2 r2
    obtain ⟨p, _⟩ := I.hok a _ ha
    exact PySem.W.kia_one (kitx_exc ec) I.kIn p e (fun z => nomatch z) fun tk => ⟨.bl b, H, I.tok tk, rfl, q⟩
def tyD : D → String
  | .non => "NoneType"
  | .bl _ => "bool"
  | .int _ => "int"
  | .str _ => "str"
  | .tup _ => "tuple"
  | .lv _ => "list"
  | .lst _ => "list"
  | .sv _ => "list"
  | .dc _ => "dict"
  | _ => ""
inductive IsT : String → String → Bool → Prop
  | int_int : IsT "int" "int" true
  | bool_int : IsT "bool" "int" true
  | none_int : IsT "NoneType" "int" false
  | str_int : IsT "str" "int" false
  | tuple_int : IsT "tuple" "int" false
  | list_int : IsT "list" "int" false
  | dict_int : IsT "dict" "int" false
  | int_bool : IsT "int" "bool" false
  | bool_bool : IsT "bool" "bool" true
  | none_bool : IsT "NoneType" "bool" false
  | str_bool : IsT "str" "bool" false
  | tuple_bool : IsT "tuple" "bool" false
  | list_bool : IsT "list" "bool" false
  | dict_bool : IsT "dict" "bool" false
  | int_tuple : IsT "int" "tuple" false
  | bool_tuple : IsT "bool" "tuple" false
  | none_tuple : IsT "NoneType" "tuple" false
  | str_tuple : IsT "str" "tuple" false
  | tuple_tuple : IsT "tuple" "tuple" true
  | list_tuple : IsT "list" "tuple" false
  | dict_tuple : IsT "dict" "tuple" false
  | int_list : IsT "int" "list" false
  | bool_list : IsT "bool" "list" false
  | none_list : IsT "NoneType" "list" false
  | str_list : IsT "str" "list" false
  | tuple_list : IsT "tuple" "list" false
  | list_list : IsT "list" "list" true
  | dict_list : IsT "dict" "list" false
  | int_str : IsT "int" "str" false
  | bool_str : IsT "bool" "str" false
  | none_str : IsT "NoneType" "str" false
  | str_str : IsT "str" "str" true
  | tuple_str : IsT "tuple" "str" false
  | list_str : IsT "list" "str" false
  | dict_str : IsT "dict" "str" false
theorem IsT.kit {K : PySem.W.Frag} {T n : String} {b : Bool} (h : IsT T n b) : PySem.W.kitOne K (.type T) (.type n) = some b := by
  cases h <;> rfl
theorem IsT.ne {T n : String} {b : Bool} (h : IsT T n b) : T ≠ "" := by cases h <;> decide

structure XRow where
  x : Str
  own : List (Str × Bool)
  ty : List (String × Bool)
structure XRowOk (K : PySem.W.Frag) (r : XRow) : Prop where
  ex : ∃ C, ClsAt K r.x C ∧ EC K C ∧ (∀ p ∈ r.own, ∃ C2, ClsAt K p.1 C2 ∧ PySem.W.kitOne K (.ref C) (.ref C2) = some p.2) ∧ (∀ p ∈ r.ty, PySem.W.kitOne K (.ref C) (.type p.1) = some p.2)
def XF (K : PySem.W.Frag) (rows : List XRow) : Prop := ∀ r ∈ rows, XRowOk K r
theorem ClsAt.inj {K : PySem.W.Frag} {x : Str} {C C' : Addr} (h : ClsAt K x C) (h' : ClsAt K x C') : C = C' := by
  unfold ClsAt at h h'
  rw [h] at h'
  cases h'
  rfl
def dIsin (rows : List XRow) : RDn := fun ds S Q => match ds with
  | [.ex x, .cl y] => ∃ r b, r ∈ rows ∧ r.x = x ∧ (y, b) ∈ r.own ∧ Q (.bl b) S
  | [.ex x, .ty n] => ∃ r b, r ∈ rows ∧ r.x = x ∧ (n, b) ∈ r.ty ∧ Q (.bl b) S
  | [d, .ty n] => ∃ b, IsT (tyD d) n b ∧ Q (.bl b) S
  | _ => False
theorem RD.tyV {K : PySem.W.Frag} {G : Gx} {S : Sto} {H : Hp} {d : D} {v : V} {n : String} {b : Bool} (rs : RS K G S H) (q : RD K G H d v) (h : IsT (tyD d) n b) : TyV K H v (tyD d) := by
  cases q with
  | non => rfl
  | bl _ => rfl
  | int _ => rfl
  | str _ => rfl
  | ty _ => exact absurd rfl h.ne
  | ob _ => exact absurd rfl h.ne
  | ex _ _ _ => exact absurd rfl h.ne
  | cl _ => exact absurd rfl h.ne
  | dv _ _ _ _ => exact absurd rfl h.ne
  | dm _ _ => exact absurd rfl h.ne
  | ins _ _ => exact absurd rfl h.ne
  | lam _ => exact absurd rfl h.ne
  | dc f hx => exact .inr (.inr ⟨rfl, _, hx⟩)
  | tup hx _ => exact .inl ⟨rfl, _, hx.sq⟩
  | lv hx _ => exact .inr (.inl ⟨rfl, _, hx.sq⟩)
  | sv hx _ => exact .inr (.inl ⟨rfl, _, hx.sq⟩)
  | @lst k a hk =>
    have hl : k < S.length := by rw [← rs.len]; exact (List.getElem?_eq_some_iff.mp hk.1).1
    obtain ⟨vs, e, _⟩ := rs.at_ k a S[k] hk (List.getElem?_eq_getElem hl)
    exact .inr (.inl ⟨rfl, _, .of e⟩)
theorem dIsin_ok {K : PySem.W.Frag} {rows : List XRow} (hX : XF K rows) : CallD K (rIsin K) (dIsin rows) := by
  refine ⟨fun ds S Q Q' k h => ?_, fun G S H ds vs Q rs rd h => ?_⟩
  · unfold dIsin at h ⊢
    split at h
    · obtain ⟨r, b, h1, h2, h3, h4⟩ := h
      exact ⟨r, b, h1, h2, h3, k _ _ h4⟩
    · obtain ⟨r, b, h1, h2, h3, h4⟩ := h
      exact ⟨r, b, h1, h2, h3, k _ _ h4⟩
    · rename_i d n hne
      obtain ⟨b, h1, h2⟩ := h
      exact ⟨b, h1, k _ _ h2⟩
    · exact h.elim
  · unfold dIsin at h
    split at h
    · obtain ⟨r, b, h1, h2, h3, h4⟩ := h
      obtain ⟨v, u, rfl, q1, q2⟩ := rd.two
      subst h2
      obtain ⟨C, c1, ec, ow, _⟩ := (hX r h1).ex
      obtain ⟨C2, c2, kk⟩ := ow _ h3
      cases q1 with
      | ex ca f ha =>
        cases q2 with
        | cl cb =>
          cases c1.inj ca
          cases c2.inj cb
          exact .inr ⟨_, C, _, .ref C2, b, rfl, rfl, fun _ z => z, ha, ec, kk, h4 G _ H (Ext.refl _ _) rs (.bl _)⟩
    · obtain ⟨r, b, h1, h2, h3, h4⟩ := h
      obtain ⟨v, u, rfl, q1, q2⟩ := rd.two
      subst h2
      obtain ⟨C, c1, ec, _, ow⟩ := (hX r h1).ex
      have kk := ow _ h3
      cases q1 with
      | ex ca f ha =>
        cases q2
        cases c1.inj ca
        exact .inr ⟨_, C, _, .type _, b, rfl, rfl, fun _ z => z, ha, ec, kk, h4 G _ H (Ext.refl _ _) rs (.bl _)⟩
    · obtain ⟨b, h1, h2⟩ := h
      obtain ⟨v, u, rfl, q1, q2⟩ := rd.two
      cases q2
      exact .inl ⟨v, _, _, b, rfl, q1.tyV rs h1, h1.kit, h2 G _ H (Ext.refl _ _) rs (.bl _)⟩
    · exact h.elim
section
variable {X : Cx} {a b c : Expr} {wa : WA} {pos p : Pos}
theorem de_isin {rows : List XRow} (hX : XF X.K rows) (hm : X.mg "isinstance" = none) (ha : DA X [a, b] wa) (hg : Gl X "isinstance" := by rfl) (he : starEach [a, b] X.env = (false, eval a X.env) :: starEach [b] X.env := by rfl) (hpl : (backTo pos (starEach [b] X.env)).any (·.1) = false := by rfl) :
    DE X (.Call (.Name "isinstance" p) [a, b] [] pos) (wCB (dIsin rows) wa) := de_callB call_isinst (dIsin_ok hX) hm ha (by decide +kernel) hg (by decide) (by decide) he hpl

@[irreducible] def dIsinX (rows : List XRow) : RDn := dIsin rows
theorem dIsinX_def (rows : List XRow) : dIsinX rows = dIsin rows := by unfold dIsinX; rfl
theorem de_isinX {rows : List XRow} (hX : XF X.K rows) (hm : X.mg "isinstance" = none) (ha : DA X [a, b] wa) (hg : Gl X "isinstance" := by rfl) (he : starEach [a, b] X.env = (false, eval a X.env) :: starEach [b] X.env := by rfl) (hpl : (backTo pos (starEach [b] X.env)).any (·.1) = false := by rfl) :
    DE X (.Call (.Name "isinstance" p) [a, b] [] pos) (wCB (dIsinX rows) wa) := by
  rw [dIsinX_def]
  exact de_isin hX hm ha hg he hpl
theorem de_max (hc : X.calm = true) (hm : X.mg "max" = none) (ha : DA X [a, b] wa) (hg : Gl X "max" := by rfl) (he : starEach [a, b] X.env = (false, eval a X.env) :: starEach [b] X.env := by rfl) (hpl : (backTo pos (starEach [b] X.env)).any (·.1) = false := by rfl) :
    DE X (.Call (.Name "max" p) [a, b] [] pos) (wCB (d2I fun i j => if j > i then j else i) wa) := de_callB (call_max2 hc) d2I_ok hm ha (by decide +kernel) hg (by decide) (by decide) he hpl
theorem de_min (hc : X.calm = true) (hm : X.mg "min" = none) (ha : DA X [a, b] wa) (hg : Gl X "min" := by rfl) (he : starEach [a, b] X.env = (false, eval a X.env) :: starEach [b] X.env := by rfl) (hpl : (backTo pos (starEach [b] X.env)).any (·.1) = false := by rfl) :
    DE X (.Call (.Name "min" p) [a, b] [] pos) (wCB (d2I fun i j => if j < i then j else i) wa) := de_callB (call_min2 hc) d2I_ok hm ha (by decide +kernel) hg (by decide) (by decide) he hpl
theorem de_len (hm : X.mg "len" = none) (ha : DA X [a] wa) (hg : Gl X "len" := by rfl) (he : starEach [a] X.env = (false, eval a X.env) :: starEach [] X.env := by rfl) (hpl : (backTo pos (starEach [] X.env)).any (·.1) = false := by rfl) :
    DE X (.Call (.Name "len" p) [a] [] pos) (wCB dLen wa) := de_callB call_len dLen_ok hm ha (by decide +kernel) hg (by decide) (by decide) he hpl
end


def isLst : D → Prop
  | .lst _ => True
  | .lv _ => True
  | _ => False
def wMeth (rd : D → List D → Sto → KD → Prop) (wo : WE) (u : WA) : WE := fun E r S Q => wo E r S fun x S1 => isLst x ∧ u E r S1 fun ds S2 => rd x ds S2 Q
structure MethD (K : PySem.W.Frag) (r : V → List V → Hp → VK → Prop) (rd : D → List D → Sto → KD → Prop) : Prop where
  mo : ∀ x ds S (Q Q' : KD), (∀ d S, Q d S → Q' d S) → rd x ds S Q → rd x ds S Q'
  ok : ∀ G S H x ds v vs Q, RS K G S H → RD K G H x v → RDs K G H ds vs → rd x ds S (OutE K G H Q) → r v vs H Q
theorem isLst.ty {K : PySem.W.Frag} {G : Gx} {S : Sto} {H : Hp} {d : D} {v : V} (rs : RS K G S H) (q : RD K G H d v) (h : isLst d) : tyV K "list" v H := by
  cases q with
  | lv hx _ => exact .inl ⟨rfl, _, hx.sq⟩
  | @lst k a hk =>
    have hl : k < S.length := by rw [← rs.len]; exact (List.getElem?_eq_some_iff.mp hk.1).1
    obtain ⟨vs, e, _⟩ := rs.at_ k a S[k] hk (List.getElem?_eq_getElem hl)
    exact .inl ⟨rfl, _, .of e⟩
  | _ => exact h.elim
section
variable {X : Cx} {o e : Expr} {es : List Expr} {wo : WE} {wa : WA} {name : Str} {apos cpos : Pos} {id : String} {r : V → List V → Hp → VK → Prop} {rd : D → List D → Sto → KD → Prop}
theorem de_lmeth (slot : Slot "list" name id) (hty : typeOf (.builtin id) = pure (.type "method_descriptor")) (hm : MtR X id r) (hr : MethD X.K r rd) (ho : DE X o wo) (ha : DA X (e :: es) wa)
    (hbase : attributeBase o name X.env (eval o X.env) = eval o X.env := by rfl)
    (hfew : ((backTo cpos (starEach (e :: es) X.env)).all (fun x => !x.1) && (backToKw cpos (keywordEach [] X.env)).all (fun x => x.1.isSome)
      && decide ((e :: es).length + ([] : List Keyword).length + (if ([] : List Keyword).isEmpty then 0 else 1) < 30)) = true := by rfl)
    (hline : (apos.endLine == cpos.line) = true := by rfl) (hs : starEach (e :: es) X.env = (false, eval e X.env) :: starEach es X.env := by rfl) (hplain : (backTo cpos (starEach es X.env)).any (·.1) = false := by rfl) :
    DE X (.Call (.Attribute o name apos) (e :: es) [] cpos) (wMeth rd wo wa) := by
  refine ⟨fun E r S Q Q' k h => ho.mo _ _ _ _ _ (fun x S1 h1 => ⟨h1.1, ha.mo _ _ _ _ _ (fun ds S2 h2 => hr.mo _ _ _ _ _ k h2) h1.2⟩) h,
    fun E => PE.wk (pe_bm PySem.F.plainAttrs_list slot hty hm (ho.pe E) (ha.pe E) hbase hfew hline hs hplain) fun sg H Q h => ?_⟩
  obtain ⟨G, S, rr, rs, re, h⟩ := h
  refine ho.next rs re h fun x S1 G1 v H1 x1 rs1 re1 rd1 h1 => ⟨h1.1.ty rs1 rd1, ?_⟩
  refine ha.next rs1 re1 h1.2 fun ds S2 G2 vs H2 x2 rs2 re2 rd2 h2 => ?_
  exact hr.ok G2 S2 H2 x ds v vs Q rs2 (rd1.go (rs1.go x2)) rd2 (hr.mo _ _ _ _ _ (fun d S3 q => OutE.of (x1.trans x2) q) h2)
end
@[irreducible] def dAppend (x : D) (ds : List D) (S : Sto) (Q : KD) : Prop := match x, ds with
  | .lst k, [d] => (match S[k]? with | some xs => xs.length < 1000 ∧ Q .non (S.set k (xs ++ [d])) | none => False)
  | _, _ => False
theorem dAppend_ok {K : PySem.W.Frag} : MethD K rAppend dAppend := by
  refine ⟨fun x ds S Q Q' k h => ?_, fun G S H x ds v vs Q rs q qs h => ?_⟩
  · unfold dAppend at h ⊢
    split at h
    · split at h
      · exact ⟨h.1, k _ _ h.2⟩
      · exact h.elim
    · exact h.elim
  · unfold dAppend at h
    split at h
    · rename_i kk d
      split at h
      · rename_i xs e
        cases q with
        | @lst _ a hk =>
          obtain ⟨us, e3, t⟩ := rs.at_ kk a xs hk e
          obtain ⟨u, rfl, qu⟩ := qs.one
          have hm := List.mem_of_getElem? hk.1
          refine ⟨a, us, u, rfl, rfl, e3, by rw [← t.length]; exact small1000 (Nat.le_of_lt h.1), ?_⟩
          exact h.2 G _ _ (ext_write hm ⟨_, e3, fun _ _ z => nomatch z⟩) (rs_write rs hk (t.append (.cons qu .nil))) .non
      · exact h.elim
    · exact h.elim

def rCountB (K : PySem.W.Frag) : V → List V → Hp → VK → Prop := fun x vs H Q => ∃ (a : Addr) (ys : List Bool) (b : Bool), x = .ref a ∧ vs = [.bl b] ∧ SqL K H a (ys.map V.bl) ∧ Q (.int (ys.count b : Nat)) H
theorem countP_bls (e : Value → Bool) (b : Bool) (he : ∀ c, e (.bool c) = (c == b)) : ∀ (ys : List Bool) (its : List Value), Vals (ys.map V.bl) its → its.countP e = ys.count b
  | [], _, .nil => rfl
  | y :: ys, _, .cons r t => by
    cases r
    rw [List.countP_cons, List.count_cons, countP_bls e b he ys _ t, he]
theorem mt_countB {X : Cx} : MtR X "list.count" (rCountB X.K) := by
  intro pins s sg H x xs v us Q I rx rxs h
  obtain ⟨a, ys, b, rfl, rfl, hs, q⟩ := h
  cases rx
  obtain ⟨u, rfl, ru⟩ := rxs.one
  cases ru
  obtain ⟨its, rv, ⟨⟨cls, dd, data, sl⟩, n, ho, hc, hdn, hd⟩, hlen⟩ := I.list hs
  simp only at hc hd
  subst hc hd
  refine call_meets PySem.F.slot_list_count ⟨_, ho, rfl⟩ PySem.F.entry_list_count (PySem.F.args_list_count_2 _ _)
    (SeqAt.list_countAt a its.toArray n dd sl (.bool b) (fun y => match y with | .bool c => c == b | _ => false)) ⟨ho, fun y hy => ?_, ?_⟩
  · have hy : y ∈ its := by simpa using hy
    obtain ⟨j, hj⟩ := List.mem_iff_getElem?.mp hy
    have hl : j < (ys.map V.bl).length := by rw [rv.length]; exact (List.getElem?_eq_some_iff.mp hj).1
    obtain ⟨u2, e2, r2⟩ := rv.get (List.getElem?_eq_getElem hl)
    rw [hj] at e2
    cases e2
    rw [List.getElem_map] at r2
    cases r2
    exact SeqAt.EqAt.bool_bool _ _
  · refine ⟨.int _, H, I.tok _, ⟨_, rfl⟩, ?_⟩
    rw [show its.toArray.toList = its from rfl, countP_bls _ b (fun c => rfl) ys its rv]
    exact q
end DD

namespace DD
open PySem PySem.Spec PyProof.Rows L2

def bools : List D → Option (List Bool)
  | [] => some []
  | .bl b :: r => consO b (bools r)
  | _ :: _ => none
theorem bools_ok {K : PySem.W.Frag} {G : Gx} {H : Hp} : ∀ {ds : List D} {vs : List V} {bs : List Bool}, RDs K G H ds vs → bools ds = some bs → vs = bs.map V.bl
  | _, _, bs, .nil, e => by
    have e : some ([] : List Bool) = some bs := e
    cases e; rfl
  | d :: ds, v :: vs, bs, .cons q t, e => by
    cases q with
    | bl b =>
      have e : consO b (bools ds) = some bs := e
      cases e2 : bools ds with
      | none => rw [e2] at e; cases e
      | some cs =>
        rw [e2] at e; cases e
        rw [bools_ok t e2]
        rfl
    | _ => cases e
@[irreducible] def dCountB (x : D) (ds : List D) (S : Sto) (Q : KD) : Prop := match x, ds with
  | .lv xs, [.bl b] => (match bools xs with | some bs => Q (.int (bs.count b : Nat)) S | none => False)
  | .lst k, [.bl b] => (match S[k]? with | some xs => (match bools xs with | some bs => Q (.int (bs.count b : Nat)) S | none => False) | none => False)
  | _, _ => False
theorem dCountB_ok {K : PySem.W.Frag} : MethD K (rCountB K) dCountB := by
  refine ⟨fun x ds S Q Q' k h => ?_, fun G S H x ds v vs Q rs q qs h => ?_⟩
  · unfold dCountB at h ⊢
    split at h
    · split at h
      · exact k _ _ h
      · exact h.elim
    · split at h
      · split at h
        · exact k _ _ h
        · exact h.elim
      · exact h.elim
    · exact h.elim
  · unfold dCountB at h
    split at h
    · split at h
      · rename_i bs e
        cases q with
        | lv hx t =>
          obtain ⟨u, rfl, qu⟩ := qs.one
          cases qu
          rw [bools_ok t e] at hx
          exact ⟨_, bs, _, rfl, rfl, hx.sq, h G _ H (Ext.refl _ _) rs (.int _)⟩
      · exact h.elim
    · rename_i kk b
      split at h
      · rename_i xs e0
        split at h
        · rename_i bs e
          cases q with
          | @lst _ a hk =>
            obtain ⟨us, e3, t⟩ := rs.at_ kk a xs hk e0
            obtain ⟨u, rfl, qu⟩ := qs.one
            cases qu
            rw [bools_ok t e] at e3
            exact ⟨_, bs, _, rfl, rfl, .of e3, h G _ H (Ext.refl _ _) rs (.int _)⟩
        · exact h.elim
      · exact h.elim
    · exact h.elim


def wSkip : WS := fun _ Dn r S => Dn.nx r S
def wSeq (u v : WS) : WS := fun E Dn r S => u E { Dn with nx := fun r' S' => v E Dn r' S' } r S
def wRet (w : WE) : WS := fun E Dn r S => w E r S Dn.rt
def wDrop (w : WE) : WS := fun E Dn r S => w E r S fun _ S1 => Dn.nx r S1
def wIfS (c : WT) (u v : WS) : WS := fun E Dn r S => c E r S fun b S1 => if b = true then u E Dn r S1 else v E Dn r S1
def wSet (i : Nat) (w : WE) : WS := fun E Dn r S => w E r S fun d S1 => Dn.nx (r.set i (some d)) S1
section
variable {X : Cx} {st : Stmt} {sts : List Stmt} {u v : WS} {e c : Expr} {we : WE} {wc : WT} {pos : Pos} {a b : List Stmt}
theorem dss_nil : DSs X [] wSkip := by
  refine ⟨fun E A B r S k h => k.nx _ _ h, fun E => PSs.wk pss_nil fun Dn sg H h => ?_⟩
  obtain ⟨G, S, r, rs, re, h⟩ := h
  exact h G sg H (Ext.refl _ _) rs re
theorem dss_cons (h1 : DS X st u) (h2 : DSs X sts v) : DSs X (st :: sts) (wSeq u v) := by
  refine ⟨fun E A B r S k h => h1.mo E { A with nx := fun r' S' => v E A r' S' } _ _ _ ⟨fun r' S' q => h2.mo _ _ _ _ _ k q, k.rt, k.bk, k.ct⟩ h, fun E => PSs.wk (pss_cons (h1.pe E) (h2.pe E)) fun Dn sg H h => ?_⟩
  obtain ⟨G, S, r, rs, re, h⟩ := h
  refine ⟨G, S, r, rs, re, h1.mo E { OutS X E G H Dn with nx := fun r' S' => v E (OutS X E G H Dn) r' S' } _ _ _ ⟨fun r' S' q G' sg' H' x rs' re' => ?_, fun _ _ q => q, fun _ _ q => q, fun _ _ q => q⟩ h⟩
  exact ⟨G', S', r', rs', re', h2.mo _ _ _ _ _ (OutS.of x) q⟩
theorem dss_one (h1 : DS X st u) : DSs X [st] u := ⟨h1.mo, fun E => pss_one (h1.pe E)⟩
theorem ds_ret (he : DE X e we) : DS X (.Return (some e) pos) (wRet we) := by
  refine ⟨fun E A B r S k h => he.mo _ _ _ _ _ k.rt h, fun E => PS.wk (ps_ret (he.pe E)) fun Dn sg H h => ?_⟩
  obtain ⟨G, S, r, rs, re, h⟩ := h
  exact ⟨G, S, r, rs, re, h⟩
theorem ds_expr (he : DE X e we) (hs : swapsWith e none pos.line X.env = pure false := by rfl) : DS X (.Expr e pos) (wDrop we) := by
  refine ⟨fun E A B r S k h => he.mo _ _ _ _ _ (fun d S1 q => k.nx _ _ q) h, fun E => PS.wk (ps_expr (he.pe E) hs) fun Dn sg H h => ?_⟩
  obtain ⟨G, S, r, rs, re, h⟩ := h
  exact he.next rs re h fun d S1 G1 v H1 x1 rs1 re1 rd1 q => q G1 sg H1 x1 rs1 re1
theorem ds_if (hc : DT X c wc) (ha : DSs X a u) (hb : DSs X b v) : DS X (.If c a b pos) (wIfS wc u v) := by
  refine ⟨fun E A B r S k h => hc.mo _ _ _ _ _ (fun d S1 q => ?_) h, fun E => PS.wk (ps_if (hc.pe E) (ha.pe E) (hb.pe E)) fun Dn sg H h => ?_⟩
  · cases d
    · exact iteF (hb.mo _ _ _ _ _ k (by simpa using q))
    · exact iteT (ha.mo _ _ _ _ _ k (by simpa using q))
  · obtain ⟨G, S, r, rs, re, h⟩ := h
    refine DT.next (e := c) hc.mo rs re h fun d S1 G1 H1 x1 rs1 re1 q => ?_
    cases d
    · exact iteF ⟨G1, S1, r, rs1, re1, hb.mo _ _ _ _ _ (OutS.of x1) (by simpa using q)⟩
    · exact iteT ⟨G1, S1, r, rs1, re1, ha.mo _ _ _ _ _ (OutS.of x1) (by simpa using q)⟩
theorem ds_set {x : Str} {pos' : Pos} (i : Nat) (hN : X.N.Nodup) (he : DE X e we) (hi : X.N[i]? = some x := by rfl) (hx : Loc X.env.scope x := by first | exact Or.inl rfl | exact Or.inr rfl) (hs : swapsWith e (some (.Name x pos')) pos.line X.env = pure false := by rfl)
    (hf : X.fn x = true ∨ X.env.scope.names.lookup x = some .local := by first | exact .inl rfl | exact .inr rfl | assumption) : DS X (.Assign [.Name x pos'] e pos) (wSet i we) := by
  refine ⟨fun E A B r S k h => he.mo _ _ _ _ _ (fun d S1 q => k.nx _ _ q) h, fun E => PS.wk (ps_set hN hi hx (he.pe E) hs hf) fun Dn sg H h => ?_⟩
  obtain ⟨G, S, r, rs, re, h⟩ := h
  exact he.next rs re h fun d S1 G1 v H1 x1 rs1 re1 rd1 q => q G1 _ H1 x1 rs1 (re1.set rd1 i)
end


abbrev WG := XD → D → Rho → Sto → (Rho → Sto → Prop) → Prop
abbrev WGs := XD → List D → Rho → Sto → (Rho → Sto → Prop) → Prop
def tDG (X : Cx) (w : WG) (E : XD) : TG := fun v sg H Q => ∃ G S r d, RS X.K G S H ∧ RE X E G H r sg ∧ RD X.K G H d v ∧ w E d r S (OutR X E G H Q)
def tDGs (X : Cx) (w : WGs) (E : XD) : TGs := fun vs sg H Q => ∃ G S r ds, RS X.K G S H ∧ RE X E G H r sg ∧ RDs X.K G H ds vs ∧ w E ds r S (OutR X E G H Q)
structure DG (X : Cx) (tg : Expr) (w : WG) : Prop where
  mo : ∀ E d r S (Q Q' : Rho → Sto → Prop), (∀ r S, Q r S → Q' r S) → w E d r S Q → w E d r S Q'
  pe : ∀ E, PG X tg (tDG X w E)
structure DGs (X : Cx) (ts : List Expr) (w : WGs) : Prop where
  mo : ∀ E d r S (Q Q' : Rho → Sto → Prop), (∀ r S, Q r S → Q' r S) → w E d r S Q → w E d r S Q'
  pe : ∀ E, PGs X ts (tDGs X w E)
def gN (i : Nat) : WG := fun _ d r S Q => Q (r.set i (some d)) S
def gs0 : WGs := fun _ ds r S Q => match ds with | [] => Q r S | _ => False
def gsC (g : WG) (gs : WGs) : WGs := fun E ds r S Q => match ds with | d :: ds => g E d r S fun r1 S1 => gs E ds r1 S1 Q | [] => False
def gT (n : Nat) (gs : WGs) : WG := fun E d r S Q => match d with | .tup ds => ds.length = n ∧ gs E ds r S Q | _ => False
section
variable {X : Cx} {pos : Pos} {es : List Expr} {e : Expr}
theorem dg_name {x : Str} (i : Nat) (hN : X.N.Nodup) (hi : X.N[i]? = some x := by rfl) (hx : Loc X.env.scope x := by first | exact Or.inl rfl | exact Or.inr rfl) (hf : X.fn x = true ∨ X.env.scope.names.lookup x = some .local := by first | exact .inl rfl | exact .inr rfl | assumption) : DG X (.Name x pos) (gN i) := by
  refine ⟨fun E d r S Q Q' k h => k _ _ h, fun E => ?_⟩
  intro pins s sg H v u Q I rv h
  obtain ⟨G, S, r, d, rs, re, rd, h⟩ := h
  exact pg_name hN hi hx hf pins s sg H v u Q I rv (h G _ H (Ext.refl _ _) rs (re.set rd i))
theorem dgs_nil : DGs X [] gs0 := by
  refine ⟨fun E d r S Q Q' k h => ?_, fun E => ?_⟩
  · cases d with
    | nil => exact k _ _ h
    | cons _ _ => exact h
  · intro pins s sg H vs us Q I rv h
    obtain ⟨G, S, r, ds, rs, re, rd, h⟩ := h
    cases rd with
    | nil => exact pgs_nil pins s sg H _ _ Q I rv ⟨rfl, h G _ H (Ext.refl _ _) rs re⟩
    | cons _ _ => exact h.elim
theorem dgs_cons {g : WG} {gs : WGs} (h1 : DG X e g) (h2 : DGs X es gs) (hs : (assignEach (e :: es) X.env).map (·.2) = assign e X.env :: (assignEach es X.env).map (·.2) := by rfl) : DGs X (e :: es) (gsC g gs) := by
  refine ⟨fun E d r S Q Q' k h => ?_, fun E => ?_⟩
  · cases d with
    | nil => exact h
    | cons d ds => exact h1.mo _ _ _ _ _ _ (fun r1 S1 q => h2.mo _ _ _ _ _ _ k q) h
  · intro pins s sg H vs us Q I rv h
    obtain ⟨G, S, r, ds, rs, re, rd, h⟩ := h
    cases rd with
    | nil => exact h.elim
    | @cons d v ds vs qd qs =>
      have key := pgs_cons (h1.pe E) (h2.pe E) hs pins s sg H (v :: vs) us Q I rv
      refine key ⟨v, vs, rfl, G, S, r, d, rs, re, qd, h1.mo _ _ _ _ _ _ (fun r1 S1 q G1 sg1 H1 x1 rs1 re1 => ?_) h⟩
      exact ⟨G1, S1, r1, ds, rs1, re1, qs.go (rs.go x1), h2.mo _ _ _ _ _ _ (fun _ _ z => OutR.of x1 z) q⟩
theorem dg_tup {k : Nat} {gs : WGs} {n : Nat} (hc : X.calm = true) (h : DGs X es gs) (hn : (assignEach es X.env).length = n := by rfl) (hst : (assignEach es X.env).findIdx? (·.1) = none := by rfl) : DG X (.Tuple es k pos) (gT n gs) := by
  refine ⟨fun E d r S Q Q' k h1 => ?_, fun E => ?_⟩
  · cases d <;> first | exact h1.elim | exact ⟨h1.1, h.mo _ _ _ _ _ _ k h1.2⟩
  · intro pins s sg H v u Q I rv h1
    obtain ⟨G, S, r, d, rs, re, rd, h1⟩ := h1
    cases d <;> first | exact h1.elim | skip
    cases rd with
    | tup hx q =>
      exact pg_tup hc (h.pe E) hn hst pins s sg H _ u Q I rv ⟨_, _, rfl, hx.sq, by rw [← q.length]; exact h1.1, G, S, r, _, rs, re, q, h1.2⟩
def wAsg (w : WE) (g : WG) : WS := fun E Dn r S => w E r S fun d S1 => g E d r S1 Dn.nx
theorem ds_asg {tg : Expr} {we : WE} {g : WG} (he : DE X e we) (hg : DG X tg g) (hs : swapsWithSole [tg] e pos.line X.env = pure false := by rfl) (hw : swappedStores [tg] e X.env = pure none := by rfl)
    (h1 : (assignEach [tg] X.env).map (·.2) = [assign tg X.env] := by rfl) : DS X (.Assign [tg] e pos) (wAsg we g) := by
  refine ⟨fun E A B r S k h => he.mo _ _ _ _ _ (fun d S1 q => hg.mo _ _ _ _ _ _ k.nx q) h, fun E => PS.wk (ps_asg (he.pe E) (hg.pe E) hs hw h1) fun Dn sg H h => ?_⟩
  obtain ⟨G, S, r, rs, re, h⟩ := h
  refine he.next rs re h fun d S1 G1 v H1 x1 rs1 re1 rd1 q => ?_
  exact ⟨G1, S1, r, d, rs1, re1, rd1, hg.mo _ _ _ _ _ _ (fun _ _ z => OutR.of x1 z) q⟩

def dSetL (o i d : D) (S : Sto) (Q : Sto → Prop) : Prop := match o, i with
  | .lst k, .int z => (match S[k]? with | some ds => (match ixN ds.length z with | some j => Q (S.set k (ds.set j d)) | none => False) | none => False)
  | _, _ => False
def gSb (wo wi : WE) : WG := fun E d r S Q => wo E r S fun o S1 => wi E r S1 fun i S2 => dSetL o i d S2 fun S3 => Q r S3
theorem dSetL_mo {o i d : D} {S : Sto} {Q Q' : Sto → Prop} (k : ∀ S, Q S → Q' S) (h : dSetL o i d S Q) : dSetL o i d S Q' := by
  unfold dSetL at h ⊢
  split at h
  · split at h
    · split at h
      · exact k _ h
      · exact h.elim
    · exact h.elim
  · exact h.elim
theorem dg_sub {o i : Expr} {wo wi : WE} (ho : DE X o wo) (hi : DE X i wi)
    (ha : ∀ v, assign (.Subscript o i pos) X.env v = (do
      let ov ← holding [v] (eval o X.env)
      let iv ← holding [v, ov] (eval i X.env)
      standAt pos
      holding [v, ov, iv] (setItem ov iv v)
      release [v, ov, iv] []) := by intro _; rfl) : DG X (.Subscript o i pos) (gSb wo wi) := by
  refine ⟨fun E d r S Q Q' k h => ho.mo _ _ _ _ _ (fun o S1 h1 => hi.mo _ _ _ _ _ (fun i S2 h2 => dSetL_mo (fun S => k _ _) h2) h1) h, fun E => ?_⟩
  intro pins s sg H v u Q I rv h
  obtain ⟨G, S, r, d, rs, re, rd, h⟩ := h
  refine pg_sub (ho.pe E) (hi.pe E) set_list ha pins s sg H v u Q I rv ?_
  refine ho.next rs re h fun o S1 G1 ov H1 x1 rs1 re1 rd1 h1 => ?_
  refine hi.next rs1 re1 h1 fun i S2 G2 iv H2 x2 rs2 re2 rd2 h2 => ?_
  have rdo := rd1.go (rs1.go x2)
  have rdd := (rd.go (rs.go x1)).go (rs1.go x2)
  unfold dSetL at h2
  split at h2
  · rename_i kk z
    split at h2
    · rename_i ds e
      split at h2
      · rename_i j ej
        cases rdo with
        | @lst _ a hk =>
          cases rd2
          obtain ⟨vs, e3, t⟩ := rs2.at_ kk a ds hk e
          refine ⟨a, vs, z, j, rfl, rfl, e3, by rw [← t.length]; exact ej, ?_⟩
          have x3 := ext_write (o := .lst (vs.set j v)) (List.mem_of_getElem? hk.1) ⟨_, e3, fun _ _ z => nomatch z⟩
          exact h2 G2 sg _ ((x1.trans x2).trans x3) (rs_write rs2 hk (t.set rdd j)) (re2.ext rs2 x3)
      · exact h2.elim
    · exact h2.elim
  · exact h2.elim

def wPar (i j : Nat) (wa : WA) : WS := fun E Dn r S => wa E r S fun ds S1 => match ds with | [d, e] => Dn.nx ((r.set i (some d)).set j (some e)) S1 | _ => False
theorem ds_par {x y : Str} {a b : Expr} {wa : WA} {px py pt : Pos} {kt k2 pt2} (i j : Nat) (hc : X.calm = true) (hN : X.N.Nodup) (ha : DA X [a, b] wa) (hi : X.N[i]? = some x := by rfl) (hj : X.N[j]? = some y := by rfl) (hij : i ≠ j := by decide)
    (hx : X.env.scope.names.lookup x = some .local := by rfl) (hy : X.env.scope.names.lookup y = some .local := by rfl)
    (hw : swappedStores [.Tuple [.Name x px, .Name y py] kt pt] (.Tuple [a, b] k2 pt2) X.env = pure (some [x, y]) := by rfl)
    (hs : swapsWithSole [.Tuple [.Name x px, .Name y py] kt pt] (.Tuple [a, b] k2 pt2) pos.line X.env = pure false := by rfl) :
    DS X (.Assign [.Tuple [.Name x px, .Name y py] kt pt] (.Tuple [a, b] k2 pt2) pos) (wPar i j wa) := by
  refine ⟨fun E A B r S k h => ha.mo _ _ _ _ _ (fun d S1 q => ?_) h, fun E => PS.wk (ps_par hc hN hi hj hij hx hy (ha.pe E) hw hs) fun Dn sg H h => ?_⟩
  · split at q
    · exact k.nx _ _ q
    · exact q.elim
  · obtain ⟨G, S, r, rs, re, h⟩ := h
    refine ha.next rs re h fun ds S1 G1 vs H1 x1 rs1 re1 rd1 q => ?_
    split at q
    · obtain ⟨v, u, rfl, q1, q2⟩ := rd1.two
      exact ⟨v, u, rfl, q G1 _ H1 x1 rs1 ((re1.set q1 i).set q2 j)⟩
    · exact q.elim
end
end DD

namespace DD
open PySem PySem.Spec PyProof.Rows L2


section
variable {X : Cx} {pos : Pos}
theorem RDs.three {K : PySem.W.Frag} {G : Gx} {H : Hp} {d e f : D} {vs : List V} (h : RDs K G H [d, e, f] vs) : ∃ v u w, vs = [v, u, w] ∧ RD K G H d v ∧ RD K G H e u ∧ RD K G H f w := by
  cases h with
  | cons r t =>
    obtain ⟨v, u, rfl, q1, q2⟩ := t.two
    exact ⟨_, _, _, rfl, r, q1, q2⟩
end


section
variable {prog : Program} {w : World} {A : Around} {E : Value → Shared → Prop}
end
section
variable {X : Cx} {pos : Pos} {es : List Expr} {e : Expr}
end


def wWhile (c : WT) (b : WS) : WS := fun E Dn r S => ∃ W : Nat → Rho → Sto → Prop, (∃ m, W m r S) ∧ ∀ m r S, W m r S → c E r S fun t S1 =>
  if t = true then ∃ N : Rho → Sto → Prop, (∀ r' S', N r' S' → ∃ m', m' < m ∧ W m' r' S') ∧ b E { Dn with nx := N, ct := N, bk := Dn.nx } r S1 else Dn.nx r S1
section
variable {X : Cx} {pos : Pos}
theorem ds_while {c : Expr} {body : List Stmt} {wc : WT} {wb : WS} (hp : PassesOwn (model X.prog X.w) X.A X.env X.xe) (hc : DT X c wc) (hb : DSs X body wb) : DS X (.While c body [] pos) (wWhile wc wb) := by
  refine ⟨fun E A B r S k h => ?_, fun E => PS.wk (ps_while hp (hc.pe E) (hb.pe E)) fun Dn sg H h => ?_⟩
  · obtain ⟨W, w0, turn⟩ := h
    refine ⟨W, w0, fun m r S w => hc.mo _ _ _ _ _ (fun t S1 q => ?_) (turn m r S w)⟩
    cases t
    · exact iteF (k.nx _ _ (by simpa using q))
    · obtain ⟨N, hN, q⟩ := (show ∃ N : Rho → Sto → Prop, (∀ r' S', N r' S' → ∃ m', m' < m ∧ W m' r' S') ∧ wb E { A with nx := N, ct := N, bk := A.nx } r S1 by simpa using q)
      exact iteT ⟨N, hN, hb.mo E { A with nx := N, ct := N, bk := A.nx } _ _ _ ⟨fun _ _ z => z, k.rt, k.nx, fun _ _ z => z⟩ q⟩
  · obtain ⟨G, S, r, rs, re, W, ⟨m0, w0⟩, turn⟩ := h
    refine ⟨fun m sg H2 => ∃ G' S' r', Ext G H G' H2 ∧ RS X.K G' S' H2 ∧ RE X E G' H2 r' sg ∧ W m r' S', ⟨m0, G, S, r, Ext.refl _ _, rs, re, w0⟩, ?_⟩
    rintro m sg2 H2 ⟨G2, S2, r2, x2, rs2, re2, w2⟩
    refine DT.next (e := c) hc.mo rs2 re2 (turn m r2 S2 w2) fun t S1 G1 H1 x1 rs1 re1 q => ?_
    cases t
    · exact iteF ((show (OutS X E G H Dn).nx r2 S1 by simpa using q) G1 sg2 H1 (x2.trans x1) rs1 re1)
    · obtain ⟨N, hN, q⟩ := (show ∃ N : Rho → Sto → Prop, (∀ r' S', N r' S' → ∃ m', m' < m ∧ W m' r' S') ∧ wb E { OutS X E G H Dn with nx := N, ct := N, bk := (OutS X E G H Dn).nx } r2 S1 by simpa using q)
      refine iteT ⟨fun sg' H' => ∃ G' S' r', Ext G H G' H' ∧ RS X.K G' S' H' ∧ RE X E G' H' r' sg' ∧ N r' S', ?_, G1, S1, r2, rs1, re1, hb.mo _ _ _ _ _ ⟨?_, ?_, ?_, ?_⟩ q⟩
      · rintro sg' H' ⟨G', S', r', a1, a2, a3, n⟩
        obtain ⟨m', hm, w'⟩ := hN r' S' n
        exact ⟨m', hm, G', S', r', a1, a2, a3, w'⟩
      · exact fun r' S' n G' sg' H' a1 a2 a3 => ⟨G', S', r', (x2.trans x1).trans a1, a2, a3, n⟩
      · exact fun d S' z => OutE.of (x2.trans x1) z
      · exact fun r' S' z => OutR.of (x2.trans x1) z
      · exact fun r' S' n G' sg' H' a1 a2 a3 => ⟨G', S', r', (x2.trans x1).trans a1, a2, a3, n⟩
end


def loopD (g : WG) (b : WS) (E : XD) (Dn : EndD) (chk : Sto → Prop) : List D → Rho → Sto → Prop
  | [], r, S => chk S ∧ Dn.nx r S
  | d :: ds, r, S => chk S ∧ g E d r S fun r2 S2 => b E { Dn with nx := loopD g b E Dn chk ds, ct := loopD g b E Dn chk ds, bk := Dn.nx } r2 S2
section
variable {X : Cx} {pos : Pos} {tg : Expr} {body : List Stmt} {g : WG} {wb : WS}
theorem loopD_mo (hg : DG X tg g) (hb : DSs X body wb) {E : XD} {A B : EndD} (k : LeS A B) (chk : Sto → Prop) : ∀ (ds : List D) (r : Rho) (S : Sto), loopD g wb E A chk ds r S → loopD g wb E B chk ds r S
  | [], _, _, h => ⟨h.1, k.nx _ _ h.2⟩
  | d :: ds, r, S, h => ⟨h.1, hg.mo _ _ _ _ _ _ (fun r2 S2 q => hb.mo E { A with nx := loopD g wb E A chk ds, ct := loopD g wb E A chk ds, bk := A.nx } _ _ _ ⟨fun _ _ z => loopD_mo hg hb k chk ds _ _ z, k.rt, k.nx, fun _ _ z => loopD_mo hg hb k chk ds _ _ z⟩ q) h.2⟩
theorem loopD_chk {E : XD} {Dn : EndD} {chk : Sto → Prop} {ds : List D} {r : Rho} {S : Sto} (h : loopD g wb E Dn chk ds r S) : chk S := by
  cases ds with
  | nil => exact h.1
  | cons _ _ => exact h.1
end
end DD

namespace DD
open PySem PySem.Spec PyProof.Rows L2


theorem wipe_set (sg : L2.St) (i : Nat) (o : Option V) : ∀ vs : List Nat, wipe (sg.set i o) vs = if i ∈ vs then wipe sg vs else (wipe sg vs).set i o
  | [] => by simp [wipe]
  | v :: vs => by
    show (wipe (sg.set i o) vs).set v none = _
    rw [wipe_set sg i o vs]
    by_cases h1 : i ∈ vs
    · rw [if_pos h1, if_pos (List.mem_cons_of_mem _ h1)]; rfl
    · rw [if_neg h1]
      by_cases h2 : i = v
      · subst h2
        rw [if_pos List.mem_cons_self, List.set_set]; rfl
      · rw [if_neg (fun z => (List.mem_cons.mp z).elim h2 h1), List.set_comm _ _ h2]; rfl
theorem wipe_idem (sg : L2.St) : ∀ vs : List Nat, wipe (wipe sg vs) vs = wipe sg vs
  | [] => rfl
  | v :: vs => by
    show (wipe ((wipe sg vs).set v none) vs).set v none = (wipe sg vs).set v none
    rw [wipe_set, wipe_idem sg vs]
    split
    · rfl
    · rw [List.set_set]
def wipeD (r : Rho) : List Nat → Rho
  | [] => r
  | v :: vs => (wipeD r vs).set v none
def XD0 : XD := ⟨fun _ _ => False, []⟩

def XD.n (E : XD) : XD := ⟨fun _ _ => False, E.tb⟩
theorem RE.zero {X X' : Cx} {E : XD} {G : Gx} {H : Hp} {r : Rho} {sg : L2.St} (h : RE X E G H r sg) (hk : X'.K = X.K) : RE X' E.n G H r sg := ⟨h.1, by rw [hk]; exact h.2, ⟨fun _ _ _ _ _ _ _ _ z => z.elim, fun p hp => h.out.tb p hp⟩⟩
theorem RE.unset {X : Cx} {E : XD} {G : Gx} {H : Hp} {r : Rho} {sg : L2.St} (h : RE X E G H r sg) (i : Nat) : RE X E G H (r.set i none) (sg.set i none) := by
  refine ⟨by rw [List.length_set, List.length_set]; exact h.1, fun j e hj => ?_, h.3⟩
  by_cases hij : i = j
  · subst hij
    by_cases hl : i < r.length
    · rw [List.getElem?_set_self hl] at hj; cases hj
    · rw [List.getElem?_eq_none (by rw [List.length_set]; omega)] at hj; cases hj
  · rw [List.getElem?_set_ne hij] at hj
    obtain ⟨u, e1, q1⟩ := h.2 j e hj
    exact ⟨u, by rw [List.getElem?_set_ne hij]; exact e1, q1⟩
theorem RE.wipe {X : Cx} {E : XD} {G : Gx} {H : Hp} {r : Rho} {sg : L2.St} (h : RE X E G H r sg) : ∀ vs : List Nat, RE X E G H (wipeD r vs) (L2.wipe sg vs)
  | [] => h
  | v :: vs => (RE.wipe h vs).unset v

inductive CT where
  | nm (i : Nat) | pr (i j : Nat) | tr (i j k : Nat)
def CT.asg : CT → D → Rho → (Rho → Prop) → Prop
  | .nm i, d, r, Q => Q (r.set i (some d))
  | .pr i j, .tup [a, b], r, Q => Q ((r.set i (some a)).set j (some b))
  | .pr _ _, _, _, _ => False
  | .tr i j k, .tup [a, b, c], r, Q => Q (((r.set i (some a)).set j (some b)).set k (some c))
  | .tr _ _ _, _, _, _ => False
def CT.g (K : PySem.W.Frag) : CT → TG
  | .nm i => gName i
  | .pr i j => gTup K 2 (gCons (gName i) (gCons (gName j) gNil))
  | .tr i j k => gTup K 3 (gCons (gName i) (gCons (gName j) (gCons (gName k) gNil)))
def CT.In (vs : List Nat) : CT → Prop
  | .nm i => i ∈ vs
  | .pr i j => i ∈ vs ∧ j ∈ vs
  | .tr i j k => i ∈ vs ∧ j ∈ vs ∧ k ∈ vs
theorem CT.mo {ct : CT} {d : D} {r : Rho} {Q Q' : Rho → Prop} (k : ∀ r, Q r → Q' r) (h : ct.asg d r Q) : ct.asg d r Q' := by
  cases ct with
  | nm i => exact k _ h
  | pr i j =>
    cases d <;> first | exact h.elim | skip
    rename_i xs
    match xs, h with
    | [a, b], h => exact k _ h
    | [], h => exact h.elim
    | [_], h => exact h.elim
    | _ :: _ :: _ :: _, h => exact h.elim
  | tr i j l =>
    cases d <;> first | exact h.elim | skip
    rename_i xs
    match xs, h with
    | [a, b, c], h => exact k _ h
    | [], h => exact h.elim
    | [_], h => exact h.elim
    | [_, _], h => exact h.elim
    | _ :: _ :: _ :: _ :: _, h => exact h.elim
theorem CT.step {X : Cx} {E : XD} {G : Gx} {H : Hp} {ct : CT} {vs : List Nat} (hin : ct.In vs) {d : D} {x : V} {r : Rho} {sg : L2.St} (re : RE X E G H r sg) (rd : RD X.K G H d x) {Q : Rho → Prop} {P : L2.St → Hp → Prop} (h : ct.asg d r Q)
    (k : ∀ r2 sg2, RE X E G H r2 sg2 → L2.wipe sg2 vs = L2.wipe sg vs → Q r2 → P sg2 H) : ct.g X.K x sg H P := by
  cases ct with
  | nm i => exact k _ _ (re.set rd i) (by rw [wipe_set, if_pos (show i ∈ vs from hin)]) h
  | pr i j =>
    have hi : i ∈ vs ∧ j ∈ vs := hin
    cases d <;> first | exact h.elim | skip
    rename_i xs
    match xs, h with
    | [], h => exact h.elim
    | [_], h => exact h.elim
    | _ :: _ :: _ :: _, h => exact h.elim
    | [a, b], h =>
      cases rd with
      | tup hx q =>
        obtain ⟨v, u, rfl, q1, q2⟩ := q.two
        refine ⟨_, _, rfl, hx.sq, rfl, v, [u], rfl, u, [], rfl, rfl, ?_⟩
        exact k _ _ ((re.set q1 i).set q2 j) (by rw [wipe_set, if_pos hi.2, wipe_set, if_pos hi.1]) h
  | tr i j l =>
    have hi : i ∈ vs ∧ j ∈ vs ∧ l ∈ vs := hin
    cases d <;> first | exact h.elim | skip
    rename_i xs
    match xs, h with
    | [], h => exact h.elim
    | [_], h => exact h.elim
    | [_, _], h => exact h.elim
    | _ :: _ :: _ :: _ :: _, h => exact h.elim
    | [a, b, c], h =>
      cases rd with
      | tup hx q =>
        obtain ⟨v, u, w, rfl, q1, q2, q3⟩ := RDs.three q
        refine ⟨_, _, rfl, hx.sq, rfl, v, [u, w], rfl, u, [w], rfl, w, [], rfl, rfl, ?_⟩
        exact k _ _ (((re.set q1 i).set q2 j).set q3 l) (by rw [wipe_set, if_pos hi.2.2, wipe_set, if_pos hi.2.1, wipe_set, if_pos hi.1]) h
def compD (ct : CT) (wt : WT) (we : WE) (E : XD) (r0 : Rho) : List D → List D → Sto → (List D → Sto → Prop) → Prop
  | [], acc, S, Q => Q acc S
  | d :: ds, acc, S, Q => ct.asg d r0 fun r2 => wt E r2 S fun b S3 => if b = true then we E r2 S3 fun y S4 => acc.length < 1000 ∧ compD ct wt we E r0 ds (acc ++ [y]) S4 Q else compD ct wt we E r0 ds acc S3 Q
theorem compD_mo {ct : CT} {wt : WT} {we : WE} (mt : MoT wt) (me : MoE we) {E : XD} {r0 : Rho} {Q Q' : List D → Sto → Prop} (k : ∀ d S, Q d S → Q' d S) : ∀ (ds acc : List D) (S : Sto), compD ct wt we E r0 ds acc S Q → compD ct wt we E r0 ds acc S Q'
  | [], acc, S, h => k _ _ h
  | d :: ds, acc, S, h => CT.mo (fun r2 h2 => mt _ _ _ _ _ (fun b S3 h3 => by
      cases b
      · exact iteF (compD_mo mt me k ds acc S3 (by simpa using h3))
      · have h3 : we E r2 S3 fun y S4 => acc.length < 1000 ∧ compD ct wt we E r0 ds (acc ++ [y]) S4 Q := by simpa using h3
        exact iteT (me _ _ _ _ _ (fun y S4 h4 => ⟨h4.1, compD_mo mt me k ds _ S4 h4.2⟩) h3)) h2) h

structure PvC (K : PySem.W.Frag) (ct : CT) (wt : WT) (we : WE) (E : XD) (G1 : Gx) (H1 : Hp) (r0 : Rho) (Dd : Addr) (ds : List D) (Q : List D → Sto → Prop) (i : Nat) (Hc : Hp) : Prop where
  ex : ∃ G' S' acc us, Ext G1 H1 G' Hc ∧ RS K G' S' Hc ∧ Dd ∉ G'.M ∧ ¬ G'.F Dd ∧ Hc Dd = some (.lst us) ∧ RDs K G' Hc acc us ∧ acc.length ≤ 1000 ∧ compD ct wt we E r0 (ds.drop i) acc S' Q
theorem Ext.other {G G' : Gx} {H H' : Hp} {p : Addr} {o : HO} (x : Ext G H G' H') (hp : H p = none) : Ext G H G' (upd H' p o) :=
  ⟨x.pre, x.sub, fun a u h n nt => by rw [upd_ne (ne_of_none h hp)]; exact x.keep a u h n nt, fun a h => by
    by_cases e : a = p
    · rw [e]; exact hp
    · rw [upd_ne e] at h; exact x.tr a h, x.newF, x.newM, x.tt, x.jj, fun a u v h => by rw [upd_ne (ne_of_none h hp)]; exact x.fz a u v h⟩
def wMk (mu : Bool) (acc : List D) (S : Sto) (Q : KD) : Prop := if mu = true then Q (.lst S.length) (S ++ [acc]) else Q (.lv acc) S

theorem adopt {K : PySem.W.Frag} {G G' : Gx} {H Hc : Hp} {S' : Sto} {Dd : Addr} {acc : List D} {us : List V} (rs' : RS K G' S' Hc) (xx : Ext G H G' Hc) (h0 : H Dd = none) (nm : Dd ∉ G'.M) (nf : ¬ G'.F Dd) (ntD : Dd ∉ G'.tabs) (hDc : Hc Dd = some (.lst us)) (qa : RDs K G' Hc acc us) :
    Ext G H (G'.addM Dd) Hc ∧ RS K (G'.addM Dd) (S' ++ [acc]) Hc ∧ RD K (G'.addM Dd) Hc (.lst S'.length) (.ref Dd) := by
  have go : Go G' Hc (G'.addM Dd) Hc := ⟨fun k a h => by
      show (G'.M ++ [Dd])[k]? = some a
      rw [List.getElem?_append_left (List.getElem?_eq_some_iff.mp h).1]; exact h, fun _ h => h, fun _ _ _ h => h, fun _ _ _ => rfl, fun _ _ h => h⟩
  obtain ⟨t0, et⟩ := xx.pre
  refine ⟨⟨⟨t0 ++ [Dd], by show G'.M ++ [Dd] = _; rw [et, List.append_assoc]⟩, xx.sub, xx.keep, xx.tr, xx.newF, fun a h => ?_, xx.tt, xx.jj, xx.fz⟩,
    ⟨by show (G'.M ++ [Dd]).length = _; rw [List.length_append, List.length_append, rs'.len]; rfl, nd_snoc rs'.nd nm, fun a h z => ?_, rs'.tf, fun a h => ?_, rs'.ft, rs'.tb, rs'.tu, fun k a es e1 e2 => ?_, fun k hk => rs'.jn k ?_⟩, .lst rs'.ls_new⟩
  · rcases List.mem_append.mp h with h | h
    · exact xx.newM a h
    · rw [List.mem_singleton.mp h]; exact .inr h0
  · rcases List.mem_append.mp z with z | z
    · exact rs'.dj a h z
    · rw [List.mem_singleton.mp z] at h; exact nf h
  · rcases List.mem_append.mp h with h | h
    · exact rs'.mt a h
    · rw [List.mem_singleton.mp h]; exact ntD
  · have e1 : (G'.M ++ [Dd])[k]? = some a := e1
    show KAt K (G'.addM Dd) Hc (G'.J k) a es
    by_cases hk : k < G'.M.length
    · rw [List.getElem?_append_left hk] at e1
      rw [List.getElem?_append_left (by rw [← rs'.len]; exact hk)] at e2
      exact (rs'.ot k a es e1 e2).stay go (fun _ e => e) fun _ e => e
    · have hk' : k = G'.M.length := by
        have := (List.getElem?_eq_some_iff.mp e1).1
        rw [List.length_append, List.length_singleton] at this
        omega
      subst hk'
      rw [rs'.jn _ (Nat.le_refl _)]
      rw [List.getElem?_append_right (Nat.le_refl _)] at e1
      rw [rs'.len, List.getElem?_append_right (Nat.le_refl _)] at e2
      simp at e1 e2
      subst e1 e2
      exact ⟨us, hDc, qa.go go⟩
  · have hk : (G'.M ++ [Dd]).length ≤ k := hk
    rw [List.length_append, List.length_singleton] at hk
    omega
theorem mk_done {K : PySem.W.Frag} {G G1 G' : Gx} {H H1 Hc : Hp} {S' : Sto} {Dd : Addr} {acc : List D} {us : List V} {mu : Bool} {Q : VK} (x1 : Ext G H G1 H1) (hD : H1 Dd = none) (x' : Ext G1 H1 G' Hc) (rs' : RS K G' S' Hc) (nm : Dd ∉ G'.M) (nf : ¬ G'.F Dd) (hDc : Hc Dd = some (.lst us)) (qa : RDs K G' Hc acc us)
    (q : wMk mu acc S' (OutE K G H Q)) : Q (.ref Dd) Hc := by
  have ntD : Dd ∉ G'.tabs := fun z => by
    obtain ⟨q, hq, e1⟩ := List.mem_map.mp z
    obtain ⟨ps, e2, _⟩ := rs'.tb q hq
    rw [e1, hDc] at e2; cases e2
  have xx := x1.trans x'
  cases mu
  · have q : OutE K G H Q (.lv acc) S' := by simpa [wMk] using q
    have go : Go G' Hc (G'.addF Dd) Hc := go_sta
    refine q (G'.addF Dd) _ Hc ⟨xx.pre, fun a h => .inl (xx.sub a h), xx.keep, xx.tr, fun a h => ?_, xx.newM, xx.tt, xx.jj, xx.fz⟩ ⟨rs'.len, rs'.nd, fun a h => ?_, fun a h => ?_, rs'.mt, fun a h => ?_, rs'.tb, rs'.tu, fun k a es e1 e2 => (rs'.ot k a es e1 e2).stay go (fun _ e => e) fun _ e => e, rs'.jn⟩ (.lv ⟨.inr rfl, hDc⟩ (qa.go go))
    · rcases h with h | h
      · exact xx.newF a h
      · rw [h]; exact .inr (.inl (x1.tr _ hD))
    · rcases h with h | h
      · exact rs'.dj a h
      · rw [h]; exact nm
    · rcases h with h | h
      · exact rs'.tf a h
      · rw [h]; exact ⟨_, hDc⟩
    · rcases h with h | h
      · exact rs'.ft a h
      · rw [h]; exact ntD
  · have q : OutE K G H Q (.lst S'.length) (S' ++ [acc]) := by simpa [wMk] using q
    obtain ⟨xm, rm, dm⟩ := adopt rs' xx (x1.tr _ hD) nm nf ntD hDc qa
    exact q (G'.addM Dd) _ Hc xm rm dm
theorem comp_done {K : PySem.W.Frag} {ct : CT} {wt : WT} {we : WE} {E : XD} {G G1 : Gx} {H H1 Hc : Hp} {r0 : Rho} {Dd : Addr} {ds : List D} {mu : Bool} {Q : VK} {n : Nat} (hn : n = ds.length) (x1 : Ext G H G1 H1) (hD : H1 Dd = none)
    (p : PvC K ct wt we E G1 H1 r0 Dd ds (fun acc S2 => wMk mu acc S2 (OutE K G H Q)) n Hc) : Q (.ref Dd) Hc := by
  obtain ⟨G', S', acc, us, x', rs', nm, nf, hDc, qa, hl, q⟩ := p.ex
  subst hn
  rw [List.drop_length] at q
  exact mk_done x1 hD x' rs' nm nf hDc qa q

def wLc (src : WA) (ct : CT) (wt : WT) (we : WE) (vs : List Nat) (mu : Bool) : WE := fun E r S Q => src E r S fun ds S1 => compD ct wt we E.n (wipeD r vs) ds [] S1 fun acc S2 => wMk mu acc S2 Q
theorem wMk_mo {mu : Bool} {acc : List D} {S : Sto} {Q Q' : KD} (k : ∀ d S, Q d S → Q' d S) (h : wMk mu acc S Q) : wMk mu acc S Q' := by
  unfold wMk at h ⊢
  cases mu
  · exact iteF (k _ _ (by simpa using h))
  · exact iteT (k _ _ (by simpa using h))
structure DTs (X : Cx) (ifs : List Expr) (w : WT) : Prop where
  mo : MoT w
  pe : ∀ E, PTs X ifs (tDT X w E)
theorem DTs.blk {X : Cx} {ifs : List Expr} {w : WT} {s : Shared} {H : Hp} {scope : Scope} {cenv : Env} {fp : List Addr} {E : XD} (h : DTs (X.blk s H scope cenv fp) ifs w) : PTs (X.blk s H scope cenv fp) ifs (tDT X w E.n) := fun pins s sg H Q I q => by
  obtain ⟨G, S, r, rs, re, q⟩ := q
  exact h.pe E.n pins s sg H Q I ⟨G, S, r, rs, re.zero rfl, q⟩
theorem DE.blk {X : Cx} {e : Expr} {w : WE} {s : Shared} {H : Hp} {scope : Scope} {cenv : Env} {fp : List Addr} {E : XD} (h : DE (X.blk s H scope cenv fp) e w) : PE (X.blk s H scope cenv fp) e (tD X w E.n) := fun pins s sg H Q I q => by
  obtain ⟨G, S, r, rs, re, q⟩ := q
  exact h.pe E.n pins s sg H Q I ⟨G, S, r, rs, re.zero rfl, q⟩
def wYes : WT := fun _ _ S Q => Q true S
theorem dts_nil {X : Cx} : DTs X [] wYes := ⟨fun E r S Q Q' k h => k _ _ h, fun E => fun pins s sg H Q I h => by
  obtain ⟨G, S, r, rs, re, h⟩ := h
  exact pts_nil pins s sg H Q I (h G H (Ext.refl _ _) rs)⟩
theorem dts_one {X : Cx} {c : Expr} {w : WT} (h : DT X c w) : DTs X [c] w := ⟨h.mo, fun E => pts_one (h.pe E)⟩

structure DSrc (X : Cx) (tg iter : Expr) (src : WA) : Prop where
  mo : MoA src
  pi : ∃ wi : XD → TI, (∀ E, PI X tg iter (wi E)) ∧ ∀ (E : XD) (ct : CT) (wt : WT) (we : WE) (vs : List Nat) (mu : Bool), MoT wt → MoE we → ct.In vs → ∀ sg H Q,
    tD X (wLc src ct wt we vs mu) E sg H Q → tLc (wi E) (ct.g X.K) (tDT X wt E.n) (tD X we E.n) vs sg H Q
section
variable {X : Cx} {elt tg iter : Expr} {ifs : List Expr} {scope : Scope} {own : List (Str × Nat)} {pos : Pos} {src : WA} {wt : WT} {we : WE} {vs : List Nat}
theorem de_lc (mu : Bool) (ct : CT) (hc : X.calm = true) (hN : X.N.Nodup) (hi : DSrc X tg iter src) (ok : BlkOk X.N X.env.scope scope own) (hct : ct.In vs)
    (hg : ∀ (s : Shared) (H : Hp) (C : Addr) (cl : List (Str × Addr)) (fp : List Addr), PG (X.blk s H scope (compEnvC scope cl C X.env) fp) tg (ct.g X.K)) (ht : ∀ (s : Shared) (H : Hp) (C : Addr) (cl : List (Str × Addr)) (fp : List Addr), DTs (X.blk s H scope (compEnvC scope cl C X.env) fp) ifs wt)
    (he : ∀ (s : Shared) (H : Hp) (C : Addr) (cl : List (Str × Addr)) (fp : List Addr), DE (X.blk s H scope (compEnvC scope cl C X.env) fp) elt we) (s0 : Shared) (H0 : Hp) (hs : ∀ x, foldedSetIterable iter X.env x = pure x := by intro _; rfl) (hv : own.map (·.2) = vs := by rfl) :
    DE X (.ListComp elt [⟨tg, iter, ifs, 0⟩] scope pos) (wLc src ct wt we vs mu) := by
  subst hv
  have mt : MoT wt := (ht s0 H0 0 [] []).mo
  have me : MoE we := (he s0 H0 0 [] []).mo
  obtain ⟨wi, hwi, rd⟩ := hi.pi
  refine ⟨fun E r S Q Q' k h => hi.mo _ _ _ _ _ (fun ds S1 q => compD_mo mt me (fun acc S2 z => wMk_mo k z) _ _ _ q) h, fun E => PE.wk (pe_lc (g := ct.g X.K) (tt := tDT X wt E.n) (te := tD X we E.n) hc hN (hwi E) ok hg (fun s H C cl fp => (ht s H C cl fp).blk) (fun s H C cl fp => (he s H C cl fp).blk) hs) fun sg H Q h => rd E ct wt we _ mu mt me hct sg H Q h⟩
end


def startD (N : List Str) (ds : List D) : Rho := ds.map some ++ List.replicate (N.length - ds.length) none
theorem RE.start {X : Cx} {E : XD} {G : Gx} {H : Hp} {ds : List D} {vs : List V} (N : List Str) (h : RDs X.K G H ds vs) (o : OutX X E G H) : RE X E G H (startD N ds) (L2.start N vs) := by
  refine ⟨by simp [startD, L2.start, h.length], fun i d e => ?_, o⟩
  unfold startD at e
  unfold L2.start
  by_cases hi : i < ds.length
  · rw [List.getElem?_append_left (by simpa using hi), List.getElem?_map] at e
    cases e2 : ds[i]? with
    | none => rw [e2] at e; cases e
    | some d' =>
      rw [e2] at e
      cases e
      obtain ⟨v, e3, q⟩ := h.get e2
      exact ⟨v, by rw [List.getElem?_append_left (by rw [List.length_map, ← h.length]; exact hi), List.getElem?_map, e3]; rfl, q⟩
  · rw [List.getElem?_append_right (by simpa using hi), List.getElem?_replicate] at e
    split at e <;> cases e
section
variable {P : Program} {w : World} {K : PySem.W.Frag} {mg : Str → Option Value} {base : Heap}
theorem fn_deep {x qual : Str} {st : Stmt} {f : Addr} {fd : FuncData} {N ps : List Str} {k : Nat} {g : GF} {wb : WS} (F : Fun K x qual st f fd) (Sc : FnScope N ps (defScope st)) (len : ∀ ds E S Q, g ds E S Q → ds.length = ps.length)
    (hbody : ∀ (cdv : Value) (A : Around) (outer : List Env) (s : Shared) (H : Hp) (E : XK), PySem.W.codeIn K cdv qual = true → Room k (A.deeper (envOfC qual (defScope st) s.heap.objs.size f cdv)) → DSs (cxOf (CXE P w) P w K mg base N qual (defScope st) f cdv A outer s H E) (defBody st) wb)
    (hg : ∀ ds E S (Q : KD), g ds E S Q → wb E ⟨fun _ S' => Q .non S', Q, fun _ _ => False, fun _ _ => False⟩ (startD N ds) S) : FnOk P w K mg base (CXE P w) (k + 1) f fd ps (spD K g) := by
  obtain ⟨oc, od, kV, doc, pm, an, cdv, ct, osl, rfl, lk, hcd⟩ := F.ex
  refine fn_of lk hcd Sc (fun vs H Q E h => ?_) (fun A outer s H vs Q E hr h => ?_)
  · obtain ⟨G, S, ds, E', rs, rd, q, _⟩ := h
    rw [← rd.length]
    exact len _ _ _ _ q
  · obtain ⟨G, S, ds, E', rs, rd, q, ox⟩ := h
    have hb := hbody cdv A outer s H E hcd hr
    refine ⟨_, hb.pe E', G, S, startD N ds, rs, .start N rd ⟨fun x C S' G' H' y rs' c e => xok_cx (ox.ex x C S' G' H' y rs' c e), ox.tb⟩, hb.mo _ _ _ _ _ ⟨?_, ?_, ?_, ?_⟩ (hg _ _ _ _ q)⟩
    · exact fun r' S' z G' sg' H' x' rs' re' => z G' .non H' x' rs' .non
    · exact fun d S' z => z
    · exact fun _ _ z => z.elim
    · exact fun _ _ z => z.elim
theorem fnI_of {x qual : Str} {st : Stmt} {f : Addr} {fd : FuncData} {ps : List Str} {k n : Nat} {g : GF} (F : Fun K x qual st f fd) (hn : ps.length = n) (hm : mg x = some (.ref f)) (b : Binds K fd ps []) (G : FnOk P w K mg base (CXE P w) k f fd ps (spD K g)) (mo : MoG g) : FnI P w K mg base k x n g :=
  ⟨⟨f, fd, ps, hn, G, hm, F.kp, b⟩, mo⟩
theorem calm_of {A : Around} {env : Env} {k : Nat} (hr : Room k (A.deeper env)) (h : 4 ≤ k) : A.handled.isNone = true := Option.isNone_iff_eq_none.mpr (hr.hd h)
end

theorem rds_ints {K : PySem.W.Frag} {G : Gx} {H : Hp} : ∀ ns : List Int, RDs K G H (ns.map D.int) (ns.map V.int)
  | [] => .nil
  | n :: ns => .cons (.int n) (rds_ints ns)
end DD

namespace DD
open PySem PySem.Spec PyProof.Rows L2

structure ROk (p : PyData) : Prop where
  sh : p.showable = true
  nd : p.hasDict = false
  ls : p.leavesShort 2000 = true
  bk : p.bulk ≤ 8000
  dp : p.depth ≤ 60
theorem ROk.len {p : PyData} (h : ROk p) : p.shown.length ≤ sizeLine := by
  have z := PyData.shown_le_bulk 2000 (by decide) p h.ls
  have b := h.bk
  have e : (2000 + 2) * p.bulk ≤ 2002 * 8000 := Nat.mul_le_mul_left _ b
  rw [sizeLine_eq]
  omega
@[irreducible] def shw (p : PyData) : Str := p.shown
end DD

namespace DD
open PySem PySem.Spec PyProof.Rows L2

def asL (S : Sto) : D → Option (List D)
  | .lv ds => some ds
  | .lst k => S[k]?
  | _ => none
theorem asL_ok {K : PySem.W.Frag} {G : Gx} {S : Sto} {H : Hp} {d : D} {v : V} {ds : List D} (rs : RS K G S H) (q : RD K G H d v) (e : asL S d = some ds) : ∃ a vs, v = .ref a ∧ H a = some (.lst vs) ∧ RDs K G H ds vs := by
  cases q with
  | lv hx t => cases e; exact ⟨_, _, rfl, hx.2, t⟩
  | @lst k a hk =>
    obtain ⟨vs, e3, t⟩ := rs.at_ k a ds hk e
    exact ⟨a, vs, rfl, e3, t⟩
  | _ => cases e

theorem mk_new {K : PySem.W.Frag} {G : Gx} {S : Sto} {H : Hp} {mu : Bool} {ds : List D} {vs : List V} {Q : VK} (rs : RS K G S H) (t : RDs K G H ds vs) (h : wMk mu ds S (OutE K G H Q)) : ∀ p, H p = none → Q (.ref p) (upd H p (.lst vs)) := by
  intro p hp
  cases mu
  · have h : OutE K G H Q (.lv ds) S := by simpa [wMk] using h
    exact h _ _ _ (ext_newF hp) (rs_newF rs hp) (rd_newLv hp t)
  · have h : OutE K G H Q (.lst S.length) (S ++ [ds]) := by simpa [wMk] using h
    exact h _ _ _ (ext_newM hp) (rs_newM rs hp t) (rd_newLst rs)
def dCat (mu : Bool) : RD2 := fun x y S Q => match asL S x, asL S y with | some a, some b => a.length + b.length ≤ 1000 ∧ wMk mu (a ++ b) S Q | _, _ => False
theorem dCat_ok {K : PySem.W.Frag} {mu : Bool} : OpD K rCat (dCat mu) := by
  refine ⟨fun x y S Q Q' k h => ?_, fun G S H x y v u Q rs rx ry h => ?_⟩
  · unfold dCat at h ⊢
    split at h
    · exact ⟨h.1, wMk_mo k h.2⟩
    · exact h.elim
  · unfold dCat at h
    split at h
    · rename_i a b e1 e2
      obtain ⟨p, us, rfl, hp, t1⟩ := asL_ok rs rx e1
      obtain ⟨q, ws, rfl, hq, t2⟩ := asL_ok rs ry e2
      exact ⟨p, q, us, ws, rfl, rfl, hp, hq, by rw [← t1.length, ← t2.length]; exact le1000 h.1, mk_new rs (t1.append t2) h.2⟩
    · exact h.elim
theorem RDs.rep {K : PySem.W.Frag} {G : Gx} {H : Hp} {ds : List D} {vs : List V} (h : RDs K G H ds vs) : ∀ k : Nat, RDs K G H (List.replicate k ds).flatten (List.replicate k vs).flatten
  | 0 => .nil
  | k + 1 => by
    rw [List.replicate_succ, List.replicate_succ, List.flatten_cons, List.flatten_cons]
    exact h.append (RDs.rep h k)
def dRep (mu : Bool) : RD2 := fun x y S Q => match asL S x, y with | some a, .int k => (-(2 ^ 63) ≤ k ∧ k < 2 ^ 63 ∧ a.length * k.toNat ≤ 1000) ∧ wMk mu (List.replicate k.toNat a).flatten S Q | _, _ => False
theorem dRep_ok {K : PySem.W.Frag} {mu : Bool} : OpD K rRep (dRep mu) := by
  refine ⟨fun x y S Q Q' k h => ?_, fun G S H x y v u Q rs rx ry h => ?_⟩
  · unfold dRep at h ⊢
    split at h
    · exact ⟨h.1, wMk_mo k h.2⟩
    · exact h.elim
  · unfold dRep at h
    split at h
    · rename_i a k e1
      obtain ⟨p, us, rfl, hp, t1⟩ := asL_ok rs rx e1
      cases ry
      exact ⟨p, k, us, rfl, rfl, hp, h.1.1, h.1.2.1, by rw [← t1.length]; exact le1000 h.1.2.2, mk_new rs (t1.rep _) h.2⟩
    · exact h.elim

def rCatT0 (K : PySem.W.Frag) : R2 := fun x y H Q => ∃ a b ys, x = .ref a ∧ y = .ref b ∧ SqT K H a [] ∧ SqT K H b ys ∧ Q (.ref b) H
theorem op_catT0 {X : Cx} : OpR X (binaryOp .Add) (rCatT0 X.K) := by
  intro pins s sg H x y v u Q I rx ry h
  obtain ⟨a, b, ys, rfl, rfl, ha, hb, q⟩ := h
  cases rx
  cases ry
  obtain ⟨its, r1, p1, _⟩ := I.tuple ha
  obtain ⟨its2, r2, p2, _⟩ := I.tuple hb
  cases r1
  obtain ⟨⟨cls, dd, data, sl⟩, ho, hc, n, hd⟩ := id p1
  obtain ⟨⟨cls2, dd2, data2, sl2⟩, ho2, hc2, n2, hd2⟩ := id p2
  simp only at hc hd hc2 hd2
  subst hc hd hc2 hd2
  exact concat_meets ⟨_, ho, rfl⟩ ⟨_, ho2, rfl⟩ noFill_tuple_add seq_tuple_add PySem.F.slot_tuple_add PySem.F.entry_tuple_add (PySem.F.args_tuple_add_2 _ _)
    (tuple_addW0 a b _ its2.toArray n n2 dd dd2 sl sl2 rfl) ⟨ho, ho2, ⟨.ref b, H, I, rfl, q⟩⟩
def dCatT : RD2 := fun x y S Q => match x, y with | .tup a, .tup b => a.length + b.length ≤ 1000 ∧ Q (.tup (a ++ b)) S | _, _ => False
theorem dCatT_ok {K : PySem.W.Frag} : OpD K (fun x y H Q => rCatT0 K x y H Q ∨ rCatT K x y H Q) dCatT := by
  refine ⟨fun x y S Q Q' k h => ?_, fun G S H x y v u Q rs rx ry h => ?_⟩
  · unfold dCatT at h ⊢
    split at h
    · exact ⟨h.1, k _ _ h.2⟩
    · exact h.elim
  · unfold dCatT at h
    split at h
    · rename_i a b
      cases rx with
      | @tup p _ us hx t1 =>
        cases ry with
        | @tup q _ ws hy t2 =>
          cases t1 with
          | nil => exact .inl ⟨p, q, ws, rfl, rfl, hx.sq, hy.sq, h.2 G _ H (Ext.refl _ _) rs (.tup hy t2)⟩
          | @cons d0 v0 dr vr r0 rr =>
            have t1 : RDs K G H (d0 :: dr) (v0 :: vr) := .cons r0 rr
            refine .inr ⟨p, q, _, ws, rfl, rfl, hx.sq, hy.sq, by simp, by rw [← t1.length, ← t2.length]; exact le1000 h.1, fun e => ?_, fun _ pp hp => ?_⟩
            · subst e
              cases t2
              have z := h.2
              rw [List.append_nil] at z
              exact z G _ H (Ext.refl _ _) rs (.tup hx t1)
            · exact h.2 _ _ _ (ext_newF hp) (rs_newF rs hp) (rd_newTup hp (t1.append t2))
    · exact h.elim
section
variable {X : Cx} {a b c : Expr} {pos : Pos} {wa wb wc : WE}
theorem de_cat (mu : Bool) (ha : DE X a wa) (hb : DE X b wb) : DE X (.BinOp a .Add b pos) (wOp (dCat mu) wa wb) := de_op op_cat dCat_ok ha hb
theorem de_rep (mu : Bool) (ha : DE X a wa) (hb : DE X b wb) : DE X (.BinOp a .Mult b pos) (wOp (dRep mu) wa wb) := de_op op_rep dRep_ok ha hb
theorem de_catT (ha : DE X a wa) (hb : DE X b wb) : DE X (.BinOp a .Add b pos) (wOp dCatT wa wb) := de_op (op_catT0.or op_catT) dCatT_ok ha hb
end

section
variable {X : Cx} {a b c : Expr} {pos : Pos} {wa wb wc : WE}
def wChain (r r' : RD2) (wa wb wc : WE) : WE := fun E p S Q => wa E p S fun x S1 => wb E p S1 fun y S2 => r x y S2 fun z S3 => match z with
  | .bl k => if k = true then wc E p S3 fun w S4 => r' y w S4 Q else Q (.bl false) S3
  | _ => False
theorem mo_chain {r r' : RD2} (h1 : ∀ x y S (Q Q' : KD), (∀ d S, Q d S → Q' d S) → r x y S Q → r x y S Q') (h2 : ∀ x y S (Q Q' : KD), (∀ d S, Q d S → Q' d S) → r' x y S Q → r' x y S Q') (ha : MoE wa) (hb : MoE wb) (hc : MoE wc) : MoE (wChain r r' wa wb wc) := fun E p S Q Q' k h =>
  ha _ _ _ _ _ (fun x S1 h1' => hb _ _ _ _ _ (fun y S2 h2' => h1 _ _ _ _ _ (fun z S3 h3 => by
    cases z <;> first | exact h3.elim | skip
    rename_i c
    cases c
    · exact iteF (k _ _ (by simpa using h3))
    · exact iteT (hc _ _ _ _ _ (fun w S4 h4 => h2 _ _ _ _ _ k h4) (by simpa using h3))) h2') h1') h
theorem chain_read {op op' : CmpOp} {r r' : R2} {d d' : RD2} (hr : OpD X.K r d) (hr' : OpD X.K r' d') (ha : DE X a wa) (hb : DE X b wb) (hc : DE X c wc) {E : XD} {sg : L2.St} {H : Hp} {Q : VK} (h : tD X (wChain d d' wa wb wc) E sg H Q) :
    tChain r r' (tD X wa E) (tD X wb E) (tD X wc E) sg H Q := by
  obtain ⟨G, S, p, rs, re, h⟩ := h
  refine ha.next rs re h fun x S1 G1 v H1 x1 rs1 re1 rd1 h1 => ?_
  refine hb.next rs1 re1 h1 fun y S2 G2 u H2 x2 rs2 re2 rd2 h2 => ?_
  refine hr.ok G2 S2 H2 x y v u _ rs2 (rd1.go (rs1.go x2)) rd2 (hr.mo _ _ _ _ _ (fun z S3 q G3 t H3 x3 rs3 rd3 => ?_) h2)
  cases z <;> first | exact q.elim | skip
  rename_i k
  cases rd3
  refine ⟨k, rfl, ?_⟩
  cases k
  · exact iteF ((show OutE X.K G H Q (.bl false) S3 by simpa using q) G3 _ H3 ((x1.trans x2).trans x3) rs3 (.bl _))
  · have q : wc E p S3 fun w S4 => d' y w S4 (OutE X.K G H Q) := by simpa using q
    refine iteT (hc.next rs3 (re2.ext rs2 x3) q fun w S4 G4 t H4 x4 rs4 re4 rd4 h4 => ?_)
    exact hr'.ok G4 S4 H4 y w u t Q rs4 ((rd2.go (rs2.go x3)).go (rs3.go x4)) rd4 (hr'.mo _ _ _ _ _ (fun e S5 z => OutE.of (((x1.trans x2).trans x3).trans x4) z) h4)
theorem de_chain {op op' : CmpOp} {r r' : R2} {d d' : RD2} (ho : OpR X (compareOp op) r) (ho' : OpR X (compareOp op') r') (hr : OpD X.K r d) (hr' : OpD X.K r' d') (ha : DE X a wa) (hb : DE X b wb) (hc : DE X c wc)
    (hm : lastMarks [op, op'] [b, c] = false := by with_unfolding_all rfl) : DE X (.Compare a [op, op'] [b, c] pos) (wChain d d' wa wb wc) :=
  ⟨mo_chain hr.mo hr'.mo ha.mo hb.mo hc.mo, fun E => PE.wk (pe_chain ho ho' (ha.pe E) (hb.pe E) (hc.pe E) hm) fun sg H Q h => chain_read (op := op) (op' := op') hr hr' ha hb hc h⟩
theorem dt_chain {op op' : CmpOp} {r r' : R2} {d d' : RD2} (ho : OpR X (compareOp op) r) (ho' : OpR X (compareOp op') r') (hr : OpD X.K r d) (hr' : OpD X.K r' d') (ha : DE X a wa) (hb : DE X b wb) (hc : DE X c wc)
    (hm : lastMarks [op, op'] [b, c] = false := by with_unfolding_all rfl) : DT X (.Compare a [op, op'] [b, c] pos) (wB (wChain d d' wa wb wc)) :=
  ⟨mo_B (mo_chain hr.mo hr'.mo ha.mo hb.mo hc.mo), fun E => PT.wk (pt_chain ho ho' (ha.pe E) (hb.pe E) (hc.pe E) hm) fun sg H Q h => B_read (mo_chain hr.mo hr'.mo ha.mo hb.mo hc.mo) (fun Q h => chain_read (op := op) (op' := op') hr hr' ha hb hc h) h⟩
end
abbrev dLeI : RD2 := dI0 fun i j => .bl (decide (i ≤ j))
theorem dLeI_ok {K : PySem.W.Frag} : OpD K (rI0 fun i j => .bl (decide (i ≤ j))) dLeI := dI0_ok fun _ _ _ _ => .bl _


def asSeq (S : Sto) : D → Option (List D)
  | .lv ds => some ds
  | .sv ds => some ds
  | .tup ds => some ds
  | .lst k => S[k]?
  | _ => none
theorem asSeq_ok {K : PySem.W.Frag} {G : Gx} {S : Sto} {H : Hp} {d : D} {v : V} {ds : List D} (rs : RS K G S H) (q : RD K G H d v) (e : asSeq S d = some ds) : ∃ a vs, v = .ref a ∧ (SqL K H a vs ∨ SqT K H a vs) ∧ RDs K G H ds vs := by
  cases q with
  | lv hx t => cases e; exact ⟨_, _, rfl, .inl hx.sq, t⟩
  | sv hx t => cases e; exact ⟨_, _, rfl, .inl hx.sq, t⟩
  | tup hx t => cases e; exact ⟨_, _, rfl, .inr hx.sq, t⟩
  | @lst k a hk =>
    obtain ⟨vs, e3, t⟩ := rs.at_ k a ds hk e
    exact ⟨a, vs, rfl, .inl (.of e3), t⟩
  | _ => cases e
def dList (mu : Bool) : RDn := fun ds S Q => match ds with | [d] => (match asSeq S d with | some xs => wMk mu xs S Q | none => False) | _ => False
theorem dList_ok {K : PySem.W.Frag} {mu : Bool} : CallD K (fun xs H Q => ∃ p ys, xs = [.ref p] ∧ (SqL K H p ys ∨ SqT K H p ys) ∧ ∀ l, H l = none → Q (.ref l) (upd H l (.lst ys))) (dList mu) := by
  refine ⟨fun ds S Q Q' k h => ?_, fun G S H ds vs Q rs rd h => ?_⟩
  · unfold dList at h ⊢
    split at h
    · split at h
      · exact wMk_mo k h
      · exact h.elim
    · exact h.elim
  · unfold dList at h
    split at h
    · split at h
      · rename_i xs e
        obtain ⟨v, rfl, q1⟩ := rd.one
        obtain ⟨a, us, rfl, hs, t⟩ := asSeq_ok rs q1 e
        exact ⟨a, us, rfl, hs, mk_new rs t h⟩
      · exact h.elim
    · exact h.elim
def dTuple : RDn := fun ds S Q => match ds with | [d] => (match asSeq S d with | some xs => Q (.tup xs) S | none => False) | _ => False
theorem dTuple_ok {K : PySem.W.Frag} : CallD K (fun xs H Q => ∃ p ys, xs = [.ref p] ∧ ((SqL K H p ys ∧ ∀ l, H l = none → Q (.ref l) (upd H l (.tup ys))) ∨ (SqT K H p ys ∧ Q (.ref p) H))) dTuple := by
  refine ⟨fun ds S Q Q' k h => ?_, fun G S H ds vs Q rs rd h => ?_⟩
  · unfold dTuple at h ⊢
    split at h
    · split at h
      · exact k _ _ h
      · exact h.elim
    · exact h.elim
  · unfold dTuple at h
    split at h
    · split at h
      · rename_i d xs e
        obtain ⟨v, rfl, q1⟩ := rd.one
        cases q1 with
        | lv hx t => cases e; exact ⟨_, _, rfl, .inl ⟨hx.sq, fun l hl => h _ _ _ (ext_newF hl) (rs_newF rs hl) (rd_newTup hl t)⟩⟩
        | sv hx t => cases e; exact ⟨_, _, rfl, .inl ⟨hx.sq, fun l hl => h _ _ _ (ext_newF hl) (rs_newF rs hl) (rd_newTup hl t)⟩⟩
        | tup hx t => cases e; exact ⟨_, _, rfl, .inr ⟨hx.sq, h G _ H (Ext.refl _ _) rs (.tup hx t)⟩⟩
        | @lst k a hk =>
          obtain ⟨us, e3, t⟩ := rs.at_ k a xs hk e
          exact ⟨_, _, rfl, .inl ⟨.of e3, fun l hl => h _ _ _ (ext_newF hl) (rs_newF rs hl) (rd_newTup hl t)⟩⟩
        | _ => cases e
      · exact h.elim
    · exact h.elim
def numsD : List D → Option (List Int)
  | [] => some []
  | .int b :: r => consO b (numsD r)
  | _ :: _ => none
theorem numsD_ok {K : PySem.W.Frag} {G : Gx} {H : Hp} : ∀ {ds : List D} {vs : List V} {bs : List Int}, RDs K G H ds vs → numsD ds = some bs → vs = bs.map V.int
  | _, _, bs, .nil, e => by
    have e : some ([] : List Int) = some bs := e
    cases e; rfl
  | d :: ds, v :: vs, bs, .cons q t, e => by
    cases q with
    | int b =>
      have e : consO b (numsD ds) = some bs := e
      cases e2 : numsD ds with
      | none => rw [e2] at e; cases e
      | some cs =>
        rw [e2] at e; cases e
        rw [numsD_ok t e2]
        rfl
    | _ => cases e
theorem bools_map (bs : List Bool) : bools (bs.map D.bl) = some bs := by
  induction bs with
  | nil => rfl
  | cons n ns ih => show consO n (bools (ns.map D.bl)) = _; rw [ih]; rfl
def dSum : RDn := fun ds S Q => match ds with | [d] => ∃ xs ns, asL S d = some xs ∧ numsD xs = some ns ∧ Q (.int ns.sum) S | _ => False
theorem dSum_ok {K : PySem.W.Frag} : CallD K (rSum K) dSum := by
  refine ⟨fun ds S Q Q' k h => ?_, fun G S H ds vs Q rs rd h => ?_⟩
  · unfold dSum at h ⊢
    split at h
    · obtain ⟨xs, ns, e1, e2, q⟩ := h
      exact ⟨xs, ns, e1, e2, k _ _ q⟩
    · exact h.elim
  · unfold dSum at h
    split at h
    · obtain ⟨xs, ns, e1, e2, q⟩ := h
      obtain ⟨v, rfl, q1⟩ := rd.one
      obtain ⟨a, us, rfl, hs, t⟩ := asL_ok rs q1 e1
      rw [numsD_ok t e2] at hs
      exact ⟨a, ns, rfl, .of hs, q G _ H (Ext.refl _ _) rs (.int _)⟩
    · exact h.elim
def dAll : RDn := fun ds S Q => match ds with | [d] => ∃ xs bs, asL S d = some xs ∧ bools xs = some bs ∧ Q (.bl (bs.all id)) S | _ => False
theorem dAll_ok {K : PySem.W.Frag} : CallD K (rAll K) dAll := by
  refine ⟨fun ds S Q Q' k h => ?_, fun G S H ds vs Q rs rd h => ?_⟩
  · unfold dAll at h ⊢
    split at h
    · obtain ⟨xs, ns, e1, e2, q⟩ := h
      exact ⟨xs, ns, e1, e2, k _ _ q⟩
    · exact h.elim
  · unfold dAll at h
    split at h
    · obtain ⟨xs, ns, e1, e2, q⟩ := h
      obtain ⟨v, rfl, q1⟩ := rd.one
      obtain ⟨a, us, rfl, hs, t⟩ := asL_ok rs q1 e1
      rw [bools_ok t e2] at hs
      exact ⟨a, ns, rfl, .of hs, q G _ H (Ext.refl _ _) rs (.bl _)⟩
    · exact h.elim
section
variable {X : Cx} {a b : Expr} {wa : WA} {pos p : Pos}
theorem de_list (mu : Bool) (hm : X.mg "list" = none) (ha : DA X [a] wa) (hg : Gl X "list" := by rfl) (he : starEach [a] X.env = (false, eval a X.env) :: starEach [] X.env := by rfl) (hpl : (backTo pos (starEach [] X.env)).any (·.1) = false := by rfl) :
    DE X (.Call (.Name "list" p) [a] [] pos) (wCB (dList mu) wa) := de_callTy call_list_of dList_ok hm ha (by decide +kernel) hg (by decide) (by decide) he hpl
theorem de_tuple (hm : X.mg "tuple" = none) (ha : DA X [a] wa) (hg : Gl X "tuple" := by rfl) (he : starEach [a] X.env = (false, eval a X.env) :: starEach [] X.env := by rfl) (hpl : (backTo pos (starEach [] X.env)).any (·.1) = false := by rfl) :
    DE X (.Call (.Name "tuple" p) [a] [] pos) (wCB dTuple wa) := de_callTy call_tuple_of dTuple_ok hm ha (by decide +kernel) hg (by decide) (by decide) he hpl
theorem de_sum (hc : X.calm = true) (hm : X.mg "sum" = none) (ha : DA X [a] wa) (hg : Gl X "sum" := by rfl) (he : starEach [a] X.env = (false, eval a X.env) :: starEach [] X.env := by rfl) (hpl : (backTo pos (starEach [] X.env)).any (·.1) = false := by rfl) :
    DE X (.Call (.Name "sum" p) [a] [] pos) (wCB dSum wa) := de_callB (cr_sum hc) dSum_ok hm ha (by decide +kernel) hg (by decide) (by decide) he hpl
theorem de_all (hc : X.calm = true) (hm : X.mg "all" = none) (ha : DA X [a] wa) (hg : Gl X "all" := by rfl) (he : starEach [a] X.env = (false, eval a X.env) :: starEach [] X.env := by rfl) (hpl : (backTo pos (starEach [] X.env)).any (·.1) = false := by rfl) :
    DE X (.Call (.Name "all" p) [a] [] pos) (wCB dAll wa) := de_callB (cr_all hc) dAll_ok hm ha (by decide +kernel) hg (by decide) (by decide) he hpl
end
end DD

namespace DD
open PySem PySem.Spec PyProof.Rows L2

abbrev WO := XD → Rho → Sto → (Option Int → Sto → Prop) → Prop
def wNoP : WO := fun _ _ S Q => Q none S
def wPt (w : WE) : WO := fun E r S Q => w E r S fun d S1 => match d with | .int i => Q (some i) S1 | _ => False
section
variable {X : Cx} {e : Expr} {we : WE}
def OutO (K : PySem.W.Frag) (G : Gx) (H : Hp) (Q : Option Int → Hp → Prop) : Option Int → Sto → Prop := fun o S' => ∀ (G' : Gx) (H' : Hp), Ext G H G' H' → RS K G' S' H' → Q o H'
def tDO (X : Cx) (w : WO) (E : XD) : TO := fun sg H Q => ∃ G S r, RS X.K G S H ∧ RE X E G H r sg ∧ w E r S (OutO X.K G H Q)
structure DOp (X : Cx) (o : Option Expr) (w : WO) : Prop where
  mo : ∀ (E : XD) (r : Rho) (S : Sto) (Q Q' : Option Int → Sto → Prop), (∀ d S, Q d S → Q' d S) → w E r S Q → w E r S Q'
  pe : ∀ E, PO X o (tDO X w E)
theorem dop_none : DOp X none wNoP := by
  refine ⟨fun E r S Q Q' k h => k _ _ h, fun E => ?_⟩
  intro pins s sg H Q I h
  obtain ⟨G, S, r, rs, re, h⟩ := h
  exact po_none pins s sg H Q I (h G H (Ext.refl _ _) rs)
theorem dop_some (he : DE X e we) : DOp X (some e) (wPt we) := by
  refine ⟨fun E r S Q Q' k h => he.mo _ _ _ _ _ (fun d S1 q => ?_) h, fun E => ?_⟩
  · cases d <;> first | exact q.elim | exact k _ _ q
  · intro pins s sg H Q I h
    obtain ⟨G, S, r, rs, re, h⟩ := h
    refine po_some (he.pe E) pins s sg H Q I (he.next rs re h fun d S1 G1 v H1 x1 rs1 re1 rd1 q => ?_)
    cases d <;> first | exact q.elim | skip
    cases rd1
    exact ⟨_, rfl, q G1 H1 x1 rs1⟩
end
def cutD (xs : List D) (lo hi : Option Int) : List D := (xs.drop (HT.sIx xs.length 0 lo)).take (HT.sIx xs.length xs.length hi - HT.sIx xs.length 0 lo)
theorem RDs.cut {K : PySem.W.Frag} {G : Gx} {H : Hp} {ds : List D} {vs : List V} (h : RDs K G H ds vs) (lo hi : Option Int) : RDs K G H (cutD ds lo hi) (cutV vs lo hi) := by
  unfold cutD cutV
  rw [← h.length]
  exact (h.drop _).take _
def dSl (x : D) (lo hi : Option Int) (S : Sto) (Q : KD) : Prop := match x with
  | .tup ds => ¬ (HT.sIx ds.length 0 lo = 0 ∧ HT.sIx ds.length ds.length hi = ds.length) ∧ Q (.tup (cutD ds lo hi)) S
  | .lv ds => Q (.lv (cutD ds lo hi)) S
  | .lst k => (match S[k]? with | some ds => Q (.lv (cutD ds lo hi)) S | none => False)
  | _ => False
theorem dSl_ok {K : PySem.W.Frag} {G : Gx} {S : Sto} {H : Hp} {x : D} {v : V} {lo hi : Option Int} {Q : VK} (rs : RS K G S H) (rx : RD K G H x v) (h : dSl x lo hi S (OutE K G H Q)) : rSlT K v lo hi H Q ∨ rSlL K v lo hi H Q := by
  unfold dSl at h
  split at h
  · cases rx with
    | tup hx t => exact .inl ⟨_, _, rfl, hx.sq, by rw [← t.length]; exact h.1, fun p hp => h.2 _ _ _ (ext_newF hp) (rs_newF rs hp) (rd_newTup hp (t.cut lo hi))⟩
  · cases rx with
    | lv hx t => exact .inr ⟨_, _, rfl, hx.sq, fun p hp => h _ _ _ (ext_newF hp) (rs_newF rs hp) (rd_newLv hp (t.cut lo hi))⟩
  · rename_i kk
    split at h
    · rename_i ds e
      cases rx with
      | @lst _ a hk =>
        obtain ⟨us, e3, t⟩ := rs.at_ kk a ds hk e
        exact .inr ⟨_, _, rfl, .of e3, fun p hp => h _ _ _ (ext_newF hp) (rs_newF rs hp) (rd_newLv hp (t.cut lo hi))⟩
    · exact h.elim
  · exact h.elim
section
variable {X : Cx} {e : Expr} {we : WE} {lo hi : Option Expr} {wl wh : WO} {pos p2 : Pos}
end

theorem RDs.reverse {K : PySem.W.Frag} {G : Gx} {H : Hp} : ∀ {ds : List D} {vs : List V}, RDs K G H ds vs → RDs K G H ds.reverse vs.reverse
  | _, _, .nil => .nil
  | _, _, .cons r t => by rw [List.reverse_cons, List.reverse_cons]; exact (RDs.reverse t).append (.cons r .nil)
end DD

namespace DD
open PySem PySem.Spec PyProof.Rows L2

section
variable {X : Cx} {x : Str} {C : Addr} {pos : Pos}
theorem de_cl (hC : ClsAt X.K x C) (hm : X.mg x = some (.ref C)) (hg : Gl X x := by rfl) (hd : (x == ("__debug__" : Str)) = false := by decide) : DE X (.Name x pos) (wC (.cl x)) :=
  de_c (pe_glob (v := .ref C) hg hm rfl hd) fun _ _ => .cl hC
structure RaiseOk (K : PySem.W.Frag) (mg : Str → Option Value) (x : Str) : Prop where
  ex : ∃ C, ClsAt K x C ∧ mg x = some (.ref C) ∧ PySem.W.excIn K C [.type "ValueError", .type "Exception", .type "BaseException", .type "object"] "ValueError.__new__" = true
def wRaise (x : Str) (wa : WA) : WS := fun E _ r S => wa E r S fun ds S1 => ds.length ≤ 1000 ∧ E.ex x S1
theorem ds_raise {e : Expr} {es : List Expr} {wa : WA} {np cpos : Pos} (R : RaiseOk X.K X.mg x) (hc : X.calm = true) (ha : DA X (e :: es) wa) (hg : Gl X x := by rfl) (he : starEach (e :: es) X.env = (false, eval e X.env) :: starEach es X.env := by rfl)
    (hpl : (backTo cpos (starEach es X.env)).any (·.1) = false := by rfl) (hdb : (x == ("__debug__" : Str)) = false := by decide) : DS X (.Raise (some (.Call (.Name x np) (e :: es) [] cpos)) none pos) (wRaise x wa) := by
  obtain ⟨C, hC, hm, q⟩ := R.ex
  refine ⟨fun E A B r S k h => h, fun E pins s sg H Dn I h => ?_⟩
  refine ps_raise (own_cls I.ok.mod.kin hm q) F.excBase_ValueError (by decide) F.excBase_ValueError hc hg (ha.pe E) he hpl hdb pins s sg H Dn I ?_
  obtain ⟨G, S, r, rs, re, h⟩ := h
  exact ha.next rs re h fun ds S1 G1 vs H1 x1 rs1 re1 rd1 h1 => ⟨by rw [← rd1.length]; exact le1000 h1.1, re1.out.ex x C S1 G1 H1 (Ext.refl _ _) rs1 hC h1.2⟩
end


def ixB (b : Bool) : List Bool → Option Nat
  | [] => none
  | c :: cs => if (c == b) = true then some 0 else (ixB b cs).map (· + 1)
theorem ixB_ok (b : Bool) : ∀ (cs : List Bool) (j : Nat), ixB b cs = some j → cs[j]? = some b ∧ ∀ (m : Nat) (c : Bool), m < j → cs[m]? = some c → (c == b) = false
  | [], _, e => nomatch e
  | c :: cs, j, e => by
    unfold ixB at e
    split at e
    · rename_i h
      cases e
      exact ⟨by simpa using h, fun m c hm => absurd hm (Nat.not_lt_zero _)⟩
    · rename_i h
      cases e2 : ixB b cs with
      | none => rw [e2] at e; cases e
      | some i =>
        rw [e2] at e
        cases e
        obtain ⟨h1, h2⟩ := ixB_ok b cs i e2
        refine ⟨by simpa using h1, fun m c' hm hc => ?_⟩
        cases m with
        | zero =>
          have hc : c = c' := by simpa using hc
          subst hc
          simpa using h
        | succ m => exact h2 m c' (Nat.lt_of_succ_lt_succ hm) (by simpa using hc)
@[irreducible] def dIndexB (x : D) (ds : List D) (S : Sto) (Q : KD) : Prop := match x, ds with
  | .lv xs, [.bl b] => (match bools xs with | some bs => (match ixB b bs with | some j => Q (.int (j : Nat)) S | none => False) | none => False)
  | _, _ => False
theorem dIndexB_ok {K : PySem.W.Frag} : MethD K (rIndex K) dIndexB := by
  refine ⟨fun x ds S Q Q' k h => ?_, fun G S H x ds v vs Q rs q qs h => ?_⟩
  · unfold dIndexB at h ⊢
    split at h
    · split at h
      · split at h
        · exact k _ _ h
        · exact h.elim
      · exact h.elim
    · exact h.elim
  · unfold dIndexB at h
    split at h
    · rename_i xs b
      split at h
      · rename_i bs e
        split at h
        · rename_i j ej
          cases q with
          | lv hx t =>
            obtain ⟨u, rfl, qu⟩ := qs.one
            cases qu
            rw [bools_ok t e] at hx
            obtain ⟨h1, h2⟩ := ixB_ok b bs j ej
            refine ⟨_, bs.map V.bl, .bl b, j, .bl b, rfl, rfl, hx.sq, rfl, ?_, by rw [List.getElem?_map, h1]; rfl, ?_, fun m z' hm hz => ?_, h G _ H (Ext.refl _ _) rs (.int _)⟩
            · rw [List.all_eq_true]
              intro z hz
              obtain ⟨c, _, rfl⟩ := List.mem_map.mp hz
              rfl
            · cases b <;> rfl
            · rw [List.getElem?_map] at hz
              cases ec : bs[m]? with
              | none => rw [ec] at hz; cases hz
              | some c =>
                rw [ec] at hz
                cases hz
                have := h2 m c hm ec
                cases c <;> cases b <;> first | rfl | (exact absurd this (by decide))
        · exact h.elim
      · exact h.elim
    · exact h.elim

section
variable {X : Cx} {pos : Pos} {a b : Expr} {wa wb : WE}
def wD0 : WE := fun _ _ S Q => Q (.dc []) S
theorem de_d0 : DE X (.Dict [] [] pos) wD0 := by
  refine ⟨fun E r S Q Q' k h => k _ _ h, fun E => PE.wk pe_dnewK fun sg H Q h => ?_⟩
  obtain ⟨G, S, r, rs, re, h⟩ := h
  exact fun p hp => h _ _ _ (ext_newF hp) (rs_newF rs hp) (.dc (.inr rfl) upd_same)

def wD1 (i j : Int) : WE := fun _ _ S Q => Q (.dc [(i, j)]) S
theorem de_d1 {i j : Int} {x1 x2} {p1 p2 : Pos} : DE X (.Dict [some (.Constant (.int i) x1 p1)] [.Constant (.int j) x2 p2] pos) (wD1 i j) := by
  refine ⟨fun E r S Q Q' k h => k _ _ h, fun E => PE.wk (pe_disp (pps_cons pe_int pe_int pps_nil) rfl rfl (fun z => nomatch z) (by show 1 ≤ 15; decide)) fun sg H Q h => ?_⟩
  obtain ⟨G, S, r, rs, re, h⟩ := h
  intro p hp
  refine ⟨upd_same, [(Sum.inl i, V.int j)], rfl, by show 1 ≤ 15; decide, ?_⟩
  rw [upd_upd]
  exact h _ _ _ (ext_newF hp) (rs_newF rs hp) (.dc (.inr rfl) upd_same)
end
end DD

namespace DD
open PySem PySem.Spec PyProof.Rows L2

structure BmIn (mg : Str → Option Value) (h : Heap) : Prop where
  ex : ∃ bm ob, mg "__builtins__" = some (.ref bm) ∧ h.get? bm = some ob ∧ ob.cls = .type "module" ∧ ob.dict = some builtinsNs ∧ ob.data = .plain ∧ bm ≠ builtinsNs ∧ bm ≠ mainGlobals
  sm : ∃ o es ep, h.get? sysModules = some o ∧ o.data = .dict es ep
theorem BmIn.keeps {mg : Str → Option Value} {h h' : Heap} (m : BmIn mg h) (k : ∀ b o, h.get? b = some o → h'.get? b = some o) : BmIn mg h' := let ⟨bm, ob, e1, e2, r⟩ := m.ex; let ⟨o, es, ep, e, d⟩ := m.sm; ⟨⟨bm, ob, e1, k _ _ e2, r⟩, o, es, ep, k _ _ e, d⟩

structure ModB (K : PySem.W.Frag) (mg : Str → Option Value) (base : Heap) : Prop extends Mod K mg base where
  bm : BmIn mg base
theorem codeAmong_more {pos pos' : Pos} {c cv : Value} : ∀ (l : List Value), TriplesOk l → codeAmong pos' (l ++ [rawInt pos.line, rawInt pos.col, c]) = some cv → codeAmong pos' l = some cv ∨ cv = c := fun l h => by
  fun_induction TriplesOk l with
  | case1 =>
    intro e
    simp only [List.nil_append, rawInt, codeAmong] at e
    split at e
    · cases e; exact .inr rfl
    · cases e
  | case2 a' t b' u x rest ih =>
    intro e
    simp only [List.cons_append, codeAmong] at e ⊢
    split at e
    · rename_i hc; rw [if_pos hc]; exact .inl e
    · rename_i hc; rw [if_neg hc]; exact ih h e
  | case3 => exact h.elim

structure LamAt (P : Addr) (q : Str) (H : Hp) (s : Shared) (f c : Addr) (ob : Obj) (H1 : Hp) (s1 : Shared) : Prop where
  tab : TabOk H1 (P, q)
  keep : ∀ a u, H a = some u → a ≠ P → H1 a = some u
  tr : ∀ a, H1 a = none → H a = none
  new : ∀ a, H a = none → H1 a ≠ none → s.heap.objs.size ≤ a
  fat : s1.heap.get? f = some ob
  fnew : s.heap.objs.size ≤ f
  ffree : H1 f = none
  code : H1 c = some (cdO q c)
theorem cdO_ok {Pr : Program} {w : World} {H : Hp} {h : Heap} {q : Str} {c : Addr} (r : h.CodeRec (.ref c) q) : ObjOk Pr w H h c (cdO q c) := by
  obtain ⟨c', o, vs, t, e, h1, h2, h3⟩ := r
  cases e
  refine ⟨⟨c, o, vs, t, rfl, h1, h2, h3⟩, ⟨o, h1⟩, fun g1 g2 p k => ?_⟩
  obtain ⟨c', o, vs, t, e, h1, h2, h3⟩ := p
  cases e
  exact ⟨c, o, vs, t, rfl, k o h1, h2, h3⟩
section
variable {X : Cx} {pins : List (Addr × Obj)} {σ : L2.St} {H : Hp} {s : Shared} {params : Arguments} {body : Expr} {scope : Scope} {lpos : Pos} {c P : Addr} {q : Str} {Q : Value → Shared → Prop}
theorem lam_make (I : L2.Inv X pins σ H s) (hq : X.env.qual ++ "<lambda>" = q) (hcode : X.env.code = .ref c) (hcd : PySem.W.codeHdIn X.K c P = true) (hbm : BmIn X.mg X.base) (hdef : defaultsOf params X.env = ([], []))
    (hfree : ∀ y ∈ scope.names, y.2 = .free → X.env.kindOf y.1 = some .cell ∨ X.env.kindOf y.1 = some .free) (tb : TabOk H (P, q))
    (k : ∀ (f c' : Addr) (pm ctv : Value) (H1 : Hp) (s1 : Shared), L2.Inv X pins σ H1 s1 → LamAt P q H s f c' (PySem.W.kla_obj "<lambda>" q params body scope (cloFrom X.env.cells scope.names []) pm c' ctv) H1 s1 → Q (.ref f) s1) :
    wpAny (model X.prog X.w) X.A (eval (.Lambda params body scope lpos) X.env) Q X.xe s := by
  subst hq
  obtain ⟨ps, hP, ht, good⟩ := tb
  have hPo : s.heap.get? P = some (PySem.W.tabObj ps) := I.hok P _ hP
  have hg : s.heap.Ns mainGlobals X.mg := I.mod.glob.keeps I.bk
  have noP : ∀ b o, X.base.get? b = some o → b ≠ P := fun b o e z => by
    have := (I.bs b o e).2
    rw [z, hP] at this; cases this
  have hgP : mainGlobals ≠ P := by
    obtain ⟨o, es, ep, e, _⟩ := I.mod.glob
    exact noP _ _ e
  have hb : s.heap.BuiltinsAt X.mg P := by
    obtain ⟨bm, ob, e1, e2, e3, e4, e5, e6, e7⟩ := hbm.ex
    exact ⟨bm, ob, e1, e6, e7, noP _ _ e2, (I.bs _ _ e2).1, e3, e4, e5⟩
  have hcl : closureFor scope X.env = pure (cloFrom X.env.cells scope.names []) := closure_ok fun y hy e => I.ok.has y.1 (hfree y hy e)
  refine PySem.W.kla_eval hdef ?_
  cases hc : codeAmong lpos ps.toList with
  | some cv =>
    obtain ⟨c', rfl, hc'⟩ := good lpos cv hc
    refine PySem.W.kla_makeFunctionHit hcl I.ok.glob hg hcode (PySem.W.codeHd_of_K I.kIn hcd) hPo ht hc hb fun ctv h' tk hk hsz => ?_
    have kk : ∀ b o, s.heap.get? b = some o → (h'.push (PySem.W.kla_obj "<lambda>" (X.env.qual ++ "<lambda>") params body scope (cloFrom X.env.cells scope.names []) ((X.mg "__name__").getD .none) c' ctv)).get? b = some o := fun b o e => Heap.get?_push_of_some _ (hk b o e)
    refine k h'.objs.size c' _ ctv H _ (I.call (g' := s.gens) (d' := s.drawn) (t' := tk) (ch := []) (Un.kept kk) (I.hok.kept kk) I.bare (fun b z => absurd z (by simp))) ⟨⟨ps, hP, ht, good⟩, fun _ _ e _ => e, fun _ e => e, fun a e n => absurd e n, Heap.get?_push_size _ rfl, hsz, I.hok.fresh hsz, hc'⟩
  | none =>
    refine PySem.W.kla_makeFunction hcl I.ok.glob hg hcode (PySem.W.codeHd_of_K I.kIn hcd) hPo ht hc hgP hb fun c' ctv h' tk hx hge hlt hrec htb => ?_
    have hsz : s.heap.objs.size ≤ h'.objs.size := Nat.le_trans hge (Nat.le_of_lt hlt)
    have ne : ∀ b o, s.heap.get? b = some o → b ≠ c' := fun b o e z => by
      have := Heap.lt_size e
      rw [z] at this
      exact Nat.lt_irrefl _ (Nat.lt_of_lt_of_le this hge)
    have hnc : H c' = none := I.hok.fresh hge
    have hPc : P ≠ c' := ne _ _ hPo
    have kk : ∀ b o, b ≠ P → s.heap.get? b = some o → (h'.push (PySem.W.kla_obj "<lambda>" (X.env.qual ++ "<lambda>") params body scope (cloFrom X.env.cells scope.names []) ((X.mg "__name__").getD .none) c' ctv)).get? b = some o := fun b o n e => Heap.get?_push_of_some _ (hx b o n e)
    have keep : ∀ a u, H a = some u → a ≠ P → upd (upd H P (.tbl (ps ++ #[rawInt lpos.line, rawInt lpos.col, .ref c']))) c' (cdO (X.env.qual ++ "<lambda>") c') a = some u := fun a u e n => by
      rw [upd_ne (fun z => by rw [z, hnc] at e; cases e), upd_ne n]; exact e
    have atP : upd (upd H P (.tbl (ps ++ #[rawInt lpos.line, rawInt lpos.col, .ref c']))) c' (cdO (X.env.qual ++ "<lambda>") c') P = some (.tbl (ps ++ #[rawInt lpos.line, rawInt lpos.col, .ref c'])) := by rw [upd_ne hPc, upd_same]
    have nP : ∀ b, H b = none → b ≠ P := fun b e z => by rw [z, hP] at e; cases e
    refine k h'.objs.size c' _ ctv (upd (upd H P (.tbl (ps ++ #[rawInt lpos.line, rawInt lpos.col, .ref c']))) c' (cdO (X.env.qual ++ "<lambda>") c')) _ (I.call (g' := s.gens) (d' := s.drawn) (t' := tk) (ch := []) ⟨fun b o e n _ _ => kk b o (nP b n) e, fun b o e n _ _ => ⟨o.slots, kk b o (nP b n) e⟩, fun b o e n _ => by rw [upd_ne (ne b o e), upd_ne (nP b n)]; exact n, fun b o e _ => ?_, fun b xs e => ?_, fun b o u e => ?_, fun b qs e => ?_⟩ (fun a o e => ?_) I.bare (fun b z => absurd z (by simp)))
      ⟨⟨_, atP, ?_, fun pos cv e => ?_⟩, keep, fun a e => ?_, fun a e n => ?_, Heap.get?_push_size _ rfl, hsz, ?_, upd_same⟩
    · by_cases hb2 : b = P
      · subst hb2; exact ⟨_, Heap.get?_push_of_some _ htb⟩
      · exact ⟨o, kk b o hb2 e⟩
    · exact keep b _ e (fun z => by rw [z, hP] at e; cases e)
    · exact keep b _ e (fun z => by rw [z, hP] at e; cases e)
    · by_cases hb2 : b = P
      · subst hb2
        rw [hP] at e
        cases e
        exact ⟨_, atP⟩
      · exact ⟨#[], by rw [Array.append_empty]; exact keep b _ e hb2⟩
    · by_cases h1 : a = c'
      · subst h1
        rw [upd_same] at e
        cases e
        refine cdO_ok ?_
        obtain ⟨c2, o2, vs2, t2, e1, e2, e3, e4⟩ := hrec
        exact ⟨c2, o2, vs2, t2, e1, Heap.get?_push_of_some _ e2, e3, e4⟩
      · rw [upd_ne h1] at e
        by_cases h2 : a = P
        · subst h2
          rw [upd_same] at e
          cases e
          show (h'.push _).get? a = some _
          exact Heap.get?_push_of_some _ htb
        · rw [upd_ne h2] at e
          refine (I.hok a o e).stay (fun b u hb2 q => kk b u ?_ q) (fun b q => keep b _ q (fun z => by rw [z, hP] at q; cases q)) (fun b xs q => keep b _ q (fun z => by rw [z, hP] at q; cases q))
          rcases hb2 with z | z
          · rw [z]; exact h2
          · intro w2
            rw [w2, hP] at z; cases z
    · rw [show (ps ++ #[rawInt lpos.line, rawInt lpos.col, Value.ref c']).toList = ps.toList ++ [rawInt lpos.line, rawInt lpos.col, .ref c'] by simp]
      exact TriplesOk_snoc _ _ _ _ ht
    · rw [show (ps ++ #[rawInt lpos.line, rawInt lpos.col, Value.ref c']).toList = ps.toList ++ [rawInt lpos.line, rawInt lpos.col, .ref c'] by simp] at e
      rcases codeAmong_more ps.toList ht e with z | z
      · obtain ⟨c2, e1, e2⟩ := good pos cv z
        exact ⟨c2, e1, keep c2 _ e2 (fun z => by rw [z, hP] at e2; cases e2)⟩
      · exact ⟨c', z, upd_same⟩
    · by_cases h1 : a = c'
      · rw [h1]; exact hnc
      · rw [upd_ne h1] at e
        by_cases h2 : a = P
        · rw [h2, upd_same] at e; cases e
        · rw [upd_ne h2] at e; exact e
    · by_cases h1 : a = c'
      · rw [h1]; exact hge
      · rw [upd_ne h1] at n
        rw [upd_ne (nP a e)] at n
        exact absurd e n
    · rw [upd_ne (Nat.ne_of_gt hlt), upd_ne (fun z => ?_)]
      · exact I.hok.fresh hsz
      · have := Heap.lt_size hPo
        rw [← z] at this
        exact Nat.lt_irrefl _ (Nat.lt_of_lt_of_le this hsz)
end
end DD

namespace DD
open PySem PySem.Spec PyProof.Rows L2
theorem xok_of {X : Cx} {env : Env} {outer : List Env} {s : Shared} {H : Hp} {E : XK} (h1 : X.stack = env :: outer) (h2 : X.outer = outer) (h3 : X.ex = []) (h4 : X.s_0 = s) (h5 : X.H_0 = H) (hf : env.frame = some s.heap.objs.size)
    (hx : ∀ e s', wpAny (model X.prog X.w) X.A (leaving env e) (fun _ s'' => CXE X.prog X.w outer H s E e s'') (fun e' s'' => CXE X.prog X.w outer H s E e' s'') s' → X.xe e s') {C : Addr} {H' : Hp} (hE : E (.ref C) none H') : XOk X C H' := by
  have hm : ∀ b, b ∈ frs (env :: outer) ↔ b = s.heap.objs.size ∨ b ∈ frs outer := fun b => by
    unfold frs
    rw [List.filterMap_cons, hf]
    exact List.mem_cons
  have un0 : ∀ {pins σ H1 s1}, L2.Inv X pins σ H1 s1 → Un (frs outer) [] H H1 s.heap s1.heap := fun I => by
    have := I.base
    rw [h3, h4, h5] at this
    unfold Cx.fs at this
    rw [h2] at this
    exact this
  have os0 : ∀ {pins σ H1 s1}, L2.Inv X pins σ H1 s1 → s1.os = s.os := fun I => by rw [I.os, h4]
  refine ⟨fun pins σ H1 s1 ea s' I l => hx _ _ ?_, fun pins σ s1 ea g1 args I hx2 => hx _ _ ?_⟩
  · rw [h1] at l
    obtain ⟨B, a0, fly, cov⟩ := l.fly
    refine wpAny_leaves_onW (h1 ▸ I.ok.frames) hf fly fun h' fly' up => ⟨ea, C, H', rfl, ?_, hE⟩
    exact lies_up (un0 I) (os0 I) hm l.toLies0 fly.1 cov fly.2.2.1 fly' up
  · have st : (PySem.W.hideAll s1.heap (frs (env :: outer))).StaysIn s1.heap := fun b o e => PySem.W.of_hideAll _ e
    have stk : s1.heap.FunFrames X.base (env :: outer) := h1 ▸ I.stack
    have ff := funFrames_to (b2 := PySem.W.hideAll s1.heap (frs (env :: outer))) stk fun b hb => PySem.W.hideAll_none _ hb
    have cov : ∀ b, b ∉ frs (env :: outer) → (H' b ≠ none ∨ ∃ o, s1.heap.get? b = some o) → ∃ o, (PySem.W.hideAll s1.heap (frs (env :: outer))).get? b = some o := fun b hb hc => by
      rcases hc with hc | ⟨o, hc⟩
      · cases q : H' b with
        | none => exact absurd q hc
        | some u =>
          obtain ⟨o, e⟩ := (I.hok b u q).ex
          exact ⟨o, PySem.W.hideAll_get _ e hb⟩
      · exact ⟨o, PySem.W.hideAll_get _ hc hb⟩
    refine wpAny_leaves_madeW (h := s1.heap) (h1 ▸ I.ok.frames) hf st ff hx2 fun h' t fly' tup tn up => ⟨ea, C, H', rfl, ?_, hE⟩
    refine lies_up (s' := { s1 with heap := g1 }) (un0 I) (os0 I) hm ⟨rfl, I.bare, Un.kept hx2.keeps, I.hok.kept hx2.keeps, I.hok.freeOf hx2.new, hx2.new, fun b hb => I.stkFree b (h1 ▸ hb)⟩ (fun b o e => hx2.keeps b o (st b o e)) cov (ff.of_keeps fun b o e _ => ⟨o, hx2.keeps b o e, rfl⟩) fly' up

def cxLam (P : Program) (w : World) (K : PySem.W.Frag) (mg : Str → Option Value) (base : Heap) (N : List Str) (q : Str) (scope : Scope) (f c : Addr) (cl : List (Str × Addr)) (A : Around) (outer : List Env) (s : Shared) (H : Hp) (E : XK) : Cx where
  prog := P
  w := w
  K := K
  mg := mg
  base := base
  A := A.deeper (PySem.W.envX q scope s.heap.objs.size f (.ref c) cl)
  N := N
  s_0 := s
  H_0 := H
  env := PySem.W.envX q scope s.heap.objs.size f (.ref c) cl
  outer := outer
  stack := PySem.W.envX q scope s.heap.objs.size f (.ref c) cl :: outer
  ex := []
  calm := A.handled.isNone
  fn := fun _ => false
  pn := []
  xe := fun e s' => wpAny (model P w) (A.deeper (PySem.W.envX q scope s.heap.objs.size f (.ref c) cl)) (leaving (PySem.W.envX q scope s.heap.objs.size f (.ref c) cl) e) (fun _ s'' => CXE P w outer H s E e s'') (fun e' s'' => CXE P w outer H s E e' s'') s'

structure CellsOk (base : Heap) (N : List Str) (scope : Scope) (cl : List (Str × Addr)) (σ : L2.St) : Prop where
  cell : ∀ x c, cl.lookup x = some c → ∃ v, base.IsCell c v
  inj : ∀ x y c, cl.lookup x = some c → cl.lookup y = some c → x = y
  has : ∀ x, (scope.names.lookup x = some .cell ∨ scope.names.lookup x = some .free) → ∃ c, cl.lookup x = some c
  loc : ∀ (i : Nat) (x : Str) (v : V), N[i]? = some x → σ[i]? = some (some v) → Vis scope x → ∃ u, RelV v u ∧ scope.names.lookup x = some .free ∧ ∃ c, cl.lookup x = some c ∧ base.IsCell c (some u)
  len : σ.length = N.length
section
variable {P : Program} {w : World} {K : PySem.W.Frag} {mg : Str → Option Value} {base : Heap} {N : List Str} {q : Str} {scope : Scope} {f c : Addr} {cl : List (Str × Addr)} {σ : L2.St}
theorem fn_lam {params : Arguments} {body : Expr} {pm ctv : Value} {k : Nat} {sp : Sp} (lk : base.get? f = some (PySem.W.kla_obj "<lambda>" q params body scope cl pm c ctv)) (hkind : scope.kind = .function) (hco : scope.isCoroutine = false) (hgen : scope.isGenerator = false)
    (hcell : ∀ x ∈ scope.names, x.2 ≠ .cell) (cells : CellsOk base N scope cl σ) (len : ∀ vs H Q E, sp vs H Q E → vs.length = 0) (hc : ∀ vs H Q E, sp vs H Q E → H c = some (cdO q c))
    (hbody : ∀ (A : Around) (outer : List Env) (s : Shared) (H : Hp) (Q : VK) (E : XK), Room k (A.deeper (PySem.W.envX q scope s.heap.objs.size f (.ref c) cl)) → sp [] H Q E → ∃ t, PE (cxLam P w K mg base N q scope f c cl A outer s H E) body t ∧ t σ H Q) :
    FnOk P w K mg base (CXE P w) (k + 1) f (PySem.W.kla_fn "<lambda>" q params body scope cl pm (.ref c) ctv) [] sp := by
  refine ⟨len, fun A outer s H args us vs Q E hr e0 hb r hsp => ?_⟩
  have hv : vs = [] := List.length_eq_zero_iff.mp (len _ _ _ _ hsp)
  subst hv
  cases r
  have lim : s.heap.NoLimit := e0.mod.nolimit.keeps fun b o e => (e0.bs b o e).1
  have hcd : s.heap.CodeRec (.ref c) q := (e0.hok c _ (hc _ _ _ _ hsp)).1
  refine PySem.W.kla_callFunE hr.depth (e0.bs _ _ lk).1 rfl hco hgen rfl hcd (hb _ _ _ _ ?_)
  refine wpAny_newFunctionEnv hcell (fun y hy => absurd (show y ∈ ([] : List (Str × Value)) from hy) (by simp)) (fun h₁ hns hsb => ⟨lim.fresh _ hsb, ?_⟩) hkind
  show codeAny _ _ (.expr body (PySem.W.envX q scope s.heap.objs.size f (.ref c) cl)) _ _
  have hk₁ : ∀ b o, s.heap.get? b = some o → h₁.get? b = some o := fun b o e => hsb.extBut b o (Nat.ne_of_lt (Heap.lt_size e)) (Heap.get?_push_of_some _ e)
  obtain ⟨t, ht, hq⟩ := hbody A outer s H Q E (hr.deeper _) hsp
  have noA : ∀ b : Addr, b ∉ (cxLam P w K mg base N q scope f c cl A outer s H E).ex := fun b z => absurd (show b ∈ ([] : List Addr) from z) (by simp)
  refine PySem.W.kla_codeExpr (wpAny_mono (ht [] _ σ H Q ?_ hq) (fun v s' ⟨x, H', J, rx, qx⟩ => ⟨x, H', J.os, J.bare, J.base, J.hok, rx, qx⟩) fun e s' hs => hs)
  refine ⟨⟨e0.mod, hkind, rfl, rfl, Nat.le_refl _, cells.inj, fun y hy => cells.has y hy, (fun y c z => nomatch z), fun z => Option.isNone_iff_eq_none.mp z, Around.frames_deeper e0.frames, .inr ⟨rfl, rfl⟩, fun b z => absurd z (noA b), e0.bs, e0.bsz, fun b _ _ => noA b, fun b z => absurd z (noA b), e0.funs, e0.frf⟩,
    rfl, e0.bare, Un.kept hk₁, ⟨_, hns, fun i y v h1 h2 h3 => ?_⟩, fun y c h => ?_, e0.hok.fresh (Nat.le_refl _), fun y c h => ?_, fun p hp => absurd (show p ∈ ([] : List (Addr × Obj)) from hp) (by simp), e0.hok.kept hk₁, cells.len⟩
  · obtain ⟨u, ru, hf, c, hc2, o, e1, e2⟩ := cells.loc i y v h1 h2 h3
    exact ⟨u, ru, .inr ⟨.inr hf, c, hc2, o, hk₁ _ _ (e0.bs _ _ e1).1, e2⟩⟩
  · obtain ⟨v, o, e1, e2⟩ := cells.cell y c h
    exact ⟨v, o, hk₁ _ _ (e0.bs _ _ e1).1, e2⟩
  · obtain ⟨v, o, e1, e2⟩ := cells.cell y c h
    exact (e0.bs _ _ e1).2
end
end DD

namespace DD
open PySem PySem.Spec PyProof.Rows L2
def E0x : XK := fun _ _ _ => False
section
variable {X : Cx} {i k : Nat} {x : Str} {p pos : Pos} {fl : Addr} {fdl : FuncData} {spl : Sp} {E : XK}
theorem pe_callV0 (L : FnOk X.prog X.w X.K X.mg X.base (CXE X.prog X.w) k fl fdl [] spl) (hr : Room k X.A) (hfn : ∃ ob fd, X.base.get? fl = some ob ∧ ob.data = .func fd) (hb : Binds X.K fdl [] []) (hx : Passes (CXE X.prog X.w) X E) (hN : X.N[i]? = some x) (hv : Vis X.env.scope x)
    (hd : (x == ("__debug__" : Str)) = false := by decide) (hcd : (x == ("__classdict__" : Str)) = false := by decide) : PE X (.Call (.Name x p) [] [] pos) (fun σ H Q => σ[i]? = some (some (.ref fl)) ∧ spl [] H Q E) := by
  intro pins s σ H Q I ⟨e, h⟩
  refine wpAny_Call_Name_kw (thn (pe_var hN hv hd hcd pins s σ H (fun v H' => v = .ref fl ∧ H' = H) I ⟨_, e, rfl, rfl⟩) fun u s1 ⟨v, H', I1, rv, ev, eH⟩ => ?_)
  subst ev eH
  cases rv
  obtain ⟨ob, fd, e1, e2⟩ := hfn
  refine PySem.W.callWith_F0 ?_ (run_fn (us := []) (vs := []) (dvs := []) L hr hb .nil hx I1 .nil h)
  obtain ⟨oc, od, odt, osl⟩ := ob
  cases e2
  exact ⟨_, _, _, _, I1.bk _ _ e1⟩
end

def PsiW (K : PySem.W.Frag) (CS : Addr) (spw : Sp) (Q : VK) (C : Addr) (H' : Hp) : Prop := PySem.W.exmOne K (.ref C) (.ref CS) = some true ∧ ∀ ea, H' ea = none → spw [.ref ea] (upd H' ea (exO C ea)) Q E0x
def spSaid (K : PySem.W.Frag) (CS : Addr) (spw : Sp) (fl : Addr) (spl : Sp) : Sp := fun vs H Q _ => vs = [.ref fl] ∧ spl [] H (fun v H1 => [V.str "told", v].length ≤ sizeLine ∧ ∀ p, H1 p = none → Q (.ref p) (upd H1 p (.tup [.str "told", v]))) (fun cls _ H' => ∃ C, cls = .ref C ∧ PsiW K CS spw Q C H')

structure SaidTxt (st : Stmt) (said call_ er word seat : Str) : Prop where
  ex : ∃ x0 x1 p1 p2 p3 p4 p5 p6 p7 p8 p9 p10 p11 p12, defBody st = [.Try [.Return (some (.Tuple [.Constant (.str "told") x0 p1, .Call (.Name call_ p2) [] [] p3] x1 p4)) p5]
    [.ExceptHandler (some (.Name seat p6)) (some er) [.Return (some (.Call (.Name word p7) [.Name er p8] [] p9)) p10] p11] [] [] p12]
  sc : FnScope [call_, er] [call_] (defScope st)
  l0 : (defScope st).names.lookup call_ = some .local
  l1 : (defScope st).names.lookup er = some .local
  g1 : (defScope st).names.lookup seat = some .globalImplicit
  g2 : (defScope st).names.lookup word = some .globalImplicit
  d0 : (call_ == ("__debug__" : Str)) = false
  d1 : (er == ("__debug__" : Str)) = false
  d2 : (seat == ("__debug__" : Str)) = false
  d3 : (word == ("__debug__" : Str)) = false
  c0 : (call_ == ("__classdict__" : Str)) = false
  c1 : (er == ("__classdict__" : Str)) = false
section
variable {P : Program} {w : World} {K : PySem.W.Frag} {mg : Str → Option Value} {base : Heap} {said call_ er word seat qual : Str} {st : Stmt}
end
end DD

namespace DD
open PySem PySem.Spec PyProof.Rows L2
theorem mod_keeps {K : PySem.W.Frag} {mg : Str → Option Value} {b1 b2 : Heap} (m : Mod K mg b1) (hb : BmIn mg b1) (k : ∀ b o, b1.get? b = some o → b2.get? b = some o) : ModB K mg b2 :=
  ⟨⟨m.kin.keeps k, m.glob.keeps k, let ⟨mb, h1, h2⟩ := m.blt; ⟨mb, h1.keeps k, h2⟩, m.nolimit.keeps k⟩, hb.keeps k⟩
def gWord (wd : Str → Option Str) : GF := fun ds _ S Q => ∃ x wx, ds = [.ex x] ∧ wd x = some wx ∧ Q (.tup [.str wx]) S
structure SaidI (P : Program) (w : World) (K : PySem.W.Frag) (mg : Str → Option Value) (k : Nat) (x : Str) (wd : Str → Option Str) : Prop where
  ex : ∃ (f CS : Addr) (fd : FuncData) (call_ : Str), mg x = some (.ref f) ∧ PySem.W.keepIn K (.ref f) = true ∧ Binds K fd [call_] [] ∧ (∀ y C wx, wd y = some wx → ClsAt K y C → PySem.W.exmOne K (.ref C) (.ref CS) = some true) ∧
    ∀ base, ModB K mg base → ∀ (fl : Addr) (fdl : FuncData) (spl : Sp), FnOk P w K mg base (CXE P w) k fl fdl [] spl → (∃ ob fd, base.get? fl = some ob ∧ ob.data = .func fd) → Binds K fdl [] [] → FnOk P w K mg base (CXE P w) (k + 1) f fd [call_] (spSaid K CS (spD K (gWord wd)) fl spl)
structure LamSc (sc scope : Scope) : Prop where
  kind : scope.kind = .function
  co : scope.isCoroutine = false
  gen : scope.isGenerator = false
  cell : ∀ x ∈ scope.names, x.2 ≠ .cell
  loc : ∀ x ∈ scope.names, x.2 ≠ .local
  free : ∀ y ∈ scope.names, y.2 = .free → sc.names.lookup y.1 = some .cell
  nd : (scope.names.map (·.1)).Nodup
theorem lookup_nd : ∀ {l : List (Str × Addr)} {x : Str} {c : Addr}, (l.map (·.1)).Nodup → (x, c) ∈ l → l.lookup x = some c
  | (y, d) :: l, x, c, nd, h => by
    have nd' : (y :: l.map (·.1)).Nodup := nd
    rw [List.lookup_cons]
    rcases List.mem_cons.mp h with z | z
    · cases z; simp
    · have hne : (x == y) = false := beq_eq_false_iff_ne.mpr fun e => (List.nodup_cons.mp nd').1 (by rw [← e]; exact List.mem_map_of_mem z)
      rw [hne]
      exact lookup_nd (List.nodup_cons.mp nd').2 z
theorem clo_names {cells : List (Str × Addr)} : ∀ {names : List (Str × NameKind)} {acc : List (Str × Addr)}, (names.map (·.1)).Nodup → (acc.map (·.1)).Nodup → (∀ x, x ∈ names.map (·.1) → x ∉ acc.map (·.1)) → ((cloFrom cells names acc).map (·.1)).Nodup
  | [], acc, _, h, _ => h
  | (n, k) :: r, acc, h1, h2, h3 => by
    have h1' : (n :: r.map (·.1)).Nodup := h1
    unfold cloFrom
    split
    · refine clo_names (List.nodup_cons.mp h1').2 ?_ fun x hx hy => ?_
      · show (n :: acc.map (·.1)).Nodup
        exact List.nodup_cons.mpr ⟨h3 n List.mem_cons_self, h2⟩
      · have hy' : x ∈ n :: acc.map (·.1) := hy
        rcases List.mem_cons.mp hy' with z | z
        · exact (List.nodup_cons.mp h1').1 (by rw [← z]; exact hx)
        · exact h3 x (List.mem_cons_of_mem _ hx) z
    · exact clo_names (List.nodup_cons.mp h1').2 h2 fun x hx => h3 x (List.mem_cons_of_mem _ hx)
theorem mem_of_lk {l : List (Str × NameKind)} {x : Str} {k : NameKind} (h : l.lookup x = some k) : (x, k) ∈ l := PySem.mem_of_lookup h
section
variable {X : Cx} {params : Arguments} {body : Expr} {scope : Scope} {lpos p pos : Pos} {x q : Str} {c Pt : Addr} {k : Nat} {wd : Str → Option Str} {we : WE}
end
end DD

namespace DD
open PySem PySem.Spec PyProof.Rows L2
def gLawT (T : List (Addr × Str)) : GF := fun ds E S Q => ∃ ns : List Int, ds = [.sv (ns.map D.int)] ∧ ns.length ≤ 63 ∧ S = [] ∧ (∀ p, p ∈ T → p ∈ E.tb) ∧ ∀ S', Q (.bl true) S'
theorem law_callT {P : Program} {w : World} {K : PySem.W.Frag} {mg mb : Str → Option Value} {k : Nat} {fa a : Addr} {fd : FuncData} {x : Str} {s₁ : Shared} {vs : List Value} {ns : List Int} {T : List (Addr × Str)}
    (KX : K.In s₁.heap) (hns : s₁.heap.Ns mainGlobals mg) (hb : s₁.heap.Ns builtinsNs mb) (hbb : ∀ x : Str, x ≠ "__name__" → mb x = bootBuiltins x) (hlim : s₁.heap.NoLimit) (hg : s₁.gens = #[]) (hbm : BmIn mg s₁.heap)
    (ha : s₁.heap.get? a = some { cls := .type "list", data := .seq vs.toArray }) (hi : IntsAre vs ns) (hl : ns.length ≤ 63) (hr : Room k callerA)
    (hT : ∀ p ∈ T, s₁.heap.get? p.1 = some (PySem.W.tabObj #[])) (hC : ∀ p ∈ T, ∃ c, PySem.W.CodeHd s₁.heap c p.1) (hu : ∀ p p', p ∈ T → p' ∈ T → p.1 = p'.1 → p = p') (hK : T = [] ∨ PySem.W.noTabs K = true)
    (F : ∀ base : Heap, ModB K mg base → FnOk P w K mg base (CXE P w) k fa fd [x] (spD K (gLawT T))) (hbind : ∀ (s : Shared) (u : Value), BindsTo s fd ⟨[u], []⟩ [(x, u)]) :
    codeAny (model P w) callerA (.call (.ref fa) ⟨[.ref a], []⟩) (fun r s' => r = .ok (.ret (.bool true)) ∧ OldK s₁.heap s'.heap ∧ s'.os = s₁.os ∧ AllBare s'.gens) s₁ := by
  have rv := vals_ints hi
  have lenV := hi.length
  have hlS : ns.length ≤ sizeLine := Nat.le_trans hl (by decide)
  have tabAt : ∀ b, b ∈ T.map (·.1) → s₁.heap.get? b = some (PySem.W.tabObj #[]) := fun b hb => by
    obtain ⟨p, hp, rfl⟩ := List.mem_map.mp hb
    exact hT p hp
  have core : ∀ H : Hp, (∀ b, b ∈ T.map (·.1) → H b = some (.tbl #[])) → (∀ b, b ∉ T.map (·.1) → H b = none ∨ (b = a ∧ K.lookup a = none ∧ ∃ o xs, H b = some (.frz o (.lst xs)))) → SqL K H a (ns.map V.int) → HOk P w H s₁.heap →
      codeAny (model P w) callerA (.call (.ref fa) ⟨[.ref a], []⟩) (fun r s' => r = .ok (.ret (.bool true)) ∧ OldK s₁.heap s'.heap ∧ s'.os = s₁.os ∧ AllBare s'.gens) s₁ := by
    intro H hHt hHo hS hok
    have base_of : ∀ {b : Addr} {o : Obj}, s₁.heap.get? b = some o → H b = none → (hidT s₁.heap H).get? b = some o := fun e n => hidT_get e n
    have noA : ∀ {b : Addr} {o : Obj} {es : Array DictEntry} {ep : Nat}, s₁.heap.get? b = some o → o.data = .dict es ep → H b = none := fun {b o es ep} e d => by
      by_cases hb : b ∈ T.map (·.1)
      · rw [tabAt b hb] at e; cases e; cases d
      · rcases hHo b hb with z | ⟨z, _⟩
        · exact z
        · rw [z, ha] at e; cases e; cases d
    have nsK : ∀ {b : Addr} {m : Str → Option Value}, s₁.heap.Ns b m → (hidT s₁.heap H).Ns b m := fun {b m} ⟨o, es, ep, e, d, r⟩ => ⟨o, es, ep, base_of e (noA e d), d, r⟩
    have hKb : K.In (hidT s₁.heap H) := fun b o e => base_of (KX b o e) (by
      by_cases hb : b ∈ T.map (·.1)
      · have e2 := KX b o e
        rw [tabAt b hb] at e2
        cases e2
        rcases hK with hK | hK
        · rw [hK] at hb; exact absurd hb (by simp)
        · have h2 := List.all_eq_true.mp hK (b, _) (PySem.W.mem_of_lookupK e)
          exact absurd (show false = true from h2) Bool.false_ne_true
      · rcases hHo b hb with z | ⟨z, z2, _⟩
        · exact z
        · rw [z, z2] at e; cases e)
    have hM : Mod K mg (hidT s₁.heap H) := ⟨hKb, nsK hns, ⟨mb, nsK hb, hbb⟩, let ⟨mc, h1, h2⟩ := hlim; ⟨mc, nsK h1, h2⟩⟩
    have hMB : ModB K mg (hidT s₁.heap H) := ⟨hM, by
      obtain ⟨bm, ob, e1, e2, e3, e4, e5, r⟩ := hbm.ex
      obtain ⟨o9, es9, ep9, s2, s5⟩ := hbm.sm
      refine ⟨⟨bm, ob, e1, base_of e2 ?_, e3, e4, e5, r⟩, o9, es9, ep9, base_of s2 ?_, s5⟩
      · by_cases hb : bm ∈ T.map (·.1)
        · rw [tabAt bm hb] at e2; cases e2; cases e5
        · rcases hHo bm hb with z | ⟨z, _⟩
          · exact z
          · rw [z, ha] at e2; cases e2; cases e5
      · by_cases hb : sysModules ∈ T.map (·.1)
        · rw [tabAt _ hb] at s2; cases s2; cases s5
        · rcases hHo _ hb with z | ⟨z, _⟩
          · exact z
          · rw [z, ha] at s2; cases s2; cases s5⟩
    have e0 : Env0 P w K mg (hidT s₁.heap H) callerA [] s₁ H := ⟨rfl, hM, fun b o e => of_hidT e, Nat.le_of_eq (hidT_size _ _), trivial, fun b hb => absurd (show b ∈ ([] : List Addr) from hb) (by simp), hok, .of_eq hg⟩
    have at_ : ∀ p, p ∈ T → TabOk H p := fun p hp => ⟨#[], hHt p.1 (List.mem_map_of_mem hp), trivial, fun pos cv z => nomatch z⟩
    have na : a ∉ T.map (·.1) := fun z => by
      have := tabAt a z
      rw [ha] at this; cases this
    have hsp : spD K (gLawT T) [.ref a] H (fun v _ => v = .bl true) (fun _ _ _ => False) := by
      rcases hS with hS | hS
      · refine ⟨⟨[], fun b => b = a, T, fun _ => .lst⟩, [], [.sv (ns.map D.int)], ⟨fun _ _ => False, T⟩, ⟨rfl, List.nodup_nil, fun _ _ z => by simp at z, fun b e => ?_, fun _ z => by simp at z, fun b e => ?_, at_, hu, fun k b es e1 _ => by simp at e1, fun _ _ => rfl⟩, .cons (.sv (.inl ⟨rfl, hS⟩) (rds_ints ns)) .nil, ⟨ns, rfl, hl, rfl, fun _ z => z, fun S' G' v H' _ _ rd => ?_⟩, ⟨fun _ _ _ _ _ _ _ _ z => z.elim, fun _ z => z⟩⟩
        · have e : b = a := e
          subst e
          rcases hS with z | ⟨o, z⟩
          · exact ⟨_, z⟩
          · exact ⟨_, z⟩
        · have e : b = a := e
          subst e
          exact na
        · cases rd; rfl
      · refine ⟨⟨[], fun _ => False, T, fun _ => .lst⟩, [], [.sv (ns.map D.int)], ⟨fun _ _ => False, T⟩, ⟨rfl, List.nodup_nil, fun _ z => z.elim, fun _ z => z.elim, fun _ z => by simp at z, fun _ z => z.elim, at_, hu, fun k b es e1 _ => by simp at e1, fun _ _ => rfl⟩, .cons (.sv (.inr hS) (rds_ints ns)) .nil, ⟨ns, rfl, hl, rfl, fun _ z => z, fun S' G' v H' _ _ rd => ?_⟩, ⟨fun _ _ _ _ _ _ _ _ z => z.elim, fun _ z => z⟩⟩
        cases rd; rfl
    refine codeAny_mono ((F _ hMB).run callerA [] s₁ H ⟨[.ref a], []⟩ [.ref a] [.ref a] _ _ hr e0 (hbind s₁ (.ref a)) (.cons rfl .nil) hsp) fun r s' h => ?_
    cases r with
    | error e => obtain ⟨_, _, _, _, _, z⟩ := h; exact z.elim
    | ok fl =>
      cases fl with
      | next => exact False.elim h
      | brk => exact False.elim h
      | cont => exact False.elim h
      | ret u =>
        obtain ⟨v, H', os, bare, un, hok', r', q⟩ := h
        have q' : v = .bl true := q
        subst q'
        obtain rfl : u = Value.bool true := r'
        have fin : ∀ b o, s₁.heap.get? b = some o → b ∉ T.map (·.1) → s'.heap.get? b = some o := fun b o e hb => by
          rcases hHo b hb with z | ⟨_, _, ob, xs, z⟩
          · exact un.keep b o e z (by intro z; exact absurd (show b ∈ ([] : List Addr) from z) (by simp)) (by simp)
          · have z2 := un.frzs b ob _ z
            obtain ⟨e1, _⟩ := hok b _ z
            obtain ⟨e2, _⟩ := hok' b _ z2
            rw [e] at e1; cases e1
            exact e2
        have tbl : ∀ b, b ∈ T.map (·.1) → ∃ more : Array Value, s'.heap.get? b = some (PySem.W.tabObj (#[] ++ more)) := fun b hb => by
          obtain ⟨more, z⟩ := un.tbls b #[] (hHt b hb)
          exact ⟨more, hok' b _ z⟩
        refine ⟨rfl, ⟨fun b o e => ?_, fun b o e => ?_⟩, os, bare⟩
        · by_cases hb : b ∈ T.map (·.1)
          · obtain ⟨p, hp, rfl⟩ := List.mem_map.mp hb
            obtain ⟨c, hc⟩ := hC p hp
            obtain ⟨more, z⟩ := tbl _ hb
            have e2 := tabAt _ hb
            rw [e] at e2
            cases e2
            exact .inr (.inl ⟨(hc.tab (tabAt _ hb)).isCodeTable, rfl, #[], more, rfl, z⟩)
          · exact .inl (fin b o e hb)
        · by_cases hb : b ∈ T.map (·.1)
          · obtain ⟨more, z⟩ := tbl _ hb; exact ⟨_, z⟩
          · exact ⟨o, fin b o e hb⟩
  have naa : a ∉ T.map (·.1) := fun z => by
    have := tabAt a z
    rw [ha] at this; cases this
  cases hk : K.lookup a with
  | some o =>
    have e := KX a o hk
    rw [ha] at e
    cases e
    refine core (fun b => if b ∈ T.map (·.1) then some (.tbl #[]) else none) (fun b hb => if_pos hb) (fun b hb => .inl (if_neg hb)) (.inr ⟨_, vs.toArray, _, hk, rfl, rfl, rfl, by rw [List.size_toArray, lenV]; exact hlS, by simpa using rv⟩) (fun b u z => ?_)
    by_cases hb : b ∈ T.map (·.1)
    · have z' := (if_pos hb).symm.trans z
      cases z'
      exact tabAt b hb
    · have z' := (if_neg hb).symm.trans z
      cases z'
  | none =>
    refine core (fun b => if b ∈ T.map (·.1) then some (.tbl #[]) else if b = a then some (.frz { cls := .type "list", data := .seq vs.toArray } (.lst (ns.map V.int))) else none) (fun b hb => if_pos hb) (fun b hb => ?_) (.inl (.inr ⟨{ cls := .type "list", data := .seq vs.toArray }, ?_⟩)) (fun b u z => ?_)
    · by_cases h2 : b = a
      · exact .inr ⟨h2, hk, _, _, by rw [if_neg hb, if_pos h2]⟩
      · exact .inl (by rw [if_neg hb, if_neg h2])
    · show (if a ∈ T.map (·.1) then some (HO.tbl #[]) else if a = a then some (.frz { cls := .type "list", data := .seq vs.toArray } (.lst (ns.map V.int))) else none) = _
      rw [if_neg naa, if_pos rfl]
    · by_cases hb : b ∈ T.map (·.1)
      · have z' := (if_pos hb).symm.trans z
        cases z'
        exact tabAt b hb
      · have z' := (if_neg hb).symm.trans z
        by_cases h2 : b = a
        · rw [if_pos h2] at z'
          cases z'
          subst h2
          exact ⟨ha, by rw [List.length_map]; exact hlS, vs, _, rv, ha⟩
        · rw [if_neg h2] at z'
          cases z'
theorem walkT {l : PySem.W.OpenLaw} {k : Nat} {x : Str} {q : Program} {loose : List Str} {XP : (Str → Option Value) → Heap → Prop} {YP : World → Heap → Prop} {d : DefRec} {K : Params → PySem.W.Frag} {T : List (Addr × Str)} (hi : importsNone q = true) (hn : l.most = some 63) (hdf : d.params.defaults = []) (hr : Room k callerA)
    (hY : ∀ (w : World) (h : Heap), YP w h → (K w.params).In h ∧ ∀ p ∈ T, h.get? p.1 = some (PySem.W.tabObj #[])) (hu : ∀ p p', p ∈ T → p' ∈ T → p.1 = p'.1 → p = p')
    (F : ∀ (w : World) (mg : Str → Option Value) (fa : Addr) (h : Heap), (K w.params).In h → h.Ns mainGlobals mg → mg d.name = some (.ref fa) →
      ∃ fd : FuncData, ((∀ p ∈ T, ∃ c, PySem.W.codeHdIn (K w.params) c p.1 = true) ∧ (T = [] ∨ PySem.W.noTabs (K w.params) = true)) ∧ (∀ (s : Shared) (u : Value), BindsTo s fd ⟨[u], []⟩ [(x, u)]) ∧ ∀ base : Heap, ModB (K w.params) mg base → FnOk l.prog w (K w.params) mg base (CXE l.prog w) k fa fd [x] (spD (K w.params) (gLawT T))) :
    PySem.W.WalkO q loose XP YP l.row.toRowW d [] (fun f vs => PySem.call f vs) := by
  refine Att.attach_call hn hdf fun w s₀ s₁ mg mb fa o pm cd doc a vs ns G Y ho hd hcd hmg hobj hints hlen hg => ?_
  obtain ⟨KX, hT⟩ := hY w _ Y
  obtain ⟨fd, ⟨hC, hK⟩, hb, hF⟩ := F w mg fa _ KX G.T.g hmg
  have hbm : BmIn mg s₁.heap := by
    obtain ⟨bm, ob, h1, h2, h3, h4, h5, h6⟩ := G.T.bmain
    obtain ⟨mm, ⟨o9, es9, ep9, e9, d9, _⟩, _⟩ := (G.T.seer hi).mods
    refine ⟨⟨bm, ob, h1, h3, h4, h5, h6, h2, fun z => ?_⟩, o9, es9, ep9, e9, d9⟩
    obtain ⟨o, es, ep, e, d, _⟩ := G.T.g
    rw [← z, h3] at e
    cases e
    rw [h6] at d
    cases d
  exact law_callT KX G.T.g G.T.b G.T.builtins G.T.nolimit hg hbm hobj hints hlen hr hT (fun p hp => let ⟨c, e⟩ := hC p hp; ⟨c, PySem.W.codeHd_of_K KX e⟩) hu hK hF hb

theorem fn_deepM {P : Program} {w : World} {K : PySem.W.Frag} {mg : Str → Option Value} {base : Heap} {x qual : Str} {st : Stmt} {f c : Addr} {kV doc pm ct oc : Value} {an od : Option Addr} {osl : Array (Option Value)} {N ps : List Str} {k : Nat} {g : GF} {wb : WS}
    (lk : K.lookup f = some ⟨oc, od, .func (PySem.W.fnOf x qual (defArgs st) (defBody st) (defScope st) .none kV doc pm an (.ref c) ct), osl⟩) (hcd : PySem.W.codeIn K (.ref c) qual = true) (Sc : FnScope N ps (defScope st)) (len : ∀ ds E S Q, g ds E S Q → ds.length = ps.length)
    (hbody : ∀ (A : Around) (outer : List Env) (s : Shared) (H : Hp) (E : XK), Room k (A.deeper (envOfC qual (defScope st) s.heap.objs.size f (.ref c))) → DSs (cxOf (CXE P w) P w K mg base N qual (defScope st) f (.ref c) A outer s H E) (defBody st) wb)
    (hg : ∀ ds E S (Q : KD), g ds E S Q → wb E ⟨fun _ S' => Q .non S', Q, fun _ _ => False, fun _ _ => False⟩ (startD N ds) S) : FnOk P w K mg base (CXE P w) (k + 1) f (PySem.W.fnOf x qual (defArgs st) (defBody st) (defScope st) .none kV doc pm an (.ref c) ct) ps (spD K g) := by
  refine fn_of lk hcd Sc (fun vs H Q E h => ?_) (fun A outer s H vs Q E hr h => ?_)
  · obtain ⟨G, S, ds, E', rs, rd, q, _⟩ := h
    rw [← rd.length]
    exact len _ _ _ _ q
  · obtain ⟨G, S, ds, E', rs, rd, q, ox⟩ := h
    have hb := hbody A outer s H E hr
    refine ⟨_, hb.pe E', G, S, startD N ds, rs, .start N rd ⟨fun x C S' G' H' y rs' c e => xok_cx (ox.ex x C S' G' H' y rs' c e), ox.tb⟩, hb.mo _ _ _ _ _ ⟨?_, ?_, ?_, ?_⟩ (hg _ _ _ _ q)⟩
    · exact fun r' S' z G' sg' H' x' rs' re' => z G' .non H' x' rs' .non
    · exact fun d S' z => z
    · exact fun _ _ z => z.elim
    · exact fun _ _ z => z.elim
end DD

namespace DD
open PySem PySem.Spec PyProof.Rows L2
section
variable {X : Cx} {a : Expr} {wa : WE} {pos : Pos}
def wNeg (wa : WE) : WE := fun E r S Q => wa E r S fun d S1 => match d with | .int i => Q (.int (-i)) S1 | _ => False
theorem de_neg (ha : DE X a wa) : DE X (.UnaryOp .USub a pos) (wNeg wa) := by
  refine ⟨fun E r S Q Q' k h => ha.mo _ _ _ _ _ (fun d S1 q => ?_) h, fun E => PE.wk (pe_un un_neg (ha.pe E)) fun sg H Q h => ?_⟩
  · cases d <;> first | exact q.elim | exact k _ _ q
  · obtain ⟨G, S, r, rs, re, h⟩ := h
    refine ha.next rs re h fun d S1 G1 v H1 x1 rs1 re1 rd1 q => ?_
    cases d <;> first | exact q.elim | skip
    cases rd1
    exact ⟨_, rfl, q G1 _ H1 x1 rs1 (.int _)⟩
end
structure ClsIs (K : PySem.W.Frag) (mg : Str → Option Value) (x : Str) : Prop where
  ex : ∃ C, ClsAt K x C ∧ mg x = some (.ref C)
theorem de_cls {X : Cx} {x : Str} {pos : Pos} (h : ClsIs X.K X.mg x) (hg : Gl X x := by rfl) (hd : (x == ("__debug__" : Str)) = false := by decide) : DE X (.Name x pos) (wC (.cl x)) := by
  obtain ⟨C, h1, h2⟩ := h.ex
  exact de_cl h1 h2 hg hd

def lamC (sc scope : Scope) : Bool := (scope.kind == .function) && !scope.isCoroutine && !scope.isGenerator && scope.names.all (fun y => y.2 != .cell && y.2 != .local && (y.2 != .free || sc.names.lookup y.1 == some .cell)) && decide (scope.names.map (·.1)).Nodup
theorem lamSc_by {sc scope : Scope} (h : lamC sc scope = true) : LamSc sc scope := by
  unfold lamC at h
  simp only [Bool.and_eq_true, Bool.not_eq_true', decide_eq_true_eq] at h
  obtain ⟨⟨⟨⟨h1, h2⟩, h3⟩, h4⟩, h5⟩ := h
  have key := fun y hy => List.all_eq_true.mp h4 y hy
  refine ⟨by simpa using h1, h2, h3, fun y hy e => ?_, fun y hy e => ?_, fun y hy e => ?_, h5⟩
  · have := key y hy
    rw [e] at this
    exact absurd (show false = true from this) Bool.false_ne_true
  · have := key y hy
    rw [e] at this
    exact absurd (show false = true from this) Bool.false_ne_true
  · have := key y hy
    rw [e] at this
    simpa using this
end DD
namespace DD
open PySem PySem.Spec PyProof.Rows L2
theorem FnK.up {P : Program} {w : World} {K : PySem.W.Frag} {mg : Str → Option Value} {base : Heap} {j k m : Nat} {x : Str} {g : GF} {ks : List Str} {ix : List Nat} (F : FnK P w K mg base j x g ks m ix) (h : j ≤ k) : FnK P w K mg base k x g ks m ix := by
  obtain ⟨f, fd, ps, h1, h2, h3⟩ := F.ex
  exact ⟨⟨f, fd, ps, h1, h2.mono h, h3⟩, F.mo⟩
end DD
namespace DD
open PySem PySem.Spec PyProof.Rows L2

def dEqS (ng : Bool) : RD2 := fun x y S Q => match x, y with | .str a, .str b => Q (.bl (ng ^^ decide (a = b))) S | _, _ => False
theorem dec_str (a b : Str) : decide (V.str a = V.str b) = decide (a = b) := by
  by_cases h : a = b
  · rw [decide_eq_true h, decide_eq_true (by rw [h])]
  · rw [decide_eq_false h, decide_eq_false (by intro z; cases z; exact h rfl)]
theorem dEqS_ok {K : PySem.W.Frag} : OpD K rEq (dEqS false) := by
  refine ⟨fun x y S Q Q' k h => ?_, fun G S H x y v u Q rs rx ry h => ?_⟩
  · unfold dEqS at h ⊢
    split at h
    · exact k _ _ h
    · exact h.elim
  · unfold dEqS at h
    split at h
    · cases rx; cases ry
      refine ⟨rfl, ?_⟩
      rw [dec_str]
      rw [Bool.false_xor] at h
      exact h G _ H (Ext.refl _ _) rs (.bl _)
    · exact h.elim
theorem dNeS_ok {K : PySem.W.Frag} : OpD K rNe (dEqS true) := by
  refine ⟨fun x y S Q Q' k h => ?_, fun G S H x y v u Q rs rx ry h => ?_⟩
  · unfold dEqS at h ⊢
    split at h
    · exact k _ _ h
    · exact h.elim
  · unfold dEqS at h
    split at h
    · cases rx; cases ry
      refine ⟨rfl, ?_⟩
      rw [dec_str]
      rw [Bool.true_xor] at h
      exact h G _ H (Ext.refl _ _) rs (.bl _)
    · exact h.elim
section
variable {X : Cx} {a b : Expr} {pos : Pos} {wa wb : WE}
theorem dt_eqS (ha : DE X a wa) (hb : DE X b wb) : DT X (.Compare a [.Eq] [b] pos) (wB (wOp (dEqS false) wa wb)) := dt_cmp op_eq dEqS_ok ha hb (nomark _)
theorem dt_neS (ha : DE X a wa) (hb : DE X b wb) : DT X (.Compare a [.NotEq] [b] pos) (wB (wOp (dEqS true) wa wb)) := dt_cmp op_ne dNeS_ok ha hb (nomark _)
end

theorem int_showable {i : Int} (h : i.natAbs < 2 ^ 1900) : PyData.showable (.int i) = true := by
  refine decide_eq_true ?_
  by_cases z : i.natAbs = 0
  · rw [z]; decide
  · exact (Nat.log2_lt z).mpr (Nat.lt_of_lt_of_le h (Nat.pow_le_pow_right (by decide) (by decide)))
theorem int_short {i : Int} (h : i.natAbs < 2 ^ 1900) : PyData.leavesShort 2000 (.int i) = true := by
  refine decide_eq_true ?_
  have e := int_text_length_le10 (k := 1900) (a := i) (by decide) (Nat.lt_of_lt_of_le h (Nat.pow_le_pow_left (by decide) 1900))
  show (Str.ofString (toString i)).length ≤ 2000
  rw [PySem.ofString_length]
  omega
end DD

namespace DD
open PySem PySem.Spec PyProof.Rows L2
theorem irr_ds {X : Cx} {ss : List Stmt} {w w' : WS} (e : w = w') (h : DSs X ss w') : DSs X ss w := by rw [e]; exact h
def dcP (kvs : List (Int × Int)) : PyData := .dict (kvs.map fun p => (.int p.1, .int p.2))
mutual
inductive DpX (K : PySem.W.Frag) (H : Hp) : V → PyData → Prop
  | non : DpX K H .non .none
  | bl (b : Bool) : DpX K H (.bl b) (.bool b)
  | int (i : Int) : DpX K H (.int i) (.int i)
  | str (x : Str) : DpX K H (.str x) (.str x)
  | lst {a : Addr} {xs : List V} {ds : List PyData} : SqL K H a xs → DpXs K H xs ds → DpX K H (.ref a) (.list ds)
  | tup {a : Addr} {xs : List V} {ds : List PyData} : SqT K H a xs → DpXs K H xs ds → DpX K H (.ref a) (.tuple ds)
  | dc {a : Addr} {kvs : List (Int × Int)} : H a = some (dcO kvs) → DpX K H (.ref a) (dcP kvs)
inductive DpXs (K : PySem.W.Frag) (H : Hp) : List V → List PyData → Prop
  | nil : DpXs K H [] []
  | cons {v : V} {vs : List V} {d : PyData} {ds : List PyData} : DpX K H v d → DpXs K H vs ds → DpXs K H (v :: vs) (d :: ds)
end
mutual
def noL : PyData → Bool
  | .list _ => false
  | .tuple xs => noLs xs
  | _ => true
def noLs : List PyData → Bool
  | [] => true
  | x :: r => noL x && noLs r
end
theorem pairs_read {P : Program} {w : World} {h : Heap} : ∀ {kvs : List (Int × Int)} {vs : List (Key × Value)} {es : List DictEntry}, KV (kvs.map fun p => (Sum.inl p.1, V.int p.2)) vs → Pairs (mixKind P w) es vs →
    ReadsAll h (es.map (·.key)) ((kvs.map fun p => (PyData.int p.1, PyData.int p.2)).map (·.1)) [] ∧ ReadsAll h (es.map (·.val)) ((kvs.map fun p => (PyData.int p.1, PyData.int p.2)).map (·.2)) []
  | [], vs, es, kv, ps => by
    cases kv
    cases ps
    exact ⟨.nil, .nil⟩
  | (i, j) :: kvs, vs, es, kv, ps => by
    cases kv with
    | cons e t =>
      cases ps with
      | @cons e1 _ es1 _ h1 h2 h3 =>
        obtain ⟨ih1, ih2⟩ := pairs_read (h := h) t h3
        obtain ⟨ea, eb⟩ := e
        replace h1 := ea ▸ h1
        have h1 : keyIs (Sum.inl i) e1.key = true := h1
        rcases keyIs_shape h1 with ⟨i2, t2, z1, z2⟩ | ⟨x2, t2, z1, z2⟩
        · cases z1
          obtain ⟨t3, eb⟩ := eb
          have a1 : Reads h e1.key (.int i) [] := by rw [z2]; exact .int i t2
          have a2 : Reads h e1.val (.int j) [] := by rw [h2, eb]; exact .int j t3
          exact ⟨.cons a1 ih1, .cons a2 ih2⟩
        · cases z1
section
variable {X : Cx} {pins : List (Addr × Obj)} {σ : L2.St} {H : Hp} {s : Shared}
mutual
theorem DpX.reads (I : Inv X pins σ H s) : ∀ (d : PyData) (v : V) (u : Value), DpX X.K H v d → RelV v u → ∃ as, Reads s.heap u d as ∧ (noL d = true → sysModules ∉ as)
  | .none, _, _, h, r => by
    cases h
    cases r
    exact ⟨_, Reads.none, fun _ z => nomatch z⟩
  | .bool b, _, _, h, r => by
    cases h
    cases r
    exact ⟨_, Reads.bool b, fun _ z => nomatch z⟩
  | .int i, _, _, h, r => by
    cases h
    obtain ⟨t, rfl⟩ := r
    exact ⟨_, Reads.int i t, fun _ z => nomatch z⟩
  | .str x, _, _, h, r => by
    cases h
    obtain ⟨t, rfl⟩ := r
    exact ⟨_, Reads.str x t, fun _ z => nomatch z⟩
  | .list ds, _, _, h, r => by
    cases h with
    | lst hs ha =>
      cases r
      obtain ⟨its, rv, ⟨o, n, ho, hc, _, hd⟩, _⟩ := I.list hs
      obtain ⟨as, hr, _⟩ := DpX.readsAll I ds _ its ha rv
      exact ⟨_, Reads.list ho hc hd hr, fun z => by rw [noL] at z; cases z⟩
  | .tuple ds, _, _, h, r => by
    cases h with
    | tup hs ha =>
      cases r
      obtain ⟨its, rv, ⟨o, ho, hc, n, hd⟩, _⟩ := I.tuple hs
      obtain ⟨as, hr, hn⟩ := DpX.readsAll I ds _ its ha rv
      exact ⟨_, Reads.tuple ho hc hd hr, fun z => hn (by rw [noL] at z; exact z)⟩
  | .dict kv, v, u, h, r => by
    have key : ∀ p, DpX X.K H v p → p = .dict kv → ∃ as, Reads s.heap u p as ∧ (noL p = true → sysModules ∉ as) := fun p hp e => by
      cases hp with
      | @dc a kvs ea =>
        cases r
        obtain ⟨_, hsys, vs, kvv, o, es, ep, ho, hex, hd, _, hps, _⟩ := (show ObjOk X.prog X.w H s.heap a (dcO kvs) from I.hok a _ ea)
        obtain ⟨r1, r2⟩ := pairs_read (h := s.heap) kvv hps
        refine ⟨_, Reads.dict ho hex.1 hd r1 r2, fun _ z => ?_⟩
        have z : sysModules ∈ [a] := by simpa using z
        rw [List.mem_singleton.mp z] at hsys
        simp at hsys
      | _ => cases e
    exact key _ h rfl
theorem DpX.readsAll (I : Inv X pins σ H s) : ∀ (ds : List PyData) (vs : List V) (us : List Value), DpXs X.K H vs ds → Vals vs us → ∃ as, ReadsAll s.heap us ds as ∧ (noLs ds = true → sysModules ∉ as)
  | [], _, _, h, r => by
    cases h
    cases r
    exact ⟨_, ReadsAll.nil, fun _ z => nomatch z⟩
  | d :: ds, _, _, h, r => by
    cases h with
    | cons h1 h2 =>
      cases r with
      | cons r1 r2 =>
        obtain ⟨as, q1, n1⟩ := DpX.reads I d _ _ h1 r1
        obtain ⟨bs, q2, n2⟩ := DpX.readsAll I ds _ _ h2 r2
        refine ⟨_, ReadsAll.cons q1 q2, fun z m => ?_⟩
        rw [noLs, Bool.and_eq_true] at z
        rcases List.mem_append.mp m with m | m
        · exact n1 z.1 m
        · exact n2 z.2 m
end
end
structure ROkX (p : PyData) : Prop where
  sh : p.showable = true
  nd : p.hasDict = true → noL p = true
  ls : p.leavesShort 2000 = true
  bk : p.bulk ≤ 8000
  dp : p.depth ≤ 60
theorem ROkX.len {p : PyData} (h : ROkX p) : p.shown.length ≤ sizeLine := by
  have z := PyData.shown_le_bulk 2000 (by decide) p h.ls
  have b := h.bk
  have e : (2000 + 2) * p.bulk ≤ 2002 * 8000 := Nat.mul_le_mul_left _ b
  rw [sizeLine_eq]
  omega
theorem ROk.x {p : PyData} (h : ROk p) : ROkX p := ⟨h.sh, fun z => (by rw [h.nd] at z; cases z), h.ls, h.bk, h.dp⟩
def pydX (S : Sto) : Nat → D → Option PyData
  | 0, _ => none
  | n + 1, d => match d with
    | .non => some .none
    | .bl b => some (.bool b)
    | .int i => some (.int i)
    | .str x => some (.str x)
    | .tup ds => (seqO (ds.map (pydX S n))).map .tuple
    | .lv ds => (seqO (ds.map (pydX S n))).map .list
    | .lst k => match S[k]? with | some ds => (seqO (ds.map (pydX S n))).map .list | none => none
    | .dc kvs => some (dcP kvs)
    | _ => none
section
variable {K : PySem.W.Frag} {G : Gx} {S : Sto} {H : Hp}
end
end DD

namespace DD
open PySem PySem.Spec PyProof.Rows L2
def kdP : Bool → PyData → Prop
  | true, q => noL q = true
  | false, q => q.hasDict = false
def kdPs : Bool → List PyData → Prop
  | true, q => noLs q = true
  | false, q => PyData.hasDictAll q = false

structure Sw (c : Bool) (m b e : Nat) (d : D) : Prop where
  ex : ∃ q, (∀ S n, pydX S (n + m) d = some q) ∧ q.showable = true ∧ q.leavesShort 2000 = true ∧ q.bulk ≤ b ∧ q.depth ≤ e ∧ kdP c q
structure Sws (c : Bool) (m b e : Nat) (ds : List D) : Prop where
  ex : ∃ qs, (∀ S n, seqO (ds.map (pydX S (n + m))) = some qs) ∧ PyData.showableAll qs = true ∧ PyData.leavesShortAll 2000 qs = true ∧ PyData.bulkAll qs ≤ b ∧ PyData.depthAll qs ≤ e ∧ kdPs c qs
theorem Sw.mono {c : Bool} {m b e m' b' e' : Nat} {d : D} (h : Sw c m b e d) (hm : m ≤ m') (hb : b ≤ b') (he : e ≤ e') : Sw c m' b' e' d := by
  obtain ⟨q, h1, h2, h3, h4, h5, h6⟩ := h
  refine ⟨q, fun S n => ?_, h2, h3, Nat.le_trans h4 hb, Nat.le_trans h5 he, h6⟩
  rw [show n + m' = (n + (m' - m)) + m by omega]
  exact h1 S _
theorem Sws.nil {c : Bool} {m : Nat} : Sws c m 0 0 [] := ⟨[], fun S n => rfl, by rw [PyData.showableAll], by rw [PyData.leavesShortAll], by rw [PyData.bulkAll]; exact Nat.le_refl _, by rw [PyData.depthAll]; exact Nat.le_refl _, by cases c; exact (by rw [kdPs, PyData.hasDictAll]); exact (by rw [kdPs, noLs])⟩
theorem Sws.cons {c : Bool} {m b e b' e' : Nat} {d : D} {ds : List D} (h : Sw c m b e d) (t : Sws c m b' e' ds) : Sws c m (b + 1 + b') (max e e') (d :: ds) := by
  obtain ⟨q, h1, h2, h3, h4, h5, h6⟩ := h
  obtain ⟨qs, t1, t2, t3, t4, t5, t6⟩ := t
  refine ⟨q :: qs, fun S n => ?_, ?_, ?_, ?_, ?_, ?_⟩
  · show seqO (pydX S (n + m) d :: ds.map (pydX S (n + m))) = _
    rw [h1 S n]
    show consO q (seqO (ds.map (pydX S (n + m)))) = _
    rw [t1 S n]; rfl
  · rw [PyData.showableAll, h2, t2]; rfl
  · rw [PyData.leavesShortAll, h3, t3]; rfl
  · rw [PyData.bulkAll]; omega
  · rw [PyData.depthAll]; omega
  · cases c
    · have h6 : q.hasDict = false := h6
      have t6 : PyData.hasDictAll qs = false := t6
      rw [kdPs, PyData.hasDictAll, h6, t6]; rfl
    · have h6 : noL q = true := h6
      have t6 : noLs qs = true := t6
      rw [kdPs, noLs, h6, t6]; rfl
theorem Sw.tup {c : Bool} {m b e : Nat} {ds : List D} (h : Sws c m b e ds) : Sw c (m + 1) b (e + 1) (.tup ds) := by
  obtain ⟨qs, t1, t2, t3, t4, t5, t6⟩ := h
  refine ⟨.tuple qs, fun S n => ?_, ?_, ?_, ?_, ?_, ?_⟩
  · show (seqO (ds.map (pydX S (n + m)))).map PyData.tuple = _
    rw [t1 S n]; rfl
  · rw [PyData.showable]; exact t2
  · rw [PyData.leavesShort]; exact t3
  · rw [PyData.bulk]; exact t4
  · rw [PyData.depth]; omega
  · cases c
    · have t6 : PyData.hasDictAll qs = false := t6
      rw [kdP, PyData.hasDict]; exact t6
    · have t6 : noLs qs = true := t6
      rw [kdP, noL]; exact t6
theorem Sw.lv {m b e : Nat} {ds : List D} (h : Sws false m b e ds) : Sw false (m + 1) b (e + 1) (.lv ds) := by
  obtain ⟨qs, t1, t2, t3, t4, t5, t6⟩ := h
  refine ⟨.list qs, fun S n => ?_, ?_, ?_, ?_, ?_, ?_⟩
  · show (seqO (ds.map (pydX S (n + m)))).map PyData.list = _
    rw [t1 S n]; rfl
  · rw [PyData.showable]; exact t2
  · rw [PyData.leavesShort]; exact t3
  · rw [PyData.bulk]; exact t4
  · rw [PyData.depth]; omega
  · have t6 : PyData.hasDictAll qs = false := t6
    rw [kdP, PyData.hasDict]; exact t6
theorem Sw.int {c : Bool} {m : Nat} {i : Int} (h : i.natAbs < 2 ^ 1900) : Sw c (m + 1) 0 0 (.int i) :=
  ⟨.int i, fun S n => rfl, int_showable h, int_short h, by rw [PyData.bulk]; exact Nat.le_refl _, by rw [PyData.depth]; exact Nat.le_refl _, by cases c; exact (by rw [kdP, PyData.hasDict]); exact (by simp [kdP, noL])⟩
theorem Sw.bl {c : Bool} {m : Nat} {i : Bool} : Sw c (m + 1) 0 0 (.bl i) :=
  ⟨.bool i, fun S n => rfl, by rw [PyData.showable], by rw [PyData.leavesShort], by rw [PyData.bulk]; exact Nat.le_refl _, by rw [PyData.depth]; exact Nat.le_refl _, by cases c; exact (by rw [kdP, PyData.hasDict]); exact (by simp [kdP, noL])⟩
theorem Sw.rok {c : Bool} {m b e : Nat} {d : D} (h : Sw c m b e d) (hm : m ≤ 8) (hb : b ≤ 8000) (he : e ≤ 60) : ∃ q, (∀ S, pydX S 8 d = some q) ∧ ROkX q := by
  obtain ⟨q, h1, h2, h3, h4, h5, h6⟩ := h
  refine ⟨q, fun S => ?_, h2, fun z => ?_, h3, by omega, by omega⟩
  · have := h1 S (8 - m)
    rw [show 8 - m + m = 8 by omega] at this
    exact this
  · cases c
    · have h6 : q.hasDict = false := h6
      rw [h6] at z; cases z
    · exact h6
end DD

namespace DD
open PySem PySem.Spec PyProof.Rows L2
abbrev WSrc := XD → Rho → Sto → (List D → (Sto → Prop) → Sto → Prop) → Prop

structure Feed (K : PySem.W.Frag) (G1 : Gx) (H1 : Hp) (chk : Sto → Prop) (ds : List D) (J : It) : Prop where
  step : ∀ (i : Nat) (d : D) (G' : Gx) (S' : Sto) (H' : Hp), ds[i]? = some d → Ext G1 H1 G' H' → RS K G' S' H' → chk S' → J.go i H' ∧ ∀ x H'', J.yld i H' x H'' → ∃ G'', Ext G' H' G'' H'' ∧ RS K G'' S' H'' ∧ RD K G'' H'' d x
  stop : ∀ (i : Nat) (G' : Gx) (S' : Sto) (H' : Hp), ds.length ≤ i → Ext G1 H1 G' H' → RS K G' S' H' → chk S' → J.stop i H'
structure DSrcG (X : Cx) (tg iter : Expr) (src : WSrc) : Prop where
  mo : ∀ (E : XD) (r : Rho) (S : Sto) (Q Q' : List D → (Sto → Prop) → Sto → Prop), (∀ ds c S, Q ds c S → Q' ds c S) → src E r S Q → src E r S Q'
  pi : ∃ wi : XD → TI, (∀ E, PI X tg iter (wi E)) ∧ ∀ (E : XD) (r : Rho) (S : Sto) (G : Gx) (sg : L2.St) (H : Hp) (Q : List D → (Sto → Prop) → Sto → Prop) (R : It → Hp → Prop), RS X.K G S H → RE X E G H r sg → src E r S Q →
    (∀ ds chk S1 G1 H1 J, Ext G H G1 H1 → RS X.K G1 S1 H1 → RE X E G1 H1 r sg → Q ds chk S1 → Feed X.K G1 H1 chk ds J → R J H1) → wi E sg H R
def wForG (src : WSrc) (g : WG) (b : WS) : WS := fun E Dn r S => src E r S fun ds chk S1 => loopD g b E Dn chk ds r S1
section
variable {X : Cx} {pos : Pos} {tg iter : Expr} {body : List Stmt} {g : WG} {wb : WS} {src : WSrc}
theorem ds_forG (hp : PassesOwn (model X.prog X.w) X.A X.env X.xe) (hc : X.calm = true) (hi : DSrcG X tg iter src) (hg : DG X tg g) (hb : DSs X body wb)
    (hs : ∀ x, foldedSetIterable iter X.env x = pure x := by intro _; rfl) : DS X (.For tg iter body [] pos) (wForG src g wb) := by
  obtain ⟨wi, hwi, rd⟩ := hi.pi
  refine ⟨fun E A B r S k h => hi.mo _ _ _ _ _ (fun ds c S1 q => loopD_mo hg hb k _ _ _ _ q) h, fun E => PS.wk (ps_for hp hc (hwi E) (hg.pe E) (hb.pe E) hs) fun Dn sg H h => ?_⟩
  obtain ⟨G, S, r, rs, re, h⟩ := h
  refine rd E r S G sg H _ _ rs re h fun ds chk S1 G1 H1 J x1 rs1 re1 q fd => ?_
  refine ⟨fun i m sg' H' => m = ds.length - i ∧ i ≤ ds.length ∧ ∃ G' S' r', Ext G1 H1 G' H' ∧ RS X.K G' S' H' ∧ RE X E G' H' r' sg' ∧ loopD g wb E (OutS X E G1 H1 Dn) chk (ds.drop i) r' S', ⟨ds.length, by simp, Nat.zero_le _, G1, S1, r, Ext.refl _ _, rs1, re1, loopD_mo hg hb (OutS.of x1) _ _ _ _ q⟩, ?_⟩
  rintro i m sg' H' ⟨rfl, hi', G', S', r', x', rs', re', q'⟩
  have c := loopD_chk q'
  by_cases hlt : i < ds.length
  · have hd : ds[i]? = some ds[i] := List.getElem?_eq_getElem hlt
    obtain ⟨hgo, hy⟩ := fd.step i _ G' S' H' hd x' rs' c
    refine .inr ⟨hgo, fun sg' H' => ∃ G' S' r', Ext G1 H1 G' H' ∧ RS X.K G' S' H' ∧ RE X E G' H' r' sg' ∧ loopD g wb E (OutS X E G1 H1 Dn) chk (ds.drop (i + 1)) r' S', fun σ' H' h => ⟨ds.length - (i + 1), by omega, rfl, by omega, h⟩, fun x H'' y => ?_⟩
    obtain ⟨G2, x2, rs2, rd2⟩ := hy x H'' y
    rw [List.drop_eq_getElem_cons hlt] at q'
    refine ⟨G2, S', r', _, rs2, re'.ext rs' x2, rd2, hg.mo _ _ _ _ _ _ (fun r3 S3 z G3 sg3 H3 x3 rs3 re3 => ?_) q'.2⟩
    have x23 := (x'.trans x2).trans x3
    refine ⟨G3, S3, r3, rs3, re3, hb.mo _ _ _ _ _ ⟨?_, ?_, ?_, ?_⟩ z⟩
    · intro r4 S4 z4 G4 sg4 H4 x4 rs4 re4
      exact ⟨G4, S4, r4, x23.trans x4, rs4, re4, z4⟩
    · exact fun _ _ z => OutE.of x23 z
    · exact fun _ _ z => OutR.of x23 z
    · intro r4 S4 z4 G4 sg4 H4 x4 rs4 re4
      exact ⟨G4, S4, r4, x23.trans x4, rs4, re4, z4⟩
  · have e : i = ds.length := by omega
    subst e
    rw [List.drop_length] at q'
    exact .inl ⟨fd.stop _ G' S' H' (Nat.le_refl _) x' rs' c, q'.2 G' sg' H' x' rs' re'⟩
end

def sG (src : WA) : WSrc := fun E r S Q => src E r S fun ds S1 => Q ds (fun _ => True) S1
theorem comp_step2 {X : Cx} {E : XD} {ct : CT} {wt : WT} {we : WE} {G1 : Gx} {H1 : Hp} {r0 : Rho} {sg0 : L2.St} {vs : List Nat} {Dd : Addr} {ds : List D} {Q : List D → Sto → Prop} (mt : MoT wt) (me : MoE we) (hct : ct.In vs)
    (hD : H1 Dd = none) {i : Nat} {x : V} {Hc : Hp} {d : D} (hlt : i < ds.length) (hd : ds[i] = d) {G' : Gx} {S' : Sto} {acc : List D} {us : List V} (x' : Ext G1 H1 G' Hc) (rs' : RS X.K G' S' Hc) (nm : Dd ∉ G'.M) (nf : ¬ G'.F Dd) (hDc : Hc Dd = some (.lst us)) (qa : RDs X.K G' Hc acc us) (hl : acc.length ≤ 1000)
    (q : compD ct wt we E.n r0 (ds.drop i) acc S' Q) (re' : RE X E.n G' Hc r0 (L2.wipe sg0 vs)) (hrd : RD X.K G' Hc d x) :
    ct.g X.K x (L2.wipe sg0 vs) Hc fun sg2 H2 => L2.wipe sg2 vs = L2.wipe sg0 vs ∧ tDT X wt E.n sg2 H2 fun b H3 =>
      if b = true then tD X we E.n sg2 H3 fun y H4 => ∃ acc, H4 Dd = some (.lst acc) ∧ acc.length < sizeLine ∧ PvC X.K ct wt we E.n G1 H1 r0 Dd ds Q (i + 1) (upd H4 Dd (.lst (acc ++ [y]))) else PvC X.K ct wt we E.n G1 H1 r0 Dd ds Q (i + 1) H3 := by
  rw [List.drop_eq_getElem_cons hlt, hd] at q
  refine CT.step hct re' hrd q fun r2 sg2 re2 hw q2 => ⟨by rw [hw, wipe_idem], G', S', r2, rs', re2, mt _ _ _ _ _ (fun b S3 q3 G3 H3 x3 rs3 => ?_) q2⟩
  have nm3 : Dd ∉ G3.M := fun z => by
    rcases x3.newM Dd z with z | z
    · exact nm z
    · rw [hDc] at z; cases z
  have nf3 : ¬ G3.F Dd := fun z => by
    rcases x3.newF Dd z with z | z | ⟨z, _⟩
    · exact nf z
    · rw [hDc] at z; cases z
    · exact z.ne hDc
  have nt : Dd ∉ G'.tabs := fun z => by
    obtain ⟨q, hq, e1⟩ := List.mem_map.mp z
    obtain ⟨ps, e2, _⟩ := rs'.tb q hq
    rw [e1, hDc] at e2; cases e2
  have hD3 : H3 Dd = some (.lst us) := x3.keep Dd _ hDc nm nt
  cases b
  · refine iteF ⟨G3, S3, acc, us, x'.trans x3, rs3, nm3, nf3, hD3, qa.go (rs'.go x3), hl, ?_⟩
    simpa using q3
  · refine iteT ⟨G3, S3, r2, rs3, re2.ext rs' x3, me _ _ _ _ _ (fun y S4 q4 G4 v H4 x4 rs4 rd4 => ?_) (by simpa using q3)⟩
    have nm4 : Dd ∉ G4.M := fun z => by
      rcases x4.newM Dd z with z | z
      · exact nm3 z
      · rw [hD3] at z; cases z
    have nf4 : ¬ G4.F Dd := fun z => by
      rcases x4.newF Dd z with z | z | ⟨z, _⟩
      · exact nf3 z
      · rw [hD3] at z; cases z
      · exact z.ne hD3
    have hD4 : H4 Dd = some (.lst us) := x4.keep Dd _ hD3 nm3 (by unfold Gx.tabs; rw [x3.tt]; exact nt)
    have qa4 := (qa.go (rs'.go x3)).go (rs3.go x4)
    refine ⟨us, hD4, by rw [← qa.length]; exact small1000 hl, ⟨G4, S4, acc ++ [y], us ++ [v], ((x'.trans x3).trans x4).other hD, rs_other rs4 nm4 nf4 hD4, nm4, nf4, upd_same, (qa4.append (.cons rd4 .nil)).go (go_other nm4 nf4 hD4 (MO.fix (.inl ⟨_, rfl⟩))), ?_, q4.2⟩⟩
    rw [List.length_append, List.length_singleton]
    exact q4.1
theorem DSrcG.lc {X : Cx} {tg iter : Expr} {src : WA} (h : DSrcG X tg iter (sG src)) : DSrc X tg iter src := by
  have mo : MoA src := fun E r S Q Q' k z => h.mo E r S (fun ds _ S => Q ds S) (fun ds _ S => Q' ds S) (fun ds _ S q => k ds S q) z
  obtain ⟨wi, hwi, rd⟩ := h.pi
  refine ⟨mo, wi, hwi, fun E ct wt we vs mu mt me hct sg H Q h => ?_⟩
  obtain ⟨G, S, r, rs, re, h⟩ := h
  refine rd E r S G sg H (fun ds chk S1 => (∀ S, chk S) ∧ compD ct wt we E.n (wipeD r vs) ds [] S1 (fun acc S2 => wMk mu acc S2 (OutE X.K G H Q))) _ rs re (mo _ _ _ _ _ (fun ds S1 q => ⟨fun _ => trivial, q⟩) h) fun ds chk S1 G1 H1 J x1 rs1 re1 q fd => ?_
  obtain ⟨hchk, q⟩ := q
  intro Dd hD
  refine ⟨fun i m Hc => m = ds.length - i ∧ i ≤ ds.length ∧ PvC X.K ct wt we E.n G1 H1 (wipeD r vs) Dd ds (fun acc S2 => wMk mu acc S2 (OutE X.K G H Q)) i Hc, ⟨ds.length, by simp, Nat.zero_le _, ⟨G1, S1, [], [], (Ext.refl _ _).other hD, rs_new rs1 hD, rs1.notM hD, rs1.notF hD, upd_same, .nil, Nat.zero_le _, q⟩⟩, ?_⟩
  rintro i m Hc ⟨rfl, hi, p⟩
  obtain ⟨G', S', acc, us, x', rs', nm, nf, hDc, qa, hl, q'⟩ := p.ex
  by_cases hlt : i < ds.length
  · obtain ⟨hgo, hy⟩ := fd.step i _ G' S' Hc (List.getElem?_eq_getElem hlt) x' rs' (hchk _)
    refine .inr ⟨hgo, PvC X.K ct wt we E.n G1 H1 (wipeD r vs) Dd ds (fun acc S2 => wMk mu acc S2 (OutE X.K G H Q)) (i + 1), fun H' h => ⟨ds.length - (i + 1), by omega, rfl, by omega, h⟩, fun x H'' y => ?_⟩
    obtain ⟨G2, x2, rs2, rd2⟩ := hy x H'' y
    have nt : Dd ∉ G'.tabs := fun z => by
      obtain ⟨q, hq, e1⟩ := List.mem_map.mp z
      obtain ⟨ps, e2, _⟩ := rs'.tb q hq
      rw [e1, hDc] at e2; cases e2
    have nm2 : Dd ∉ G2.M := fun z => by
      rcases x2.newM Dd z with z | z
      · exact nm z
      · rw [hDc] at z; cases z
    have nf2 : ¬ G2.F Dd := fun z => by
      rcases x2.newF Dd z with z | z | ⟨z, _⟩
      · exact nf z
      · rw [hDc] at z; cases z
      · exact z.ne hDc
    have hD2 : H'' Dd = some (.lst us) := x2.keep Dd _ hDc nm nt
    have re2 : RE X E.n G2 H'' (wipeD r vs) (L2.wipe sg vs) := ((re1.ext rs1 (x'.trans x2)).wipe vs).zero rfl
    exact comp_step2 mt me hct hD hlt rfl (x'.trans x2) rs2 nm2 nf2 hD2 (qa.go (rs'.go x2)) hl q' re2 rd2
  · have e : i = ds.length := by omega
    exact .inl ⟨fd.stop _ G' S' Hc (by omega) x' rs' (hchk _), comp_done e x1 hD p⟩
end DD

namespace DD
open PySem PySem.Spec PyProof.Rows L2
theorem feed_range {K : PySem.W.Frag} {G : Gx} {H : Hp} {chk : Sto → Prop} {lo : Int} {n : Nat} : Feed K G H chk ((List.range n).map fun (i : Nat) => D.int (lo + (i : Int))) (Itr lo n) := by
  refine ⟨fun i d G' S' H' hd x' rs' _ => ?_, fun i G' S' H' hi _ _ _ => by
    show n ≤ i
    simpa using hi⟩
  have hi : i < n := by
    have := (List.getElem?_eq_some_iff.mp hd).1
    simpa using this
  rw [List.getElem?_map, List.getElem?_range hi] at hd
  cases hd
  refine ⟨hi, fun x H'' y => ?_⟩
  obtain ⟨rfl, rfl⟩ := y
  exact ⟨G', Ext.refl _ _, rs', .int _⟩
theorem feed_list {K : PySem.W.Frag} {G : Gx} {S : Sto} {H : Hp} {chk : Sto → Prop} {a : Addr} {ds : List D} {us : List V} (rs : RS K G S H) (hx : FxL K G H a us) (t : RDs K G H ds us) : Feed K G H chk ds (Itl K a) := by
  refine ⟨fun i d G' S' H' hd x' rs' _ => ?_, fun i G' S' H' hi x' rs' _ => ?_⟩
  · have sq := ((rs.go x').fxL hx).sq
    obtain ⟨v, hv, rd⟩ := t.get hd
    refine ⟨⟨us, v, sq, hv⟩, fun x H'' y => ?_⟩
    obtain ⟨rfl, hy⟩ := y
    have e := hy us sq
    rw [hv] at e
    cases e
    exact ⟨G', Ext.refl _ _, rs', rd.go (rs.go x')⟩
  · exact ⟨us, ((rs.go x').fxL hx).sq, by rw [← t.length]; exact hi⟩
theorem feed_tup {K : PySem.W.Frag} {G : Gx} {S : Sto} {H : Hp} {chk : Sto → Prop} {a : Addr} {ds : List D} {us : List V} (rs : RS K G S H) (hx : FxT K G H a us) (t : RDs K G H ds us) : Feed K G H chk ds (Itt K a) := by
  refine ⟨fun i d G' S' H' hd x' rs' _ => ?_, fun i G' S' H' hi x' rs' _ => ?_⟩
  · have sq := ((rs.go x').fxT hx).sq
    obtain ⟨v, hv, rd⟩ := t.get hd
    refine ⟨⟨us, v, sq, hv⟩, fun x H'' y => ?_⟩
    obtain ⟨rfl, hy⟩ := y
    have e := hy us sq
    rw [hv] at e
    cases e
    exact ⟨G', Ext.refl _ _, rs', rd.go (rs.go x')⟩
  · exact ⟨us, ((rs.go x').fxT hx).sq, by rw [← t.length]; exact hi⟩
theorem feed_sv {K : PySem.W.Frag} {G : Gx} {S : Sto} {H : Hp} {chk : Sto → Prop} {a : Addr} {ds : List D} {us : List V} (rs : RS K G S H) (hx : RD K G H (.sv ds) (.ref a)) : Feed K G H chk ds (Itl K a) := by
  cases hx with
  | @sv _ _ us hx t =>
    refine ⟨fun i d G' S' H' hd x' rs' _ => ?_, fun i G' S' H' hi x' rs' _ => ?_⟩
    · obtain ⟨v, hv, rd⟩ := t.get hd
      have rd2 := (RD.sv hx t).go (rs.go x')
      cases rd2 with
      | @sv _ _ us2 hx2 t2 =>
        obtain ⟨v2, hv2, rd3⟩ := t2.get hd
        refine ⟨⟨us2, v2, hx2.sq, hv2⟩, fun x H'' y => ?_⟩
        obtain ⟨rfl, hy⟩ := y
        have e := hy us2 hx2.sq
        rw [hv2] at e
        cases e
        exact ⟨G', Ext.refl _ _, rs', rd3⟩
    · have rd2 := (RD.sv hx t).go (rs.go x')
      cases rd2 with
      | @sv _ _ us2 hx2 t2 => exact ⟨us2, hx2.sq, by rw [← t2.length]; exact hi⟩
theorem feed_lst {K : PySem.W.Frag} {G : Gx} {S : Sto} {H : Hp} {k : Nat} {a : Addr} {ds : List D} (rs : RS K G S H) (hx : RD K G H (.lst k) (.ref a)) : Feed K G H (fun S => S[k]? = some ds) ds (Itl K a) := by
  refine ⟨fun i d G' S' H' hd x' rs' hc => ?_, fun i G' S' H' hi x' rs' hc => ?_⟩
  · have rd2 := hx.go (rs.go x')
    cases rd2 with
    | lst hk =>
      obtain ⟨us, e3, t⟩ := rs'.at_ k a ds hk hc
      obtain ⟨v, hv, rd⟩ := t.get hd
      refine ⟨⟨us, v, .of e3, hv⟩, fun x H'' y => ?_⟩
      obtain ⟨rfl, hy⟩ := y
      have e := hy us (.of e3)
      rw [hv] at e
      cases e
      exact ⟨G', Ext.refl _ _, rs', rd⟩
  · have rd2 := hx.go (rs.go x')
    cases rd2 with
    | lst hk =>
      obtain ⟨us, e3, t⟩ := rs'.at_ k a ds hk hc
      exact ⟨us, .of e3, by rw [← t.length]; exact hi⟩

def iSeq (K : PySem.W.Frag) (tl : TE) : TI := fun σ H R => tl σ H fun x H1 => ∃ a, x = .ref a ∧ (((∃ xs, SqL K H1 a xs) ∧ R (Itl K a) H1) ∨ ((∃ xs, SqT K H1 a xs) ∧ R (Itt K a) H1))
theorem pi_seq {X : Cx} {tg l : Expr} {tl : TE} (hl : PE X l tl) : PI X tg l (iSeq X.K tl) := by
  intro pins s σ H R I h
  refine thn (hl pins s σ H _ I h) fun v s1 ⟨x, H1, I1, r1, q1⟩ => ?_
  obtain ⟨a, e, q⟩ := q1
  subst e
  cases r1
  rcases q with ⟨⟨xs, hq⟩, q⟩ | ⟨⟨xs, hq⟩, q⟩
  · obtain ⟨its, rv, p, hz⟩ := I1.list hq
    refine wpAny_pyIter_list p.isList ?_
    refine ⟨s1.heap.objs.size, [s1.heap.objs.size], _, _, H1, rfl, I1.kept (t' := s1.toks) fun b o e => Heap.get?_push_of_some _ e, turn_list a _, ⟨_, Heap.get?_push_size _ rfl, rfl, rfl⟩, fun b hb => ?_, q⟩
    have e : b = s1.heap.objs.size := by simpa using hb
    subst e
    exact I1.fpOk (Nat.le_refl _) (I1.hok.fresh (Nat.le_refl _))
  · obtain ⟨its, rv, p, hz⟩ := I1.tuple hq
    refine wpAny_pyIter_tuple (show s1.heap.IsTuple a its.toArray from p) ?_
    refine ⟨s1.heap.objs.size, [s1.heap.objs.size], _, _, H1, rfl, I1.kept (t' := s1.toks) fun b o e => Heap.get?_push_of_some _ e, turn_tuple a _, ⟨_, Heap.get?_push_size _ rfl, rfl, rfl⟩, fun b hb => ?_, q⟩
    have e : b = s1.heap.objs.size := by simpa using hb
    subst e
    exact I1.fpOk (Nat.le_refl _) (I1.hok.fresh (Nat.le_refl _))

def sQ (we : WE) : WSrc := fun E r S Q => we E r S fun d S1 => match d with
  | .lv ds => Q ds (fun _ => True) S1
  | .tup ds => Q ds (fun _ => True) S1
  | .sv ds => Q ds (fun _ => True) S1
  | .lst k => (match S1[k]? with | some ds => Q ds (fun S => S[k]? = some ds) S1 | none => False)
  | _ => False

def sA (we : WE) : WA := fun E r S Q => we E r S fun d S1 => match d with
  | .lv ds => Q ds S1
  | .tup ds => Q ds S1
  | .sv ds => Q ds S1
  | _ => False
section
variable {X : Cx} {tg l : Expr} {we : WE}
theorem srcg_Q (hl : DE X l we) : DSrcG X tg l (sQ we) := by
  refine ⟨fun E r S Q Q' k h => hl.mo _ _ _ _ _ (fun d S1 q => ?_) h, fun E => iSeq X.K (tD X we E), fun E => pi_seq (hl.pe E), fun E r S G sg H Q R rs re h k => ?_⟩
  · cases d <;> first | exact q.elim | exact k _ _ _ q | skip
    rename_i kk
    dsimp only at q ⊢
    split at q
    · exact k _ _ _ q
    · exact q.elim
  · refine hl.next rs re h fun d S1 G1 v H1 x1 rs1 re1 rd1 q => ?_
    cases d <;> first | exact q.elim | skip
    · cases rd1 with
      | @tup a ds us hx t => exact ⟨a, rfl, .inr ⟨⟨us, hx.sq⟩, k _ _ S1 G1 H1 _ x1 rs1 re1 q (feed_tup rs1 hx t)⟩⟩
    · cases rd1 with
      | @lv a ds us hx t => exact ⟨a, rfl, .inl ⟨⟨us, hx.sq⟩, k _ _ S1 G1 H1 _ x1 rs1 re1 q (feed_list rs1 hx t)⟩⟩
    · rename_i kk
      dsimp only at q
      cases rd1 with
      | @lst _ a hk =>
        split at q
        · rename_i ds e
          obtain ⟨us, e3, t⟩ := rs1.at_ kk a ds hk e
          exact ⟨a, rfl, .inl ⟨⟨us, .of e3⟩, k _ _ S1 G1 H1 _ x1 rs1 re1 q (feed_lst rs1 (.lst hk))⟩⟩
        · exact q.elim
    · cases rd1 with
      | @sv a ds us hx t => exact ⟨a, rfl, .inl ⟨⟨us, hx.sq⟩, k _ _ S1 G1 H1 _ x1 rs1 re1 q (feed_sv (us := us) rs1 (.sv hx t))⟩⟩
theorem srcg_A (hl : DE X l we) : DSrcG X tg l (sG (sA we)) := by
  refine ⟨fun E r S Q Q' k h => hl.mo _ _ _ _ _ (fun d S1 q => ?_) h, fun E => iSeq X.K (tD X we E), fun E => pi_seq (hl.pe E), fun E r S G sg H Q R rs re h k => ?_⟩
  · cases d <;> first | exact q.elim | exact k _ _ _ q
  · refine hl.next rs re h fun d S1 G1 v H1 x1 rs1 re1 rd1 q => ?_
    cases d <;> first | exact q.elim | skip
    · cases rd1 with
      | @tup a ds us hx t => exact ⟨a, rfl, .inr ⟨⟨us, hx.sq⟩, k _ _ S1 G1 H1 _ x1 rs1 re1 q (feed_tup rs1 hx t)⟩⟩
    · cases rd1 with
      | @lv a ds us hx t => exact ⟨a, rfl, .inl ⟨⟨us, hx.sq⟩, k _ _ S1 G1 H1 _ x1 rs1 re1 q (feed_list rs1 hx t)⟩⟩
    · cases rd1 with
      | @sv a ds us hx t => exact ⟨a, rfl, .inl ⟨⟨us, hx.sq⟩, k _ _ S1 G1 H1 _ x1 rs1 re1 q (feed_sv (us := us) rs1 (.sv hx t))⟩⟩
theorem src_A (hl : DE X l we) : DSrc X tg l (sA we) := (srcg_A hl).lc
end

def rngD (lo : Int) (n : Nat) : List D := (List.range n).map fun (i : Nat) => D.int (lo + (i : Int))
def Rg (i : Int) : Prop := -(2 ^ 62) ≤ i ∧ i < 2 ^ 62
def sR1 (wa : WA) : WA := fun E r S Q => wa E r S fun ds S1 => match ds with | [.int n] => Rg n ∧ Q (rngD 0 n.toNat) S1 | _ => False
section
variable {X : Cx} {tg a b : Expr} {wa : WA} {p pos : Pos}
theorem srcg_R1 (hm : X.mg "range" = none) (ha : DA X [a] wa) (hg : Gl X "range" := by rfl) (hs : starEach [a] X.env = [(false, eval a X.env)] := by rfl) : DSrcG X tg (.Call (.Name "range" p) [a] [] pos) (sG (sR1 wa)) := by
  refine ⟨fun E r S Q Q' k h => ha.mo _ _ _ _ _ (fun ds S1 q => ?_) h, fun E => iRng1 (tDA X wa E), fun E => pi_range1 hg hm (ha.pe E) hs, fun E r S G sg H Q R rs re h k => ?_⟩
  · split at q
    · exact ⟨q.1, k _ _ _ q.2⟩
    · exact q.elim
  · refine ha.next rs re h fun ds S1 G1 us H1 x1 rs1 re1 rd1 q => ?_
    dsimp only at q
    split at q
    · rename_i n
      obtain ⟨v, rfl, q1⟩ := rd1.one
      cases q1
      exact ⟨n, rfl, q.1.1, q.1.2, k _ _ S1 G1 H1 _ x1 rs1 re1 q.2 feed_range⟩
    · exact q.elim
end

def enD (ds : List D) : List D := ds.zipIdx.map fun p => D.tup [.int (p.2 : Nat), p.1]
theorem feed_enum {K : PySem.W.Frag} {G : Gx} {S : Sto} {H : Hp} {chk : Sto → Prop} {a : Addr} {ds : List D} {us : List V} (rs : RS K G S H) (hx : FxL K G H a us) (t : RDs K G H ds us) : Feed K G H chk (enD ds) (Ite K a) := by
  refine ⟨fun i d G' S' H' hd x' rs' _ => ?_, fun i G' S' H' hi x' rs' _ => ?_⟩
  · have sq := ((rs.go x').fxL hx).sq
    unfold enD at hd
    rw [List.getElem?_map, List.getElem?_zipIdx] at hd
    cases e1 : ds[i]? with
    | none => rw [e1] at hd; cases hd
    | some d0 =>
      rw [e1] at hd
      have hd : some (D.tup [.int ((0 + i : Nat) : Int), d0]) = some d := hd
      cases hd
      obtain ⟨v, hv, rd⟩ := t.get e1
      refine ⟨⟨us, v, sq, hv⟩, fun x H'' y => ?_⟩
      obtain ⟨T, x0, rfl, hT, rfl, hy⟩ := y
      have e := hy us sq
      rw [hv] at e
      cases e
      rw [Nat.zero_add]
      exact ⟨G'.addF T, ext_newF hT, rs_newF rs' hT, rd_newTup hT (.cons (.int _) (.cons (rd.go (rs.go x')) .nil))⟩
  · exact ⟨us, ((rs.go x').fxL hx).sq, by
      unfold enD at hi
      rw [List.length_map, List.length_zipIdx] at hi
      rw [← t.length]; exact hi⟩
section
variable {X : Cx} {a b : Expr} {wa : WA} {p pos tpos : Pos} {elts : List Expr} {kk : Nat}
end

section
variable {X : Cx} {a b : Expr} {wa : WA} {p pos : Pos}
end
end DD

namespace DD
open PySem PySem.Spec PyProof.Rows L2
theorem noFill_tuple_mul : fillsNumberSlot (.type "tuple") "mul" = pure false :=
  PySem.fillsNumberSlot_seq (id := "tuple.__mul__") (r := some (.builtin "tuple.__rmul__")) F.slot_tuple_mul.lookup (by decide +kernel) F.slot_tuple_rmul.lookup (by decide +kernel)
theorem repeat_tuple : seqRepeat? (.type "tuple") = pure (some (.builtin "tuple.__mul__")) := by
  unfold seqRepeat?
  rw [PySem.seqSlot_of (T := "tuple") (name := "__mul__") (id := "tuple.__mul__") F.slot_tuple_mul.lookup (by decide +kernel), PySem.seqSlot_of (T := "tuple") (name := "__rmul__") (id := "tuple.__rmul__") F.slot_tuple_rmul.lookup (by decide +kernel)]
  rfl
theorem int_rmul_tuple (a : Int) (t : Tok) (l : Addr) (items : Array Value) (n : Nat) (d : Option Addr) (sl : Array (Option Value)) :
    Meets (Builtin.«int.__rmul__» ⟨[.int a t, .ref l], []⟩) (fun _ R s => s.heap.get? l = some { cls := .type "tuple", dict := d, data := .seq items n, slots := sl } ∧ R (.ok (.ret Value.notImplemented)) s) :=
  .of_wp fun prog w A R s h => by obtain ⟨hp, g, d, tk, os⟩ := s; obtain ⟨hl, h⟩ := h; wp_walk; exact ⟨_, rfl, h⟩
theorem tuple_mul_new (l : Addr) (items : Array Value) (n : Nat) (d : Option Addr) (sl : Array (Option Value)) (x : Int) (u : Tok) (h0 : 1 < x) (h1 : x < 2 ^ 63) (he : items.isEmpty = false) (hz : items.size * x.toNat ≤ sizeLine) :
    Meets (Builtin.«tuple.__mul__» ⟨[.ref l, .int x u], []⟩) (fun _ R s => s.heap.get? l = some { cls := .type "tuple", dict := d, data := .seq items n, slots := sl } ∧ R (.ok (.ret (Value.ref s.heap.objs.size))) { s with heap := s.heap.push { cls := Value.type "tuple", data := Data.seq (List.foldl (fun x1 x2 => x1 ++ x2) #[] (List.replicate x.toNat items)) }, toks := s.toks }) :=
  .of_wp fun prog w A R s h => by
    obtain ⟨hp, g, d, tk, os⟩ := s; obtain ⟨hl, h⟩ := h
    have hzi : (items.size : Int) * x ≤ (sizeLine : Nat) := by
      have e : (items.size : Int) * x = ((items.size * x.toNat : Nat) : Int) := by push_cast; rw [Int.toNat_of_nonneg (by omega)]
      rw [e]; exact Int.ofNat_le.mpr hz
    have c0 : (decide (x < -2 ^ 63) || decide (x ≥ 2 ^ 63)) = false := by rw [decide_eq_false (by omega), decide_eq_false (by omega)]; rfl
    have c1 : (items.isEmpty || x == 1) = false := by rw [he, Bool.false_or]; exact beq_eq_false_iff_ne.mpr (by omega)
    have c2 : (decide (x ≤ 0) || items.isEmpty) = false := by rw [he, Bool.or_false]; exact decide_eq_false (by omega)
    have c3 : ¬ ((items.size : Int) * x > (2 ^ 63 - 1) / 8) := by
      have : (sizeLine : Int) ≤ (2 ^ 63 - 1) / 8 := by decide
      omega
    have c4 : Builtin.Tuple.tupleTooMany ((items.size : Int) * x) = false := by
      unfold Builtin.Tuple.tupleTooMany
      exact decide_eq_false (by omega)
    have nb : ∀ {b : Bool}, b = false → decide (b = true) = false := fun h => by rw [h]; rfl
    have hsz : (List.foldl (fun x1 x2 => x1 ++ x2) #[] (List.replicate x.toNat items)).size ≤ sizeLine := by
      have e : ∀ (m : Nat) (acc : Array Value), (List.foldl (fun x1 x2 => x1 ++ x2) acc (List.replicate m items)).size = acc.size + m * items.size := fun m => by
        induction m with
        | zero => intro acc; simp
        | succ m ih => intro acc; rw [List.replicate_succ, List.foldl_cons, ih, Array.size_append, Nat.succ_mul]; omega
      rw [e, Nat.mul_comm]
      simpa using hz
    wp_walk
    refine wpAny_ite_false (nb c0) ?_
    wp_walk using wpAny_loadPart' hl
    refine wpAny_ite_false (nb c1) ?_
    wp_walk
    refine wpAny_ite_false (nb c2) ?_
    wp_walk
    refine wpAny_ite_false (decide_eq_false c3) ?_
    wp_walk
    exact ⟨_, rfl, h⟩
theorem tuple_mul_same (l : Addr) (items : Array Value) (n : Nat) (d : Option Addr) (sl : Array (Option Value)) (x : Int) (u : Tok) (h0 : -(2 ^ 63) ≤ x) (h1 : x < 2 ^ 63) (he : (items.isEmpty || x == 1) = true) :
    Meets (Builtin.«tuple.__mul__» ⟨[.ref l, .int x u], []⟩) (fun _ R s => s.heap.get? l = some { cls := .type "tuple", dict := d, data := .seq items n, slots := sl } ∧ R (.ok (.ret (.ref l))) s) :=
  .of_wp fun prog w A R s h => by
    obtain ⟨hp, g, d, tk, os⟩ := s; obtain ⟨hl, h⟩ := h
    have c0 : (decide (x < -2 ^ 63) || decide (x ≥ 2 ^ 63)) = false := by rw [decide_eq_false (by omega), decide_eq_false (by omega)]; rfl
    have nb : ∀ {b : Bool}, b = false → decide (b = true) = false := fun h => by rw [h]; rfl
    have yb : ∀ {b : Bool}, b = true → decide (b = true) = true := fun h => by rw [h]; rfl
    wp_walk
    refine wpAny_ite_false (nb c0) ?_
    wp_walk using wpAny_loadPart' hl
    exact ⟨_, rfl, h⟩
def rRepT (K : PySem.W.Frag) : R2 := fun x y H Q => ∃ a k xs, x = .ref a ∧ y = .int k ∧ SqT K H a xs ∧ 1 ≤ k ∧ k < 2 ^ 63 ∧ xs.length * k.toNat ≤ sizeLine ∧
  (((xs = [] ∨ k = 1) ∧ Q (.ref a) H) ∨ (xs ≠ [] ∧ 1 < k ∧ ∀ p, H p = none → Q (.ref p) (upd H p (.tup (List.replicate k.toNat xs).flatten))))
theorem op_repT {X : Cx} : OpR X (binaryOp .Mult) (rRepT X.K) := by
  intro pins s sg H x y v u Q I rx ry h
  obtain ⟨a, k, xs, rfl, rfl, ha, h1, h2, hz, q⟩ := h
  cases rx
  obtain ⟨t, rfl⟩ := ry
  obtain ⟨its, r, p, _⟩ := I.tuple ha
  obtain ⟨⟨cls, dd, data, sl⟩, ho, hc, n, hd⟩ := id p
  simp only at hc hd
  subst hc hd
  have hl := r.length
  refine wpAny_binaryOp_repeat_ref (T := "tuple") (U := "int") (by decide) ⟨_, ho, rfl⟩ (fun s' => typeIs_int s' k t) noFill_tuple_mul F.fills_int_mul F.slot_int_rmul repeat_tuple F.slot_int_index.lookup
    (call_meets F.slot_int_rmul (typeIs_int s k t) F.entry_int_rmul (F.args_int_rmul_2 _ _) (int_rmul_tuple k t a its.toArray n dd sl)
      ⟨ho, rfl, ⟨_, ho, rfl⟩, ?_⟩)
  rcases q with ⟨e, q⟩ | ⟨e1, e2, q⟩
  · refine call_meets F.slot_tuple_mul ⟨_, ho, rfl⟩ F.entry_tuple_mul (F.args_tuple_mul_2 _ _) (tuple_mul_same a its.toArray n dd sl k t (by omega) h2 ?_) ⟨ho, ⟨.ref a, H, I, rfl, q⟩⟩
    rcases e with e | e
    · subst e
      cases r
      rfl
    · rw [e]; simp
  · have hne : its.toArray.isEmpty = false := by
      cases its with
      | nil => cases r; exact absurd rfl e1
      | cons _ _ => rfl
    refine call_meets F.slot_tuple_mul ⟨_, ho, rfl⟩ F.entry_tuple_mul (F.args_tuple_mul_2 _ _) (tuple_mul_new a its.toArray n dd sl k t e2 h2 hne (by rw [List.size_toArray, ← hl]; exact hz)) ⟨ho, ?_⟩
    have hnew : List.foldl (fun x1 x2 => x1 ++ x2) #[] (List.replicate k.toNat its.toArray) = (List.replicate k.toNat its).flatten.toArray := by
      have := foldl_rep its k.toNat []
      rw [List.nil_append] at this
      exact this
    rw [hnew]
    refine ⟨.ref s.heap.objs.size, _, I.laid (t' := s.toks) (o := .tup (List.replicate k.toNat xs).flatten) (fun b ob q => Heap.get?_push_of_some _ q) (Nat.le_refl _) ⟨by rw [len_rep, Nat.mul_comm]; exact hz, _, r.rep k.toNat, IsTup.new _ _⟩, rfl, q _ (I.hok.fresh (Nat.le_refl _))⟩
def dRepT : RD2 := fun x y S Q => match x, y with | .tup a, .int k => (1 ≤ k ∧ k < 2 ^ 63 ∧ a.length * k.toNat ≤ 1000) ∧ Q (.tup (List.replicate k.toNat a).flatten) S | _, _ => False
theorem dRepT_ok {K : PySem.W.Frag} : OpD K (rRepT K) dRepT := by
  refine ⟨fun x y S Q Q' k h => ?_, fun G S H x y v u Q rs rx ry h => ?_⟩
  · unfold dRepT at h ⊢
    split at h
    · exact ⟨h.1, k _ _ h.2⟩
    · exact h.elim
  · unfold dRepT at h
    split at h
    · rename_i a k
      cases ry
      cases rx with
      | @tup p _ us hx t =>
        refine ⟨p, k, us, rfl, rfl, hx.sq, h.1.1, h.1.2.1, by rw [← t.length]; exact le1000 h.1.2.2, ?_⟩
        by_cases e : us = [] ∨ k = 1
        · refine .inl ⟨e, ?_⟩
          have e2 : (List.replicate k.toNat a).flatten = a := by
            rcases e with e | e
            · subst e
              cases t
              simp
            · rw [e]; simp
          have q := h.2
          rw [e2] at q
          exact q G _ H (Ext.refl _ _) rs (.tup hx t)
        · have e1 : us ≠ [] := fun z => e (.inl z)
          have e3 : k ≠ 1 := fun z => e (.inr z)
          exact .inr ⟨e1, by have := h.1.1; omega, fun pp hp => h.2 _ _ _ (ext_newF hp) (rs_newF rs hp) (rd_newTup hp (t.rep _))⟩
    · exact h.elim
end DD

namespace DD
open PySem PySem.Spec PyProof.Rows L2
structure Sp (m e : Nat) (d : D) : Prop where
  ex : ∃ q, (∀ S n, pyd S (n + m) d = some q) ∧ q.canLay0 = true ∧ q.depth ≤ e
structure Sps (m e : Nat) (ds : List D) : Prop where
  ex : ∃ qs, (∀ S n, seqO (ds.map (pyd S (n + m))) = some qs) ∧ PyData.canLayAll0 qs = true ∧ PyData.depthAll qs ≤ e ∧ qs.length = ds.length
theorem Sp.mono {m e m' e' : Nat} {d : D} (h : Sp m e d) (hm : m ≤ m') (he : e ≤ e') : Sp m' e' d := by
  obtain ⟨q, h1, h2, h3⟩ := h
  refine ⟨q, fun S n => ?_, h2, Nat.le_trans h3 he⟩
  rw [show n + m' = (n + (m' - m)) + m by omega]
  exact h1 S _
theorem Sps.of {m e : Nat} : ∀ {ds : List D}, (∀ d ∈ ds, Sp m e d) → Sps m e ds
  | [], _ => ⟨[], fun S n => rfl, by rw [PyData.canLayAll0], by rw [PyData.depthAll]; exact Nat.zero_le _, rfl⟩
  | d :: ds, h => by
    obtain ⟨q, h1, h2, h3⟩ := h d List.mem_cons_self
    obtain ⟨qs, t1, t2, t3, t4⟩ := Sps.of (ds := ds) fun x hx => h x (List.mem_cons_of_mem _ hx)
    refine ⟨q :: qs, fun S n => ?_, ?_, ?_, by rw [List.length_cons, List.length_cons, t4]⟩
    · show seqO (pyd S (n + m) d :: ds.map (pyd S (n + m))) = _
      rw [h1 S n]
      show consO q (seqO (ds.map (pyd S (n + m)))) = _
      rw [t1 S n]; rfl
    · rw [PyData.canLayAll0, h2, t2]; rfl
    · rw [PyData.depthAll]; omega
theorem Sp.int {m : Nat} {i : Int} : Sp (m + 1) 0 (.int i) := ⟨.int i, fun S n => rfl, by rw [PyData.canLay0], by rw [PyData.depth]; exact Nat.le_refl _⟩
theorem Sp.bl {m : Nat} {i : Bool} : Sp (m + 1) 0 (.bl i) := ⟨.bool i, fun S n => rfl, by rw [PyData.canLay0], by rw [PyData.depth]; exact Nat.le_refl _⟩
theorem Sps.tup {m e : Nat} {ds : List D} (h : Sps m e ds) : Sp (m + 1) (e + 1) (.tup ds) := by
  obtain ⟨qs, t1, t2, t3, t4⟩ := h
  refine ⟨.tuple qs, fun S n => ?_, ?_, ?_⟩
  · show (seqO (ds.map (pyd S (n + m)))).map PyData.tuple = _
    rw [t1 S n]; rfl
  · rw [PyData.canLay0]; exact t2
  · rw [PyData.depth]; omega
theorem Sws.of {c : Bool} {m b e : Nat} : ∀ {ds : List D}, (∀ d ∈ ds, Sw c m b e d) → Sws c m ((b + 1) * ds.length) e ds
  | [], _ => by
    obtain ⟨qs, t1, t2, t3, t4, t5, t6⟩ := Sws.nil (c := c) (m := m)
    exact ⟨qs, t1, t2, t3, by simpa using t4, by omega, t6⟩
  | d :: ds, h => by
    have h1 := h d List.mem_cons_self
    have h2 := Sws.of (ds := ds) fun x hx => h x (List.mem_cons_of_mem _ hx)
    obtain ⟨qs, t1, t2, t3, t4, t5, t6⟩ := Sws.cons h1 h2
    refine ⟨qs, t1, t2, t3, ?_, by omega, t6⟩
    rw [List.length_cons, Nat.mul_succ]; omega

theorem ix_at {xs : List D} {a : Int} {S : Sto} {Q : KD} (h0 : 0 ≤ a) (h1 : a < xs.length) (q : ∀ d, xs[a.toNat]? = some d → Q d S) : dAt xs a S Q := by
  have hl : a.toNat < xs.length := by omega
  have hk : ∀ (k : Nat) (d : D), a = (k : Int) → xs[k]? = some d → L2.atI xs a = some d := fun k d e h => by
    rw [e]
    exact atI_nat h
  unfold dAt
  rw [hk a.toNat _ (by omega) (List.getElem?_eq_getElem hl)]
  exact q _ (List.getElem?_eq_getElem hl)

@[irreducible] def dIxV : RD2 := dIx
theorem dIxV_def : dIxV = dIx := by unfold dIxV; rfl
theorem de_ixV {X : Cx} {a b : Expr} {wa wb : WE} {pos : Pos} (ha : DE X a wa) (hb : DE X b wb) (hs : PlainIx b := by exact fun _ _ => rfl) : DE X (.Subscript a b pos) (wOp dIxV wa wb) := by
  rw [dIxV_def]
  exact de_ix ha hb hs

theorem ixv {x : D} {xs : List D} {a : Int} {S : Sto} {Q : KD} (hx : asSeq S x = some xs) (h0 : 0 ≤ a) (h1 : a < xs.length) (q : ∀ d, xs[a.toNat]? = some d → Q d S) : dIxV x (.int a) S Q := by
  rw [dIxV_def]
  have k := ix_at (xs := xs) h0 h1 q
  cases x <;> first | (cases hx; exact k) | cases hx | skip
  rename_i j
  show (match S[j]? with | some ds => dAt ds a S Q | none => False)
  have hx : S[j]? = some xs := hx
  rw [hx]
  exact k
theorem ixvA {x d : D} {xs : List D} {a : Int} {S : Sto} {Q : KD} (hx : asSeq S x = some xs) (e : L2.atI xs a = some d) (q : Q d S) : dIxV x (.int a) S Q := by
  rw [dIxV_def]
  have k : dAt xs a S Q := by
    unfold dAt
    rw [e]
    exact q
  cases x <;> first | (cases hx; exact k) | cases hx | skip
  rename_i j
  show (match S[j]? with | some ds => dAt ds a S Q | none => False)
  have hx : S[j]? = some xs := hx
  rw [hx]
  exact k

theorem ixv_last {x d : D} {xs : List D} {S : Sto} {Q : KD} (hx : asSeq S x = some (xs ++ [d])) (q : Q d S) : dIxV x (.int (-1)) S Q := by
  refine ixvA hx ?_ q
  have hl : (xs ++ [d]).length = xs.length + 1 := by simp
  unfold L2.atI L2.ixN
  rw [hl, if_neg (by decide), if_pos (by omega)]
  show (xs ++ [d])[(-1 + ((xs.length + 1 : Nat) : Int)).toNat]? = some d
  rw [show (-1 + ((xs.length + 1 : Nat) : Int)).toNat = xs.length by omega]
  simp
theorem ixv_mem {x : D} {xs : List D} {a : Int} {S : Sto} {Q : KD} (hx : asSeq S x = some xs) (h0 : 0 ≤ a) (h1 : a < xs.length) (q : ∀ d ∈ xs, Q d S) : dIxV x (.int a) S Q := ixv hx h0 h1 fun d hd => q d (List.mem_of_getElem? hd)
@[irreducible] def dTupleV : RDn := dTuple
theorem dTupleV_def : dTupleV = dTuple := by unfold dTupleV; rfl
@[irreducible] def dListV (mu : Bool) : RDn := dList mu
theorem dListV_def (mu : Bool) : dListV mu = dList mu := by unfold dListV; rfl
@[irreducible] def dCatV (mu : Bool) : RD2 := dCat mu
theorem dCatV_def (mu : Bool) : dCatV mu = dCat mu := by unfold dCatV; rfl
section
variable {X : Cx} {a b : Expr} {wa : WA} {pos p : Pos}
theorem de_tupleV (hm : X.mg "tuple" = none) (ha : DA X [a] wa) (hg : Gl X "tuple" := by rfl) (he : starEach [a] X.env = (false, eval a X.env) :: starEach [] X.env := by rfl) (hpl : (backTo pos (starEach [] X.env)).any (·.1) = false := by rfl) :
    DE X (.Call (.Name "tuple" p) [a] [] pos) (wCB dTupleV wa) := by
  rw [dTupleV_def]
  exact de_tuple hm ha hg he hpl
theorem de_listV (mu : Bool) (hm : X.mg "list" = none) (ha : DA X [a] wa) (hg : Gl X "list" := by rfl) (he : starEach [a] X.env = (false, eval a X.env) :: starEach [] X.env := by rfl) (hpl : (backTo pos (starEach [] X.env)).any (·.1) = false := by rfl) :
    DE X (.Call (.Name "list" p) [a] [] pos) (wCB (dListV mu) wa) := by
  rw [dListV_def]
  exact de_list mu hm ha hg he hpl
theorem de_catV (mu : Bool) {wx wy : WE} (ha : DE X a wx) (hb : DE X b wy) : DE X (.BinOp a .Add b pos) (wOp (dCatV mu) wx wy) := by
  rw [dCatV_def]
  exact de_cat mu ha hb
end
theorem tup_seq {x : D} {xs : List D} {S : Sto} {Q : KD} (h : asSeq S x = some xs) (q : Q (.tup xs) S) : dTupleV [x] S Q := by
  rw [dTupleV_def]
  show (match asSeq S x with | some xs => Q (.tup xs) S | none => False)
  rw [h]
  exact q
theorem cat_seq {x y : D} {xs ys : List D} {S : Sto} {Q : KD} (h : asL S x = some xs) (h2 : asL S y = some ys) (hl : xs.length + ys.length ≤ 1000) (q : Q (.lv (xs ++ ys)) S) : dCatV false x y S Q := by
  rw [dCatV_def]
  show (match asL S x, asL S y with | some a, some b => a.length + b.length ≤ 1000 ∧ wMk false (a ++ b) S Q | _, _ => False)
  rw [h, h2]
  exact ⟨hl, iteF q⟩
end DD

namespace DD
open PySem PySem.Spec PyProof.Rows L2
def compC (chk : Sto → Prop) (ct : CT) (wt : WT) (we : WE) (E : XD) (r0 : Rho) : List D → List D → Sto → (List D → Sto → Prop) → Prop
  | [], acc, S, Q => chk S ∧ Q acc S
  | d :: ds, acc, S, Q => chk S ∧ ct.asg d r0 fun r2 => wt E r2 S fun b S3 => if b = true then we E r2 S3 fun y S4 => acc.length < 1000 ∧ compC chk ct wt we E r0 ds (acc ++ [y]) S4 Q else compC chk ct wt we E r0 ds acc S3 Q
theorem compC_chk {chk : Sto → Prop} {ct : CT} {wt : WT} {we : WE} {E : XD} {r0 : Rho} {ds acc : List D} {S : Sto} {Q : List D → Sto → Prop} (h : compC chk ct wt we E r0 ds acc S Q) : chk S := by
  cases ds with
  | nil => exact h.1
  | cons _ _ => exact h.1
theorem compC_mo {chk : Sto → Prop} {ct : CT} {wt : WT} {we : WE} (mt : MoT wt) (me : MoE we) {E : XD} {r0 : Rho} {Q Q' : List D → Sto → Prop} (k : ∀ d S, Q d S → Q' d S) : ∀ (ds acc : List D) (S : Sto), compC chk ct wt we E r0 ds acc S Q → compC chk ct wt we E r0 ds acc S Q'
  | [], acc, S, h => ⟨h.1, k _ _ h.2⟩
  | d :: ds, acc, S, h => ⟨h.1, CT.mo (fun r2 h2 => mt _ _ _ _ _ (fun b S3 h3 => by
      cases b
      · exact iteF (compC_mo mt me k ds acc S3 (by simpa using h3))
      · have h3 : we E r2 S3 fun y S4 => acc.length < 1000 ∧ compC chk ct wt we E r0 ds (acc ++ [y]) S4 Q := by simpa using h3
        exact iteT (me _ _ _ _ _ (fun y S4 h4 => ⟨h4.1, compC_mo mt me k ds _ S4 h4.2⟩) h3)) h2) h.2⟩
structure PvK (K : PySem.W.Frag) (chk : Sto → Prop) (ct : CT) (wt : WT) (we : WE) (E : XD) (G1 : Gx) (H1 : Hp) (r0 : Rho) (Dd : Addr) (ds : List D) (Q : List D → Sto → Prop) (i : Nat) (Hc : Hp) : Prop where
  ex : ∃ G' S' acc us, Ext G1 H1 G' Hc ∧ RS K G' S' Hc ∧ Dd ∉ G'.M ∧ ¬ G'.F Dd ∧ Hc Dd = some (.lst us) ∧ RDs K G' Hc acc us ∧ acc.length ≤ 1000 ∧ compC chk ct wt we E r0 (ds.drop i) acc S' Q
theorem comp_step3 {X : Cx} {E : XD} {chk : Sto → Prop} {ct : CT} {wt : WT} {we : WE} {G1 : Gx} {H1 : Hp} {r0 : Rho} {sg0 : L2.St} {vs : List Nat} {Dd : Addr} {ds : List D} {Q : List D → Sto → Prop} (mt : MoT wt) (me : MoE we) (hct : ct.In vs)
    (hD : H1 Dd = none) {i : Nat} {x : V} {Hc : Hp} {d : D} (hlt : i < ds.length) (hd : ds[i] = d) {G' : Gx} {S' : Sto} {acc : List D} {us : List V} (x' : Ext G1 H1 G' Hc) (rs' : RS X.K G' S' Hc) (nm : Dd ∉ G'.M) (nf : ¬ G'.F Dd) (hDc : Hc Dd = some (.lst us)) (qa : RDs X.K G' Hc acc us) (hl : acc.length ≤ 1000)
    (q : compC chk ct wt we E.n r0 (ds.drop i) acc S' Q) (re' : RE X E.n G' Hc r0 (L2.wipe sg0 vs)) (hrd : RD X.K G' Hc d x) :
    ct.g X.K x (L2.wipe sg0 vs) Hc fun sg2 H2 => L2.wipe sg2 vs = L2.wipe sg0 vs ∧ tDT X wt E.n sg2 H2 fun b H3 =>
      if b = true then tD X we E.n sg2 H3 fun y H4 => ∃ acc, H4 Dd = some (.lst acc) ∧ acc.length < sizeLine ∧ PvK X.K chk ct wt we E.n G1 H1 r0 Dd ds Q (i + 1) (upd H4 Dd (.lst (acc ++ [y]))) else PvK X.K chk ct wt we E.n G1 H1 r0 Dd ds Q (i + 1) H3 := by
  rw [List.drop_eq_getElem_cons hlt, hd] at q
  replace q := q.2
  refine CT.step hct re' hrd q fun r2 sg2 re2 hw q2 => ⟨by rw [hw, wipe_idem], G', S', r2, rs', re2, mt _ _ _ _ _ (fun b S3 q3 G3 H3 x3 rs3 => ?_) q2⟩
  have nm3 : Dd ∉ G3.M := fun z => by
    rcases x3.newM Dd z with z | z
    · exact nm z
    · rw [hDc] at z; cases z
  have nf3 : ¬ G3.F Dd := fun z => by
    rcases x3.newF Dd z with z | z | ⟨z, _⟩
    · exact nf z
    · rw [hDc] at z; cases z
    · exact z.ne hDc
  have nt : Dd ∉ G'.tabs := fun z => by
    obtain ⟨q, hq, e1⟩ := List.mem_map.mp z
    obtain ⟨ps, e2, _⟩ := rs'.tb q hq
    rw [e1, hDc] at e2; cases e2
  have hD3 : H3 Dd = some (.lst us) := x3.keep Dd _ hDc nm nt
  cases b
  · refine iteF ⟨G3, S3, acc, us, x'.trans x3, rs3, nm3, nf3, hD3, qa.go (rs'.go x3), hl, ?_⟩
    simpa using q3
  · refine iteT ⟨G3, S3, r2, rs3, re2.ext rs' x3, me _ _ _ _ _ (fun y S4 q4 G4 v H4 x4 rs4 rd4 => ?_) (by simpa using q3)⟩
    have nm4 : Dd ∉ G4.M := fun z => by
      rcases x4.newM Dd z with z | z
      · exact nm3 z
      · rw [hD3] at z; cases z
    have nf4 : ¬ G4.F Dd := fun z => by
      rcases x4.newF Dd z with z | z | ⟨z, _⟩
      · exact nf3 z
      · rw [hD3] at z; cases z
      · exact z.ne hD3
    have hD4 : H4 Dd = some (.lst us) := x4.keep Dd _ hD3 nm3 (by unfold Gx.tabs; rw [x3.tt]; exact nt)
    have qa4 := (qa.go (rs'.go x3)).go (rs3.go x4)
    refine ⟨us, hD4, by rw [← qa.length]; exact small1000 hl, ⟨G4, S4, acc ++ [y], us ++ [v], ((x'.trans x3).trans x4).other hD, rs_other rs4 nm4 nf4 hD4, nm4, nf4, upd_same, (qa4.append (.cons rd4 .nil)).go (go_other nm4 nf4 hD4 (MO.fix (.inl ⟨_, rfl⟩))), ?_, q4.2⟩⟩
    rw [List.length_append, List.length_singleton]
    exact q4.1
theorem comp_done3 {K : PySem.W.Frag} {chk : Sto → Prop} {ct : CT} {wt : WT} {we : WE} {E : XD} {G G1 : Gx} {H H1 Hc : Hp} {r0 : Rho} {Dd : Addr} {ds : List D} {mu : Bool} {Q : VK} {n : Nat} (hn : n = ds.length) (x1 : Ext G H G1 H1) (hD : H1 Dd = none)
    (p : PvK K chk ct wt we E G1 H1 r0 Dd ds (fun acc S2 => wMk mu acc S2 (OutE K G H Q)) n Hc) : Q (.ref Dd) Hc := by
  obtain ⟨G', S', acc, us, x', rs', nm, nf, hDc, qa, hl, q⟩ := p.ex
  subst hn
  rw [List.drop_length] at q
  exact mk_done x1 hD x' rs' nm nf hDc qa q.2
def wLcG (src : WSrc) (ct : CT) (wt : WT) (we : WE) (vs : List Nat) (mu : Bool) : WE := fun E r S Q => src E r S fun ds chk S1 => compC chk ct wt we E.n (wipeD r vs) ds [] S1 fun acc S2 => wMk mu acc S2 Q

structure DSrcC (X : Cx) (tg iter : Expr) (src : WSrc) : Prop where
  mo : ∀ (E : XD) (r : Rho) (S : Sto) (Q Q' : List D → (Sto → Prop) → Sto → Prop), (∀ ds c S, Q ds c S → Q' ds c S) → src E r S Q → src E r S Q'
  pi : ∃ wi : XD → TI, (∀ E, PI X tg iter (wi E)) ∧ ∀ (E : XD) (ct : CT) (wt : WT) (we : WE) (vs : List Nat) (mu : Bool), MoT wt → MoE we → ct.In vs → ∀ sg H Q,
    tD X (wLcG src ct wt we vs mu) E sg H Q → tLc (wi E) (ct.g X.K) (tDT X wt E.n) (tD X we E.n) vs sg H Q
theorem DSrcG.cc {X : Cx} {tg iter : Expr} {src : WSrc} (h : DSrcG X tg iter src) : DSrcC X tg iter src := by
  have mo := h.mo
  obtain ⟨wi, hwi, rd⟩ := h.pi
  refine ⟨mo, wi, hwi, fun E ct wt we vs mu mt me hct sg H Q h => ?_⟩
  obtain ⟨G, S, r, rs, re, h⟩ := h
  refine rd E r S G sg H (fun ds chk S1 => compC chk ct wt we E.n (wipeD r vs) ds [] S1 (fun acc S2 => wMk mu acc S2 (OutE X.K G H Q))) _ rs re h fun ds chk S1 G1 H1 J x1 rs1 re1 q fd => ?_
  intro Dd hD
  refine ⟨fun i m Hc => m = ds.length - i ∧ i ≤ ds.length ∧ PvK X.K chk ct wt we E.n G1 H1 (wipeD r vs) Dd ds (fun acc S2 => wMk mu acc S2 (OutE X.K G H Q)) i Hc, ⟨ds.length, by simp, Nat.zero_le _, ⟨G1, S1, [], [], (Ext.refl _ _).other hD, rs_new rs1 hD, rs1.notM hD, rs1.notF hD, upd_same, .nil, Nat.zero_le _, q⟩⟩, ?_⟩
  rintro i m Hc ⟨rfl, hi, p⟩
  obtain ⟨G', S', acc, us, x', rs', nm, nf, hDc, qa, hl, q'⟩ := p.ex
  by_cases hlt : i < ds.length
  · obtain ⟨hgo, hy⟩ := fd.step i _ G' S' Hc (List.getElem?_eq_getElem hlt) x' rs' (compC_chk q')
    refine .inr ⟨hgo, PvK X.K chk ct wt we E.n G1 H1 (wipeD r vs) Dd ds (fun acc S2 => wMk mu acc S2 (OutE X.K G H Q)) (i + 1), fun H' h => ⟨ds.length - (i + 1), by omega, rfl, by omega, h⟩, fun x H'' y => ?_⟩
    obtain ⟨G2, x2, rs2, rd2⟩ := hy x H'' y
    have nt : Dd ∉ G'.tabs := fun z => by
      obtain ⟨q, hq, e1⟩ := List.mem_map.mp z
      obtain ⟨ps, e2, _⟩ := rs'.tb q hq
      rw [e1, hDc] at e2; cases e2
    have nm2 : Dd ∉ G2.M := fun z => by
      rcases x2.newM Dd z with z | z
      · exact nm z
      · rw [hDc] at z; cases z
    have nf2 : ¬ G2.F Dd := fun z => by
      rcases x2.newF Dd z with z | z | ⟨z, _⟩
      · exact nf z
      · rw [hDc] at z; cases z
      · exact z.ne hDc
    have hD2 : H'' Dd = some (.lst us) := x2.keep Dd _ hDc nm nt
    have re2 : RE X E.n G2 H'' (wipeD r vs) (L2.wipe sg vs) := ((re1.ext rs1 (x'.trans x2)).wipe vs).zero rfl
    exact comp_step3 mt me hct hD hlt rfl (x'.trans x2) rs2 nm2 nf2 hD2 (qa.go (rs'.go x2)) hl q' re2 rd2
  · have e : i = ds.length := by omega
    exact .inl ⟨fd.stop _ G' S' Hc (by omega) x' rs' (compC_chk q'), comp_done3 e x1 hD p⟩
section
variable {X : Cx} {elt tg iter : Expr} {ifs : List Expr} {scope : Scope} {own : List (Str × Nat)} {pos : Pos} {src : WSrc} {wt : WT} {we : WE} {vs : List Nat}
end

end DD

namespace DD
open PySem PySem.Spec PyProof.Rows L2
section
variable {X : Cx} {x : Str} {pos : Pos}
theorem de_gint {i : Int} (hm : ∃ tk, X.mg x = some (.int i tk)) (hg : Gl X x := by rfl) (hd : (x == ("__debug__" : Str)) = false := by decide) : DE X (.Name x pos) (wC (.int i)) := by
  obtain ⟨tk, hm⟩ := hm
  exact de_c (pe_glob (v := .int i) hg hm (⟨tk, rfl⟩ : RelV (.int i) (.int i tk)) hd) fun _ _ => .int i
end

structure FunD (K : PySem.W.Frag) (x qual : Str) (st : Stmt) (f : Addr) (fd : FuncData) (i : Int) (tk : Tok) : Prop where
  ex : ∃ (T : Addr) (o : Obj) (n : Nat) (oc : Value) (od : Option Addr) (kV doc pm : Value) (an : Option Addr) (cdv ct : Value) (osl : Array (Option Value)),
    fd = PySem.W.fnOf x qual (defArgs st) (defBody st) (defScope st) (.ref T) kV doc pm an cdv ct ∧ K.lookup f = some ⟨oc, od, .func fd, osl⟩ ∧ PySem.W.codeIn K cdv qual = true ∧ List.lookup T K = some o ∧ o.data = .seq #[.int i tk] n
  kp : PySem.W.keepIn K (.ref f) = true
section
variable {P : Program} {w : World} {K : PySem.W.Frag} {mg : Str → Option Value} {base : Heap}
theorem funD_mk {x qual : Str} {st : Stmt} {f T : Addr} {i : Int} {tk : Tok} {oc tc : Value} {od td an : Option Addr} {osl tsl : Array (Option Value)} {n : Nat} {kV doc pm cdv ct : Value} (l : K.lookup f = some ⟨oc, od, .func (PySem.W.fnOf x qual (defArgs st) (defBody st) (defScope st) (.ref T) kV doc pm an cdv ct), osl⟩)
    (c : PySem.W.codeIn K cdv qual = true) (k : PySem.W.keepIn K (.ref f) = true) (t : List.lookup T K = some ⟨tc, td, .seq #[.int i tk] n, tsl⟩) : FunD K x qual st f (PySem.W.fnOf x qual (defArgs st) (defBody st) (defScope st) (.ref T) kV doc pm an cdv ct) i tk :=
  ⟨⟨T, _, n, oc, od, kV, doc, pm, an, cdv, ct, osl, rfl, l, c, t, rfl⟩, k⟩
theorem fn_deepD {x qual : Str} {st : Stmt} {f : Addr} {fd : FuncData} {N ps : List Str} {k : Nat} {g : GF} {wb : WS} {i : Int} {tk : Tok} (F : FunD K x qual st f fd i tk) (Sc : FnScope N ps (defScope st)) (len : ∀ ds E S Q, g ds E S Q → ds.length = ps.length)
    (hbody : ∀ (cdv : Value) (A : Around) (outer : List Env) (s : Shared) (H : Hp) (E : XK), PySem.W.codeIn K cdv qual = true → Room k (A.deeper (envOfC qual (defScope st) s.heap.objs.size f cdv)) → DSs (cxOf (CXE P w) P w K mg base N qual (defScope st) f cdv A outer s H E) (defBody st) wb)
    (hg : ∀ ds E S (Q : KD), g ds E S Q → wb E ⟨fun _ S' => Q .non S', Q, fun _ _ => False, fun _ _ => False⟩ (startD N ds) S) : FnOk P w K mg base (CXE P w) (k + 1) f fd ps (spD K g) := by
  obtain ⟨T, o, n, oc, od, kV, doc, pm, an, cdv, ct, osl, rfl, lk, hcd, _⟩ := F.ex
  refine fn_of lk hcd Sc (fun vs H Q E h => ?_) (fun A outer s H vs Q E hr h => ?_)
  · obtain ⟨G, S, ds, E', rs, rd, q, _⟩ := h
    rw [← rd.length]
    exact len _ _ _ _ q
  · obtain ⟨G, S, ds, E', rs, rd, q, ox⟩ := h
    have hb := hbody cdv A outer s H E hcd hr
    refine ⟨_, hb.pe E', G, S, startD N ds, rs, .start N rd ⟨fun x C S' G' H' y rs' c e => xok_cx (ox.ex x C S' G' H' y rs' c e), ox.tb⟩, hb.mo _ _ _ _ _ ⟨?_, ?_, ?_, ?_⟩ (hg _ _ _ _ q)⟩
    · exact fun r' S' z G' sg' H' x' rs' re' => z G' .non H' x' rs' .non
    · exact fun d S' z => z
    · exact fun _ _ z => z.elim
    · exact fun _ _ z => z.elim
theorem FunD.binds {x qual : Str} {st : Stmt} {f : Addr} {fd : FuncData} {ps : List Str} {i : Int} {tk : Tok} (F : FunD K x qual st f fd i tk)
    (h : ∀ (T : Addr) (kV doc pm : Value) (an : Option Addr) (cdv ct : Value) (us : List Value), us.length = ps.length → ∃ k : Option (Array Value) → Sem (List (Str × Value)), bindArgs (PySem.W.fnOf x qual (defArgs st) (defBody st) (defScope st) (.ref T) kV doc pm an cdv ct) ⟨us, []⟩ = seqItems? (.ref T) >>= k ∧ k (some #[.int i tk]) = pure (ps.zip us)) : Binds K fd ps [] := by
  obtain ⟨T, o, n, oc, od, kV, doc, pm, an, cdv, ct, osl, rfl, lk, hcd, lt, hd⟩ := F.ex
  intro s us hK hl
  rw [List.append_nil] at hl ⊢
  obtain ⟨k, h1, h2⟩ := h T kV doc pm an cdv ct us hl
  exact PySem.W.binds_K hK rfl lt hd h1 h2
theorem FunD.bindsD {x qual : Str} {st : Stmt} {f : Addr} {fd : FuncData} {ps : List Str} {i : Int} {tk : Tok} (F : FunD K x qual st f fd i tk)
    (h : ∀ (T : Addr) (kV doc pm : Value) (an : Option Addr) (cdv ct : Value) (us : List Value), us.length + 1 = ps.length → ∃ k : Option (Array Value) → Sem (List (Str × Value)), bindArgs (PySem.W.fnOf x qual (defArgs st) (defBody st) (defScope st) (.ref T) kV doc pm an cdv ct) ⟨us, []⟩ = seqItems? (.ref T) >>= k ∧ k (some #[.int i tk]) = pure (ps.zip (us ++ [.int i tk]))) : Binds K fd ps [.int i tk] := by
  obtain ⟨T, o, n, oc, od, kV, doc, pm, an, cdv, ct, osl, rfl, lk, hcd, lt, hd⟩ := F.ex
  intro s us hK hl
  rw [List.length_append] at hl
  obtain ⟨k, h1, h2⟩ := h T kV doc pm an cdv ct us hl
  exact PySem.W.binds_K hK rfl lt hd h1 h2
theorem fnI_ofD {x qual : Str} {st : Stmt} {f : Addr} {fd : FuncData} {ps : List Str} {k n : Nat} {g : GF} {i : Int} {tk : Tok} (F : FunD K x qual st f fd i tk) (hn : ps.length = n) (hm : mg x = some (.ref f)) (b : Binds K fd ps []) (G : FnOk P w K mg base (CXE P w) k f fd ps (spD K g)) (mo : MoG g) : FnI P w K mg base k x n g :=
  ⟨⟨f, fd, ps, hn, G, hm, F.kp, b⟩, mo⟩
end

structure FnD (P : Program) (w : World) (K : PySem.W.Frag) (mg : Str → Option Value) (base : Heap) (k : Nat) (x : Str) (n : Nat) (i : Int) (g : GF) : Prop where
  ex : ∃ (tk : Tok) (f : Addr) (fd : FuncData) (ps : List Str), ps.length = n ∧ FnOk P w K mg base (CXE P w) k f fd ps (spD K g) ∧ mg x = some (.ref f) ∧ PySem.W.keepIn K (.ref f) = true ∧ Binds K fd ps [.int i tk]
  mo : MoG g
theorem FnD.up {P : Program} {w : World} {K : PySem.W.Frag} {mg : Str → Option Value} {base : Heap} {j k n : Nat} {x : Str} {i : Int} {g : GF} (F : FnD P w K mg base j x n i g) (h : j ≤ k) : FnD P w K mg base k x n i g := by
  obtain ⟨tk, f, fd, ps, h1, h2, h3⟩ := F.ex
  exact ⟨⟨tk, f, fd, ps, h1, h2.mono h, h3⟩, F.mo⟩
theorem fnD_of {P : Program} {w : World} {K : PySem.W.Frag} {mg : Str → Option Value} {base : Heap} {x qual : Str} {st : Stmt} {f : Addr} {fd : FuncData} {ps : List Str} {k n : Nat} {g : GF} {i : Int} {tk : Tok} (F : FunD K x qual st f fd i tk) (hn : ps.length = n) (hm : mg x = some (.ref f)) (b : Binds K fd ps [.int i tk]) (G : FnOk P w K mg base (CXE P w) k f fd ps (spD K g)) (mo : MoG g) : FnD P w K mg base k x n i g :=
  ⟨⟨tk, f, fd, ps, hn, G, hm, F.kp, b⟩, mo⟩
def wCallD (g : GF) (i : Int) (u : WA) : WE := fun E r S Q => u E r S fun ds S1 => g (ds ++ [.int i]) E S1 Q
theorem rds_snoc {K : PySem.W.Frag} {G : Gx} {H : Hp} {i : Int} : ∀ {ds : List D} {vs : List V}, RDs K G H ds vs → RDs K G H (ds ++ [.int i]) (vs ++ [.int i])
  | _, _, .nil => .cons (.int i) .nil
  | _, _, .cons a b => .cons a (rds_snoc b)
section
variable {X : Cx} {e : Expr} {es : List Expr} {we : WE} {wa : WA} {pos p : Pos} {x : Str} {k n : Nat} {g : GF} {i : Int}
theorem de_callD (F : FnD X.prog X.w X.K X.mg X.base k x n i g) (hr : Room k X.A) (ha : DA X (e :: es) wa) (hg : Gl X x := by rfl) (hdb : (x == ("__debug__" : Str)) = false := by decide)
    (he : starEach (e :: es) X.env = (false, eval e X.env) :: starEach es X.env := by rfl) (hpl : (backTo pos (starEach es X.env)).any (·.1) = false := by rfl) : DE X (.Call (.Name x p) (e :: es) [] pos) (wCallD g i wa) := by
  obtain ⟨tk, f, fd, ps, hn, hF, hm, hk, hb⟩ := F.ex
  refine ⟨fun E r S Q Q' k h => ha.mo _ _ _ _ _ (fun d S1 h1 => F.mo _ _ _ _ _ k h1) h, fun E => PE.wk (pe_call hF hr hg hm hk hb (dvs := [.int i]) (.cons (⟨tk, rfl⟩ : RelV (.int i) (.int i tk)) .nil) passX (ha.pe E) hdb he hpl) fun sg H Q h => ?_⟩
  obtain ⟨G, S, r, rs, re, h⟩ := h
  refine ha.next rs re h fun ds S1 G1 vs H1 x1 rs1 re1 rd1 h1 => ?_
  refine ⟨G1, S1, ds ++ [.int i], E, rs1, rds_snoc rd1, F.mo _ _ _ _ _ (fun d S2 q => OutE.of x1 q) h1, re1.out.k⟩
end
end DD

namespace DD
open PySem PySem.Spec PyProof.Rows L2
theorem feed_enum_lst {K : PySem.W.Frag} {G : Gx} {S : Sto} {H : Hp} {k : Nat} {a : Addr} {ds : List D} (rs : RS K G S H) (hx : RD K G H (.lst k) (.ref a)) : Feed K G H (fun S => S[k]? = some ds) (enD ds) (Ite K a) := by
  refine ⟨fun i d G' S' H' hd x' rs' hc => ?_, fun i G' S' H' hi x' rs' hc => ?_⟩
  · have rd2 := hx.go (rs.go x')
    cases rd2 with
    | lst hk =>
      obtain ⟨us, e3, t⟩ := rs'.at_ k a ds hk hc
      unfold enD at hd
      rw [List.getElem?_map, List.getElem?_zipIdx] at hd
      cases e1 : ds[i]? with
      | none => rw [e1] at hd; cases hd
      | some d0 =>
        rw [e1] at hd
        have hd : some (D.tup [.int ((0 + i : Nat) : Int), d0]) = some d := hd
        cases hd
        obtain ⟨v, hv, rd⟩ := t.get e1
        refine ⟨⟨us, v, .of e3, hv⟩, fun x H'' y => ?_⟩
        obtain ⟨T, x0, rfl, hT, rfl, hy⟩ := y
        have e := hy us (.of e3)
        rw [hv] at e
        cases e
        rw [Nat.zero_add]
        exact ⟨G'.addF T, ext_newF hT, rs_newF rs' hT, rd_newTup hT (.cons (.int _) (.cons rd .nil))⟩
  · have rd2 := hx.go (rs.go x')
    cases rd2 with
    | lst hk =>
      obtain ⟨us, e3, t⟩ := rs'.at_ k a ds hk hc
      refine ⟨us, .of e3, ?_⟩
      unfold enD at hi
      rw [List.length_map, List.length_zipIdx] at hi
      rw [← t.length]; exact hi
def sEnQ (wa : WA) : WSrc := fun E r S Q => wa E r S fun ds S1 => match ds with
  | [.lv xs] => Q (enD xs) (fun _ => True) S1
  | [.lst k] => (match S1[k]? with | some xs => Q (enD xs) (fun S => S[k]? = some xs) S1 | none => False)
  | _ => False
section
variable {X : Cx} {a b : Expr} {wa : WA} {p pos tpos : Pos} {elts : List Expr} {kk : Nat}
theorem srcg_EnQ (hm : X.mg "enumerate" = none) (ha : DA X [a] wa) (hg : Gl X "enumerate" := by rfl) (hs : starEach [a] X.env = [(false, eval a X.env)] := by rfl) : DSrcG X (.Tuple elts kk tpos) (.Call (.Name "enumerate" p) [a] [] pos) (sEnQ wa) := by
  refine ⟨fun E r S Q Q' k h => ha.mo _ _ _ _ _ (fun ds S1 q => ?_) h, fun E => iEnum X.K (tDA X wa E), fun E => pi_enum hg hm (ha.pe E) hs, fun E r S G sg H Q R rs re h k => ?_⟩
  · split at q
    · exact k _ _ _ q
    · split at q
      · exact k _ _ _ q
      · exact q.elim
    · exact q.elim
  · refine ha.next rs re h fun ds S1 G1 us H1 x1 rs1 re1 rd1 q => ?_
    split at q
    · rename_i xs
      obtain ⟨v, rfl, q1⟩ := rd1.one
      cases q1 with
      | @lv c _ us hx t => exact ⟨c, us, rfl, hx.sq, k _ _ S1 G1 H1 _ x1 rs1 re1 q (feed_enum rs1 hx t)⟩
    · rename_i j
      obtain ⟨v, rfl, q1⟩ := rd1.one
      cases q1 with
      | @lst _ c hk =>
        split at q
        · rename_i xs e
          obtain ⟨us, e3, t⟩ := rs1.at_ j c xs hk e
          exact ⟨c, us, rfl, .of e3, k _ _ S1 G1 H1 _ x1 rs1 re1 q (feed_enum_lst rs1 (.lst hk))⟩
        · exact q.elim
    · exact q.elim
end
end DD

namespace DD
open PySem PySem.Spec PyProof.Rows L2
def relS (scope sc0 : Scope) : Scope := { kind := scope.kind, names := scope.names.map fun x => match x with | (n, k) => if (k == NameKind.free && sc0.kind == ScopeKind.function && sc0.names.lookup n == some NameKind.cell) = true then (n, NameKind.cell) else (n, k), isGenerator := scope.isGenerator, isCoroutine := scope.isCoroutine, more := scope.more }
end DD

namespace L2
open PySem PySem.Spec PyProof.Rows
section
variable {X : Cx} {a : Expr} {ta : TA} {p p2 pos pos2 : Pos}
end
end L2
namespace DD
open PySem PySem.Spec PyProof.Rows L2
section
variable {X : Cx} {a : Expr} {wa : WA} {p p2 pos pos2 : Pos}
end
end DD

namespace DD
open PySem PySem.Spec PyProof.Rows L2
theorem comp_inv {ct : CT} {we : WE} {E : XD} {r0 : Rho} {Q : List D → Sto → Prop} {al : Type} (src out : al → D) (inv : Sto → Prop) : ∀ (xs : List al) (acc : List D) (S : Sto), acc.length + xs.length ≤ 1000 →
    (∀ a ∈ xs, ∀ S, inv S → ∀ K : KD, (∀ S', inv S' → K (out a) S') → ct.asg (src a) r0 fun r2 => we E r2 S K) → inv S → (∀ S', inv S' → Q (acc ++ xs.map out) S') → compD ct wYes we E r0 (xs.map src) acc S Q
  | [], acc, S, _, _, i, q => by
    have q := q S i
    rw [List.map_nil, List.append_nil] at q
    exact q
  | a :: xs, acc, S, hl, h, i, q => by
    rw [List.length_cons] at hl
    refine h a List.mem_cons_self S i (fun y S4 => acc.length < 1000 ∧ compD ct wYes we E r0 (xs.map src) (acc ++ [y]) S4 Q) fun S' i' => ⟨by omega, ?_⟩
    refine comp_inv src out inv xs (acc ++ [out a]) S' (by rw [List.length_append, List.length_singleton]; omega) (fun x hx => h x (List.mem_cons_of_mem _ hx)) i' fun S2 i2 => ?_
    rw [List.append_assoc]
    exact q S2 i2
theorem comp_map {ct : CT} {we : WE} {E : XD} {r0 : Rho} {S : Sto} {Q : List D → Sto → Prop} {al : Type} (src out : al → D) (xs : List al) (hl : xs.length ≤ 1000)
    (h : ∀ a ∈ xs, ∀ K : KD, K (out a) S → ct.asg (src a) r0 fun r2 => we E r2 S K) (q : Q (xs.map out) S) : compD ct wYes we E r0 (xs.map src) [] S Q :=
  comp_inv src out (fun S' => S' = S) xs [] S (by rw [List.length_nil]; omega) (fun a ha S' e K k => by subst e; exact h a ha K (k _ rfl)) rfl fun S' e => by subst e; exact q
theorem loop_i {g : WG} {b : WS} {E : XD} {Dn : EndD} {chk : Sto → Prop} (I : List D → Rho → Sto → Prop) (hc : ∀ ds r S, I ds r S → chk S) (hz : ∀ r S, I [] r S → Dn.nx r S)
    (hs : ∀ d ds r S, I (d :: ds) r S → ∀ D1 : EndD, D1.rt = Dn.rt → (∀ r' S', I ds r' S' → D1.nx r' S') → (∀ r' S', Dn.nx r' S' → D1.bk r' S') → (∀ r' S', I ds r' S' → D1.ct r' S') → g E d r S fun r2 S2 => b E D1 r2 S2) :
    ∀ (ds : List D) (r : Rho) (S : Sto), I ds r S → loopD g b E Dn chk ds r S
  | [], r, S, h => ⟨hc _ _ _ h, hz _ _ h⟩
  | d :: ds, r, S, h => ⟨hc _ _ _ h, hs d ds r S h { Dn with nx := loopD g b E Dn chk ds, ct := loopD g b E Dn chk ds, bk := Dn.nx } rfl (fun r' S' h' => loop_i I hc hz hs ds r' S' h') (fun _ _ z => z) (fun r' S' h' => loop_i I hc hz hs ds r' S' h')⟩
theorem Sps.lv {m e : Nat} {ds : List D} (h : Sps m e ds) : Sp (m + 1) (e + 1) (.lv ds) := by
  obtain ⟨qs, t1, t2, t3, t4⟩ := h
  refine ⟨.list qs, fun S n => ?_, ?_, ?_⟩
  · show (seqO (ds.map (pyd S (n + m)))).map PyData.list = _
    rw [t1 S n]; rfl
  · rw [PyData.canLay0]; exact t2
  · rw [PyData.depth]; omega
theorem Sp.non {m : Nat} : Sp (m + 1) 0 .non := ⟨.none, fun S n => rfl, by rw [PyData.canLay0], by rw [PyData.depth]; exact Nat.le_refl _⟩
theorem Sp.str {m : Nat} {x : Str} (hx : PyData.strOk x = true) : Sp (m + 1) 0 (.str x) := ⟨.str x, fun S n => rfl, by rw [PyData.canLay0]; exact hx, by rw [PyData.depth]; exact Nat.le_refl _⟩
theorem Sp.at8 {m e : Nat} {d : D} (h : Sp m e d) (hm : m ≤ 8) (he : e ≤ 60) : ∃ q, (∀ S, pyd S 8 d = some q) ∧ SeqAt.shaped q = true ∧ PyData.eqv q q = true := by
  obtain ⟨q, h1, h2, h3⟩ := h.mono hm he
  refine ⟨q, fun S => h1 S 0, ?_, SeqAt.eqv_refl q h2⟩
  unfold SeqAt.shaped
  rw [h2, Bool.true_and]
  exact decide_eq_true (by omega)
theorem eq_same {ng : Bool} {m e : Nat} {d : D} {S : Sto} {Q : KD} (h : Sp m e d) (hm : m ≤ 8) (he : e ≤ 60) (q : Q (.bl (!ng)) S) : dEq ng d d S Q := by
  obtain ⟨p, h1, h2, h3⟩ := h.at8 hm he
  refine ⟨p, p, h1 S, h1 S, h2, h2, ?_⟩
  rw [h3, Bool.xor_true]
  exact q

end DD

namespace DD
open PySem PySem.Spec PyProof.Rows L2
def gWordS (wd : Str → Option Str) : GF := fun ds _ S Q => ∃ x wx, ds = [.ex x] ∧ wd x = some wx ∧ Q (.str wx) S
theorem mo_gWordS (wd : Str → Option Str) : MoG (gWordS wd) := fun _ _ _ _ _ k ⟨x, wx, e, h, q⟩ => ⟨x, wx, e, h, k _ _ q⟩
theorem wordS_in {K : PySem.W.Frag} {wd : Str → Option Str} {vs : List V} {H : Hp} {Q : VK} {E : XK} (h : spD K (gWord wd) vs H Q E) : spD K (gWordS wd) vs H (fun v H1 => [v].length ≤ sizeLine ∧ ∀ p, H1 p = none → Q (.ref p) (upd H1 p (.tup [v]))) E := by
  obtain ⟨G, S, ds, Ed, rs, rd, ⟨x, wx, e, hw, q⟩, ok⟩ := h
  refine ⟨G, S, ds, Ed, rs, rd, ⟨x, wx, e, hw, fun G' v H' x' rs' rd' => ⟨by show 1 ≤ sizeLine; decide, fun p hp => ?_⟩⟩, ok⟩
  exact q (G'.addF p) _ _ (x'.trans (ext_newF hp)) (rs_newF rs' hp) (rd_newTup hp (.cons rd' .nil))
structure SaidTxtB (st : Stmt) (said call_ er word seat : Str) : Prop where
  ex : ∃ x0 x1 x2 p1 p2 p3 p4 p5 p6 p7 p8 p9 p10 p11 p12 p13, defBody st = [.Try [.Return (some (.Tuple [.Constant (.str "told") x0 p1, .Call (.Name call_ p2) [] [] p3] x1 p4)) p5]
    [.ExceptHandler (some (.Name seat p6)) (some er) [.Return (some (.Tuple [.Call (.Name word p7) [.Name er p8] [] p9] x2 p13)) p10] p11] [] [] p12]
  sc : FnScope [call_, er] [call_] (defScope st)
  l0 : (defScope st).names.lookup call_ = some .local
  l1 : (defScope st).names.lookup er = some .local
  g1 : (defScope st).names.lookup seat = some .globalImplicit
  g2 : (defScope st).names.lookup word = some .globalImplicit
  d0 : (call_ == ("__debug__" : Str)) = false
  d1 : (er == ("__debug__" : Str)) = false
  d2 : (seat == ("__debug__" : Str)) = false
  d3 : (word == ("__debug__" : Str)) = false
  c0 : (call_ == ("__classdict__" : Str)) = false
  c1 : (er == ("__classdict__" : Str)) = false
section
variable {P : Program} {w : World} {K : PySem.W.Frag} {mg : Str → Option Value} {base : Heap} {said call_ er word seat qual : Str} {st : Stmt}
theorem said_fnB {wd : Str → Option Str} {f fw fl CS : Addr} {fd fdw fdl : FuncData} {k j : Nat} {spl : L2.Sp} (F : Fun K said qual st f fd) (T : SaidTxtB st said call_ er word seat) (hm1 : mg seat = some (.ref CS)) (hm2 : mg word = some (.ref fw)) {psw : List Str} (kw : PySem.W.keepIn K (.ref fw) = true) (bw : Binds K fdw psw [])
    (hj : j < 4) (hjk : j ≤ k) (FW : FnOk P w K mg base (CXE P w) j fw fdw psw (spD K (gWordS wd))) (FL : FnOk P w K mg base (CXE P w) k fl fdl [] spl) (hfn : ∃ ob fd, base.get? fl = some ob ∧ ob.data = .func fd) (bl : Binds K fdl [] []) :
    FnOk P w K mg base (CXE P w) (k + 1) f fd [call_] (spSaid K CS (spD K (gWord wd)) fl spl) := by
  obtain ⟨oc, od, kV, doc, pm, an, cdv, ct, osl, rfl, lk, hcd⟩ := F.ex
  obtain ⟨x0, x1, x2, p1, p2, p3, p4, p5, p6, p7, p8, p9, p10, p11, p12, p13, eb⟩ := T.ex
  refine fn_of lk hcd T.sc (fun vs H Q E h => by rw [h.1]; rfl) (fun A outer s H vs Q E hr h => ?_)
  refine ⟨fun D σ H => σ[0]? = some (some (.ref fl)) ∧ spl [] H (fun v H1 => [V.str "told", v].length ≤ sizeLine ∧ ∀ p, H1 p = none → D.rt (.ref p) (upd H1 p (.tup [.str "told", v]))) (fun cls _ H' => ∃ C, cls = .ref C ∧ PsiW K CS (spD K (gWord wd)) D.rt C H'), ?_, ?_⟩
  · rw [eb]
    refine pss_one ?_
    intro pins s1 σ H1 D I ⟨h1, h2⟩
    refine try_ok (i := 1) (CS := CS) (Ψ := fun C H' => PsiW K CS (spD K (gWord wd)) D.rt C H') (t2 := tRet (tTup (tCons (tCall (spD K (gWordS wd)) [] E0x (tCons (tVar 1) tNil)) tNil))) I rfl rfl T.sc.nd rfl T.l1 T.g1 hm1 T.d2 ?_ (fun ea => ?_) (fun C ea H' σ1 hl ψ hea => ?_)
    · refine (pss_one (ps_ret (pe_tup (pa_cons pe_str (pa_cons (pe_callV0 (X := Cx.pinned (cxOf (CXE P w) P w K mg base [call_, er] qual (defScope st) f cdv A outer s H E) pins (XTry (cxOf (CXE P w) P w K mg base [call_, er] qual (defScope st) f cdv A outer s H E) pins fun C H' => PsiW K CS (spD K (gWord wd)) D.rt C H')) (i := 0) FL hr hfn bl passTry rfl (Or.inl T.l0) T.d0 T.c0) pa_nil))))) [] s1 σ H1 D I.pinTo ?_
      exact ⟨h1, h2⟩
    · refine pss_one (ps_ret (pe_tup (pa_cons (pe_call (X := Cx.suite (cxOf (CXE P w) P w K mg base [call_, er] qual (defScope st) f cdv A outer s H E) pins ea) (E := E0x) (dvs := []) FW ⟨fun z => absurd hj (by omega), ?_, ?_, hr.gd⟩ T.g2 hm2 kw bw .nil (fun _ _ _ _ _ _ _ z => by obtain ⟨_, _, _, _, _, z⟩ := z; exact z) (pa_cons (pe_var (i := 1) rfl (Or.inl T.l1) T.d1 T.c1) pa_nil) T.d3) pa_nil)))
      · exact Nat.lt_of_le_of_lt (Nat.add_le_add_right (Nat.add_le_add_left (Nat.mul_le_mul_left 3 hjk) _) 5) hr.dp
      · exact Nat.lt_of_le_of_lt (Nat.add_le_add_right (Nat.add_le_add_left (Nat.mul_le_mul_left 16 hjk) _) 200) hr.un
    · refine ⟨ψ.1, ?_⟩
      show ∃ v, (σ1.set 1 (some (V.ref ea)))[1]? = some (some v) ∧ spD K (gWordS wd) ([v] ++ []) (upd H' ea (.ext (ExAt C ea))) (fun v H1 => [v].length ≤ sizeLine ∧ ∀ p, H1 p = none → D.rt (.ref p) (upd H1 p (.tup [v]))) E0x
      refine ⟨.ref ea, List.getElem?_set_self (by rw [hl]; exact Nat.lt_succ_self 1), ?_⟩
      exact wordS_in (ψ.2 ea hea)
  · obtain ⟨e, h⟩ := h
    subst e
    exact ⟨rfl, h⟩
theorem saidI_ofB {f CS : Addr} {fd : FuncData} {k j : Nat} {wd : Str → Option Str} (F : Fun K said qual st f fd) (T : SaidTxtB st said call_ er word seat) (hm0 : mg said = some (.ref f)) (hm1 : mg seat = some (.ref CS))
    (b : Binds K fd [call_] []) (hj : j < 4) (hjk : j ≤ k) (hex : ∀ y C wx, wd y = some wx → ClsAt K y C → PySem.W.exmOne K (.ref C) (.ref CS) = some true) (IW : ∀ base, ModB K mg base → FnI P w K mg base j word 1 (gWordS wd)) : SaidI P w K mg k said wd := by
  refine ⟨f, CS, fd, call_, hm0, F.kp, b, hex, fun base M fl fdl spl FL hfn bl => ?_⟩
  obtain ⟨fw, fdw, psw, hn, FW, hm2, kw, bw⟩ := (IW base M).ex
  exact said_fnB F T hm1 hm2 kw bw hj hjk FW FL hfn bl
end
end DD

namespace DD
open PySem PySem.Spec PyProof.Rows L2
def wTr (w : WE) : WT := fun E r S Q => w E r S fun d S1 => match d with
  | .bl c => Q c S1
  | .non => Q false S1
  | .tup xs => Q (!xs.isEmpty) S1
  | .lv xs => Q (!xs.isEmpty) S1
  | _ => False
theorem RDs.emp {K : PySem.W.Frag} {G : Gx} {H : Hp} : ∀ {ds : List D} {vs : List V}, RDs K G H ds vs → (!vs.isEmpty) = !ds.isEmpty
  | _, _, .nil => rfl
  | _, _, .cons _ _ => rfl
theorem dt_tru {X : Cx} {e : Expr} {w : WE} (h : DE X e w) (he : ∀ whole, isTrue e X.env whole = (do let v ← whole; standAt e.pos; holding [v] (truthy v)) := by intro _; rfl) : DT X e (wTr w) := by
  refine ⟨fun E r S Q Q' k q => h.mo _ _ _ _ _ (fun d S1 q1 => ?_) q, fun E => PT.wk (pt_truth (h.pe E) he) fun sg H Q q => ?_⟩
  · cases d <;> first | exact q1.elim | exact k _ _ q1
  · obtain ⟨G, S, r, rs, re, q⟩ := q
    refine h.next rs re q fun d S1 G1 v H1 x1 rs1 re1 rd1 q => ?_
    cases d <;> first | exact q.elim | skip
    · cases rd1; exact ⟨false, rfl, q G1 H1 x1 rs1⟩
    · cases rd1; exact ⟨_, rfl, q G1 H1 x1 rs1⟩
    · cases rd1 with
      | tup hx t => exact ⟨_, .inr (.inl ⟨_, hx.sq, rfl⟩), by rw [t.emp]; exact q G1 H1 x1 rs1⟩
    · cases rd1 with
      | lv hx t => exact ⟨_, .inl ⟨_, hx.sq, rfl⟩, by rw [t.emp]; exact q G1 H1 x1 rs1⟩
end DD

namespace DD
open PySem PySem.Spec PyProof.Rows L2
section
variable {P : Program} {w : World} {A : Around} {E : Value → Shared → Prop} {s : Shared}
end

structure NxI (P : Program) (w : World) (it : Addr) (fp : List Addr) (xs : Array Value) (St : Nat → Heap → Prop) : Prop where
  me : it ∈ fp
  ob : ∀ i h, St i h → ∃ o, h.get? it = some o ∧ ∀ v, o.data ≠ .cell v
  keep : ∀ i h h', St i h → (∀ c ∈ fp, ∀ o, h.get? c = some o → h'.get? c = some o) → St i h'
  item : ∀ (A : Around) (E : Value → Shared → Prop) (s : Shared) (i : Nat) (x : Value) (Q : Value → Shared → Prop), St i s.heap → xs[i]? = some x → (∀ h', St (i + 1) h' → Heap.SameBut it s.heap h' → Q x { s with heap := h' }) → wpAny (model P w) A (Builtin.SmallTypes.nextOf (.ref it)) Q E s
  stop : ∀ (A : Around) (E : Value → Shared → Prop) (s : Shared) (i : Nat) (Q : Value → Shared → Prop), A.handled = none → St i s.heap → xs[i]? = none → (∀ h' e, Heap.ExtBut it s.heap h' → (∃ o, h'.get? e = some o ∧ o.cls = .type "StopIteration") → E (.ref e) { s with heap := h' }) → wpAny (model P w) A (Builtin.SmallTypes.nextOf (.ref it)) Q E s
end DD

namespace DD
open PySem PySem.Spec PyProof.Rows L2
section
variable {P : Program} {w : World} {A : Around} {E : Value → Shared → Prop} {s : Shared} {it : Addr} {fp : List Addr} {xs : Array Value} {St : Nat → Heap → Prop}
end
end DD

namespace DD
open PySem PySem.Spec PyProof.Rows L2

structure ZAp (z TI TO i1 i2 : Addr) (f1 f2 : List Addr) : Prop where
  a1 : TI ≠ z
  a2 : TO ≠ z
  a3 : TI ≠ TO
  a4 : i1 ≠ i2
  a5 : TI ≠ i1
  a6 : TI ≠ i2
  a7 : TO ≠ i1
  a8 : TO ≠ i2
  b1 : ∀ c ∈ f1, c ≠ z ∧ c ≠ TO ∧ c ≠ i2
  b2 : ∀ c ∈ f2, c ≠ z ∧ c ≠ TO ∧ c ≠ i1
section
variable {P : Program} {w : World} {A : Around} {E : Value → Shared → Prop} {s : Shared} {z TI TO i1 i2 : Addr} {f1 f2 : List Addr} {xs ys : Array Value} {S1 S2 : Nat → Heap → Prop} {k1 k2 : Nat} {p r : Value}
end
end DD

namespace DD
open PySem PySem.Spec PyProof.Rows L2

end DD

namespace DD
open PySem PySem.Spec PyProof.Rows L2
open AutoSeq1 (wpAny_loadPart')
end DD

namespace DD
open PySem PySem.Spec PyProof.Rows L2
section
variable {P : Program} {w : World} {A : Around} {E : Value → Shared → Prop} {s : Shared}
end
def sqD (S : Sto) : D → Option (List D × (Sto → Prop))
  | .tup xs => some (xs, fun _ => True)
  | .lv xs => some (xs, fun _ => True)
  | .lst k => (S[k]?).map fun xs => (xs, fun S' => S'[k]? = some xs)
  | _ => none
section
variable {X : Cx} {a b : Expr} {wa : WA} {p pos tpos : Pos} {elts : List Expr} {kk : Nat}
end

theorem compC_filt {chk : Sto → Prop} {ct : CT} {wt : WT} {we : WE} {E : XD} {r0 : Rho} {Q : List D → Sto → Prop} {al : Type} (src out : al → D) (p : al → Bool) (inv : Sto → Prop) (hc : ∀ S, inv S → chk S) : ∀ (xs : List al) (acc : List D) (S : Sto), acc.length + xs.length ≤ 1000 →
    (∀ a ∈ xs, ∀ S, inv S → ∀ (K : KD) (N : Sto → Prop), (∀ S', inv S' → p a = true → K (out a) S') → (∀ S', inv S' → p a = false → N S') → ct.asg (src a) r0 fun r2 => wt E r2 S fun b S3 => if b = true then we E r2 S3 K else N S3) → inv S → (∀ S', inv S' → Q (acc ++ (xs.filter p).map out) S') → compC chk ct wt we E r0 (xs.map src) acc S Q
  | [], acc, S, _, _, i, q => by
    have q := q S i
    rw [List.filter_nil, List.map_nil, List.append_nil] at q
    exact ⟨hc S i, q⟩
  | a :: xs, acc, S, hl, h, i, q => by
    rw [List.length_cons] at hl
    refine ⟨hc S i, h a List.mem_cons_self S i (fun y S4 => acc.length < 1000 ∧ compC chk ct wt we E r0 (xs.map src) (acc ++ [y]) S4 Q) (fun S3 => compC chk ct wt we E r0 (xs.map src) acc S3 Q) (fun S' i' hp => ⟨by omega, ?_⟩) fun S' i' hp => ?_⟩
    · refine compC_filt src out p inv hc xs (acc ++ [out a]) S' (by rw [List.length_append, List.length_singleton]; omega) (fun x hx => h x (List.mem_cons_of_mem _ hx)) i' fun S2 i2 => ?_
      have q := q S2 i2
      rw [List.filter_cons, hp, if_pos rfl, List.map_cons] at q
      rw [List.append_assoc]
      exact q
    · refine compC_filt src out p inv hc xs acc S' (by omega) (fun x hx => h x (List.mem_cons_of_mem _ hx)) i' fun S2 i2 => ?_
      have q := q S2 i2
      rw [List.filter_cons, hp, if_neg Bool.false_ne_true] at q
      exact q
end DD

namespace DD
open PySem PySem.Spec PyProof.Rows L2
section
variable {X : Cx} {a b : Expr} {wa wb : WE} {pos : Pos}
end
end DD

namespace DD
open PySem PySem.Spec PyProof.Rows L2
open AutoSeq1 (wpAny_loadPart')
section
variable {P : Program} {w : World} {A : Around} {E : Value → Shared → Prop} {s : Shared} {r : Addr} {a b c : Int} {t u v : Tok} {n : Nat}
end
end DD
namespace L2
open PySem PySem.Spec PyProof.Rows
section
variable {X : Cx} {a b : Expr} {ta : TA} {p p2 pos pos2 : Pos}
end
end L2
namespace DD
open PySem PySem.Spec PyProof.Rows L2
section
variable {X : Cx} {a b : Expr} {wa : WA} {p p2 pos pos2 : Pos}
end
end DD

namespace DD
open PySem PySem.Spec PyProof.Rows L2
section
variable {X : Cx} {e : Expr} {we : WE} {pos pos' : Pos} {x : Str} {op : Operator} {rd : RD2} {rr : R2}
end
section
variable {X : Cx} {a : Expr} {wa : WA} {p pos : Pos}
end
end DD

namespace DD
open PySem PySem.Spec PyProof.Rows L2
theorem yes_eq {we : WE} {E : XD} {S : Sto} {K : KD} {N : Sto → Prop} : (fun r2 => wYes E r2 S fun b S3 => if b = true then we E r2 S3 K else N S3) = fun r2 => we E r2 S K := by
  funext r2
  show (if true = true then we E r2 S K else N S) = _
  exact if_pos rfl
theorem compC_inv {chk : Sto → Prop} {ct : CT} {we : WE} {E : XD} {r0 : Rho} {Q : List D → Sto → Prop} {al : Type} (src out : al → D) (inv : Sto → Prop) (hc : ∀ S, inv S → chk S) (xs : List al) (S : Sto) (hl : xs.length ≤ 1000)
    (h : ∀ a ∈ xs, ∀ S, inv S → ∀ K : KD, (∀ S', inv S' → K (out a) S') → ct.asg (src a) r0 fun r2 => we E r2 S K) (i : inv S) (q : ∀ S', inv S' → Q (xs.map out) S') : compC chk ct wYes we E r0 (xs.map src) [] S Q := by
  refine compC_filt src out (fun _ => true) inv hc xs [] S (by rw [List.length_nil]; omega) (fun a ha S1 i1 K N k n => ?_) i fun S' i' => ?_
  · rw [yes_eq]
    exact h a ha S1 i1 K fun S' i' => k S' i' rfl
  · rw [List.filter_eq_self.mpr fun _ _ => rfl]
    exact q S' i'
@[irreducible] def sQY (we : WE) : WSrc := sQ we
theorem sQY_def (we : WE) : sQY we = sQ we := by unfold sQY; rfl
section
variable {X : Cx} {a b tg : Expr} {wa : WA} {we : WE} {p pos tpos : Pos} {elts : List Expr} {kk : Nat}
theorem srcg_QY (h : DSrcG X tg a (sQ we)) : DSrcG X tg a (sQY we) := by rw [sQY_def]; exact h
end
section
variable {E : XD} {r : Rho} {S S1 : Sto} {Q : List D → (Sto → Prop) → Sto → Prop} {x y : D} {xs ys : List D} {c d : Sto → Prop} {wa : WA} {we : WE}
theorem qY_at (x : D) (S1 : Sto) (h : ∀ K : KD, K x S1 → we E r S K) (hx : sqD S1 x = some (xs, c)) (q : Q xs c S1) : sQY we E r S Q := by
  rw [sQY_def]
  refine h _ ?_
  cases x <;> first | cases hx | skip
  · exact q
  · exact q
  · rename_i k
    show (match S1[k]? with | some ds => Q ds (fun S => S[k]? = some ds) S1 | none => False)
    have hx : (S1[k]?).map (fun xs => (xs, fun S' : Sto => S'[k]? = some xs)) = some (xs, c) := hx
    obtain ⟨ys, e1, e2⟩ := Option.map_eq_some_iff.mp hx
    cases e2
    rw [e1]
    exact q
end
theorem sqD_lst {S : Sto} {k : Nat} {xs : List D} (h : S[k]? = some xs) : sqD S (.lst k) = some (xs, fun S' => S'[k]? = some xs) := by
  show (S[k]?).map _ = _
  rw [h]
  rfl
end DD

namespace DD
open PySem PySem.Spec PyProof.Rows L2
end DD

namespace DD
open PySem PySem.Spec PyProof.Rows L2

inductive Sl (al : Type) where
  | p (i : Nat) | k (i : Nat) | d (x : al)
def Sl.get {al : Type} (z : al) (us ws : List al) : Sl al → al
  | .p i => us.getD i z
  | .k i => ws.getD i z
  | .d x => x
inductive SlR (K : PySem.W.Frag) (np nk : Nat) : Sl D → Sl V → Sl Value → Prop
  | p {i : Nat} : i < np → SlR K np nk (.p i) (.p i) (.p i)
  | k {i : Nat} : i < nk → SlR K np nk (.k i) (.k i) (.k i)
  | d {x : D} {v : V} {u : Value} : RelV v u → (∀ G H, RD K G H x v) → SlR K np nk (.d x) (.d v) (.d u)
inductive SlRs (K : PySem.W.Frag) (np nk : Nat) : List (Sl D) → List (Sl V) → List (Sl Value) → Prop
  | nil : SlRs K np nk [] [] []
  | cons {a : Sl D} {b : Sl V} {c : Sl Value} {as : List (Sl D)} {bs : List (Sl V)} {cs : List (Sl Value)} : SlR K np nk a b c → SlRs K np nk as bs cs → SlRs K np nk (a :: as) (b :: bs) (c :: cs)
theorem vals_getD : ∀ {vs : List V} {us : List Value} {i : Nat}, Vals vs us → i < us.length → RelV (vs.getD i .non) (us.getD i .none)
  | _, _, _, .nil, h => absurd h (Nat.not_lt_zero _)
  | _, _, 0, .cons r _, _ => r
  | _, _, i + 1, .cons _ t, h => vals_getD (i := i) t (Nat.lt_of_succ_lt_succ h)
theorem rds_getD {K : PySem.W.Frag} {G : Gx} {H : Hp} : ∀ {ds : List D} {vs : List V} {i : Nat}, RDs K G H ds vs → i < ds.length → RD K G H (ds.getD i .non) (vs.getD i .non)
  | _, _, _, .nil, h => absurd h (Nat.not_lt_zero _)
  | _, _, 0, .cons r _, _ => r
  | _, _, i + 1, .cons _ t, h => rds_getD (i := i) t (Nat.lt_of_succ_lt_succ h)
theorem SlRs.vals {K : PySem.W.Frag} {np nk : Nat} {vs zs : List V} {us ws : List Value} (r1 : Vals vs us) (r2 : Vals zs ws) (h1 : us.length = np) (h2 : ws.length = nk) : ∀ {as : List (Sl D)} {bs : List (Sl V)} {cs : List (Sl Value)}, SlRs K np nk as bs cs → Vals (bs.map (Sl.get .non vs zs)) (cs.map (Sl.get .none us ws))
  | _, _, _, .nil => .nil
  | _, _, _, .cons (.p h) t => .cons (vals_getD r1 (by omega)) (SlRs.vals r1 r2 h1 h2 t)
  | _, _, _, .cons (.k h) t => .cons (vals_getD r2 (by omega)) (SlRs.vals r1 r2 h1 h2 t)
  | _, _, _, .cons (.d r _) t => .cons r (SlRs.vals r1 r2 h1 h2 t)
theorem SlRs.rds {K : PySem.W.Frag} {np nk : Nat} {G : Gx} {H : Hp} {ds es : List D} {vs zs : List V} (r1 : RDs K G H ds vs) (r2 : RDs K G H es zs) (h1 : ds.length = np) (h2 : es.length = nk) : ∀ {as : List (Sl D)} {bs : List (Sl V)} {cs : List (Sl Value)}, SlRs K np nk as bs cs → RDs K G H (as.map (Sl.get .non ds es)) (bs.map (Sl.get .non vs zs))
  | _, _, _, .nil => .nil
  | _, _, _, .cons (.p h) t => .cons (rds_getD r1 (by omega)) (SlRs.rds r1 r2 h1 h2 t)
  | _, _, _, .cons (.k h) t => .cons (rds_getD r2 (by omega)) (SlRs.rds r1 r2 h1 h2 t)
  | _, _, _, .cons (.d _ r) t => .cons (r G H) (SlRs.rds r1 r2 h1 h2 t)
structure FnS (P : Program) (w : World) (K : PySem.W.Frag) (mg : Str → Option Value) (base : Heap) (k : Nat) (x : Str) (g : GF) (np : Nat) (ks : List Str) (ss : List (Sl D)) : Prop where
  ex : ∃ (f : Addr) (fd : FuncData) (ps : List Str) (sv : List (Sl V)) (su : List (Sl Value)), ps.length ≠ 0 ∧ FnOk P w K mg base (CXE P w) k f fd ps (spD K g) ∧ mg x = some (.ref f) ∧ PySem.W.keepIn K (.ref f) = true ∧ SlRs K np ks.length ss sv su ∧
    ∀ (s : Shared) (us ws : List Value), K.In s.heap → us.length = np → ws.length = ks.length → BindsTo s fd ⟨us, ks.zip ws⟩ (ps.zip (su.map (Sl.get .none us ws)))
  mo : MoG g
theorem FnS.up {P : Program} {w : World} {K : PySem.W.Frag} {mg : Str → Option Value} {base : Heap} {j k np : Nat} {x : Str} {g : GF} {ks : List Str} {ss : List (Sl D)} (F : FnS P w K mg base j x g np ks ss) (h : j ≤ k) : FnS P w K mg base k x g np ks ss := by
  obtain ⟨f, fd, ps, sv, su, h1, h2, h3⟩ := F.ex
  exact ⟨⟨f, fd, ps, sv, su, h1, h2.mono h, h3⟩, F.mo⟩
section
variable {X : Cx} {e : Expr} {es : List Expr} {kws : List Keyword} {wa wb : WA} {pos p : Pos} {x : Str} {k np nk : Nat} {g : GF} {ks : List Str} {ss : List (Sl D)}
end
section
variable {P : Program} {w : World} {K : PySem.W.Frag} {mg : Str → Option Value} {base : Heap}
end
end DD

namespace L2
open PySem PySem.Spec PyProof.Rows
section
variable {X : Cx}
open Classical in
end
end L2
namespace DD
open PySem PySem.Spec PyProof.Rows L2

end DD

namespace L2
open PySem PySem.Spec PyProof.Rows
section
variable {X : Cx} {a b : Expr} {ta : TA} {p p2 pos pos2 : Pos}
end
end L2
namespace DD
open PySem PySem.Spec PyProof.Rows L2
section
variable {X : Cx} {a b : Expr} {wa : WA} {p p2 pos pos2 : Pos}
end
end DD

namespace L2
open PySem PySem.Spec PyProof.Rows
section
variable {prog : Program} {w : World} {A : Around} {E : Value → Shared → Prop} {s : Shared}
theorem getItem_tuple_whole {t sl : Addr} {items : Array Value} {vl vu : Value} {lo hi : Option Int} {Q : Value → Shared → Prop} (ht : IsTup s.heap t items) (hs : s.heap.IsSliceOf sl vl vu .none) (pl : IsPart vl lo) (pu : IsPart vu hi)
    (hw : HT.sIx items.size 0 lo = 0 ∧ HT.sIx items.size items.size hi = items.size)
    (h : Q (.ref t) s) : wpAny (model prog w) A (getItem (.ref t) (.ref sl)) Q E s := by
  obtain ⟨os, hos, hcs, hds⟩ := id hs
  have hTs : s.TypeIs (.ref sl) "slice" := ⟨os, hos, hcs⟩
  unfold getItem
  try with_reducible refine wpAny_holding ?_
  first | refine wpAny_bind (wpAny_pure ?_) | skip
  refine wpAny_bind (wpAny_sequenceKey ht.typeIs (by decide) ?_)
  refine wpAny_bind (wpAny_callSpecial?_slot (name := Str.ofString "__getitem__") ht.typeIs PyProof.Rows.slot_tuple_getitem
    (wpAny_call_entry PyProof.Rows.slot_tuple_getitem ht.typeIs PyProof.Rows.entry_tuple_getitem ?_ (PyProof.Rows.args_tuple_getitem _ _)))
  show wpAny _ _ (Builtin.Tuple.tupleItemsOf (.ref t) >>= _) _ _ s
  refine wpAny_bind (PyProof.Rows.tupleItemsOf_ ht ?_)
  refine wpAny_bind (wpAny_typeOf hTs ?_)
  rw [if_pos (by decide)]
  refine wpAny_bind (HT.sliceApplied_gen hs pl pu ?_)
  have hyes : (((HT.sIx items.size 0 lo : Nat) : Int) == 0 && (1 : Int) == 1 && (HT.sIx items.size items.size hi - HT.sIx items.size 0 lo) == items.size) = true := by
    rw [hw.1, hw.2]
    simp
  show wpAny _ _ (if (((HT.sIx items.size 0 lo : Nat) : Int) == 0 && (1 : Int) == 1 && (HT.sIx items.size items.size hi - HT.sIx items.size 0 lo) == items.size) = true then _ else _) _ _ s
  rw [if_pos hyes]
  unfold Builtin.Tuple.tupleIsExact
  refine wpAny_bind (wpAny_bind (wpAny_typeOf ht.typeIs (wpAny_pure ?_)))
  rw [if_pos (by decide)]
  refine wpAny_bind (wpAny_rule ?_)
  exact wpAny_pure ⟨_, rfl, wpAny_pure h⟩
end
section
variable {X : Cx}

def rSlW (K : PySem.W.Frag) : V → Option Int → Option Int → Hp → VK → Prop := fun x lo hi H Q => ∃ a xs, x = .ref a ∧ SqT K H a xs ∧
  (HT.sIx xs.length 0 lo = 0 ∧ HT.sIx xs.length xs.length hi = xs.length) ∧ Q (.ref a) H
theorem sl_tupW : SlR X (rSlW X.K) := by
  intro pins s sg H x v vl vu lo hi sl Q I rx hs pl pu h
  obtain ⟨a, xs, rfl, hx, hw, q⟩ := h
  cases rx
  obtain ⟨its, r, ht, hz⟩ := I.tuple hx
  have hlen : its.toArray.size = xs.length := by rw [List.size_toArray]; exact r.length.symm
  refine ⟨"tuple", _, PyProof.Rows.slot_tuple_getitem.lookup, ht.typeIs, ?_⟩
  exact getItem_tuple_whole ht hs pl pu (by rw [hlen]; exact hw) ⟨.ref a, _, I, rfl, q⟩
end
end L2
namespace DD
open PySem PySem.Spec PyProof.Rows L2
theorem cut_whole {ds : List D} {lo hi : Option Int} (h : HT.sIx ds.length 0 lo = 0 ∧ HT.sIx ds.length ds.length hi = ds.length) : DD.cutD ds lo hi = ds := by
  unfold DD.cutD
  rw [h.1, h.2, List.drop_zero, Nat.sub_zero, List.take_length]
def dSlW0 (x : D) (lo hi : Option Int) (S : Sto) (Q : KD) : Prop := match x with
  | .tup ds => Q (.tup (DD.cutD ds lo hi)) S
  | .lv ds => Q (.lv (DD.cutD ds lo hi)) S
  | .lst k => (match S[k]? with | some ds => Q (.lv (DD.cutD ds lo hi)) S | none => False)
  | _ => False
@[irreducible] def dSlW (x : D) (lo hi : Option Int) (S : Sto) (Q : KD) : Prop := dSlW0 x lo hi S Q
theorem dSlW_def (x : D) (lo hi : Option Int) (S : Sto) (Q : KD) : dSlW x lo hi S Q = dSlW0 x lo hi S Q := by unfold dSlW; rfl
theorem slw_tup {ds : List D} {lo hi : Option Int} {S : Sto} {Q : KD} (q : Q (.tup (DD.cutD ds lo hi)) S) : dSlW (.tup ds) lo hi S Q := by rw [dSlW_def]; exact q
theorem slw_lv {ds : List D} {lo hi : Option Int} {S : Sto} {Q : KD} (q : Q (.lv (DD.cutD ds lo hi)) S) : dSlW (.lv ds) lo hi S Q := by rw [dSlW_def]; exact q
theorem dSlW_mo {x : D} {lo hi : Option Int} {S : Sto} {Q Q' : KD} (k : ∀ d S, Q d S → Q' d S) (h : dSlW x lo hi S Q) : dSlW x lo hi S Q' := by
  rw [dSlW_def] at h ⊢
  unfold dSlW0 at h ⊢
  split at h
  · exact k _ _ h
  · exact k _ _ h
  · split at h
    · exact k _ _ h
    · exact h.elim
  · exact h.elim
theorem dSlW_ok {K : PySem.W.Frag} {G : Gx} {S : Sto} {H : Hp} {x : D} {v : V} {lo hi : Option Int} {Q : VK} (rs : RS K G S H) (rx : RD K G H x v) (h : dSlW x lo hi S (OutE K G H Q)) : (rSlT K v lo hi H Q ∨ rSlW K v lo hi H Q) ∨ rSlL K v lo hi H Q := by
  by_cases hx : ∃ ds, x = .tup ds
  · obtain ⟨ds, rfl⟩ := hx
    rw [dSlW_def] at h
    have h : OutE K G H Q (.tup (DD.cutD ds lo hi)) S := h
    by_cases hw : HT.sIx ds.length 0 lo = 0 ∧ HT.sIx ds.length ds.length hi = ds.length
    · rw [cut_whole hw] at h
      have rx0 := rx
      cases rx with
      | tup hx t => exact .inl (.inr ⟨_, _, rfl, hx.sq, by rw [← t.length]; exact hw, h _ _ _ (Ext.refl _ _) rs rx0⟩)
    · rcases dSl_ok (lo := lo) (hi := hi) rs rx ⟨hw, h⟩ with z | z
      · exact .inl (.inl z)
      · exact .inr z
  · have h2 : dSl x lo hi S (OutE K G H Q) := by
      rw [dSlW_def] at h
      unfold dSlW0 at h
      split at h
      · exact absurd ⟨_, rfl⟩ hx
      · exact h
      · exact h
      · exact h.elim
    rcases dSl_ok rs rx h2 with z | z
    · exact .inl (.inl z)
    · exact .inr z
def wSlW (we : WE) (wl wh : WO) : WE := fun E r S Q => we E r S fun x S1 => wl E r S1 fun l S2 => wh E r S2 fun u S3 => dSlW x l u S3 Q
section
variable {X : Cx} {e : Expr} {we : WE} {lo hi : Option Expr} {wl wh : WO} {pos p2 : Pos}
theorem de_sliceW (he : DE X e we) (hl : DOp X lo wl) (hh : DOp X hi wh) : DE X (.Subscript e (.Slice lo hi none p2) pos) (wSlW we wl wh) := by
  refine ⟨fun E r S Q Q' k h => he.mo _ _ _ _ _ (fun x S1 h1 => hl.mo _ _ _ _ _ (fun l S2 h2 => hh.mo _ _ _ _ _ (fun u S3 h3 => dSlW_mo k h3) h2) h1) h,
    fun E => PE.wk (pe_slice ((sl_tup.or sl_tupW).or sl_list) (he.pe E) (hl.pe E) (hh.pe E)) fun sg H Q h => ?_⟩
  obtain ⟨G, S, r, rs, re, h⟩ := h
  refine he.next rs re h fun x S1 G1 v H1 x1 rs1 re1 rd1 h1 => ?_
  refine ⟨G1, S1, r, rs1, re1, hl.mo _ _ _ _ _ (fun l S2 h2 G2 H2 x2 rs2 => ?_) h1⟩
  refine ⟨G2, S2, r, rs2, re1.ext rs1 x2, hh.mo _ _ _ _ _ (fun u S3 h3 G3 H3 x3 rs3 => ?_) h2⟩
  exact dSlW_ok rs3 ((rd1.go (rs1.go x2)).go (rs2.go x3)) (dSlW_mo (fun d S4 q => OutE.of ((x1.trans x2).trans x3) q) h3)
end
end DD

namespace DD
open PySem PySem.Spec PyProof.Rows L2
section
variable {X : Cx} {a b : Expr} {wa wb : WE} {pos : Pos}
end
theorem tuple_mul_nought (l : Addr) (items : Array Value) (n : Nat) (d : Option Addr) (sl : Array (Option Value)) (u : Tok) (he : items.isEmpty = false) :
    Meets (Builtin.«tuple.__mul__» ⟨[.ref l, .int 0 u], []⟩) (fun _ R s => s.heap.get? l = some { cls := .type "tuple", dict := d, data := .seq items n, slots := sl } ∧ R (.ok (.ret (Value.ref s.heap.objs.size))) { s with heap := s.heap.push { cls := Value.type "tuple", data := Data.seq #[] }, toks := s.toks }) :=
  .of_wp fun prog w A R s h => by
    obtain ⟨hp, g, d, tk, os⟩ := s; obtain ⟨hl, h⟩ := h
    have c0 : (decide ((0 : Int) < -2 ^ 63) || decide ((0 : Int) ≥ 2 ^ 63)) = false := by decide
    have c1 : (items.isEmpty || (0 : Int) == 1) = false := by rw [he, Bool.false_or]; rfl
    have c2 : (decide ((0 : Int) ≤ 0) || items.isEmpty) = true := by rw [he]; rfl
    have nb : ∀ {b : Bool}, b = false → decide (b = true) = false := fun h => by rw [h]; rfl
    have yb : ∀ {b : Bool}, b = true → decide (b = true) = true := fun h => by rw [h]; rfl
    have hsz : (#[] : Array Value).size ≤ sizeLine := Nat.zero_le _
    wp_walk using wpAny_loadPart' hl
    exact ⟨_, rfl, h⟩
def rRepT0 (K : PySem.W.Frag) : R2 := fun x y H Q => (∃ k : Int, y = .int k ∧ 1 ≤ k ∧ rRepT K x y H Q) ∨ (y = .int 0 ∧ ∃ a xs, x = .ref a ∧ SqT K H a xs ∧ ((xs = [] ∧ Q (.ref a) H) ∨ (xs ≠ [] ∧ ∀ p, H p = none → Q (.ref p) (upd H p (.tup [])))))
theorem op_repT0 {X : Cx} : OpR X (binaryOp .Mult) (rRepT0 X.K) := by
  intro pins s sg H x y v u Q I rx ry h
  rcases h with ⟨k, e, _, h⟩ | ⟨rfl, a, xs, rfl, ha, q⟩
  · exact op_repT pins s sg H x y v u Q I rx ry h
  cases rx
  obtain ⟨t, rfl⟩ := ry
  obtain ⟨its, r, p, _⟩ := I.tuple ha
  obtain ⟨⟨cls, dd, data, sl⟩, ho, hc, n, hd⟩ := id p
  simp only at hc hd
  subst hc hd
  have hl := r.length
  refine wpAny_binaryOp_repeat_ref (T := "tuple") (U := "int") (by decide) ⟨_, ho, rfl⟩ (fun s' => typeIs_int s' 0 t) noFill_tuple_mul F.fills_int_mul F.slot_int_rmul repeat_tuple F.slot_int_index.lookup
    (call_meets F.slot_int_rmul (typeIs_int s 0 t) F.entry_int_rmul (F.args_int_rmul_2 _ _) (int_rmul_tuple 0 t a its.toArray n dd sl)
      ⟨ho, rfl, ⟨_, ho, rfl⟩, ?_⟩)
  rcases q with ⟨e, q⟩ | ⟨e1, q⟩
  · refine call_meets F.slot_tuple_mul ⟨_, ho, rfl⟩ F.entry_tuple_mul (F.args_tuple_mul_2 _ _) (tuple_mul_same a its.toArray n dd sl 0 t (by decide) (by decide) ?_) ⟨ho, ⟨.ref a, H, I, rfl, q⟩⟩
    subst e
    cases r
    rfl
  · have hne : its.toArray.isEmpty = false := by
      cases its with
      | nil => cases r; exact absurd rfl e1
      | cons _ _ => rfl
    refine call_meets F.slot_tuple_mul ⟨_, ho, rfl⟩ F.entry_tuple_mul (F.args_tuple_mul_2 _ _) (tuple_mul_nought a its.toArray n dd sl t hne) ⟨ho, ?_⟩
    refine ⟨.ref s.heap.objs.size, _, I.laid (t' := s.toks) (o := .tup []) (fun b ob q => Heap.get?_push_of_some _ q) (Nat.le_refl _) ⟨Nat.zero_le _, [], .nil, IsTup.new _ _⟩, rfl, q _ (I.hok.fresh (Nat.le_refl _))⟩
def dRepT0 : RD2 := fun x y S Q => match x, y with | .tup a, .int k => (0 ≤ k ∧ k < 2 ^ 63 ∧ a.length * k.toNat ≤ 1000) ∧ Q (.tup (List.replicate k.toNat a).flatten) S | _, _ => False
theorem dRepT0_ok {K : PySem.W.Frag} : OpD K (rRepT0 K) dRepT0 := by
  refine ⟨fun x y S Q Q' k h => ?_, fun G S H x y v u Q rs rx ry h => ?_⟩
  · unfold dRepT0 at h ⊢
    split at h
    · exact ⟨h.1, k _ _ h.2⟩
    · exact h.elim
  · unfold dRepT0 at h
    split at h
    · rename_i a k
      by_cases hk : 1 ≤ k
      · have hy := ry
        cases ry
        exact .inl ⟨k, rfl, hk, dRepT_ok.2 G S H _ _ _ _ Q rs rx hy ⟨⟨hk, h.1.2.1, h.1.2.2⟩, h.2⟩⟩
      · have hk0 : k = 0 := by have := h.1.1; omega
        subst hk0
        cases ry
        cases rx with
        | @tup p _ us hx t =>
          refine .inr ⟨rfl, p, us, rfl, hx.sq, ?_⟩
          by_cases e : us = []
          · refine .inl ⟨e, ?_⟩
            have q := h.2
            subst e
            cases t
            exact q G _ H (Ext.refl _ _) rs (.tup hx .nil)
          · exact .inr ⟨e, fun pp hp => h.2 _ _ _ (ext_newF hp) (rs_newF rs hp) (rd_newTup hp .nil)⟩
    · exact h.elim
theorem de_repT0 {X : Cx} {a b : Expr} {wa wb : WE} {pos : Pos} (ha : DE X a wa) (hb : DE X b wb) : DE X (.BinOp a .Mult b pos) (wOp dRepT0 wa wb) := de_op op_repT0 dRepT0_ok ha hb
end DD

namespace DD
open PySem PySem.Spec PyProof.Rows L2
section
variable {X : Cx} {a b : Expr} {pos : Pos} {wa wb : WE}
end
end DD

namespace DD
open PySem PySem.Spec PyProof.Rows L2
mutual
inductive DpY (K : PySem.W.Frag) (H : Hp) : V → PyData → Prop
  | non : DpY K H .non .none
  | bl (b : Bool) : DpY K H (.bl b) (.bool b)
  | int (i : Int) : DpY K H (.int i) (.int i)
  | str (x : Str) : DpY K H (.str x) (.str x)
  | lst {a : Addr} {xs : List V} {ds : List PyData} : Rd H a (.lst xs) → DpYs K H xs ds → DpY K H (.ref a) (.list ds)
  | tup {a : Addr} {xs : List V} {ds : List PyData} : SqT K H a xs → DpYs K H xs ds → DpY K H (.ref a) (.tuple ds)
  | dc {a : Addr} {kvs : List (Int × Int)} : H a = some (dcO kvs) → DpY K H (.ref a) (dcP kvs)
inductive DpYs (K : PySem.W.Frag) (H : Hp) : List V → List PyData → Prop
  | nil : DpYs K H [] []
  | cons {v : V} {vs : List V} {d : PyData} {ds : List PyData} : DpY K H v d → DpYs K H vs ds → DpYs K H (v :: vs) (d :: ds)
end
section
variable {X : Cx} {pins : List (Addr × Obj)} {σ : L2.St} {H : Hp} {s : Shared}
mutual
theorem DpY.reads (I : Inv X pins σ H s) (hs : ∃ o, X.base.get? sysModules = some o) : ∀ (d : PyData) (v : V) (u : Value), DpY X.K H v d → RelV v u → ∃ as, Reads s.heap u d as ∧ sysModules ∉ as
  | .none, _, _, h, r => by
    cases h
    cases r
    exact ⟨_, Reads.none, fun z => nomatch z⟩
  | .bool b, _, _, h, r => by
    cases h
    cases r
    exact ⟨_, Reads.bool b, fun z => nomatch z⟩
  | .int i, _, _, h, r => by
    cases h
    obtain ⟨t, rfl⟩ := r
    exact ⟨_, Reads.int i t, fun z => nomatch z⟩
  | .str x, _, _, h, r => by
    cases h
    obtain ⟨t, rfl⟩ := r
    exact ⟨_, Reads.str x t, fun z => nomatch z⟩
  | .list ds, _, _, h, r => by
    cases h with
    | @lst a xs _ hs2 ha =>
      cases r
      obtain ⟨o9, e9⟩ := hs
      have hn := (I.bs _ _ e9).2
      have ne : a ≠ sysModules := fun z => by
        subst z
        rcases hs2 with h | ⟨o, h⟩
        · rw [hn] at h; cases h
        · rw [hn] at h; cases h
      obtain ⟨its, rv, ⟨o, n, ho, hc, _, hd⟩, _⟩ := I.list (.inl hs2)
      obtain ⟨as, hr, hm⟩ := DpY.readsAll I ⟨o9, e9⟩ ds _ its ha rv
      refine ⟨_, Reads.list ho hc hd hr, fun z => ?_⟩
      rcases List.mem_cons.mp z with z | z
      · exact ne z.symm
      · exact hm z
  | .tuple ds, _, _, h, r => by
    cases h with
    | tup hs2 ha =>
      cases r
      obtain ⟨its, rv, ⟨o, ho, hc, n, hd⟩, _⟩ := I.tuple hs2
      obtain ⟨as, hr, hn⟩ := DpY.readsAll I hs ds _ its ha rv
      exact ⟨_, Reads.tuple ho hc hd hr, hn⟩
  | .dict kv, v, u, h, r => by
    have key : ∀ p, DpY X.K H v p → p = .dict kv → ∃ as, Reads s.heap u p as ∧ sysModules ∉ as := fun p hp e => by
      cases hp with
      | @dc a kvs ea =>
        cases r
        obtain ⟨_, hsys, vs, kvv, o, es, ep, ho, hex, hd, _, hps, _⟩ := (show ObjOk X.prog X.w H s.heap a (dcO kvs) from I.hok a _ ea)
        obtain ⟨r1, r2⟩ := pairs_read (h := s.heap) kvv hps
        refine ⟨_, Reads.dict ho hex.1 hd r1 r2, fun z => ?_⟩
        have z : sysModules ∈ [a] := by simpa using z
        rw [List.mem_singleton.mp z] at hsys
        simp at hsys
      | _ => cases e
    exact key _ h rfl
theorem DpY.readsAll (I : Inv X pins σ H s) (hs : ∃ o, X.base.get? sysModules = some o) : ∀ (ds : List PyData) (vs : List V) (us : List Value), DpYs X.K H vs ds → Vals vs us → ∃ as, ReadsAll s.heap us ds as ∧ sysModules ∉ as
  | [], _, _, h, r => by
    cases h
    cases r
    exact ⟨_, ReadsAll.nil, fun z => nomatch z⟩
  | d :: ds, _, _, h, r => by
    cases h with
    | cons h1 h2 =>
      cases r with
      | cons r1 r2 =>
        obtain ⟨as, q1, n1⟩ := DpY.reads I hs d _ _ h1 r1
        obtain ⟨bs, q2, n2⟩ := DpY.readsAll I hs ds _ _ h2 r2
        refine ⟨_, ReadsAll.cons q1 q2, fun m => ?_⟩
        rcases List.mem_append.mp m with m | m
        · exact n1 m
        · exact n2 m
end
end
structure ROkY (p : PyData) : Prop where
  sh : p.showable = true
  ls : p.leavesShort 2000 = true
  bk : p.bulk ≤ 8000
  dp : p.depth ≤ 60
theorem ROkY.len {p : PyData} (h : ROkY p) : p.shown.length ≤ sizeLine := by
  have z := PyData.shown_le_bulk 2000 (by decide) p h.ls
  have b := h.bk
  have e : (2000 + 2) * p.bulk ≤ 2002 * 8000 := Nat.mul_le_mul_left _ b
  rw [sizeLine_eq]
  omega
def rReprY (K : PySem.W.Frag) : List V → Hp → VK → Prop := fun xs H Q => ∃ x p, xs = [x] ∧ DpY K H x p ∧ ROkY p ∧ Q (.str p.shown) H
theorem call_reprY {X : Cx} {k : Nat} (hr : Room k X.A) (hs : ∃ o, X.base.get? sysModules = some o) : CallR X (.builtin "repr") (rReprY X.K) := by
  intro pins s sg H xs us Q I r h
  obtain ⟨x, p, rfl, dp, ok, q⟩ := h
  obtain ⟨u, rfl, ru⟩ := vals1 r
  have hu := hr.units
  have hd := ok.dp
  have fin : ∀ (h' : Heap) (tk : Nat) (t : Tok), (∀ b o, s.heap.get? b = some o → h'.get? b = some o) → EP X pins sg Q (.str p.shown t) { s with heap := h', toks := tk } := fun h' tk t k =>
    ⟨.str p.shown, H, I.kept k, ⟨t, rfl⟩, q⟩
  have go : ∀ a, u = .ref a → wpAny (model X.prog X.w) X.A (call (.builtin "repr") [u]) (EP X pins sg Q) X.xe s := fun a e => by
    subst e
    obtain ⟨as, rd, hn⟩ := DpY.reads I hs p x _ dp ru
    exact repr_of_reads' rd ok.sh (fun _ => hn) hr.gd (by omega) (fun _ _ e => e) (fun h' t tk k => fin h' tk t k) ok.len
  cases dp with
  | non =>
    cases ru
    exact PySem.P.repr_of_none (fin s.heap _ _ fun _ _ e => e)
  | bl b =>
    cases ru
    exact PySem.P.repr_of_bool (fin s.heap _ _ fun _ _ e => e)
  | int i =>
    obtain ⟨t, rfl⟩ := ru
    exact PySem.P.repr_of_int (by simpa [PyData.showable] using ok.sh) (fin s.heap _ _ fun _ _ e => e)
  | str z =>
    obtain ⟨t, rfl⟩ := ru
    exact PySem.P.repr_of_str (fin s.heap _ _ fun _ _ e => e) ok.len
  | lst h1 h2 => cases ru; exact go _ rfl
  | tup h1 h2 => cases ru; exact go _ rfl
  | dc h1 => cases ru; exact go _ rfl
section
variable {K : PySem.W.Frag} {G : Gx} {S : Sto} {H : Hp}
theorem pydsY_ok {f : D → Option PyData} (hf : ∀ d v p, RD K G H d v → f d = some p → DpY K H v p) : ∀ {ds : List D} {vs : List V} {ps : List PyData}, RDs K G H ds vs → seqO (ds.map f) = some ps → DpYs K H vs ps
  | _, _, ps, .nil, e => by
    have e : some ([] : List PyData) = some ps := e
    cases e
    exact .nil
  | d :: ds, v :: vs, ps, .cons q t, e => by
    have e : seqO (f d :: ds.map f) = some ps := e
    cases e1 : f d with
    | none => rw [e1] at e; cases e
    | some p =>
      rw [e1] at e
      cases e2 : seqO (ds.map f) with
      | none =>
        have e : consO p (seqO (ds.map f)) = some ps := e
        rw [e2] at e; cases e
      | some qs =>
        have e : consO p (seqO (ds.map f)) = some ps := e
        rw [e2] at e
        cases e
        exact .cons (hf d v p q e1) (pydsY_ok hf t e2)
theorem pydY_ok (rs : RS K G S H) : ∀ (n : Nat) (d : D) (v : V) (p : PyData), RD K G H d v → pydX S n d = some p → DpY K H v p
  | 0, _, _, _, _, e => by cases e
  | n + 1, d, v, p, q, e => by
    cases q with
    | non => cases e; exact .non
    | bl b => cases e; exact .bl b
    | int b => cases e; exact .int b
    | str b => cases e; exact .str b
    | ty b => cases e
    | ob b => cases e
    | ex _ _ _ => cases e
    | dv _ _ _ _ => cases e
    | dm _ _ => cases e
    | ins _ _ => cases e
    | lam _ => cases e
    | cl _ => cases e
    | dc _ h => cases e; exact .dc h
    | sv _ _ => cases e
    | @tup a ds vs h t =>
      have e : (seqO (ds.map (pydX S n))).map PyData.tuple = some p := e
      cases e2 : seqO (ds.map (pydX S n)) with
      | none => rw [e2] at e; cases e
      | some qs =>
        rw [e2] at e; cases e
        exact .tup h.sq (pydsY_ok (pydY_ok rs n) t e2)
    | @lv a ds vs h t =>
      have e : (seqO (ds.map (pydX S n))).map PyData.list = some p := e
      cases e2 : seqO (ds.map (pydX S n)) with
      | none => rw [e2] at e; cases e
      | some qs =>
        rw [e2] at e; cases e
        exact .lst (.of h.2) (pydsY_ok (pydY_ok rs n) t e2)
    | @lst k a h =>
      have e : (match S[k]? with | some ds => (seqO (ds.map (pydX S n))).map PyData.list | none => none) = some p := e
      cases e1 : S[k]? with
      | none => rw [e1] at e; cases e
      | some ds =>
        rw [e1] at e
        obtain ⟨vs, e3, t⟩ := rs.at_ k a ds h e1
        have e : (seqO (ds.map (pydX S n))).map PyData.list = some p := e
        cases e2 : seqO (ds.map (pydX S n)) with
        | none => rw [e2] at e; cases e
        | some qs =>
          rw [e2] at e; cases e
          exact .lst (.of e3) (pydsY_ok (pydY_ok rs n) t e2)
end
def dReprY : RDn := fun ds S Q => match ds with | [d] => ∃ p, pydX S 8 d = some p ∧ ROkY p ∧ Q (.str (shw p)) S | _ => False
theorem dReprY_ok {K : PySem.W.Frag} : CallD K (rReprY K) dReprY := by
  refine ⟨fun ds S Q Q' k h => ?_, fun G S H ds vs Q rs rd h => ?_⟩
  · unfold dReprY at h ⊢
    split at h
    · obtain ⟨p, h1, h2, h3⟩ := h
      exact ⟨p, h1, h2, k _ _ h3⟩
    · exact h.elim
  · unfold dReprY at h
    split at h
    · obtain ⟨p, h1, h2, h3⟩ := h
      unfold shw at h3
      obtain ⟨v, rfl, q1⟩ := rd.one
      exact ⟨v, p, rfl, pydY_ok rs 8 _ _ _ q1 h1, h2, h3 G _ H (Ext.refl _ _) rs (.str _)⟩
    · exact h.elim
theorem de_reprY {X : Cx} {k : Nat} {a : Expr} {wa : WA} {p pos : Pos} (hr : Room k X.A) (hs : BmIn X.mg X.base) (hm : X.mg "repr" = none) (ha : DA X [a] wa) (hg : Gl X "repr" := by rfl) (he : starEach [a] X.env = (false, eval a X.env) :: starEach [] X.env := by rfl) (hpl : (backTo pos (starEach [] X.env)).any (·.1) = false := by rfl) :
    DE X (.Call (.Name "repr" p) [a] [] pos) (wCB dReprY wa) := de_callB (call_reprY hr (let ⟨o, _, _, e, _⟩ := hs.sm; ⟨o, e⟩)) dReprY_ok hm ha (by decide +kernel) hg (by decide) (by decide) he hpl

structure Sy (m b e : Nat) (d : D) : Prop where
  ex : ∃ q, (∀ S n, pydX S (n + m) d = some q) ∧ q.showable = true ∧ q.leavesShort 2000 = true ∧ q.bulk ≤ b ∧ q.depth ≤ e
structure Sys (m b e : Nat) (ds : List D) : Prop where
  ex : ∃ qs, (∀ S n, seqO (ds.map (pydX S (n + m))) = some qs) ∧ PyData.showableAll qs = true ∧ PyData.leavesShortAll 2000 qs = true ∧ PyData.bulkAll qs ≤ b ∧ PyData.depthAll qs ≤ e
theorem Sw.y {c : Bool} {m b e : Nat} {d : D} (h : Sw c m b e d) : Sy m b e d := by
  obtain ⟨q, h1, h2, h3, h4, h5, _⟩ := h
  exact ⟨q, h1, h2, h3, h4, h5⟩
theorem Sy.mono {m b e m' b' e' : Nat} {d : D} (h : Sy m b e d) (hm : m ≤ m') (hb : b ≤ b') (he : e ≤ e') : Sy m' b' e' d := by
  obtain ⟨q, h1, h2, h3, h4, h5⟩ := h
  refine ⟨q, fun S n => ?_, h2, h3, Nat.le_trans h4 hb, Nat.le_trans h5 he⟩
  rw [show n + m' = (n + (m' - m)) + m by omega]
  exact h1 S _
theorem Sys.nil {m : Nat} : Sys m 0 0 [] := ⟨[], fun S n => rfl, by rw [PyData.showableAll], by rw [PyData.leavesShortAll], by rw [PyData.bulkAll]; exact Nat.le_refl _, by rw [PyData.depthAll]; exact Nat.le_refl _⟩
theorem Sys.cons {m b e b' e' : Nat} {d : D} {ds : List D} (h : Sy m b e d) (t : Sys m b' e' ds) : Sys m (b + 1 + b') (max e e') (d :: ds) := by
  obtain ⟨q, h1, h2, h3, h4, h5⟩ := h
  obtain ⟨qs, t1, t2, t3, t4, t5⟩ := t
  refine ⟨q :: qs, fun S n => ?_, ?_, ?_, ?_, ?_⟩
  · show seqO (pydX S (n + m) d :: ds.map (pydX S (n + m))) = _
    rw [h1 S n]
    show consO q (seqO (ds.map (pydX S (n + m)))) = _
    rw [t1 S n]; rfl
  · rw [PyData.showableAll, h2, t2]; rfl
  · rw [PyData.leavesShortAll, h3, t3]; rfl
  · rw [PyData.bulkAll]; omega
  · rw [PyData.depthAll]; omega
theorem Sy.tup {m b e : Nat} {ds : List D} (h : Sys m b e ds) : Sy (m + 1) b (e + 1) (.tup ds) := by
  obtain ⟨qs, t1, t2, t3, t4, t5⟩ := h
  refine ⟨.tuple qs, fun S n => ?_, ?_, ?_, ?_, ?_⟩
  · show (seqO (ds.map (pydX S (n + m)))).map PyData.tuple = _
    rw [t1 S n]; rfl
  · rw [PyData.showable]; exact t2
  · rw [PyData.leavesShort]; exact t3
  · rw [PyData.bulk]; exact t4
  · rw [PyData.depth]; omega
theorem Sy.rok {m b e : Nat} {d : D} (h : Sy m b e d) (hm : m ≤ 8) (hb : b ≤ 8000) (he : e ≤ 60) : ∃ q, (∀ S, pydX S 8 d = some q) ∧ ROkY q := by
  obtain ⟨q, h1, h2, h3, h4, h5⟩ := h
  refine ⟨q, fun S => ?_, h2, h3, by omega, by omega⟩
  have := h1 S (8 - m)
  rw [show 8 - m + m = 8 by omega] at this
  exact this
end DD

namespace DD
open PySem PySem.Spec PyProof.Rows L2
theorem sIx_nat {i : Int} {n : Nat} (h0 : 0 ≤ i) (h : i.toNat < n) : seqIndex? i n = some i.toNat := by
  unfold seqIndex?
  simp
  omega
end DD

namespace DD
open PySem PySem.Spec PyProof.Rows L2
def spSaidC (K : PySem.W.Frag) (CS : Addr) (spw : L2.Sp) (fl : Addr) (spl : L2.Sp) : L2.Sp := fun vs H Q _ => vs = [.ref fl] ∧ spl [] H (fun v H1 => [v].length ≤ sizeLine ∧ ∀ p, H1 p = none → Q (.ref p) (upd H1 p (.lst [v]))) (fun cls _ H' => ∃ C, cls = .ref C ∧ PsiW K CS spw Q C H')
structure SaidTxtC (st : Stmt) (said call_ er word seat : Str) : Prop where
  ex : ∃ p2 p3 p4 p5 p6 p7 p8 p9 p10 p11 p12, defBody st = [.Try [.Return (some (.List [.Call (.Name call_ p2) [] [] p3] p4)) p5]
    [.ExceptHandler (some (.Name seat p6)) (some er) [.Return (some (.Call (.Name word p7) [.Name er p8] [] p9)) p10] p11] [] [] p12]
  sc : FnScope [call_, er] [call_] (defScope st)
  l0 : (defScope st).names.lookup call_ = some .local
  l1 : (defScope st).names.lookup er = some .local
  g1 : (defScope st).names.lookup seat = some .globalImplicit
  g2 : (defScope st).names.lookup word = some .globalImplicit
  d0 : (call_ == ("__debug__" : Str)) = false
  d1 : (er == ("__debug__" : Str)) = false
  d2 : (seat == ("__debug__" : Str)) = false
  d3 : (word == ("__debug__" : Str)) = false
  c0 : (call_ == ("__classdict__" : Str)) = false
  c1 : (er == ("__classdict__" : Str)) = false
section
variable {P : Program} {w : World} {K : PySem.W.Frag} {mg : Str → Option Value} {base : Heap} {said call_ er word seat qual : Str} {st : Stmt}
end
structure SaidIC (P : Program) (w : World) (K : PySem.W.Frag) (mg : Str → Option Value) (k : Nat) (x : Str) (wd : Str → Option Str) : Prop where
  ex : ∃ (f CS : Addr) (fd : FuncData) (call_ : Str), mg x = some (.ref f) ∧ PySem.W.keepIn K (.ref f) = true ∧ Binds K fd [call_] [] ∧ (∀ y C wx, wd y = some wx → ClsAt K y C → PySem.W.exmOne K (.ref C) (.ref CS) = some true) ∧
    ∀ base, ModB K mg base → ∀ (fl : Addr) (fdl : FuncData) (spl : L2.Sp), FnOk P w K mg base (CXE P w) k fl fdl [] spl → (∃ ob fd, base.get? fl = some ob ∧ ob.data = .func fd) → Binds K fdl [] [] → FnOk P w K mg base (CXE P w) (k + 1) f fd [call_] (spSaidC K CS (spD K (gWordS wd)) fl spl)
section
variable {X : Cx} {params : Arguments} {body : Expr} {scope : Scope} {lpos p pos : Pos} {x q : Str} {c Pt : Addr} {k : Nat} {wd : Str → Option Str} {we : WE}
end
section
variable {P : Program} {w : World} {K : PySem.W.Frag} {mg : Str → Option Value} {base : Heap} {said call_ er word seat qual : Str} {st : Stmt}
end
end DD

namespace DD
open PySem PySem.Spec PyProof.Rows L2

def obO (ob : Obj) (f : Addr) : HO := .ext fun h => h.get? f = some ob
def hid (H : Hp) (f : Addr) : Hp := fun a => if a = f then none else H a
theorem hid_same {H : Hp} {f : Addr} : hid H f f = none := by unfold hid; rw [if_pos rfl]
theorem hid_ne {H : Hp} {f a : Addr} (h : a ≠ f) : hid H f a = H a := by unfold hid; rw [if_neg h]
theorem hid_none {H : Hp} {f a : Addr} (h : H a = none) : hid H f a = none := by unfold hid; split <;> first | rfl | exact h
theorem hid_upd {H : Hp} {f p : Addr} {o u : HO} (hf : H f = none) (hp : p ≠ f) : hid (upd (upd H f o) p u) f = upd H p u := by
  funext a
  by_cases e : a = f
  · subst e; rw [hid_same, upd_ne (Ne.symm hp), hf]
  · rw [hid_ne e]
    by_cases e2 : a = p
    · subst e2; rw [upd_same, upd_same]
    · rw [upd_ne e2, upd_ne e, upd_ne e2]
section
variable {X : Cx} {pins : List (Addr × Obj)} {σ : L2.St} {H : Hp} {s : Shared} {f : Addr} {ob : Obj}

theorem inv_track (I : L2.Inv X pins σ H s) (hf : s.heap.get? f = some ob) (hn : H f = none) (h0 : X.s_0.heap.objs.size ≤ f) (hl : f ≠ X.env.locals) (hc : ∀ x c, X.env.cells.lookup x = some c → c ≠ f) (hp : ∀ p ∈ X.pn ++ pins, p.1 ≠ f) : L2.Inv X pins σ (upd H f (obO ob f)) s := by
  refine ⟨I.ok, I.os, I.bare, ⟨I.base.keep, I.base.slot, fun b o e n hx => ?_, I.base.there, fun b xs e => ?_, fun b o u e => ?_, fun b ps e => ?_⟩, I.loc, I.cell, ?_, fun x c e => ?_, fun p hp2 => ?_, fun a o e => ?_, I.len⟩
  · rw [upd_ne (fun z => Nat.lt_irrefl _ (Nat.lt_of_lt_of_le (Heap.lt_size e) (by rw [z]; exact h0)))]
    exact I.base.free b o e n hx
  · have := I.base.tups b xs e
    rw [upd_ne (ne_of_none this hn)]; exact this
  · have := I.base.frzs b o u e
    rw [upd_ne (ne_of_none this hn)]; exact this
  · obtain ⟨m, e2⟩ := I.base.tbls b ps e
    exact ⟨m, by rw [upd_ne (ne_of_none e2 hn)]; exact e2⟩
  · rw [upd_ne (Ne.symm hl)]; exact I.free
  · rw [upd_ne (hc x c e)]; exact I.freeC x c e
  · obtain ⟨h1, h2, h3⟩ := I.pin p hp2
    exact ⟨h1, by rw [upd_ne (hp p hp2)]; exact h2, h3⟩
  · by_cases z : a = f
    · subst z
      rw [upd_same] at e
      cases e
      exact ⟨hf, ⟨_, hf⟩, fun h1 h2 p k => k _ p⟩
    · rw [upd_ne z] at e
      exact (I.hok a o e).stay (fun _ _ _ q => q) (fun b q => by rw [upd_ne (ne_of_none q hn)]; exact q) (fun b xs q => by rw [upd_ne (ne_of_none q hn)]; exact q)
theorem fs_free (I : L2.Inv X pins σ H s) : ∀ b ∈ X.fs, H b = none := fun b hb => I.stkFree b (by
  rcases I.ok.stk with e | ⟨e, _⟩
  · rw [e]; exact hb
  · rw [e]
    unfold frs
    rw [List.filterMap_cons]
    split
    · exact hb
    · exact List.mem_cons_of_mem _ hb)

theorem inv_hide (I : L2.Inv X pins σ H s) (hf : H f = some (obO ob f)) (hd : ∀ v, ob.data ≠ .cell v) : L2.Inv (X.pinned [(f, ob)] X.xe) pins σ (hid H f) s := by
  have ne : ∀ {b : Addr} {o : HO}, H b = some o → o ≠ obO ob f → b ≠ f := fun {b o} e n z => n (by rw [z, hf] at e; exact (Option.some.inj e).symm)
  have nn : ∀ {b : Addr}, H b = none → b ≠ f := fun {b} e z => by rw [z, hf] at e; cases e
  refine ⟨I.ok.pinned, I.os, I.bare, ⟨I.base.keep, I.base.slot, fun b o e n hx => hid_none (I.base.free b o e n hx), I.base.there, fun b xs e => ?_, fun b o u e => ?_, fun b ps e => ?_⟩, I.loc, I.cell, hid_none I.free, fun x c e => hid_none (I.freeC x c e), fun p hp => ?_, fun a o e => ?_, I.len⟩
  · have := I.base.tups b xs e
    rw [hid_ne (ne this (fun z => nomatch z))]; exact this
  · have := I.base.frzs b o u e
    rw [hid_ne (ne this (fun z => nomatch z))]; exact this
  · obtain ⟨m, e2⟩ := I.base.tbls b ps e
    exact ⟨m, by rw [hid_ne (ne e2 (fun z => nomatch z))]; exact e2⟩
  · have old : ∀ p ∈ X.pn ++ pins, s.heap.get? p.1 = some p.2 ∧ hid H f p.1 = none ∧ p.1 ≠ X.env.locals ∧ p.1 ∉ X.fs ∧ ∀ v, p.2.data ≠ .cell v := fun p hp => by
      obtain ⟨h1, h2, h3⟩ := I.pin p hp
      exact ⟨h1, hid_none h2, h3⟩
    have hp : p ∈ (X.pn ++ [(f, ob)]) ++ pins := hp
    rcases List.mem_append.mp hp with z | z
    · rcases List.mem_append.mp z with z | z
      · exact old p (List.mem_append_left _ z)
      · rw [List.mem_singleton.mp z]
        exact ⟨(I.hok f _ hf).1, hid_same, fun z => nn I.free z.symm, fun z => nn (fs_free I f z) rfl, hd⟩
    · exact old p (List.mem_append_right _ z)
  · by_cases z : a = f
    · rw [z, hid_same] at e; cases e
    · rw [hid_ne z] at e
      exact (I.hok a o e).stay (fun _ _ _ q => q) (fun b q => by rw [hid_ne (ne q (fun z => nomatch z))]; exact q) (fun b xs q => by rw [hid_ne (ne q (fun z => nomatch z))]; exact q)
theorem pss_pin {ι : Type} {fo : ι → Addr × Obj} (hd : ∀ i v, (fo i).2.data ≠ .cell v) {st : Stmt} {rest : List Stmt} {t1 : TS} {t2 : ι → TS} (h1 : PS X st t1) (h2 : ∀ i, PSs (X.pinned [fo i] X.xe) rest (t2 i)) :
    PSs X (st :: rest) (fun D σ H => t1 { D with nx := fun σ' H' => ∃ i, H' (fo i).1 = some (obO (fo i).2 (fo i).1) ∧ t2 i D σ' (hid H' (fo i).1) } σ H) := by
  intro pins s σ H D I h
  have un : ∀ {i} f s1, SP (X.pinned [fo i] X.xe) pins D f s1 → SP X pins D f s1 := fun {i} f s1 h => by
    have k : ∀ {σ' H'}, L2.Inv (X.pinned [fo i] X.xe) pins σ' H' s1 → L2.Inv X pins σ' H' s1 := fun {σ' H'} J =>
      ⟨J.ok.unpin, J.os, J.bare, J.base, J.loc, J.cell, J.free, J.freeC, fun p hp => J.pin p (by
        show p ∈ (X.pn ++ [fo i]) ++ pins
        rcases List.mem_append.mp hp with z | z
        · exact List.mem_append_left _ (List.mem_append_left _ z)
        · exact List.mem_append_right _ z), J.hok, J.len⟩
    cases f with
    | next => obtain ⟨σ', H', J, q⟩ := h; exact ⟨σ', H', k J, q⟩
    | brk => obtain ⟨σ', H', J, q⟩ := h; exact ⟨σ', H', k J, q⟩
    | cont => obtain ⟨σ', H', J, q⟩ := h; exact ⟨σ', H', k J, q⟩
    | ret u => obtain ⟨v, σ', H', J, r, q⟩ := h; exact ⟨v, σ', H', k J, r, q⟩
  refine wpAny_execs_cons (thn (h1 pins s σ H _ I h) fun f s1 q => ?_)
  cases f with
  | next =>
    obtain ⟨σ', H', I', i, hf, q⟩ := q
    exact thn (h2 i pins s1 σ' _ D (inv_hide I' hf (hd i)) q) un
  | ret v => exact q
  | brk => exact q
  | cont => exact q
end

structure LamF (P : Addr) (q : Str) (H H1 : Hp) (f c : Addr) : Prop where
  tab : TabOk H1 (P, q)
  keep : ∀ a u, H a = some u → a ≠ P → H1 a = some u
  tr : ∀ a, H1 a = none → H a = none
  ffree : H1 f = none
  code : H1 c = some (cdO q c)

def lamOb (q : Str) (params : Arguments) (body : Expr) (scope : Scope) (cells : List (Str × Addr)) (c : Addr) (pm ctv : Value) : Obj := PySem.W.kla_obj "<lambda>" q params body scope (cloFrom cells scope.names []) pm c ctv
def tLamX (X : Cx) (P : Addr) (q : Str) (params : Arguments) (body : Expr) (scope : Scope) : TE := fun _ H Q => TabOk H (P, q) ∧ ∀ f c pm ctv H1, LamF P q H H1 f c → Q (.ref f) (upd H1 f (obO (lamOb q params body scope X.env.cells c pm ctv) f))
section
variable {X : Cx} {params : Arguments} {body : Expr} {scope : Scope} {lpos : Pos} {q : Str} {c Pt : Addr}
theorem pe_lam (hcode : X.env.code = .ref c) (hcd : PySem.W.codeHdIn X.K c Pt = true) (hbm : BmIn X.mg X.base) (hsc : LamSc X.env.scope scope) (hq : X.env.qual ++ "<lambda>" = q) (hdef : defaultsOf params X.env = ([], [])) : PE X (.Lambda params body scope lpos) (tLamX X Pt q params body scope) := by
  intro pins s σ H Q I ⟨tb, h⟩
  have hfree : ∀ y ∈ scope.names, y.2 = .free → X.env.kindOf y.1 = some .cell ∨ X.env.kindOf y.1 = some .free := fun y hy e => .inl (hsc.free y hy e)
  refine lam_make I hq hcode hcd hbm hdef hfree tb fun f c' pm ctv H1 s1 I1 la => ?_
  have lt : ∀ {b : Addr} {o : Obj}, s.heap.get? b = some o → b ≠ f := fun {b o} e z => Nat.lt_irrefl _ (Nat.lt_of_lt_of_le (Heap.lt_size e) (by rw [z]; exact la.fnew))
  refine ⟨.ref f, _, inv_track I1 la.fat la.ffree (Nat.le_trans I.sz la.fnew) (fun z => Nat.lt_irrefl _ (Nat.lt_of_lt_of_le I.lt (by rw [← z]; exact la.fnew))) (fun y d e => ?_) (fun p hp => lt (I.pin p hp).1), rfl, h f c' pm ctv H1 ⟨la.tab, la.keep, la.tr, la.ffree, la.code⟩⟩
  obtain ⟨v, o, e1, _⟩ := I.cell y d e
  exact lt e1
end
theorem xok_pin {X : Cx} {ps : List (Addr × Obj)} {C : Addr} {H' : Hp} (h : XOk X C H') : XOk (X.pinned ps X.xe) C H' := by
  have k : ∀ {pins σ H s}, L2.Inv (X.pinned ps X.xe) pins σ H s → L2.Inv X pins σ H s := fun {pins σ H s} J =>
    ⟨J.ok.unpin, J.os, J.bare, J.base, J.loc, J.cell, J.free, J.freeC, fun p hp => J.pin p (by
      show p ∈ (X.pn ++ ps) ++ pins
      rcases List.mem_append.mp hp with z | z
      · exact List.mem_append_left _ (List.mem_append_left _ z)
      · exact List.mem_append_right _ z), J.hok, J.len⟩
  exact ⟨fun pins σ H s ea s' I l => h.pass _ _ _ _ _ _ (k I) l, fun pins σ s ea h' args I m => h.made _ _ _ _ _ _ (k I) m⟩
section
variable {X : Cx} {ps : List (Addr × Obj)} {E : XD} {G G1 : Gx} {H H1 : Hp} {r : Rho} {sg : L2.St} {Dn : Ends}
theorem OutX.pin (h : OutX X E G H) : OutX (X.pinned ps X.xe) E G H := ⟨fun x C S' G' H' y rs c e => xok_pin (h.ex x C S' G' H' y rs c e), h.tb⟩
theorem RE.pin (h : RE X E G H r sg) : RE (X.pinned ps X.xe) E G H r sg := ⟨h.len, h.at_, h.out.pin⟩
theorem OutS.pin (x : Ext G H G1 H1) (o : OutX X E G H) : LeS (OutS X E G H Dn) (OutS (X.pinned ps X.xe) E G1 H1 Dn) :=
  have k : ∀ {Q : L2.St → Hp → Prop} {r S}, OutR X E G H Q r S → OutR (X.pinned ps X.xe) E G1 H1 Q r S := fun q G' sg' H' y rs' re' => q G' sg' H' (x.trans y) rs' ⟨re'.len, re'.at_, o.of (x.trans y)⟩
  ⟨fun _ _ q => k q, fun _ _ q => OutE.of x q, fun _ _ q => k q, fun _ _ q => k q⟩
end
section
variable {K : PySem.W.Frag} {G : Gx} {S : Sto} {H H1 : Hp} {P : Addr} {q : Str} {f c : Addr}

theorem LamF.ext (la : LamF P q H H1 f c) (rs : RS K G S H) (hT : (P, q) ∈ G.T) : Ext G H G H1 :=
  ⟨⟨[], by simp⟩, fun _ z => z, fun a o e _ nt => la.keep a o e fun z => nt (by rw [z]; exact List.mem_map_of_mem hT), la.tr, fun _ z => .inl z, fun _ z => .inl z, rfl, fun _ _ => rfl, fun a o u e => la.keep a _ e fun z => by
    obtain ⟨ps2, w1, _⟩ := rs.tb _ hT
    have w1 : H P = some (.tbl ps2) := w1
    rw [z, w1] at e
    cases e⟩
theorem LamF.rs (la : LamF P q H H1 f c) (rs : RS K G S H) (hT : (P, q) ∈ G.T) : RS K G S H1 := by
  have go1 := rs.go (la.ext rs hT)
  refine ⟨rs.len, rs.nd, rs.dj, fun a f => let ⟨o, e⟩ := rs.tf a f; ⟨o, go1.h a o f e⟩, rs.mt, rs.ft, fun p' hp' => ?_, rs.tu, fun k a ds e1 e2 => ?_, rs.jn⟩
  · by_cases e : p'.1 = P
    · rw [rs.tu p' (P, q) hp' hT e]; exact la.tab
    · obtain ⟨ps, e1, e2, e3⟩ := rs.tb p' hp'
      refine ⟨ps, la.keep _ _ e1 e, e2, fun pos cv z => ?_⟩
      obtain ⟨c2, z1, z2⟩ := e3 pos cv z
      refine ⟨c2, z1, la.keep _ _ z2 fun z3 => ?_⟩
      obtain ⟨ps2, w1, _⟩ := rs.tb _ hT
      rw [z3] at z2
      have w1 : H P = some (.tbl ps2) := w1
      rw [w1] at z2
      cases z2
  · exact (rs.ot k a ds e1 e2).stay go1 (fun u e3 => la.keep _ _ e3 fun z => rs.mt a (List.mem_of_getElem? e1) (by rw [z]; exact List.mem_map_of_mem hT)) fun d e3 => la.keep _ _ e3 fun z => by
      obtain ⟨ps2, w1, _⟩ := rs.tb _ hT
      have w1 : H P = some (.tbl ps2) := w1
      rw [z, w1] at e3
      cases e3
end
end DD

namespace DD
open PySem PySem.Spec PyProof.Rows L2
abbrev LamIx := Addr × Addr × Value × Value

@[irreducible] def wLamSet (p : Addr × Str) (i : Nat) (wr : Addr → Addr → WS) : WS := fun E Dn r S => p ∈ E.tb ∧ ∀ f c, wr f c E Dn (r.set i (some (.lst S.length))) (S ++ [[.lam f c p.2]])

@[irreducible] def wLamApp (p : Addr × Str) (i : Nat) (wr : Addr → Addr → WS) : WS := fun E Dn r S => p ∈ E.tb ∧ ∃ k ds, r.getD i none = some (.lst k) ∧ S[k]? = some ds ∧ ds.length < 1000 ∧ ∀ f c, wr f c E Dn r (S.set k (ds ++ [.lam f c p.2]))
section
variable {X : Cx} {params : Arguments} {body : Expr} {scope : Scope} {lpos p1 p2 p3 pos : Pos} {q x : Str} {c Pt : Addr} {rest : List Stmt} {wr : Addr → Addr → WS}
theorem dss_lamSet (i : Nat) (hN : X.N.Nodup) (hcode : X.env.code = .ref c) (hcd : PySem.W.codeHdIn X.K c Pt = true) (hbm : BmIn X.mg X.base) (hsc : LamSc X.env.scope scope)
    (h2 : ∀ f c pm ctv, DSs (X.pinned [(f, lamOb q params body scope X.env.cells c pm ctv)] X.xe) rest (wr f c))
    (hq : X.env.qual ++ "<lambda>" = q := by rfl) (hdef : defaultsOf params X.env = ([], []) := by rfl) (hi : X.N[i]? = some x := by rfl) (hx : Loc X.env.scope x := by first | exact Or.inl rfl | exact Or.inr rfl)
    (hs : swapsWith (.List [.Lambda params body scope lpos] p2) (some (.Name x p1)) pos.line X.env = pure false := by rfl) (hf : X.fn x = true ∨ X.env.scope.names.lookup x = some .local := by first | exact .inl rfl | exact .inr rfl | assumption)
    (hst : starEach (.Lambda params body scope lpos :: []) X.env = (false, eval (.Lambda params body scope lpos) X.env) :: starEach [] X.env := by rfl) :
    DSs X (.Assign [.Name x p1] (.List [.Lambda params body scope lpos] p2) pos :: rest) (wLamSet (Pt, q) i wr) := by
  refine ⟨fun E A B r S k h => ?_, fun E => PSs.wk (pss_pin (ι := LamIx) (fo := fun z => (z.1, lamOb q params body scope X.env.cells z.2.1 z.2.2.1 z.2.2.2)) (fun _ _ z => nomatch z) (ps_set hN hi hx (pe_lst (pa_cons (pe_lam hcode hcd hbm hsc hq hdef) pa_nil hst)) hs hf) (fun z => (h2 z.1 z.2.1 z.2.2.1 z.2.2.2).pe E)) fun Dn sg H h => ?_⟩
  · unfold wLamSet at h ⊢
    exact ⟨h.1, fun f c => (h2 f c .none .none).mo _ _ _ _ _ k (h.2 f c)⟩
  · obtain ⟨G, S, r, rs, re, h⟩ := h
    unfold wLamSet at h
    obtain ⟨hp, h⟩ := h
    have hT := re.out.tb _ hp
    refine ⟨rs.tb _ hT, fun f c pm ctv H1 la => ⟨by show 1 ≤ sizeLine; decide, fun p hpn => ?_⟩⟩
    have nf : p ≠ f := fun z => by rw [z, upd_same] at hpn; cases hpn
    rw [upd_ne nf] at hpn
    refine ⟨(f, c, pm, ctv), ?_, ?_⟩
    · show upd (upd H1 f _) p _ f = _
      rw [upd_ne (Ne.symm nf), upd_same]
    · show tDS _ (wr f c) E Dn _ (hid _ f)
      rw [hid_upd la.ffree nf]
      have x1 := la.ext rs hT
      have rs1 := la.rs rs hT
      have x2 : Ext G H (G.addM p) (upd H1 p (.lst [.ref f])) := x1.trans (ext_newM hpn)
      have rs2 := rs_newM (ds := [.lam f c q]) (vs := [.ref f]) rs1 hpn (.cons (.lam la.code) .nil)
      exact ⟨_, _, _, rs2, ((re.ext rs x2).set (.lst rs1.ls_new) i).pin, (h2 f c pm ctv).mo _ _ _ _ _ (OutS.pin x2 re.out) (h f c)⟩
theorem dss_lamApp (i : Nat) (hcode : X.env.code = .ref c) (hcd : PySem.W.codeHdIn X.K c Pt = true) (hbm : BmIn X.mg X.base) (hsc : LamSc X.env.scope scope)
    (h2 : ∀ f c pm ctv, DSs (X.pinned [(f, lamOb q params body scope X.env.cells c pm ctv)] X.xe) rest (wr f c))
    (hq : X.env.qual ++ "<lambda>" = q := by rfl) (hdef : defaultsOf params X.env = ([], []) := by rfl) (hi : X.N[i]? = some x := by rfl) (hv : Vis X.env.scope x := by first | exact Or.inl rfl | exact Or.inr (Or.inl rfl) | exact Or.inr (Or.inr rfl))
    (hs : swapsWith (.Call (.Attribute (.Name x p1) "append" p2) [.Lambda params body scope lpos] [] p3) none pos.line X.env = pure false := by rfl) (hd : (x == ("__debug__" : Str)) = false := by decide) (hcc : (x == ("__classdict__" : Str)) = false := by decide)
    (hbase : attributeBase (.Name x p1) "append" X.env (eval (.Name x p1) X.env) = eval (.Name x p1) X.env := by rfl)
    (hfew : ((backTo p3 (starEach (.Lambda params body scope lpos :: []) X.env)).all (fun x => !x.1) && (backToKw p3 (keywordEach [] X.env)).all (fun x => x.1.isSome)
      && decide ((Expr.Lambda params body scope lpos :: []).length + ([] : List Keyword).length + (if ([] : List Keyword).isEmpty then 0 else 1) < 30)) = true := by rfl)
    (hline : (p2.endLine == p3.line) = true := by rfl)
    (hst : starEach (.Lambda params body scope lpos :: []) X.env = (false, eval (.Lambda params body scope lpos) X.env) :: starEach [] X.env := by rfl) (hplain : (backTo p3 (starEach [] X.env)).any (·.1) = false := by rfl) :
    DSs X (.Expr (.Call (.Attribute (.Name x p1) "append" p2) [.Lambda params body scope lpos] [] p3) pos :: rest) (wLamApp (Pt, q) i wr) := by
  refine ⟨fun E A B r S k h => ?_, fun E => PSs.wk (pss_pin (ι := LamIx) (fo := fun z => (z.1, lamOb q params body scope X.env.cells z.2.1 z.2.2.1 z.2.2.2)) (fun _ _ z => nomatch z)
    (ps_expr (pe_bm PySem.F.plainAttrs_list PySem.F.slot_list_append PySem.F.type_list_append mt_append (pe_var hi hv hd hcc) (pa_cons (pe_lam hcode hcd hbm hsc hq hdef) pa_nil hst) hbase hfew hline hst hplain) hs) (fun z => (h2 z.1 z.2.1 z.2.2.1 z.2.2.2).pe E)) fun Dn sg H h => ?_⟩
  · unfold wLamApp at h ⊢
    obtain ⟨hp, kk, ds, e1, e2, hl, h⟩ := h
    exact ⟨hp, kk, ds, e1, e2, hl, fun f c => (h2 f c .none .none).mo _ _ _ _ _ k (h f c)⟩
  · obtain ⟨G, S, r, rs, re, h⟩ := h
    unfold wLamApp at h
    obtain ⟨hp, kk, ds, e1, e2, hl, h⟩ := h
    have hT := re.out.tb _ hp
    obtain ⟨v, ev, rd⟩ := re.at_ i _ (getD_some e1)
    cases rd with
    | @lst _ a hk =>
      obtain ⟨vs, ha, rds⟩ := rs.at_ kk a ds hk e2
      refine ⟨.ref a, ev, .inl ⟨rfl, vs, .of ha⟩, rs.tb _ hT, fun f c pm ctv H1 la => ?_⟩
      have hm : a ∈ G.M := List.mem_of_getElem? hk.1
      have haP : a ≠ Pt := fun z => rs.mt a hm (by rw [z]; exact List.mem_map_of_mem hT)
      have ha1 := la.keep a _ ha haP
      have nf : a ≠ f := fun z => by rw [z, la.ffree] at ha1; cases ha1
      refine ⟨a, vs, .ref f, rfl, rfl, by rw [upd_ne nf]; exact ha1, by rw [← rds.length]; exact small1000 (Nat.le_of_lt hl), (f, c, pm, ctv), ?_, ?_⟩
      · show upd (upd H1 f _) a _ f = _
        rw [upd_ne (Ne.symm nf), upd_same]
      · show tDS _ (wr f c) E Dn _ (hid _ f)
        rw [hid_upd la.ffree nf]
        have x1 := la.ext rs hT
        have rs1 := la.rs rs hT
        have x2 : Ext G H G (upd H1 a (.lst (vs ++ [.ref f]))) := x1.trans (ext_write hm ⟨_, ha1, fun _ _ z => nomatch z⟩)
        have rs2 := rs_write (ds := ds ++ [.lam f c q]) (vs := vs ++ [.ref f]) rs1 hk ((rds.go (rs.go x1)).append (.cons (.lam la.code) .nil))
        exact ⟨_, _, _, rs2, (re.ext rs x2).pin, (h2 f c pm ctv).mo _ _ _ _ _ (OutS.pin x2 re.out) (h f c)⟩
end
end DD

namespace L2
open PySem PySem.Spec PyProof.Rows
section
variable {X : Cx}
theorem lck_core {pins : List (Addr × Obj)} {s : Shared} {σ : St} {H : Hp} {Q : VK} {elt tg iter : Expr} {ifs : List Expr} {scope : Scope} {own : List (Str × Nat)} {pos pos' : Pos} {wi : TI} {g : TG} {tt : TT} {te : TE} {use : Option (Value → Sem Unit)} {Qf : Value → Shared → Prop}
    (hc : X.calm = true) (hN : X.N.Nodup) (I : Inv X pins σ H s) (hi : PI X tg iter wi) (ok : BlkOk X.N X.env.scope scope own)
    (hg : ∀ (s : Shared) (H : Hp) (C : Addr) (cl : List (Str × Addr)) (fp : List Addr), PG (X.blk s H scope (compEnvC scope cl C X.env) fp) tg g) (ht : ∀ (s : Shared) (H : Hp) (C : Addr) (cl : List (Str × Addr)) (fp : List Addr), PTs (X.blk s H scope (compEnvC scope cl C X.env) fp) ifs tt)
    (he : ∀ (s : Shared) (H : Hp) (C : Addr) (cl : List (Str × Addr)) (fp : List Addr), Inv X pins σ H s → (∀ b ∈ fp, FpOk X pins H b ∧ b < s.heap.objs.size) → PE (X.blk s H scope (compEnvC scope cl C X.env) fp) elt (fun σ8 H8 Q8 => wipe σ8 (own.map (·.2)) = wipe σ (own.map (·.2)) ∧ te σ8 H8 Q8)) (hs : ∀ x, foldedSetIterable iter X.env x = pure x)
    (h : tLc wi g tt te (own.map (·.2)) σ H Q)
    (hRR : ∀ D C s' m H', Inv X pins σ H' s' → Q (.ref D) H' → s'.heap.Ns C m → FpOk X pins H' C → compPost (model X.prog X.w) X.A X.xe use Qf (.ref D) C (.ok .next) s') :
    wpAny (model X.prog X.w) X.A (comprehension (.ListComp elt [⟨tg, iter, ifs, 0⟩] scope pos) scope X.env pos' (newList []) false (eval iter X.env) use) Qf X.xe s := by
  have hfree : ∀ y ∈ scope.names, y.2 = .free → ∃ c, X.env.cells.lookup y.1 = some c := fun y hy e => by
    rcases ok.free y hy e with k | k
    · exact I.ok.has _ (.inl k)
    · exact I.ok.has _ (.inr k)
  refine wpAny_comprehension_free (use := use) rfl hs (closure_ok hfree) ok.kind (fun y hy e => by rw [ok.uniq y hy, e])
    (thn (hi pins s σ H _ I h) fun xv s1 hx => thn hx fun itv s2 h2 => ?_)
  obtain ⟨it, fp, tn, J, H2, e, I2, T, st2, f2, q⟩ := h2
  subst e
  refine wpAny_newObj_type (newEnv_comp ?_) (by show 0 ≤ sizeLine; decide)
  generalize hD : s2.heap.objs.size = D
  have hDn : H2 D = none := I2.hok.fresh (Nat.le_of_eq hD)
  obtain ⟨W, ⟨m0, w0⟩, turn⟩ := q D hDn
  generalize hs3 : ({ s2 with heap := s2.heap.push { cls := .type "list", data := .seq ([] : List Value).toArray } } : Shared) = s3
  have I3 : Inv X pins σ (upd H2 D (.lst [])) s3 := by
    rw [← hs3]
    refine I2.laid (t' := s2.toks) (fun b o e => Heap.get?_push_of_some _ e) (Nat.le_of_eq hD) ⟨Nat.zero_le _, [], 0, .nil, ?_⟩
    rw [← hD]
    exact Heap.get?_push_size _ rfl
  have h3 : s3.heap = s2.heap.push { cls := .type "list", data := .seq ([] : List Value).toArray } := by rw [← hs3]
  have sz : ∀ b ∈ fp, b < s2.heap.objs.size := fun b hb => by
    obtain ⟨o, e, _⟩ := T.obj _ _ st2 b hb
    exact Heap.lt_size e
  have f3 : ∀ b ∈ fp, FpOk X pins (upd H2 D (.lst [])) b ∧ b < s3.heap.objs.size := fun b hb => by
    have hlt := sz b hb
    refine ⟨⟨?_, (f2 b hb).2⟩, by rw [h3, Heap.size_push]; exact Nat.lt_succ_of_lt hlt⟩
    rw [upd_ne (by rw [← hD]; exact Nat.ne_of_lt hlt)]
    exact (f2 b hb).1
  have st3 : tn 0 s3.heap := T.keep _ _ _ st2 fun b _ o e => by rw [h3]; exact Heap.get?_push_of_some _ e
  have I4 := block_start I3 ok hN f3
  have pg := hg s3 (upd H2 D (.lst [])) s3.heap.objs.size (cellsFrom (s3.heap.objs.size + 1) scope.names (cloFrom X.env.cells scope.names [])) fp
  have pt := ht s3 (upd H2 D (.lst [])) s3.heap.objs.size (cellsFrom (s3.heap.objs.size + 1) scope.names (cloFrom X.env.cells scope.names [])) fp
  have pe := he s3 (upd H2 D (.lst [])) s3.heap.objs.size (cellsFrom (s3.heap.objs.size + 1) scope.names (cloFrom X.env.cells scope.names [])) fp I3 f3
  show codeAny _ _ (.compStart (.ListComp elt [⟨tg, iter, ifs, 0⟩] scope pos) 0 (.ref it) (.ref D) (compEnvC scope (cellsFrom (s3.heap.objs.size + 1) scope.names (cloFrom X.env.cells scope.names [])) s3.heap.objs.size X.env)) (compPost (model X.prog X.w) X.A X.xe use Qf (.ref D) s3.heap.objs.size) { s3 with heap := pushCells (s3.heap.push { cls := .type "dict", data := .dict #[] }) scope.names }
  have nfp : ∀ b ∈ fp, (upd H2 D (.lst [])) b = none := fun b hb => (f3 b hb).1.1
  generalize hce : compEnvC scope (cellsFrom (s3.heap.objs.size + 1) scope.names (cloFrom X.env.cells scope.names [])) s3.heap.objs.size X.env = ce at I4 pg pt pe ⊢
  have cL : ce.locals = s3.heap.objs.size := by subst hce; rfl
  generalize hH3 : upd H2 D (.lst []) = H3 at I3 I4 pg pt pe w0 nfp f3
  generalize hs4 : ({ s3 with heap := pushCells (s3.heap.push { cls := .type "dict", data := .dict #[] }) scope.names } : Shared) = s4 at I4 ⊢
  have st4 : tn 0 s4.heap := T.keep _ _ _ st3 fun b _ o e => by rw [← hs4]; exact pushCells_keeps _ _ _ _ (Heap.get?_push_of_some _ e)
  have stat : ∀ {σ' : St} {H' : Hp} {s' : Shared}, Inv (X.blk s3 H3 scope ce fp) [] σ' H' s' → (∀ b ∈ fp, H' b = none) → ∀ b ∈ fp, FpOk (X.blk s3 H3 scope ce fp) [] H' b := fun {σ' H' s'} I' hn b hb =>
    ⟨hn b hb, (I'.ok.exf b hb).1, I'.ok.exfs b hb, .inl hb, fun x c e => (I'.ok.exf b hb).2 x c e, fun p hp => absurd (show p ∈ ([] : List (Addr × Obj)) ++ [] from hp) (by simp)⟩
  have loop : codeAny (model X.prog X.w) X.A (.compLoop (.ListComp elt [⟨tg, iter, ifs, 0⟩] scope pos) 0 (.ref it) (.ref D) ce) (compPost (model X.prog X.w) X.A X.xe use Qf (.ref D) s3.heap.objs.size) s4 := by
    refine compLoop_any (fun n s' => ∃ i H', Inv (X.blk s3 H3 scope ce fp) [] (wipe σ (own.map (·.2))) H' s' ∧ tn i s'.heap ∧ (∀ b ∈ fp, H' b = none) ∧ W i n H') ?_ m0 ⟨0, H3, I4, st4, nfp, w0⟩
    rintro n s5 ⟨i, H5, I5, st5, n5, w5⟩
    rcases turn i n H5 w5 with ⟨stop, qq⟩ | ⟨go, Nx, hNx, step⟩
    · have td := T.done (X.blk s3 H3 scope ce fp) rfl rfl rfl hc i [] s5 _ H5 (fun _ _ => False) I5 (stat I5 n5) st5 stop
      refine thnF td fun r s6 ⟨hr, I6⟩ => ?_
      subst hr
      have I7 : Inv X pins σ H5 s6 := I3.call' (ch := fp) I6.os I6.base I6.hok I6.bare fun b hb => ⟨(f3 b hb).1.2.2.2.1, (f3 b hb).1.2.1, (f3 b hb).1.2.2.2.2.1, (f3 b hb).1.2.2.2.2.2⟩
      have nC : H5 s3.heap.objs.size = none := by
        have z : H5 ce.locals = none := I6.free
        rw [cL] at z
        exact z
      obtain ⟨m, hn, _⟩ := I6.loc
      have hn : s6.heap.Ns ce.locals m := hn
      rw [cL] at hn
      exact hRR D s3.heap.objs.size s6 m H5 I7 qq hn (I3.fpOk (Nat.le_refl _) nC)
    · have ti := T.item (X.blk s3 H3 scope ce fp) rfl rfl rfl hc i [] s5 _ H5 (fun _ _ => False) I5 (stat I5 n5) st5 go
      refine thnF ti fun r s6 ⟨u, hr, h6⟩ => ?_
      subst hr
      refine thnF h6 fun _ s7 ⟨x, H7, I7, r7, y7, st7, n7⟩ => ?_
      have I7' := I7.pinned (stat I7 n7) (T.obj _ _ st7)
      refine thnF (pg _ s7 _ H7 x u _ I7' r7 (step x H7 y7)) fun _ s8 ⟨σ8, H8, I8, hw8, q8⟩ => ?_
      refine thnF (pt _ s8 σ8 H8 _ I8 q8) fun b s9 ⟨H9, I9, q9⟩ => ?_
      have fin : ∀ {s' : Shared} {H' : Hp}, Inv (X.blk s3 H3 scope ce fp) ([] ++ pinsAt fp s7.heap) σ8 H' s' → Nx H' → ∃ m, m < n ∧ ∃ i H', Inv (X.blk s3 H3 scope ce fp) [] (wipe σ (own.map (·.2))) H' s' ∧ tn i s'.heap ∧ (∀ b ∈ fp, H' b = none) ∧ W i m H' := fun {s' H'} I' nx => by
        obtain ⟨m', hm, w'⟩ := hNx H' nx
        have pin' : ∀ b ∈ fp, ∀ o, s7.heap.get? b = some o → s'.heap.get? b = some o ∧ H' b = none := fun b hb o e =>
          let z := I'.pin (b, o) (List.mem_append_right _ (List.mem_append_right _ (mem_pinsAt hb e)))
          ⟨z.1, z.2.1⟩
        have hl : (wipe σ (own.map (·.2))).length = σ8.length := by rw [← hw8, wipe_length]
        refine ⟨m', hm, i + 1, H', (I'.unpinned (pins := [])).weak hl (fun j v e => ?_), T.keep _ _ _ st7 fun b hb o e => (pin' b hb o e).1, fun b hb => ?_, w'⟩
        · rw [← hw8] at e
          exact (wipe_some e).1
        · obtain ⟨o, e, _⟩ := T.obj _ _ st7 b hb
          exact (pin' b hb o e).2
      cases b with
      | false =>
        simp only [Bool.false_eq_true, if_false] at q9 ⊢
        exact fin I9 q9
      | true =>
        simp only [if_true] at q9 ⊢
        refine thnF (pe _ s9 σ8 H9 _ I9 ⟨hw8, q9⟩) fun z s10 ⟨yv, H10, I10, r10, acc, hD10, hz10, nx⟩ => ?_
        exact app_ok (X := X.blk s3 H3 scope ce fp) I10 hD10 hz10 r10 fun s11 I11 => fin I11 nx
  exact codeAny_compStart_list loop (T.self X.A 0 _ _ _ st4 loop)
theorem ps_setLcK {i : Nat} {y : Str} {py : Pos} {elt tg iter : Expr} {ifs : List Expr} {scope : Scope} {own : List (Str × Nat)} {pos spos : Pos} {wi : TI} {g : TG} {tt : TT} {te : TE} (hc : X.calm = true) (hN : X.N.Nodup) (hy : X.N[i]? = some y) (hyl : X.env.scope.names.lookup y = some .local)
    (hsw : swapsWith (.ListComp elt [⟨tg, iter, ifs, 0⟩] scope pos) (some (.Name y py)) spos.line X.env = pure true) (hi : PI X tg iter wi) (ok : BlkOk X.N X.env.scope scope own)
    (hg : ∀ (s : Shared) (H : Hp) (C : Addr) (cl : List (Str × Addr)) (fp : List Addr), PG (X.blk s H scope (compEnvC scope cl C X.env) fp) tg g) (ht : ∀ (s : Shared) (H : Hp) (C : Addr) (cl : List (Str × Addr)) (fp : List Addr), PTs (X.blk s H scope (compEnvC scope cl C X.env) fp) ifs tt)
    (he : ∀ (pins : List (Addr × Obj)) (σ : St) (s : Shared) (H : Hp) (C : Addr) (cl : List (Str × Addr)) (fp : List Addr), Inv X pins σ H s → (∀ b ∈ fp, FpOk X pins H b ∧ b < s.heap.objs.size) → PE (X.blk s H scope (compEnvC scope cl C X.env) fp) elt (fun σ8 H8 Q8 => wipe σ8 (own.map (·.2)) = wipe σ (own.map (·.2)) ∧ te σ8 H8 Q8)) (hs : ∀ x, foldedSetIterable iter X.env x = pure x := by intro _; rfl) :
    PS X (.Assign [.Name y py] (.ListComp elt [⟨tg, iter, ifs, 0⟩] scope pos) spos) (tAsg (tLc wi g tt te (own.map (·.2))) (gName i)) := by
  intro pins s σ H D I h
  rw [exec_Assign_Name_used _ _ _ _ hsw]
  refine wpAny_bind (wpAny_standAt (wpAny_bind ?_))
  show wpAny _ X.A (do let _ ← comprehension (.ListComp elt [⟨tg, iter, ifs, 0⟩] scope pos) scope X.env (firstIterPos [⟨tg, iter, ifs, 0⟩] pos) (newList []) false (eval iter X.env) (some (assign (.Name y py) X.env))) _ _ s
  have h : tLc wi g tt te (own.map (·.2)) σ H (fun x H1 => gName i x σ H1 D.nx) := h
  refine wpAny_bind (thn (lck_core (Qf := fun _ s' => SP X pins D .next s') hc hN I hi ok hg ht (he pins σ) hs h fun L C s' m H' I' q hn f => ?_) fun _ s' hq => wpAny_pure (wpAny_pure hq))
  show wpAny _ _ (assign (.Name y py) X.env (.ref L)) _ _ _
  refine wpAny_assign_Name (store_ok2 (v := V.ref L) I' hN hy (.inl hyl) rfl (fun s2 I2 ⟨a, sb, ha⟩ => ?_) (.inr hyl))
  obtain ⟨f0, f1, f2, f3, f4, f5⟩ := f
  have haC : C ≠ a := by
    rcases ha with z | z
    · rw [z]; exact f1
    · exact fun e => f4 y a z e.symm
  refine ⟨m, hn.sameBut sb haC, fun h3 sb3 => ?_⟩
  exact ⟨_, H', I2.turned (t' := s2.toks) (fun b o hb e => (sb3.2 b hb).trans e) f0 f1 f3 f4 f5, q⟩
end
end L2

namespace DD
open PySem PySem.Spec PyProof.Rows L2

structure Kn (X : Cx) (sp : L2.St → Prop) (q : Str) (f c : Addr) (params : Arguments) (body : Expr) (scope : Scope) (cl : List (Str × Addr)) (pm ctv : Value) : Prop where
  at_ : ∀ pins σ H s, L2.Inv X pins σ H s → s.heap.get? f = some (PySem.W.kla_obj "<lambda>" q params body scope cl pm c ctv) ∧ H f = none ∧ f ∉ frs X.stack
  cell : ∀ pins σ H s, L2.Inv X pins σ H s → ∀ y d, cl.lookup y = some d → (∃ v, s.heap.IsCell d v) ∧ H d = none ∧ d ∉ frs X.stack
  inj : ∀ x y d, cl.lookup x = some d → cl.lookup y = some d → x = y
  has : ∀ y, (y, NameKind.free) ∈ scope.names → ∃ d, cl.lookup y = some d
  loc : ∀ pins σ H s, L2.Inv X pins σ H s → sp σ → ∀ (i : Nat) (y : Str) (v : V), X.N[i]? = some y → σ[i]? = some (some v) → (y, NameKind.free) ∈ scope.names → ∃ u d, RelV v u ∧ cl.lookup y = some d ∧ s.heap.IsCell d (some u)
theorem wipe_ne {σ : L2.St} {i : Nat} : ∀ {vs : List Nat}, i ∉ vs → (wipe σ vs)[i]? = σ[i]?
  | [], _ => rfl
  | v :: vs, h => by
    unfold wipe
    rw [List.getElem?_set_ne (fun e => h (by rw [e]; exact List.mem_cons_self))]
    exact wipe_ne fun z => h (List.mem_cons_of_mem _ z)
theorem pin_here {X : Cx} {p : Addr × Obj} {E : Value → Shared → Prop} : p ∈ (X.pinned [p] E).pn := List.mem_append_right _ (List.mem_singleton.mpr rfl)
theorem pin_there {X : Cx} {p p2 : Addr × Obj} {E : Value → Shared → Prop} (h : p ∈ X.pn) : p ∈ (X.pinned [p2] E).pn := List.mem_append_left _ h
section
variable {X : Cx} {params : Arguments} {body : Expr} {scope : Scope} {q : Str} {f c : Addr} {pm ctv : Value}
theorem kn_blk {pins : List (Addr × Obj)} {σ0 : L2.St} {H0 : Hp} {s0 : Shared} {sc : Scope} {cenv : Env} {fp : List Addr} {vs : List Nat} (I : L2.Inv X pins σ0 H0 s0) (hfp : ∀ b ∈ fp, FpOk X pins H0 b ∧ b < s0.heap.objs.size) (hm : (f, lamOb q params body scope X.env.cells c pm ctv) ∈ X.pn) (hsc : LamSc X.env.scope scope)
    (hfn : ∀ y, X.fn y = true) (hvs : ∀ (y : Str) (i : Nat), (y, NameKind.free) ∈ scope.names → X.N[i]? = some y → i ∉ vs) : Kn (X.blk s0 H0 sc cenv fp) (fun σ => wipe σ vs = wipe σ0 vs) q f c params body scope (cloFrom X.env.cells scope.names []) pm ctv := by
  have hfree : ∀ y ∈ scope.names, y.2 = .free → X.env.kindOf y.1 = some .cell ∨ X.env.kindOf y.1 = some .free := fun y hy e => .inl (hsc.free y hy e)
  obtain ⟨fat, ffree, fl, ffs, _⟩ := I.pin _ (List.mem_append_left pins hm)
  have fst : f ∉ frs X.stack := fun z => by
    rcases List.mem_cons.mp (I.stkSub f z) with z | z
    · exact fl z
    · exact ffs z
  have ffp : f ∉ fp := fun z => (hfp f z).1.2.2.2.2.2 _ (List.mem_append_left pins hm) rfl
  have kp : ∀ {pins' : List (Addr × Obj)} {σ : L2.St} {H : Hp} {s : Shared}, L2.Inv (X.blk s0 H0 sc cenv fp) pins' σ H s → ∀ b o, s0.heap.get? b = some o → H0 b = none → b ∉ frs X.stack → b ∉ fp → s.heap.get? b = some o ∧ H b = none := fun J b o e n hb hx =>
    ⟨J.base.keep b o e n hb hx, J.base.free b o e n hx⟩
  have ndc : ((cloFrom X.env.cells scope.names []).map (·.1)).Nodup := clo_names hsc.nd List.nodup_nil fun _ _ z => by simp at z
  have clo : ∀ y d, (cloFrom X.env.cells scope.names []).lookup y = some d → X.env.cells.lookup y = some d := fun y d e => by
    rcases cloFrom_mem (PySem.mem_of_lookup e) with z | ⟨z1, z2⟩
    · simp at z
    · obtain ⟨c2, e2⟩ := I.ok.has y (hfree _ z1 rfl)
      rw [e2] at z2
      rw [e2, show d = c2 from z2]
  have nfs : ∀ y d, X.env.cells.lookup y = some d → d ∉ frs X.stack := fun y d e z => by
    rcases List.mem_cons.mp (I.stkSub d z) with z1 | z1
    · exact I.cne y d e z1
    · obtain ⟨_, o2, z2, _⟩ := I.ok.funs.mem z1
      exact Nat.lt_irrefl _ (Nat.lt_of_lt_of_le (Heap.lt_size z2) (I.ok.cab y d (hfn y) e))
  have nfp : ∀ y d, X.env.cells.lookup y = some d → d ∉ fp := fun y d e z => (hfp d z).1.2.2.2.2.1 y d e rfl
  have has : ∀ y, (y, NameKind.free) ∈ scope.names → ∃ d, X.env.cells.lookup y = some d ∧ (cloFrom X.env.cells scope.names []).lookup y = some d := fun y hy => by
    obtain ⟨d, e⟩ := I.ok.has y (hfree _ hy rfl)
    refine ⟨d, e, ?_⟩
    have hm := cloFrom_has (cells := X.env.cells) (acc := []) hy
    rw [e] at hm
    exact lookup_nd ndc hm
  refine ⟨fun _ _ _ _ J => ⟨(kp J f _ fat ffree fst ffp).1, (kp J f _ fat ffree fst ffp).2, fst⟩, fun _ _ _ _ J y d e => ?_, fun y z d e1 e2 => I.ok.inj y z d (clo y d e1) (clo z d e2), fun y hy => let ⟨d, _, e⟩ := has y hy; ⟨d, e⟩, fun _ σ _ _ J hw i y v h1 h2 hy => ?_⟩
  · have e := clo y d e
    obtain ⟨v, o, e1, e2⟩ := I.cell y d e
    obtain ⟨k1, k2⟩ := kp J d o e1 (I.freeC y d e) (nfs y d e) (nfp y d e)
    exact ⟨⟨v, o, k1, e2⟩, k2, nfs y d e⟩
  · have hi := hvs y i hy h1
    have h2 : σ0[i]? = some (some v) := by
      rw [← wipe_ne hi, ← hw, wipe_ne hi]; exact h2
    have hcell : X.env.scope.names.lookup y = some .cell := hsc.free _ hy rfl
    obtain ⟨m, hn, hl⟩ := I.loc
    obtain ⟨u, ru, hlook⟩ := hl i y v h1 h2 (.inr (.inl hcell))
    obtain ⟨d, e1, e2⟩ := has y hy
    rcases hlook with ⟨hk2, _⟩ | ⟨_, d2, e3, o, hc1, hc2⟩
    · have hk2 : X.env.scope.names.lookup y = some .local := hk2
      rw [hcell] at hk2; cases hk2
    · rw [e1] at e3
      cases e3
      exact ⟨u, d, ru, e2, o, (kp J d o hc1 (I.freeC y d e1) (nfs y d e1) (nfp y d e1)).1, hc2⟩
end

structure LamIn (X : Cx) (sp : L2.St → Prop) (k : Nat) (q : Str) (f c : Addr) (we : WE) : Prop where
  ex : ∃ params body scope cl pm ctv sc, Kn X sp q f c params body scope cl pm ctv ∧ LamSc sc scope ∧
    (∀ (cl : List (Str × Addr)) (pm ctv : Value) (c' : Addr), bindArgs (PySem.W.kla_fn "<lambda>" q params body scope cl pm (.ref c') ctv) ⟨[], []⟩ = pure []) ∧
    ∀ (base : Heap) (f c' : Addr) (cl : List (Str × Addr)) (A : Around) (outer : List Env) (s : Shared) (H : Hp) (E : XK), ModB X.K X.mg base → Room k (A.deeper (PySem.W.envX q scope s.heap.objs.size f (.ref c') cl)) → DE (cxLam X.prog X.w X.K X.mg base X.N q scope f c' cl A outer s H E) body we
@[irreducible] def wSaidV (wd : Str → Option Str) (q : Str) (Ls : List (Addr × Addr × WE)) (i : Nat) : WE := fun E r S Q => ∃ f c we, (f, c, we) ∈ Ls ∧ r.getD i none = some (.lam f c q) ∧ ∃ (Qx : Str → Sto → Prop) (Qd : KD), (∀ x S', Qx x S' → ∃ wx, wd x = some wx ∧ Q (.tup [.str wx]) S') ∧ (∀ d S', Qd d S' → Q (.tup [.str "told", d]) S') ∧ we ⟨Qx, E.tb⟩ r S Qd
theorem mo_saidV {wd : Str → Option Str} {q : Str} {Ls : List (Addr × Addr × WE)} {i : Nat} : MoE (wSaidV wd q Ls i) := fun E r S Q Q' k h => by
  unfold wSaidV at h ⊢
  obtain ⟨f, c, we, h0, h1, Qx, Qd, h2, h3, h4⟩ := h
  exact ⟨f, c, we, h0, h1, Qx, Qd, fun x S' z => let ⟨wx, z1, z2⟩ := h2 x S' z; ⟨wx, z1, k _ _ z2⟩, fun d S' z => k _ _ (h3 d S' z), h4⟩
theorem lams_nil {P : Addr → Addr → WE → Prop} : ∀ f c we, (f, c, we) ∈ ([] : List (Addr × Addr × WE)) → P f c we := fun _ _ _ z => nomatch z
theorem lams_cons {P : Addr → Addr → WE → Prop} {Ls : List (Addr × Addr × WE)} {f c : Addr} {we : WE} (h : P f c we) (t : ∀ f c we, (f, c, we) ∈ Ls → P f c we) : ∀ f' c' we', (f', c', we') ∈ (f, c, we) :: Ls → P f' c' we' := fun f' c' we' z => by
  rcases List.mem_cons.mp z with z | z
  · cases z; exact h
  · exact t _ _ _ z
section
variable {X : Cx} {sp : L2.St → Prop} {p p1 pos : Pos} {q x y : Str} {k : Nat} {wd : Str → Option Str} {Ls : List (Addr × Addr × WE)}
theorem pe_saidV (i : Nat) (hs : SaidI X.prog X.w X.K X.mg (k + 1) x wd) (hr : Room (k + 2) X.A) (hbm : BmIn X.mg X.base) (hL : ∀ f c we, (f, c, we) ∈ Ls → LamIn X sp k q f c we)
    (hg : Gl X x) (hi : X.N[i]? = some y) (hv : Vis X.env.scope y) (hdb : (x == ("__debug__" : Str)) = false) (hdy : (y == ("__debug__" : Str)) = false) (hcy : (y == ("__classdict__" : Str)) = false)
    (he : starEach [.Name y p1] X.env = (false, eval (.Name y p1) X.env) :: starEach [] X.env) (hpl : (backTo pos (starEach [] X.env)).any (·.1) = false) (E : XD) : PE X (.Call (.Name x p) [.Name y p1] [] pos) (fun σ H Q => sp σ ∧ tD X (wSaidV wd q Ls i) E σ H Q) := by
  obtain ⟨fs, CS, fds, call_, hm, hk, hb, hex, hS⟩ := hs.ex
  intro pins s σ H Q I ⟨hsp, h⟩
  obtain ⟨G, S, r, rs, re, h⟩ := h
  unfold wSaidV at h
  obtain ⟨f, c', we, hmem, hri, Qx, Qd, hQx, hQd, h⟩ := h
  obtain ⟨params, body, scope, cl, pm, ctv, sc, KN, hsc, hbind, hlam⟩ := (hL f c' we hmem).ex
  obtain ⟨v, ev, rd⟩ := re.at_ i _ (getD_some hri)
  cases rd with
  | lam hcode =>
  refine wpAny_Call_Name_kw (ld_glob I hg hm ?_ hdb)
  refine PySem.W.callWith_K (h₀ := X.base) I.ok.mod.kin hk ?_ he hpl
  rw [he]
  show wpAny _ _ (spliced ((false, eval (.Name y p1) X.env) :: backTo pos (starEach [] X.env))) _ _ s
  refine Calls.spliced_cons (thn (pe_var hi hv hdy hcy pins s σ H (fun v H' => v = .ref f ∧ H' = H) I ⟨_, ev, rfl, rfl⟩) fun u s1 ⟨v, H1, I1, rv, ev1, eH⟩ => Calls.spliced_nil ⟨I1.kIn, ?_⟩)
  subst ev1 eH
  cases rv
  obtain ⟨fat, ffree, ffs⟩ := KN.at_ _ _ _ _ I1
  have st : ∀ b o, (PySem.W.hideAll s1.heap (trk s1.heap H1 ++ frs X.stack)).get? b = some o → s1.heap.get? b = some o ∧ H1 b = none := fun b o e => by
    have e1 := PySem.W.of_hideAll _ e
    refine ⟨e1, ?_⟩
    cases z : H1 b with
    | none => rfl
    | some u =>
      have hm : b ∈ trk s1.heap H1 ++ frs X.stack := List.mem_append_left _ (List.mem_filter.mpr ⟨List.mem_range.mpr (Heap.lt_size e1), by simp [z]⟩)
      rw [PySem.W.hideAll_none _ hm] at e; cases e
  have kb : ∀ b o, s1.heap.get? b = some o → H1 b = none → b ∉ frs X.stack → (PySem.W.hideAll s1.heap (trk s1.heap H1 ++ frs X.stack)).get? b = some o := fun b o e n hb => PySem.W.hideAll_get _ e fun z => by
    rcases List.mem_append.mp z with z | z
    · have := (List.mem_filter.mp z).2
      rw [n] at this; simp at this
    · exact hb z
  have M1 : ModB X.K X.mg (PySem.W.hideAll s1.heap (trk s1.heap H1 ++ frs X.stack)) := mod_keeps I1.mod hbm fun b o e => kb b o (I1.bs b o e).1 (I1.bs b o e).2 fun z => by
    have := (I1.stack.mem z).1
    rw [e] at this; cases this
  have e0 : Env0 X.prog X.w X.K X.mg (PySem.W.hideAll s1.heap (trk s1.heap H1 ++ frs X.stack)) X.A X.stack s1 H1 :=
    ⟨I1.ok.frames, M1.toMod, st, Nat.le_of_eq (PySem.W.hideAll_size _ _), funFrames_to I1.stack fun b hb => PySem.W.hideAll_none _ (List.mem_append_right _ hb), I1.stkFree, I1.hok, I1.bare⟩
  have lk := kb f _ fat ffree ffs
  have cells : CellsOk (PySem.W.hideAll s1.heap (trk s1.heap H1 ++ frs X.stack)) X.N scope cl σ := by
    have kfree : ∀ y kk, scope.names.lookup y = some kk → kk = .cell ∨ kk = .free → (y, NameKind.free) ∈ scope.names := fun y kk e hh => by
      have hm := mem_of_lk e
      rcases hh with rfl | rfl
      · exact absurd rfl (hsc.cell _ hm)
      · exact hm
    refine ⟨fun y d e => ?_, KN.inj, fun y hy => ?_, fun i y v h1 h2 h3 => ?_, I1.len⟩
    · obtain ⟨⟨v, o, e1, e2⟩, n, nf⟩ := KN.cell _ _ _ _ I1 y d e
      exact ⟨v, o, kb d o e1 n nf, e2⟩
    · rcases hy with hy | hy
      · exact KN.has y (kfree y _ hy (.inl rfl))
      · exact KN.has y (kfree y _ hy (.inr rfl))
    · have hy : scope.names.lookup y = some .free := by
        rcases h3 with h3 | h3 | h3
        · exact absurd rfl (hsc.loc _ (mem_of_lk h3))
        · exact absurd rfl (hsc.cell _ (mem_of_lk h3))
        · exact h3
      obtain ⟨u, d, ru, e2, o, e3, e4⟩ := KN.loc _ _ _ _ I1 hsp i y v h1 h2 (mem_of_lk hy)
      obtain ⟨_, n, nf⟩ := KN.cell _ _ _ _ I1 y d e2
      exact ⟨u, ru, hy, d, e2, o, kb d o e3 n nf, e4⟩
  have FL : FnOk X.prog X.w X.K X.mg (PySem.W.hideAll s1.heap (trk s1.heap H1 ++ frs X.stack)) (CXE X.prog X.w) (k + 1) f (PySem.W.kla_fn "<lambda>" q params body scope cl pm (.ref c') ctv) []
      (fun vs H2 Q2 E2 => vs = [] ∧ H2 c' = some (cdO q c') ∧ ∃ G2 S2 Ed, Ext G H1 G2 H2 ∧ RS X.K G2 S2 H2 ∧ we Ed r S2 (OutE X.K G2 H2 Q2) ∧ OutK X.K Ed E2 G2 H2) := by
    refine fn_lam lk hsc.kind hsc.co hsc.gen hsc.cell cells (fun vs H Q E h => by rw [h.1]; rfl) (fun vs H Q E h => h.2.1) (fun A outer s2 H2 Q2 E2 hr2 h2 => ?_)
    obtain ⟨_, _, G2, S2, Ed, x2, rs2, w2, ok2⟩ := h2
    refine ⟨_, (hlam _ f c' _ A outer s2 H2 E2 M1 hr2).pe Ed, G2, S2, r, rs2, ⟨re.len, fun i d e => ?_, ⟨fun y C S' G' H' yy rs' cc ee => xok_of rfl rfl rfl rfl rfl rfl (fun _ _ z => z) (ok2.ex y C S' G' H' yy rs' cc ee), ok2.tb⟩⟩, w2⟩
    obtain ⟨v, e1, rd⟩ := re.at_ i d e
    exact ⟨v, e1, rd.go (rs.go x2)⟩
  have FS := hS _ M1 f _ _ FL ⟨_, _, lk, rfl⟩ (fun s us _ hl => by
    have hu : us = [] := by
      rw [List.append_nil] at hl
      exact List.length_eq_zero_iff.mp hl
    subst hu
    exact .of_eq (hbind _ _ _ _))
  refine wpAny_call (codeAny_mono (FS.run X.A X.stack s1 H1 ⟨[.ref f], []⟩ [.ref f] [.ref f] Q E0x hr e0 (hb s1 [.ref f] I1.kIn rfl) (.cons rfl .nil) ⟨rfl, ?_⟩) fun rr s2 hq2 => ?_)
  · refine ⟨rfl, hcode, G, S, ⟨Qx, E.tb⟩, Ext.refl _ _, rs, (hlam (PySem.W.hideAll s1.heap (trk s1.heap H1 ++ frs X.stack)) f c' [] X.A X.stack s1 H1 E0x M1 ?_).mo _ _ _ _ _ (fun d S1 z G' v H' xx rs' rd => ⟨by show 2 ≤ sizeLine; decide, fun pp hpp => ?_⟩) h, ⟨fun y C S' G' H' xx rs' cc z => ?_, fun p' hp' => re.out.tb p' hp'⟩⟩
    · exact (hr.mono (Nat.le_succ (k + 1))).deeper _
    · exact hQd d S1 z (G'.addF pp) _ _ (xx.trans (ext_newF hpp)) (rs_newF rs' hpp) (rd_newTup hpp (.cons (.str _) (.cons rd .nil)))
    · obtain ⟨wx, z1, z2⟩ := hQx y S' z
      refine ⟨C, rfl, hex y C wx z1 cc, fun ea hea => ?_⟩
      refine ⟨G'.addF ea, S', [.ex y], XD0, rs_newF rs' hea, .cons (.ex cc (.inr rfl) upd_same) .nil, ⟨y, wx, rfl, z1, OutE.of (xx.trans (ext_newF hea)) z2⟩, ⟨fun _ _ _ _ _ _ _ _ z => z.elim, (fun _ z => nomatch z)⟩⟩
  · cases rr with
    | error e =>
      obtain ⟨_, _, _, _, _, z⟩ := hq2
      exact z.elim
    | ok fl =>
      cases fl with
      | ret u => exact I1.after hq2
      | next => exact False.elim hq2
      | brk => exact False.elim hq2
      | cont => exact False.elim hq2
end

structure LamPin (X : Cx) (vs : List Nat) (k : Nat) (q : Str) (f c : Addr) (we : WE) : Prop where
  ex : ∃ params body scope pm ctv, (f, lamOb q params body scope X.env.cells c pm ctv) ∈ X.pn ∧ LamSc X.env.scope scope ∧ (∀ (y : Str) (i : Nat), (y, NameKind.free) ∈ scope.names → X.N[i]? = some y → i ∉ vs) ∧
    (∀ (cl : List (Str × Addr)) (pm ctv : Value) (c' : Addr), bindArgs (PySem.W.kla_fn "<lambda>" q params body scope cl pm (.ref c') ctv) ⟨[], []⟩ = pure []) ∧
    ∀ (base : Heap) (f c' : Addr) (cl : List (Str × Addr)) (A : Around) (outer : List Env) (s : Shared) (H : Hp) (E : XK), ModB X.K X.mg base → Room k (A.deeper (PySem.W.envX q scope s.heap.objs.size f (.ref c') cl)) → DE (cxLam X.prog X.w X.K X.mg base X.N q scope f c' cl A outer s H E) body we
def lamV (N : List Str) (scope : Scope) (vs : List Nat) : Bool := scope.names.all fun y => (match y.2 with | .free => vs.all fun i => decide (N[i]? ≠ some y.1) | _ => true)
theorem lamV_by {N : List Str} {scope : Scope} {vs : List Nat} (h : lamV N scope vs = true) : lamV N scope vs = true := h
theorem lamPin_of {X : Cx} {vs : List Nat} {k : Nat} {q : Str} {f c : Addr} {we : WE} {params : Arguments} {body : Expr} {scope : Scope} {pm ctv : Value} (hm : (f, lamOb q params body scope X.env.cells c pm ctv) ∈ X.pn) (hsc : LamSc X.env.scope scope) (hv : lamV X.N scope vs = true)
    (hb : ∀ (cl : List (Str × Addr)) (pm ctv : Value) (c' : Addr), bindArgs (PySem.W.kla_fn "<lambda>" q params body scope cl pm (.ref c') ctv) ⟨[], []⟩ = pure [])
    (hl : ∀ (base : Heap) (f c' : Addr) (cl : List (Str × Addr)) (A : Around) (outer : List Env) (s : Shared) (H : Hp) (E : XK), ModB X.K X.mg base → Room k (A.deeper (PySem.W.envX q scope s.heap.objs.size f (.ref c') cl)) → DE (cxLam X.prog X.w X.K X.mg base X.N q scope f c' cl A outer s H E) body we) : LamPin X vs k q f c we :=
  ⟨params, body, scope, pm, ctv, hm, hsc, fun y i h1 h2 h3 => by
    have z := List.all_eq_true.mp hv (y, .free) h1
    have z : (vs.all fun i => decide (X.N[i]? ≠ some y)) = true := z
    exact of_decide_eq_true (List.all_eq_true.mp z i h3) h2, hb, hl⟩
section
variable {X : Cx} {tg iter : Expr} {scope : Scope} {own : List (Str × Nat)} {pos spos p p1 p2 p3 p4 : Pos} {q x y z : Str} {k : Nat} {j : Nat} {wd : Str → Option Str} {Ls : List (Addr × Addr × WE)} {src : WSrc} {vs : List Nat}

theorem ds_setSaidL {py : Pos} (i n : Nat) (mu : Bool) (ct : CT) (hc : X.calm = true) (hN : X.N.Nodup) (hsw : swapsWith (.ListComp (.Subscript (.Call (.Name x p) [.Name z p1] [] p2) (.Constant (.int 0) j p3) p4) [⟨tg, iter, [], 0⟩] scope pos) (some (.Name y py)) spos.line X.env = pure true) (hi : DSrcC X tg iter src) (ok : BlkOk X.N X.env.scope scope own) (hct : ct.In vs)
    (hg : ∀ (s : Shared) (H : Hp) (C : Addr) (cl : List (Str × Addr)) (fp : List Addr), PG (X.blk s H scope (compEnvC scope cl C X.env) fp) tg (ct.g X.K))
    (hs : SaidI X.prog X.w X.K X.mg (k + 1) x wd) (hr : Room (k + 2) X.A) (hbm : BmIn X.mg X.base) (hL : ∀ f c we, (f, c, we) ∈ Ls → LamPin X vs k q f c we)
    (hG : ∀ (s : Shared) (H : Hp) (C : Addr) (cl : List (Str × Addr)) (fp : List Addr), Gl (X.blk s H scope (compEnvC scope cl C X.env) fp) x := by intro _ _ _ _ _; rfl)
    (hz : X.N[n]? = some z := by rfl) (hzv : ∀ (cl : List (Str × Addr)) (C : Addr), Vis (compEnvC scope cl C X.env).scope z := by first | exact fun _ _ => Or.inl rfl | exact fun _ _ => Or.inr (Or.inl rfl))
    (hdb : (x == ("__debug__" : Str)) = false := by decide) (hdy : (z == ("__debug__" : Str)) = false := by decide) (hcy : (z == ("__classdict__" : Str)) = false := by decide)
    (hy : X.N[i]? = some y := by rfl) (hyl : X.env.scope.names.lookup y = some .local := by rfl)
    (hfs : ∀ x, foldedSetIterable iter X.env x = pure x := by intro _; rfl) (hv : own.map (·.2) = vs := by rfl) (hfn : ∀ y, X.fn y = true := by intro _; rfl) :
    DS X (.Assign [.Name y py] (.ListComp (.Subscript (.Call (.Name x p) [.Name z p1] [] p2) (.Constant (.int 0) j p3) p4) [⟨tg, iter, [], 0⟩] scope pos) spos) (wSet i (wLcG src ct wYes (wOp dIx (wSaidV wd q Ls n) (wC (.int 0))) vs mu)) := by
  subst hv
  have me : MoE (wOp dIx (wSaidV wd q Ls n) (wC (.int 0))) := mo_op (dIx_ok (K := X.K)).mo mo_saidV (de_int (X := X) (j := j) (pos := p3)).mo
  have mt : MoT wYes := (dts_nil (X := X)).mo
  obtain ⟨wi, hwi, rd⟩ := hi.pi
  have mo : MoE (wLcG src ct wYes (wOp dIx (wSaidV wd q Ls n) (wC (.int 0))) (own.map (·.2)) mu) := fun E r S Q Q' k h => hi.mo _ _ _ _ _ (fun ds chk S1 q => compC_mo mt me (fun acc S2 z => wMk_mo k z) _ _ _ q) h
  refine ⟨fun E A B r S k h => mo _ _ _ _ _ (fun d S1 q => k.nx _ _ q) h, fun E => PS.wk (ps_setLcK (g := ct.g X.K) (tt := tDT X wYes E.n) (te := tD X (wOp dIx (wSaidV wd q Ls n) (wC (.int 0))) E.n) hc hN hy hyl hsw (hwi E) ok hg (fun s H C cl fp => (dts_nil (X := X.blk s H scope (compEnvC scope cl C X.env) fp)).blk) (fun pins σ0 s H C cl fp I0 hfp => ?_) hfs) fun Dn sg H h => ?_⟩
  · have KL : ∀ f c we, (f, c, we) ∈ Ls → LamIn (X.blk s H scope (compEnvC scope cl C X.env) fp) (fun σ => wipe σ (own.map (·.2)) = wipe σ0 (own.map (·.2))) k q f c we := fun f c we hm => by
      obtain ⟨params, body, sc2, pm, ctv, hpin, hsc, hvs, hbind, hlam⟩ := (hL f c we hm).ex
      exact ⟨params, body, sc2, _, pm, ctv, X.env.scope, kn_blk I0 hfp hpin hsc hfn hvs, hsc, hbind, hlam⟩
    have ha := pe_saidV (X := X.blk s H scope (compEnvC scope cl C X.env) fp) (p := p) (p1 := p1) (pos := p2) n hs hr hbm KL (hG s H C cl fp) hz (hzv cl C) hdb hdy hcy rfl rfl E.n
    have hb := de_int (X := X.blk s H scope (compEnvC scope cl C X.env) fp) (i := 0) (j := j) (pos := p3)
    refine PE.wk (pe_ix ix_seq ha (hb.pe E.n) (fun _ _ => rfl)) fun sg H2 Q h => ?_
    obtain ⟨heq, G, S, r, rs, re, h⟩ := h
    refine ⟨heq, G, S, r, rs, re.zero rfl, mo_saidV _ _ _ _ _ (fun x S1 h1 G1 v H1 x1 rs1 rd1 => ?_) h⟩
    have re1 := RE.ext (re.zero (X' := X.blk s H scope (compEnvC scope cl C X.env) fp) rfl) rs x1
    refine hb.next rs1 re1 h1 fun y S2 G2 u H2 x2 rs2 re2 rd2 h2 => ?_
    exact (dIx_ok (K := X.K)).ok G2 S2 H2 x y v u Q rs2 (rd1.go (rs1.go x2)) rd2 ((dIx_ok (K := X.K)).mo _ _ _ _ _ (fun d S3 q => OutE.of (x1.trans x2) q) h2)
  obtain ⟨G, S, r, rs, re, h⟩ := h
  refine rd E ct wYes _ _ mu mt me hct sg H _ ⟨G, S, r, rs, re, mo _ _ _ _ _ (fun d S1 q G1 v H1 x1 rs1 rd1 => ?_) h⟩
  exact q G1 _ H1 x1 rs1 ((re.ext rs x1).set rd1 i)
end
end DD

namespace FM

abbrev FR := Int × Int
def isF (f : FR) : Prop := 0 < f.2 ∧ Int.gcd f.1 f.2 = 1
@[irreducible] def nfP (a b : Int) : FR := (a / (Int.gcd a b : Int), b / (Int.gcd a b : Int))
@[irreducible] def addF (f h : FR) : FR := nfP (f.1 * h.2 + h.1 * f.2) (f.2 * h.2)
def val (f : FR) (a b : Int) : Prop := 0 < b ∧ f.1 * b = a * f.2

theorem gcd_pos {a b : Int} (hb : 0 < b) : 0 < (Int.gcd a b : Int) := by
  have : 0 < Int.gcd a b := Int.gcd_pos_of_ne_zero_right a (by omega)
  omega
theorem nfP_def (a b : Int) : nfP a b = (a / (Int.gcd a b : Int), b / (Int.gcd a b : Int)) := by unfold nfP; rfl
theorem addF_def (f h : FR) : addF f h = nfP (f.1 * h.2 + h.1 * f.2) (f.2 * h.2) := by unfold addF; rfl
theorem nfP_fst {a b : Int} (hb : 0 < b) : (nfP a b).1 * (Int.gcd a b : Int) = a := by
  rw [nfP_def]
  exact Int.ediv_mul_cancel (Int.gcd_dvd_left ..)
theorem nfP_snd {a b : Int} (hb : 0 < b) : (nfP a b).2 * (Int.gcd a b : Int) = b := by
  rw [nfP_def]
  exact Int.ediv_mul_cancel (Int.gcd_dvd_right ..)
theorem nfP_isF {a b : Int} (hb : 0 < b) : isF (nfP a b) := by
  have hg := gcd_pos (a := a) hb
  have h2 := nfP_snd (a := a) hb
  refine ⟨?_, ?_⟩
  · rcases (by omega : 0 < (nfP a b).2 ∨ (nfP a b).2 ≤ 0) with h | h
    · exact h
    · have := Int.mul_nonpos_of_nonpos_of_nonneg h (Int.le_of_lt hg)
      omega
  · rw [nfP_def]
    show Int.gcd (a / (Int.gcd a b : Int)) (b / (Int.gcd a b : Int)) = 1
    exact Int.gcd_ediv_gcd_ediv_gcd (by omega)
theorem nfP_val {a b : Int} (hb : 0 < b) : val (nfP a b) a b := by
  refine ⟨hb, ?_⟩
  have h1 := nfP_fst (a := a) hb
  have h2 := nfP_snd (a := a) hb
  generalize (nfP a b).1 = p at *
  generalize (nfP a b).2 = q at *
  generalize (Int.gcd a b : Int) = g at *
  subst h1 h2
  grind
theorem val_self {f : FR} (h : isF f) : val f f.1 f.2 := ⟨h.1, rfl⟩
theorem val_eq {f h : FR} (hf : isF f) (hh : isF h) (e : f.1 * h.2 = h.1 * f.2) : f = h := by
  obtain ⟨a, b⟩ := f
  obtain ⟨c, d⟩ := h
  obtain ⟨hb, g1⟩ := hf
  obtain ⟨hd, g2⟩ := hh
  simp only at *
  have d1 : b ∣ d := by
    have z : b ∣ a * d := ⟨c, by rw [e, Int.mul_comm]⟩
    have z2 := Int.dvd_gcd_mul_iff_dvd_mul.mpr z
    rw [Int.gcd_comm, g1] at z2
    simpa using z2
  have d2 : d ∣ b := by
    have z : d ∣ c * b := ⟨a, by rw [← e, Int.mul_comm]⟩
    have z2 := Int.dvd_gcd_mul_iff_dvd_mul.mpr z
    rw [Int.gcd_comm, g2] at z2
    simpa using z2
  have ebd : b = d := Int.dvd_antisymm (by omega) (by omega) d1 d2
  subst ebd
  have : a = c := Int.eq_of_mul_eq_mul_right (by omega) e
  rw [this]
theorem val_uniq {f h : FR} {a b c d : Int} (hf : isF f) (hh : isF h) (v : val f a b) (u : val h c d) (e : a * d = c * b) : f = h := by
  refine val_eq hf hh ?_
  obtain ⟨hb, v⟩ := v
  obtain ⟨hd, u⟩ := u
  have : f.1 * h.2 * (b * d) = h.1 * f.2 * (b * d) := by grind
  exact Int.eq_of_mul_eq_mul_right (by have := Int.mul_pos hb hd; omega) this
theorem addF_isF {f h : FR} (hf : isF f) (hh : isF h) : isF (addF f h) := by
  rw [addF_def]
  exact nfP_isF (Int.mul_pos hf.1 hh.1)
theorem addF_val {f h : FR} {a b c d : Int} (hf : isF f) (hh : isF h) (v : val f a b) (u : val h c d) : val (addF f h) (a * d + c * b) (b * d) := by
  obtain ⟨hb, v⟩ := v
  obtain ⟨hd, u⟩ := u
  obtain ⟨hp, w⟩ := nfP_val (a := f.1 * h.2 + h.1 * f.2) (b := f.2 * h.2) (Int.mul_pos hf.1 hh.1)
  refine ⟨Int.mul_pos hb hd, ?_⟩
  have w : (addF f h).1 * (f.2 * h.2) = (f.1 * h.2 + h.1 * f.2) * (addF f h).2 := by rw [addF_def]; exact w
  generalize (addF f h).1 = p at *
  generalize (addF f h).2 = q at *
  have : p * (b * d) * (f.2 * h.2) = (a * d + c * b) * q * (f.2 * h.2) := by grind
  exact Int.eq_of_mul_eq_mul_right (by omega) this
theorem add_comm (f h : FR) : addF f h = addF h f := by
  unfold addF
  rw [Int.add_comm, Int.mul_comm f.2 h.2]
theorem isF_zero : isF (0, 1) := ⟨by decide, by decide⟩
theorem add_zero {f : FR} (hf : isF f) : addF f (0, 1) = f := by
  refine val_uniq (addF_isF hf isF_zero) hf (addF_val hf isF_zero (val_self hf) (val_self isF_zero)) (val_self hf) ?_
  grind
theorem gcd_step (a b : Int) : Int.gcd b (a % b) = Int.gcd a b := by
  rw [Int.emod_def, Int.gcd_comm a b]
  simp
end FM

namespace FM

abbrev Cls := List (Int × Int × Int)
def shares (cl : Cls) : Int := (cl.map fun p => p.2.1).sum

def bestI (w : Nat → Int) (sc : Int) (l : Nat) (p : Int × Int × Int) : Int := if p.2.2 ≤ (l : Int) then max (w l) (p.1 * sc + w (l - p.2.2.toNat)) else w l
def stepI (c : Int) (cl : Cls) (w : Nat → Int) (sc : Int) (l : Nat) : Int := (c - shares cl) * w l + (cl.map fun p => p.2.1 * bestI w sc l p).sum
def Wi (c : Int) (cl : Cls) : Nat → Nat → Int
  | 0, _ => 0
  | t + 1, l => stepI c cl (Wi c cl t) (c ^ t) l
structure SaleOk (c : Int) (cl : Cls) : Prop where
  hc : 1 ≤ c ∧ c ≤ 24
  o : ∀ p ∈ cl, (1 ≤ p.1 ∧ p.1 ≤ 99) ∧ 1 ≤ p.2.1 ∧ (1 ≤ p.2.2 ∧ p.2.2 ≤ 4)
  s : shares cl ≤ c
theorem sum_le {al : Type} (f g : al → Int) : ∀ (xs : List al), (∀ x ∈ xs, f x ≤ g x) → (xs.map f).sum ≤ (xs.map g).sum
  | [], _ => Int.le_refl _
  | x :: xs, h => by
    rw [List.map_cons, List.map_cons, List.sum_cons, List.sum_cons]
    have h1 := h x List.mem_cons_self
    have h2 := sum_le f g xs fun y hy => h y (List.mem_cons_of_mem _ hy)
    omega
theorem sum_mul {al : Type} (f : al → Int) (k : Int) : ∀ (xs : List al), (xs.map fun x => f x * k).sum = (xs.map f).sum * k
  | [] => by simp
  | x :: xs => by
    rw [List.map_cons, List.map_cons, List.sum_cons, List.sum_cons, sum_mul f k xs, Int.add_mul]
theorem sum_nonneg {al : Type} (f : al → Int) (xs : List al) (h : ∀ x ∈ xs, 0 ≤ f x) : 0 ≤ (xs.map f).sum := by
  induction xs with
  | nil => exact Int.le_refl _
  | cons x xs ih =>
    rw [List.map_cons, List.sum_cons]
    have h1 := h x List.mem_cons_self
    have h2 := ih fun y hy => h y (List.mem_cons_of_mem _ hy)
    omega
theorem SaleOk.sh0 {c : Int} {cl : Cls} (h : SaleOk c cl) : 0 ≤ shares cl := sum_nonneg _ _ fun p hp => by have := (h.o p hp).2.1; omega
theorem bestI_ge (w : Nat → Int) (sc : Int) (l : Nat) (p : Int × Int × Int) : w l ≤ bestI w sc l p := by
  unfold bestI
  split
  · exact Int.le_max_left _ _
  · exact Int.le_refl _
theorem step_nonneg {c : Int} {cl : Cls} (h : SaleOk c cl) {w : Nat → Int} {sc : Int} (hw : ∀ l, 0 ≤ w l) (l : Nat) : 0 ≤ stepI c cl w sc l := by
  unfold stepI
  have h1 : 0 ≤ (c - shares cl) * w l := Int.mul_nonneg (by have := h.s; omega) (hw l)
  have h2 : 0 ≤ (cl.map fun p => p.2.1 * bestI w sc l p).sum := sum_nonneg _ _ fun p hp => Int.mul_nonneg (by have := (h.o p hp).2.1; omega) (Int.le_trans (hw l) (bestI_ge w sc l p))
  omega
theorem Wi_nonneg {c : Int} {cl : Cls} (h : SaleOk c cl) : ∀ (t l : Nat), 0 ≤ Wi c cl t l
  | 0, _ => Int.le_refl _
  | t + 1, l => step_nonneg h (Wi_nonneg h t) l
theorem pow_pos' {c : Int} (h : 1 ≤ c) (t : Nat) : 0 < c ^ t := Int.pow_pos (by omega)
theorem Wi_le {c : Int} {cl : Cls} (h : SaleOk c cl) : ∀ (t l : Nat), Wi c cl t l ≤ 99 * t * c ^ t
  | 0, _ => by simp [Wi]
  | t + 1, l => by
    have ih := Wi_le h t
    have hp := pow_pos' h.hc.1 t
    have hb : ∀ p ∈ cl, bestI (Wi c cl t) (c ^ t) l p ≤ 99 * (t + 1) * c ^ t := fun p hp2 => by
      have hf := (h.o p hp2).1
      have e1 : p.1 * c ^ t ≤ 99 * c ^ t := Int.mul_le_mul_of_nonneg_right hf.2 (Int.le_of_lt hp)
      have e2 : 99 * ((t : Int) + 1) * c ^ t = 99 * t * c ^ t + 99 * c ^ t := by grind
      unfold bestI
      split
      · have a1 := ih l
        have a2 := ih (l - p.2.2.toNat)
        rw [e2]
        omega
      · have a1 := ih l
        rw [e2]
        omega
    show stepI c cl (Wi c cl t) (c ^ t) l ≤ _
    unfold stepI
    have s1 : (cl.map fun p => p.2.1 * bestI (Wi c cl t) (c ^ t) l p).sum ≤ (cl.map fun p => p.2.1 * (99 * (t + 1) * c ^ t)).sum := sum_le _ _ _ fun p hp2 => Int.mul_le_mul_of_nonneg_left (hb p hp2) (by have := (h.o p hp2).2.1; omega)
    rw [sum_mul (fun p : Int × Int × Int => p.2.1)] at s1
    have s2 : (c - shares cl) * Wi c cl t l ≤ (c - shares cl) * (99 * (t + 1) * c ^ t) := by
      refine Int.mul_le_mul_of_nonneg_left ?_ (by have := h.s; omega)
      have e2 : 99 * ((t : Int) + 1) * c ^ t = 99 * t * c ^ t + 99 * c ^ t := by grind
      have := ih l
      omega
    have e3 : (c - shares cl) * (99 * ((t : Int) + 1) * c ^ t) + (cl.map fun p => p.2.1).sum * (99 * (t + 1) * c ^ t) = 99 * ((t + 1 : Nat) : Int) * c ^ (t + 1) := by
      show (c - shares cl) * _ + shares cl * _ = _
      rw [Int.pow_succ]
      push_cast
      grind
    omega
theorem pow_le_24 {c : Int} (h : 1 ≤ c ∧ c ≤ 24) : ∀ t : Nat, c ^ t ≤ 24 ^ t
  | 0 => by simp
  | t + 1 => by
    rw [Int.pow_succ, Int.pow_succ]
    have ih := pow_le_24 h t
    have hp := pow_pos' h.1 t
    have h24 : (0 : Int) < 24 ^ t := Int.pow_pos (by decide)
    exact Int.mul_le_mul ih h.2 (by omega) (by omega)
theorem pow_bnd {c : Int} (h : 1 ≤ c ∧ c ≤ 24) {t : Nat} (ht : t ≤ 12) : c ^ t ≤ 24 ^ 12 := by
  refine Int.le_trans (pow_le_24 h t) ?_
  have e : (24 : Int) ^ 12 = 24 ^ t * 24 ^ (12 - t) := by
    rw [← Int.pow_add]
    congr 1
    omega
  rw [e]
  have h1 : (0 : Int) < 24 ^ t := Int.pow_pos (by decide)
  have h2 : (0 : Int) < 24 ^ (12 - t) := Int.pow_pos (by decide)
  have h3 := Int.mul_le_mul_of_nonneg_left (show (1 : Int) ≤ 24 ^ (12 - t) by omega) (Int.le_of_lt h1)
  omega
theorem Wi_bnd {c : Int} {cl : Cls} (h : SaleOk c cl) {t : Nat} (ht : t ≤ 12) (l : Nat) : Wi c cl t l ≤ 1188 * 24 ^ 12 := by
  refine Int.le_trans (Wi_le h t l) ?_
  have hp := pow_pos' h.hc.1 t
  have h1 := pow_bnd h.hc ht
  have h2 : 99 * (t : Int) ≤ 1188 := by omega
  exact Int.mul_le_mul h2 h1 (by omega) (by decide)
end FM

namespace FM

end FM

namespace FM

end FM

set_option maxHeartbeats 4000000
namespace K33
open FM PySem PySem.Spec PyProof.Rows L2 DD
open FM
def dF (f : FR) : D := .tup [.int f.1, .int f.2]

def okD : D → Prop
  | .ty _ => False
  | .ob _ => False
  | .ex _ => False
  | .cl _ => False
  | .dv _ _ => False
  | .dm _ => False
  | .ins _ _ => False
  | .lam _ _ _ => False
  | .exn _ _ => False
  | _ => True
def isWh : D → Bool
  | .int _ => true
  | _ => false
def canD : D → D → Bool
  | .int _, .int b => decide (1 ≤ b)
  | _, _ => false
def stOk (x y z : Int) : Prop := 0 ≤ x ∧ (0 ≤ y ∧ y < 2147483647) ∧ 0 ≤ z
def g_law_cell_at : GF := fun ds _ S Q => ∃ (ns : List Int) (k : Int), ds = [.sv (ns.map D.int), .int k] ∧ 0 ≤ k ∧ ∀ c, Q (.int c) S
def g_law_state : GF := fun ds _ S Q => ∃ (ns : List Int) (k : Int), ds = [.sv (ns.map D.int), .int k] ∧ 0 ≤ k ∧ ∀ x y z, stOk x y z → Q (.lst S.length) (S ++ [[.int x, .int y, .int z]])
def Has (k : Nat) (S : Sto) : Prop := ∃ x y z, S[k]? = some [.int x, .int y, .int z] ∧ stOk x y z
def Stp (k : Nat) (S S' : Sto) : Prop := ∃ x y z, S' = S.set k [.int x, .int y, .int z] ∧ stOk x y z
def g_law_take : GF := fun ds _ S Q => ∃ (k : Nat) (b : Int), ds = [.lst k, .int b] ∧ 0 < b ∧ Sm b ∧ Has k S ∧ ∀ r S', 0 ≤ r → r < b → Stp k S S' → Q (.int r) S'

structure Gr (S S' : Sto) : Prop where
  o : ∀ j, j < S.length → S'[j]? = S[j]?
  l : S.length ≤ S'.length

structure Kp (k : Nat) (S S' : Sto) : Prop where
  h : Has k S'
  o : ∀ j, j ≠ k → j < S.length → S'[j]? = S[j]?
  l : S.length ≤ S'.length

def dCl (f s z : Int) : D := .tup [.int f, .int s, .int z]
abbrev clD (cl : Cls) : List D := cl.map fun p => dCl p.1 p.2.1 p.2.2
def dSale (n t c : Int) (cl : Cls) : D := .tup [.int n, .int t, .int c, .tup (clD cl)]
structure Sale (far long sizes n t c : Int) (cl : Cls) : Prop where
  hn : 0 ≤ n ∧ n ≤ far
  ht : 0 ≤ t ∧ t ≤ long
  hc : 1 ≤ c ∧ c ≤ 24
  l : 1 ≤ cl.length ∧ cl.length ≤ 4
  o : ∀ p ∈ cl, (1 ≤ p.1 ∧ p.1 ≤ 99) ∧ 1 ≤ p.2.1 ∧ (1 ≤ p.2.2 ∧ p.2.2 ≤ sizes)
  s : shares cl ≤ c
def g_law_offers : GF := fun ds _ S Q => ∃ (k : Nat) (c z f : Int), ds = [.lst k, .int c, .int z, .int f] ∧ (1 ≤ c ∧ c ≤ 24) ∧ (1 ≤ z ∧ z ≤ 4) ∧ (1 ≤ f ∧ f ≤ 99) ∧ Has k S ∧
  ∀ cl S', (1 ≤ cl.length ∧ cl.length ≤ 4) → (∀ p ∈ cl, (1 ≤ p.1 ∧ p.1 ≤ f) ∧ 1 ≤ p.2.1 ∧ (1 ≤ p.2.2 ∧ p.2.2 ≤ z)) → shares cl ≤ c → Kp k S S' → Q (.tup (clD cl)) S'
def g_law_sale : GF := fun ds _ S Q => ∃ (k : Nat) (far long sizes : Int), ds = [.lst k, .int far, .int long, .int sizes] ∧ (0 ≤ far ∧ far ≤ 100) ∧ (0 ≤ long ∧ long ≤ 100) ∧ (1 ≤ sizes ∧ sizes ≤ 4) ∧ Has k S ∧ ∀ n t c cl S', Sale far long sizes n t c cl → Kp k S S' → Q (dSale n t c cl) S'

def SeqB (b : Nat) (S : Sto) (x : D) (ys : List D) : Prop := x = .lv ys ∨ ∃ j, b ≤ j ∧ x = .lst j ∧ S[j]? = some ys
def rowD (c : Int) (cl : Cls) (n t : Nat) : List D := (List.range (n + 1)).map fun (l : Nat) => D.int (Wi c cl t l)
structure RowsAt (b : Nat) (S : Sto) (x : D) (c : Int) (cl : Cls) (n T : Nat) : Prop where
  ex : ∃ r xs, x = .lst r ∧ b ≤ r ∧ S[r]? = some xs ∧ xs.length = T + 1 ∧ ∀ t d, xs[t]? = some d → SeqB b S d (rowD c cl n t)
def g_greatest_divisor : GF := fun ds _ S Q => ∃ a b : Int, ds = [.int a, .int b] ∧ 0 < b ∧ Q (.int (Int.gcd a b : Int)) S
def g_is_whole : GF := fun ds _ S Q => ∃ d, ds = [d] ∧ okD d ∧ Q (.bl (isWh d)) S
def g_can_divide : GF := fun ds _ S Q => ∃ d e, ds = [d, e] ∧ okD d ∧ okD e ∧ Q (.bl (canD d e)) S
def g_fraction : GF := fun ds E S Q => ∃ d e, ds = [d, e] ∧ okD d ∧ okD e ∧ ((∃ a b : Int, d = .int a ∧ e = .int b ∧ 0 < b ∧ Sm b ∧ Q (dF (nfP a b)) S) ∨ (canD d e = false ∧ E.ex "NoNumber" S))
def numB : D → Int → Int → Bool
  | .int i, lo, hi => decide (lo ≤ i) && decide (i ≤ hi)
  | _, _, _ => false

mutual
def plainD : D → Bool
  | .tup xs => plainDs xs
  | .lv xs => plainDs xs
  | .non => true
  | .bl _ => true
  | .int _ => true
  | .str _ => true
  | .dc _ => true
  | _ => false
def plainDs : List D → Bool
  | [] => true
  | x :: r => plainD x && plainDs r
end
theorem plain_ok {d : D} (h : plainD d = true) : okD d := by
  cases d <;> first | exact trivial | (exfalso; simp [plainD] at h)
theorem plain_tup {xs : List D} (h : plainD (.tup xs) = true) : plainDs xs = true := by rw [plainD] at h; exact h
theorem plain_cons {x : D} {xs : List D} : plainDs (x :: xs) = (plainD x && plainDs xs) := by rw [plainDs]
theorem plains_iff {xs : List D} : plainDs xs = true ↔ ∀ x ∈ xs, plainD x = true := by
  induction xs with
  | nil => simp [plainDs]
  | cons x r ih => rw [plain_cons, Bool.and_eq_true, ih]; simp

def offB : D → Bool
  | .tup [f, s, z] => numB f 1 99 && (numB s 1 (10 ^ 30) && numB z 1 4)
  | _ => false
def shr : D → Int
  | .tup [_, .int s, _] => s
  | _ => 0
def saleB : D → Bool
  | .tup [a, b, .int c, .tup cl] => numB a 0 12 && (numB b 0 12 && (numB (.int c) 1 24 && ((decide (1 ≤ cl.length) && decide (cl.length ≤ 4)) && (cl.all offB && decide ((cl.map shr).sum ≤ c)))))
  | _ => false
def g_is_sale : GF := fun ds _ S Q => ∃ d, ds = [d] ∧ plainD d = true ∧ Q (.bl (saleB d)) S

def wh1 : D → Bool
  | .int i => decide (1 ≤ i)
  | _ => false
def clsB : D → Bool
  | .tup [f, s, z] => numB f 1 99 && (wh1 s && numB z 1 4)
  | _ => false
def clssB : D → Int → Bool
  | .tup cl, c => (decide (1 ≤ cl.length) && decide (cl.length ≤ 4)) && (cl.all clsB && decide ((cl.map shr).sum ≤ c))
  | _, _ => false
def g_is_between : GF := fun ds _ S Q => ∃ d lo hi, ds = [d, .int lo, .int hi] ∧ okD d ∧ Q (.bl (numB d lo hi)) S
def g_is_class : GF := fun ds _ S Q => ∃ d, ds = [d] ∧ plainD d = true ∧ Q (.bl (clsB d)) S
def g_are_classes : GF := fun ds _ S Q => ∃ d c, ds = [d, .int c] ∧ plainD d = true ∧ Q (.bl (clssB d c)) S

def rowW (w : Nat → Int) (n : Nat) : List D := (List.range (n + 1)).map fun (l : Nat) => D.int (w l)
def dLev (x : D) (b : Int) : D := .tup [x, .int b]
abbrev dP (p : Int × Int × Int) : D := dCl p.1 p.2.1 p.2.2

def SqB (b : Nat) (S : Sto) (x : D) (ys : List D) : Prop := x = .lv ys ∨ ∃ j, b ≤ j ∧ x = .lst j ∧ S[j]? = some ys
def gainI (w : Nat → Int) (b : Int) (l : Nat) (p : Int × Int × Int) : Int := p.1 * b + w (l - p.2.2.toNat) - w l
def bestG (w : Nat → Int) (b : Int) (l : Nat) (p : Int × Int × Int) : Int := if p.2.2 ≤ (l : Int) then p.2.1 * (if gainI w b l p > 0 then gainI w b l p else 0) else 0
structure Bw (w : Nat → Int) (b : Int) (n : Nat) : Prop where
  b : b.natAbs < 2 ^ 1000
  w : ∀ l, l ≤ n → (w l).natAbs < 2 ^ 1000
structure Ok3 (p : Int × Int × Int) : Prop where
  f : 1 ≤ p.1 ∧ p.1 ≤ 99
  s : 1 ≤ p.2.1 ∧ p.2.1 ≤ 24
  z : 1 ≤ p.2.2 ∧ p.2.2 ≤ 4
def g_can_sell : GF := fun ds _ S Q => ∃ (p : Int × Int × Int) (l : Int), ds = [dP p, .int l] ∧ Q (.bl (decide (p.2.2 ≤ l))) S
def g_sold_gain : GF := fun ds _ S Q => ∃ (p : Int × Int × Int) (l : Int) (x : D) (b : Int) (w : Nat → Int) (n : Nat), ds = [dP p, .int l, dLev x b] ∧ Ok3 p ∧ SqB 0 S x (rowW w n) ∧ Bw w b n ∧ (p.2.2 ≤ l ∧ l.toNat ≤ n) ∧ Q (.int (gainI w b l.toNat p)) S
def g_best_gain : GF := fun ds _ S Q => ∃ (p : Int × Int × Int) (l : Int) (x : D) (b : Int) (w : Nat → Int) (n : Nat), ds = [dP p, .int l, dLev x b] ∧ Ok3 p ∧ SqB 0 S x (rowW w n) ∧ Bw w b n ∧ (0 ≤ l ∧ l.toNat ≤ n) ∧ Q (.int (bestG w b l.toNat p)) S
def g_is_opened : GF := fun ds _ S Q => ∃ (p : Int × Int × Int) (l : Int) (x : D) (b : Int) (w : Nat → Int) (n : Nat), ds = [dP p, .int l, dLev x b] ∧ Ok3 p ∧ SqB 0 S x (rowW w n) ∧ Bw w b n ∧ (0 ≤ l ∧ l.toNat ≤ n) ∧ Q (.bl (decide (p.2.2 ≤ l) && decide (0 ≤ gainI w b l.toNat p))) S
def g_nought_level : GF := fun ds _ S Q => ∃ n : Int, ds = [.int n] ∧ (0 ≤ n ∧ n ≤ 12) ∧ Q (dLev (.lv (rowW (fun _ => 0) n.toNat)) 1) S
def g_level_before : GF := fun ds _ S Q => ∃ (c : Int) (cl : Cls) (x : D) (b : Int) (w : Nat → Int) (n : Nat), ds = [.int c, .tup (clD cl), dLev x b] ∧ SaleOk c cl ∧ cl.length ≤ 4 ∧ n ≤ 16 ∧ SqB 0 S x (rowW w n) ∧ Bw w b n ∧ Q (dLev (.lst S.length) (c * b)) (S ++ [rowW (stepI c cl w b) n])
structure LevsAt (b : Nat) (S : Sto) (x : D) (c : Int) (cl : Cls) (n T : Nat) : Prop where
  ex : ∃ r xs, x = .lst r ∧ b ≤ r ∧ S[r]? = some xs ∧ xs.length = T + 1 ∧ ∀ t d, xs[t]? = some d → ∃ y, d = dLev y (c ^ t) ∧ SqB b S y (rowW (Wi c cl t) n)

def WG (c : Int) (cl : Cls) (w0 : Nat → Int) (b : Int) : Nat → Nat → Int
  | 0, l => w0 l
  | t + 1, l => stepI c cl (WG c cl w0 b t) (c ^ t * b) l
theorem WG_nought (c : Int) (cl : Cls) : ∀ t : Nat, WG c cl (fun _ => 0) 1 t = Wi c cl t
  | 0 => rfl
  | t + 1 => by
    funext l
    show stepI c cl (WG c cl (fun _ => 0) 1 t) (c ^ t * 1) l = stepI c cl (Wi c cl t) (c ^ t) l
    rw [WG_nought c cl t, Int.mul_one]
structure LevsG (b0 : Nat) (S : Sto) (x : D) (c : Int) (cl : Cls) (w : Nat → Int) (b : Int) (n T : Nat) : Prop where
  ex : ∃ r xs, x = .lst r ∧ b0 ≤ r ∧ S[r]? = some xs ∧ xs.length = T + 1 ∧ ∀ t d, xs[t]? = some d → ∃ y, d = dLev y (c ^ t * b) ∧ SqB b0 S y (rowW (WG c cl w b t) n)
structure B8 (w : Nat → Int) (b : Int) (n : Nat) : Prop where
  b : b.natAbs ≤ 2 ^ 800
  w : ∀ l, l ≤ n → (w l).natAbs ≤ 2 ^ 800
def g_levels_from : GF := fun ds _ S Q => ∃ (c : Int) (cl : Cls) (b : Int) (w : Nat → Int) (n : Nat) (u : Int), ds = [.int c, .tup (clD cl), dLev (.lv (rowW w n)) b, .int u] ∧ SaleOk c cl ∧ cl.length ≤ 4 ∧ n ≤ 16 ∧ B8 w b n ∧ (0 ≤ u ∧ u ≤ 12) ∧ ∀ x S', LevsG S.length S' x c cl w b n u.toNat → Gr S S' → Q x S'
def g_worth_levels : GF := fun ds _ S Q => ∃ (n t c : Int) (cl : Cls) (u : Int), ds = [dSale n t c cl, .int u] ∧ Sale 12 12 4 n t c cl ∧ (0 ≤ u ∧ u ≤ 12) ∧ ∀ x S', LevsAt S.length S' x c cl n.toNat u.toNat → Gr S S' → Q x S'
def g_need_sale : GF := fun ds E S Q => ∃ d, ds = [d] ∧ plainD d = true ∧ ((saleB d = true ∧ Q .non S) ∨ (saleB d = false ∧ E.ex "NoSale" S))
def g_need_class : GF := fun ds E S Q => ∃ (n t c : Int) (cl : Cls) (d : D), ds = [dSale n t c cl, d] ∧ okD d ∧ ((numB d 0 ((cl.length : Int) - 1) = true ∧ Q .non S) ∨ (numB d 0 ((cl.length : Int) - 1) = false ∧ E.ex "NoClass" S))
def g_need_time : GF := fun ds E S Q => ∃ (n t c : Int) (cl : Cls) (d : D) (lo : Int), ds = [dSale n t c cl, d, .int lo] ∧ okD d ∧ ((numB d lo t = true ∧ Q .non S) ∨ (numB d lo t = false ∧ E.ex "NoTime" S))
def g_need_left : GF := fun ds E S Q => ∃ (n t c : Int) (cl : Cls) (d : D) (lo : Int), ds = [dSale n t c cl, d, .int lo] ∧ okD d ∧ ((numB d lo n = true ∧ Q .non S) ∨ (numB d lo n = false ∧ E.ex "NoLeft" S))
def sngB (cl : Cls) : Bool := cl.all fun p => decide (p.2.2 = 1)
def g_opened : GF := fun ds E S Q => ∃ x w u, ds = [x, w, u] ∧ plainD x = true ∧ plainD w = true ∧ plainD u = true ∧ ((∃ (n t c : Int) (cl : Cls), x = dSale n t c cl ∧ Sale 12 12 4 n t c cl ∧ numB w 0 ((cl.length : Int) - 1) = true ∧ numB u 1 t = true ∧ ∀ (ls : List Int) S', Gr S S' → Q (.tup (ls.map D.int)) S') ∨ ((saleB x = false ∧ E.ex "NoSale" S) ∨ (∃ (n t c : Int) (cl : Cls), x = dSale n t c cl ∧ Sale 12 12 4 n t c cl ∧ ((numB w 0 ((cl.length : Int) - 1) = false ∧ E.ex "NoClass" S) ∨ (numB w 0 ((cl.length : Int) - 1) = true ∧ numB u 1 t = false ∧ E.ex "NoTime" S)))))
def g_mark : GF := fun ds E S Q => ∃ x w u, ds = [x, w, u] ∧ plainD x = true ∧ plainD w = true ∧ plainD u = true ∧ ((∃ (n t c : Int) (cl : Cls), x = dSale n t c cl ∧ Sale 12 12 4 n t c cl ∧ numB w 0 ((cl.length : Int) - 1) = true ∧ numB u 1 t = true ∧ sngB cl = true ∧ ∀ d S', Gr S S' → Q d S') ∨ ((saleB x = false ∧ E.ex "NoSale" S) ∨ (∃ (n t c : Int) (cl : Cls), x = dSale n t c cl ∧ Sale 12 12 4 n t c cl ∧ ((numB w 0 ((cl.length : Int) - 1) = false ∧ E.ex "NoClass" S) ∨ ((numB w 0 ((cl.length : Int) - 1) = true ∧ numB u 1 t = false ∧ E.ex "NoTime" S) ∨ (numB w 0 ((cl.length : Int) - 1) = true ∧ numB u 1 t = true ∧ sngB cl = false ∧ ∀ S', Gr S S' → E.ex "NoSingle" S'))))))
def g_seat_worth : GF := fun ds E S Q => ∃ x u l, ds = [x, u, l] ∧ plainD x = true ∧ plainD u = true ∧ plainD l = true ∧ ((∃ (n t c : Int) (cl : Cls), x = dSale n t c cl ∧ Sale 12 12 4 n t c cl ∧ numB u 0 t = true ∧ numB l 1 n = true ∧ ∀ d S', Gr S S' → Q d S') ∨ ((saleB x = false ∧ E.ex "NoSale" S) ∨ (∃ (n t c : Int) (cl : Cls), x = dSale n t c cl ∧ Sale 12 12 4 n t c cl ∧ ((numB u 0 t = false ∧ E.ex "NoTime" S) ∨ (numB u 0 t = true ∧ numB l 1 n = false ∧ E.ex "NoLeft" S)))))
structure BadS (d : D) : Prop where
  p : plainD d = true
  n : saleB d = false
  y : Sy 6 200 5 d
structure Thg (d : D) : Prop where
  p : plainD d = true
  y : Sy 6 200 5 d
def g_law_odd : GF := fun ds _ S Q => ∃ k : Nat, ds = [.lst k] ∧ Has k S ∧ ∀ d S', BadS d → Stp k S S' → Q d S'
def g_law_no_sales : GF := fun ds _ S Q => ∃ (n t c : Int) (cl : Cls), ds = [dSale n t c cl] ∧ Sale 12 12 4 n t c cl ∧ ∀ bs : List D, (∀ d ∈ bs, BadS d) → bs.length ≤ 50 → Q (.lv bs) S

def oW (cl : Cls) (t : Int) (w u : D) : Str := if numB w 0 ((cl.length : Int) - 1) = true then (if numB u 1 t = true then "told" else "time") else "class"
def mW (cl : Cls) (t : Int) (w u : D) : Str := if numB w 0 ((cl.length : Int) - 1) = true then (if numB u 1 t = true then (if sngB cl = true then "told" else "single") else "time") else "class"
def sW (n t : Int) (u l : D) : Str := if numB u 0 t = true then (if numB l 1 n = true then "told" else "left") else "time"
def Wds (x w u l : D) (a b c : Str) : Prop := (saleB x = false ∧ a = "sale" ∧ b = "sale" ∧ c = "sale") ∨ ∃ (n t k : Int) (cl : Cls), x = dSale n t k cl ∧ Sale 12 12 4 n t k cl ∧ a = oW cl t w u ∧ b = mW cl t w u ∧ c = sW n t u l
def g_law_words (Pt : Addr) : GF := fun ds E S Q => ∃ (x w u l : D) (a b c : Str), ds = [x, w, u, l] ∧ (Pt, ("_law_words.<locals>.<lambda>" : Str)) ∈ E.tb ∧ Thg x ∧ Thg w ∧ Thg u ∧ Thg l ∧ Wds x w u l a b c ∧ ∀ S', Gr S S' → Q (.lv [.str a, .str b, .str c]) S'
def top (i : Nat) : Stmt := PySem.Challenge.pw_seatworth_k33_marks_refuse.main.body.getD i (.Pass ⟨0, 0, 0, 0⟩)
structure Bl (mg : Str → Option Value) : Prop where
  ValueError_ : mg "ValueError" = none
  all_ : mg "all" = none
  bool_ : mg "bool" = none
  enumerate_ : mg "enumerate" = none
  int_ : mg "int" = none
  isinstance_ : mg "isinstance" = none
  len_ : mg "len" = none
  list_ : mg "list" = none
  max_ : mg "max" = none
  min_ : mg "min" = none
  range_ : mg "range" = none
  repr_ : mg "repr" = none
  sum_ : mg "sum" = none
  tuple_ : mg "tuple" = none
  g_MOST_SEATS : ∃ tk, mg "MOST_SEATS" = some (.int 12 tk)
  g_MOST_PERIODS : ∃ tk, mg "MOST_PERIODS" = some (.int 12 tk)
  g_MOST_CASES : ∃ tk, mg "MOST_CASES" = some (.int 24 tk)
  g_MOST_CLASSES : ∃ tk, mg "MOST_CLASSES" = some (.int 4 tk)
  g_MOST_FARE : ∃ tk, mg "MOST_FARE" = some (.int 99 tk)
  g_MOST_SIZE : ∃ tk, mg "MOST_SIZE" = some (.int 4 tk)
def rows : List XRow := [⟨"NoSale", [("NoNumber", false), ("NoSale", true), ("NoNet", false), ("NoClass", false), ("NoTime", false), ("NoLeft", false), ("NoSingle", false), ("NoPlan", false), ("NoRun", false), ("NoLimit", false), ("NoShow", false), ("NoAmends", false), ("NoPrices", false), ("NoLine", false), ("NoText", false), ("Over", false), ("Nothing", false), ("NoThing", true), ("NotNow", false)], [("ValueError", true)]⟩, ⟨"NoClass", [("NoNumber", false), ("NoSale", false), ("NoNet", false), ("NoClass", true), ("NoTime", false), ("NoLeft", false), ("NoSingle", false), ("NoPlan", false), ("NoRun", false), ("NoLimit", false), ("NoShow", false), ("NoAmends", false), ("NoPrices", false), ("NoLine", false), ("NoText", false), ("Over", false), ("Nothing", false), ("NoThing", true), ("NotNow", false)], [("ValueError", true)]⟩, ⟨"NoTime", [("NoNumber", false), ("NoSale", false), ("NoNet", false), ("NoClass", false), ("NoTime", true), ("NoLeft", false), ("NoSingle", false), ("NoPlan", false), ("NoRun", false), ("NoLimit", false), ("NoShow", false), ("NoAmends", false), ("NoPrices", false), ("NoLine", false), ("NoText", false), ("Over", false), ("Nothing", false), ("NoThing", true), ("NotNow", false)], [("ValueError", true)]⟩, ⟨"NoLeft", [("NoNumber", false), ("NoSale", false), ("NoNet", false), ("NoClass", false), ("NoTime", false), ("NoLeft", true), ("NoSingle", false), ("NoPlan", false), ("NoRun", false), ("NoLimit", false), ("NoShow", false), ("NoAmends", false), ("NoPrices", false), ("NoLine", false), ("NoText", false), ("Over", false), ("Nothing", false), ("NoThing", true), ("NotNow", false)], [("ValueError", true)]⟩, ⟨"NoSingle", [("NoNumber", false), ("NoSale", false), ("NoNet", false), ("NoClass", false), ("NoTime", false), ("NoLeft", false), ("NoSingle", true), ("NoPlan", false), ("NoRun", false), ("NoLimit", false), ("NoShow", false), ("NoAmends", false), ("NoPrices", false), ("NoLine", false), ("NoText", false), ("Over", false), ("Nothing", false), ("NoThing", true), ("NotNow", false)], [("ValueError", true)]⟩]
structure Fx (K : PySem.W.Frag) (mg : Str → Option Value) : Prop where
  c_NoNumber : ClsIs K mg "NoNumber"
  c_NoSale : ClsIs K mg "NoSale"
  c_NoNet : ClsIs K mg "NoNet"
  c_NoClass : ClsIs K mg "NoClass"
  c_NoTime : ClsIs K mg "NoTime"
  c_NoLeft : ClsIs K mg "NoLeft"
  c_NoSingle : ClsIs K mg "NoSingle"
  c_NoPlan : ClsIs K mg "NoPlan"
  c_NoRun : ClsIs K mg "NoRun"
  c_NoLimit : ClsIs K mg "NoLimit"
  c_NoShow : ClsIs K mg "NoShow"
  c_NoAmends : ClsIs K mg "NoAmends"
  c_NoPrices : ClsIs K mg "NoPrices"
  c_NoLine : ClsIs K mg "NoLine"
  c_NoText : ClsIs K mg "NoText"
  c_Over : ClsIs K mg "Over"
  c_Nothing : ClsIs K mg "Nothing"
  c_NoThing : ClsIs K mg "NoThing"
  c_NotNow : ClsIs K mg "NotNow"
  r_NoSale : RaiseOk K mg "NoSale"
  r_NoClass : RaiseOk K mg "NoClass"
  r_NoTime : RaiseOk K mg "NoTime"
  r_NoSingle : RaiseOk K mg "NoSingle"
  r_NoLeft : RaiseOk K mg "NoLeft"
  r_NoNumber : RaiseOk K mg "NoNumber"
  hX : XF K rows
def wd : Str → Option Str := fun x => if x = "NoSale" then some "sale" else if x = "NoClass" then some "class" else if x = "NoTime" then some "time" else if x = "NoLeft" then some "left" else if x = "NoSingle" then some "single" else none

abbrev s_law_cell_at : Stmt := top 56
abbrev N_law_cell_at : List Str := ["_law_script", "_law_k"]
theorem sc_law_cell_at : FnScope N_law_cell_at ["_law_script", "_law_k"] (defScope s_law_cell_at) := ⟨rfl, rfl, rfl, by decide +kernel, rfl, by decide +kernel, by decide +kernel⟩
def w_law_cell_at : WS := (wSeq (wIfS (wB (wOp (dI0 fun i j => .bl (decide (i < j))) (wVar 1) (wCB (dLen) (wCons (wVar 0) wNil)))) (wRet (wOp dIxV (wVar 0) (wVar 1))) wSkip)
    (wRet (wC (.int 0))))
theorem body_law_cell_at {P : Program} {w : World} {K : PySem.W.Frag} {mg : Str → Option Value} {base : Heap} (T : Bl mg) (X_ : Fx K mg) (M : ModB K mg base) {f : Addr} {cdv : Value} {A : Around} {outer : List PySem.Env} {s : Shared} {H : Hp} {E : XK}
    (hr : Room 4 (A.deeper (envOfC "_law_cell_at" (defScope s_law_cell_at) s.heap.objs.size f cdv))) : DSs (cxOf (CXE P w) P w K mg base N_law_cell_at "_law_cell_at" (defScope s_law_cell_at) f cdv A outer s H E) (defBody s_law_cell_at) w_law_cell_at :=
  (dss_cons (ds_if (dt_lt (de_var 1) (de_len T.len_ (da_cons (de_var 0) da_nil))) (dss_one (ds_ret (de_ixV (de_var 0) (de_var 1)))) dss_nil)
    (dss_one (ds_ret de_int)))

abbrev s_law_state : Stmt := top 57
abbrev N_law_state : List Str := ["_law_script", "_law_k", "_law_cell"]
theorem sc_law_state : FnScope N_law_state ["_law_script", "_law_k"] (defScope s_law_state) := ⟨rfl, rfl, rfl, by decide +kernel, rfl, by decide +kernel, by decide +kernel⟩
def w_law_state : WS := (wSeq (wSet 2 (wCall g_law_cell_at (wCons (wVar 0) (wCons (wVar 1) wNil))))
    (wRet (wLst (wCons (wCB (d2I fun i j => if j > i then j else i) (wCons (wC (.int 0)) (wCons (wOp (dI0 fun i j => .int (i - j)) (wVar 2) (wOp (dI CPow fun i j => .int (i ^ j.toNat)) (wC (.int 10)) (wC (.int 18)))) wNil))) (wCons (wOp (dI (fun _ j => 0 < j) fun i j => .int (i % j)) (wVar 2) (wC (.int 2147483647))) (wCons (wC (.int 0)) wNil))))))
theorem body_law_state {P : Program} {w : World} {K : PySem.W.Frag} {mg : Str → Option Value} {base : Heap} (T : Bl mg) (X_ : Fx K mg) (M : ModB K mg base) (F_law_cell_at : ∀ base, ModB K mg base → FnI P w K mg base 5 "_law_cell_at" 2 g_law_cell_at) {f : Addr} {cdv : Value} {A : Around} {outer : List PySem.Env} {s : Shared} {H : Hp} {E : XK}
    (hr : Room 5 (A.deeper (envOfC "_law_state" (defScope s_law_state) s.heap.objs.size f cdv))) : DSs (cxOf (CXE P w) P w K mg base N_law_state "_law_state" (defScope s_law_state) f cdv A outer s H E) (defBody s_law_state) w_law_state :=
  (dss_cons (ds_set 2 sc_law_state.nd (de_call ((F_law_cell_at base M).up (by decide)) hr (da_cons (de_var 0) (da_cons (de_var 1) da_nil))))
    (dss_one (ds_ret (de_lst (da_cons (de_max (calm_of hr (by decide)) T.max_ (da_cons de_int (da_cons (de_sub (de_var 2) (de_pow de_int de_int)) da_nil))) (da_cons (de_mod (de_var 2) de_int) (da_cons de_int da_nil)))))))

abbrev s_law_take : Stmt := top 58
abbrev N_law_take : List Str := ["_law_state_here", "_law_far", "_law_stirred", "_law_found"]
theorem sc_law_take : FnScope N_law_take ["_law_state_here", "_law_far"] (defScope s_law_take) := ⟨rfl, rfl, rfl, by decide +kernel, rfl, by decide +kernel, by decide +kernel⟩
def w_law_take : WS := (wSeq (wIfS (wB (wOp (dI0 fun i j => .bl (decide (j < i))) (wOp dIx (wVar 0) (wC (.int 0))) (wC (.int 0)))) (wSeq (wSet 3 (wOp (dI (fun _ j => 0 < j) fun i j => .int (i % j)) (wOp dIx (wVar 0) (wC (.int 0))) (wVar 1)))
    (wSeq (wAsg (wOp (dI CDv fun i j => .int (i / j)) (wOp dIx (wVar 0) (wC (.int 0))) (wVar 1)) (gSb (wVar 0) (wC (.int 0))))
    (wRet (wVar 3)))) wSkip)
    (wSeq (wAsg (wOp (dI0 fun i j => .int (i + j)) (wOp dIx (wVar 0) (wC (.int 2))) (wC (.int 1))) (gSb (wVar 0) (wC (.int 2))))
    (wSeq (wAsg (wOp (dI (fun _ j => 0 < j) fun i j => .int (i % j)) (wOp (dI0 fun i j => .int (i + j)) (wOp (dI0 fun i j => .int (i + j)) (wOp (dI CMl fun i j => .int (i * j)) (wOp dIx (wVar 0) (wC (.int 1))) (wC (.int 48271))) (wC (.int 29))) (wOp dIx (wVar 0) (wC (.int 2)))) (wC (.int 2147483647))) (gSb (wVar 0) (wC (.int 1))))
    (wSeq (wSet 2 (wOp (dI (fun _ j => 0 < j) fun i j => .int (i % j)) (wOp (dI0 fun i j => .int (i + j)) (wOp (dI0 fun i j => .int (i + j)) (wOp (dI CMl fun i j => .int (i * j)) (wOp dIx (wVar 0) (wC (.int 1))) (wOp dIx (wVar 0) (wC (.int 1)))) (wOp (dI CMl fun i j => .int (i * j)) (wC (.int 39373)) (wOp dIx (wVar 0) (wC (.int 1))))) (wC (.int 7))) (wC (.int 2147483629))))
    (wSeq (wSet 2 (wOp (dI (fun _ j => 0 < j) fun i j => .int (i % j)) (wOp (dI0 fun i j => .int (i + j)) (wOp (dI CMl fun i j => .int (i * j)) (wVar 2) (wVar 2)) (wOp (dI CMl fun i j => .int (i * j)) (wC (.int 16807)) (wVar 2))) (wC (.int 2147483587))))
    (wRet (wOp (dI (fun _ j => 0 < j) fun i j => .int (i % j)) (wOp (dI CDv fun i j => .int (i / j)) (wVar 2) (wC (.int 8))) (wVar 1))))))))
theorem body_law_take {P : Program} {w : World} {K : PySem.W.Frag} {mg : Str → Option Value} {base : Heap} (T : Bl mg) (X_ : Fx K mg) (M : ModB K mg base) {f : Addr} {cdv : Value} {A : Around} {outer : List PySem.Env} {s : Shared} {H : Hp} {E : XK}
    (hr : Room 4 (A.deeper (envOfC "_law_take" (defScope s_law_take) s.heap.objs.size f cdv))) : DSs (cxOf (CXE P w) P w K mg base N_law_take "_law_take" (defScope s_law_take) f cdv A outer s H E) (defBody s_law_take) w_law_take :=
  (dss_cons (ds_if (dt_gt (de_ix (de_var 0) de_int) de_int) (dss_cons (ds_set 3 sc_law_take.nd (de_mod (de_ix (de_var 0) de_int) (de_var 1)))
    (dss_cons (ds_asg (de_fdiv (de_ix (de_var 0) de_int) (de_var 1)) (dg_sub (de_var 0) de_int))
    (dss_one (ds_ret (de_var 3))))) dss_nil)
    (dss_cons (ds_asg (de_add (de_ix (de_var 0) de_int) de_int) (dg_sub (de_var 0) de_int))
    (dss_cons (ds_asg (de_mod (de_add (de_add (de_mul (de_ix (de_var 0) de_int) de_int) de_int) (de_ix (de_var 0) de_int)) de_int) (dg_sub (de_var 0) de_int))
    (dss_cons (ds_set 2 sc_law_take.nd (de_mod (de_add (de_add (de_mul (de_ix (de_var 0) de_int) (de_ix (de_var 0) de_int)) (de_mul de_int (de_ix (de_var 0) de_int))) de_int) de_int))
    (dss_cons (ds_set 2 sc_law_take.nd (de_mod (de_add (de_mul (de_var 2) (de_var 2)) (de_mul de_int (de_var 2))) de_int))
    (dss_one (ds_ret (de_mod (de_fdiv (de_var 2) de_int) (de_var 1)))))))))

abbrev s_law_offers : Stmt := top 62
abbrev N_law_offers : List Str := ["_law_state_here", "_law_cases", "_law_size", "_law_fare", "_law_turn", "_law_found", "_law_rest", "_law_share", "_law_much"]
theorem sc_law_offers : FnScope N_law_offers ["_law_state_here", "_law_cases", "_law_size", "_law_fare"] (defScope s_law_offers) := ⟨rfl, rfl, rfl, by decide +kernel, rfl, by decide +kernel, by decide +kernel⟩
def b_law_offers_2_ : WS := (wIfS (wB (wOp (dI0 fun i j => .bl (decide (j < i))) (wVar 6) (wC (.int 0)))) (wSeq (wSet 7 (wOp (dI0 fun i j => .int (i + j)) (wC (.int 1)) (wCall g_law_take (wCons (wVar 0) (wCons (wCB (d2I fun i j => if j < i then j else i) (wCons (wVar 6) (wCons (wOp dIxV (wLv (wCons (wC (.int 24)) (wCons (wC (.int 6)) (wCons (wC (.int 2)) wNil)))) (wCall g_law_take (wCons (wVar 0) (wCons (wC (.int 3)) wNil)))) wNil))) wNil)))))
    (wSeq (wSet 8 (wOp dIxV (wLv (wCons (wOp (dI0 fun i j => .int (i + j)) (wC (.int 1)) (wCall g_law_take (wCons (wVar 0) (wCons (wVar 3) wNil)))) (wCons (wOp (dI0 fun i j => .int (i + j)) (wC (.int 1)) (wCall g_law_take (wCons (wVar 0) (wCons (wCB (d2I fun i j => if j < i then j else i) (wCons (wVar 3) (wCons (wC (.int 9)) wNil))) wNil)))) (wCons (wVar 3) wNil)))) (wCall g_law_take (wCons (wVar 0) (wCons (wC (.int 3)) wNil)))))
    (wSeq (wDrop (wMeth dAppend (wVar 5) (wCons (wTup (wCons (wVar 8) (wCons (wVar 7) (wCons (wOp (dI0 fun i j => .int (i + j)) (wC (.int 1)) (wCall g_law_take (wCons (wVar 0) (wCons (wVar 2) wNil)))) wNil)))) wNil)))
    (wSet 6 (wOp (dI0 fun i j => .int (i - j)) (wVar 6) (wVar 7)))))) wSkip)
@[irreducible] def b_law_offers_2 : WS := b_law_offers_2_
theorem b_law_offers_2_eq : b_law_offers_2 = b_law_offers_2_ := by unfold b_law_offers_2; rfl
def w_law_offers : WS := (wSeq (wPar 5 6 (wCons (wLst wNil) (wCons (wVar 1) wNil)))
    (wSeq (wForG (sG (sR1 (wCons (wOp (dI0 fun i j => .int (i + j)) (wC (.int 1)) (wCall g_law_take (wCons (wVar 0) (wCons (wC (.int 4)) wNil)))) wNil))) (gN 4) b_law_offers_2)
    (wRet (wCB (dTupleV) (wCons (wVar 5) wNil)))))
theorem body_law_offers {P : Program} {w : World} {K : PySem.W.Frag} {mg : Str → Option Value} {base : Heap} (T : Bl mg) (X_ : Fx K mg) (M : ModB K mg base) (F_law_take : ∀ base, ModB K mg base → FnI P w K mg base 5 "_law_take" 2 g_law_take) {f : Addr} {cdv : Value} {A : Around} {outer : List PySem.Env} {s : Shared} {H : Hp} {E : XK}
    (hr : Room 5 (A.deeper (envOfC "_law_offers" (defScope s_law_offers) s.heap.objs.size f cdv))) : DSs (cxOf (CXE P w) P w K mg base N_law_offers "_law_offers" (defScope s_law_offers) f cdv A outer s H E) (defBody s_law_offers) w_law_offers :=
  (dss_cons (ds_par 5 6 (calm_of hr (by decide)) sc_law_offers.nd (da_cons (de_lst da_nil) (da_cons (de_var 1) da_nil)))
    (dss_cons (ds_forG PassesOwn.leaving (calm_of hr (by decide)) (srcg_R1 T.range_ (da_cons (de_add de_int (de_call ((F_law_take base M).up (by decide)) hr (da_cons (de_var 0) (da_cons de_int da_nil)))) da_nil)) (dg_name 4 sc_law_offers.nd) (irr_ds (b_law_offers_2_eq) (dss_one (ds_if (dt_gt (de_var 6) de_int) (dss_cons (ds_set 7 sc_law_offers.nd (de_add de_int (de_call ((F_law_take base M).up (by decide)) hr (da_cons (de_var 0) (da_cons (de_min (calm_of hr (by decide)) T.min_ (da_cons (de_var 6) (da_cons (de_ixV (de_lv (da_cons de_int (da_cons de_int (da_cons de_int da_nil)))) (de_call ((F_law_take base M).up (by decide)) hr (da_cons (de_var 0) (da_cons de_int da_nil)))) da_nil))) da_nil)))))
    (dss_cons (ds_set 8 sc_law_offers.nd (de_ixV (de_lv (da_cons (de_add de_int (de_call ((F_law_take base M).up (by decide)) hr (da_cons (de_var 0) (da_cons (de_var 3) da_nil)))) (da_cons (de_add de_int (de_call ((F_law_take base M).up (by decide)) hr (da_cons (de_var 0) (da_cons (de_min (calm_of hr (by decide)) T.min_ (da_cons (de_var 3) (da_cons de_int da_nil))) da_nil)))) (da_cons (de_var 3) da_nil)))) (de_call ((F_law_take base M).up (by decide)) hr (da_cons (de_var 0) (da_cons de_int da_nil)))))
    (dss_cons (ds_expr (de_lmeth PySem.F.slot_list_append PySem.F.type_list_append mt_append dAppend_ok (de_var 5) (da_cons (de_tup (da_cons (de_var 8) (da_cons (de_var 7) (da_cons (de_add de_int (de_call ((F_law_take base M).up (by decide)) hr (da_cons (de_var 0) (da_cons (de_var 2) da_nil)))) da_nil)))) da_nil)))
    (dss_one (ds_set 6 sc_law_offers.nd (de_sub (de_var 6) (de_var 7))))))) dss_nil))))
    (dss_one (ds_ret (de_tupleV T.tuple_ (da_cons (de_var 5) da_nil))))))

abbrev s_law_sale : Stmt := top 63
abbrev N_law_sale : List Str := ["_law_state_here", "_law_seats", "_law_periods", "_law_size", "_law_cases", "_law_counts"]
theorem sc_law_sale : FnScope N_law_sale ["_law_state_here", "_law_seats", "_law_periods", "_law_size"] (defScope s_law_sale) := ⟨rfl, rfl, rfl, by decide +kernel, rfl, by decide +kernel, by decide +kernel⟩
def w_law_sale : WS := (wSeq (wSet 4 (wOp (dI0 fun i j => .int (i + j)) (wC (.int 1)) (wCall g_law_take (wCons (wVar 0) (wCons (wOp dIxV (wLv (wCons (wC (.int 24)) (wCons (wC (.int 6)) wNil))) (wCall g_law_take (wCons (wVar 0) (wCons (wC (.int 2)) wNil)))) wNil)))))
    (wSeq (wSet 5 (wTup (wCons (wCall g_law_take (wCons (wVar 0) (wCons (wOp (dI0 fun i j => .int (i + j)) (wVar 1) (wC (.int 1))) wNil))) (wCons (wCall g_law_take (wCons (wVar 0) (wCons (wOp (dI0 fun i j => .int (i + j)) (wVar 2) (wC (.int 1))) wNil))) (wCons (wVar 4) wNil)))))
    (wRet (wOp dCatT (wVar 5) (wTup (wCons (wCall g_law_offers (wCons (wVar 0) (wCons (wVar 4) (wCons (wVar 3) (wCons (wC (.int 99)) wNil))))) wNil))))))
theorem body_law_sale {P : Program} {w : World} {K : PySem.W.Frag} {mg : Str → Option Value} {base : Heap} (T : Bl mg) (X_ : Fx K mg) (M : ModB K mg base) (F_law_take : ∀ base, ModB K mg base → FnI P w K mg base 5 "_law_take" 2 g_law_take) (F_law_offers : ∀ base, ModB K mg base → FnI P w K mg base 6 "_law_offers" 4 g_law_offers) {f : Addr} {cdv : Value} {A : Around} {outer : List PySem.Env} {s : Shared} {H : Hp} {E : XK}
    (hr : Room 6 (A.deeper (envOfC "_law_sale" (defScope s_law_sale) s.heap.objs.size f cdv))) : DSs (cxOf (CXE P w) P w K mg base N_law_sale "_law_sale" (defScope s_law_sale) f cdv A outer s H E) (defBody s_law_sale) w_law_sale :=
  (dss_cons (ds_set 4 sc_law_sale.nd (de_add de_int (de_call ((F_law_take base M).up (by decide)) hr (da_cons (de_var 0) (da_cons (de_ixV (de_lv (da_cons de_int (da_cons de_int da_nil))) (de_call ((F_law_take base M).up (by decide)) hr (da_cons (de_var 0) (da_cons de_int da_nil)))) da_nil)))))
    (dss_cons (ds_set 5 sc_law_sale.nd (de_tup (da_cons (de_call ((F_law_take base M).up (by decide)) hr (da_cons (de_var 0) (da_cons (de_add (de_var 1) de_int) da_nil))) (da_cons (de_call ((F_law_take base M).up (by decide)) hr (da_cons (de_var 0) (da_cons (de_add (de_var 2) de_int) da_nil))) (da_cons (de_var 4) da_nil)))))
    (dss_one (ds_ret (de_catT (de_var 5) (de_tup (da_cons (de_call ((F_law_offers base M).up (by decide)) hr (da_cons (de_var 0) (da_cons (de_var 4) (da_cons (de_var 3) (da_cons de_int da_nil))))) da_nil)))))))

abbrev s_law_no_sales : Stmt := top 64
abbrev N_law_no_sales : List Str := ["_law_deal", "_law_some", "_law_seats", "_law_periods", "_law_cases", "_law_offers_here"]
theorem sc_law_no_sales : FnScope N_law_no_sales ["_law_deal"] (defScope s_law_no_sales) := ⟨rfl, rfl, rfl, by decide +kernel, rfl, by decide +kernel, by decide +kernel⟩
def t_law_no_sales_7_ : WS := (wRet (wOp (dCatV false) (wVar 1) (wLv (wCons (wTup (wCons (wC (.int 1)) (wCons (wC (.int 1)) (wCons (wC (.int 4)) (wCons (wTup (wCons (wTup (wCons (wC (.int 5)) (wCons (wC (.int 1)) wNil))) wNil)) wNil))))) (wCons (wTup (wCons (wC (.int 1)) (wCons (wC (.int 1)) (wCons (wC (.int 4)) (wCons (wTup (wCons (wC (.int 5)) wNil)) wNil))))) (wCons (wTup (wCons (wC (.int 1)) (wCons (wC (.int 1)) (wCons (wC (.int 4)) (wCons (wTup (wCons (wTup (wCons (wC (.int 5)) (wCons (wC (.bl true)) (wCons (wC (.int 1)) wNil)))) wNil)) wNil))))) (wCons (wTup (wCons (wC (.int 1)) (wCons (wC (.int 1)) (wCons (wC (.int 4)) (wCons (wTup (wCons (wLv (wCons (wC (.int 5)) (wCons (wC (.int 1)) (wCons (wC (.int 1)) wNil)))) wNil)) wNil))))) wNil)))))))
@[irreducible] def t_law_no_sales_7 : WS := t_law_no_sales_7_
theorem t_law_no_sales_7_eq : t_law_no_sales_7 = t_law_no_sales_7_ := by unfold t_law_no_sales_7; rfl
def t_law_no_sales_6_ : WS := (wSeq (wSet 1 (wOp (dCatV false) (wVar 1) (wLv (wCons (wTup (wCons (wC (.int 1)) (wCons (wC (.int 1)) (wCons (wC (.int 4)) (wCons (wTup (wCons (wTup (wCons (wC (.int 5)) (wCons (wC (.int 3)) (wCons (wC (.int 1)) wNil)))) (wCons (wTup (wCons (wC (.int 5)) (wCons (wC (.int 2)) (wCons (wC (.int 1)) wNil)))) wNil))) wNil))))) (wCons (wTup (wCons (wC (.int 1)) (wCons (wC (.int 1)) (wCons (wC (.int 24)) (wCons (wOp dRepT0 (wTup (wCons (wTup (wCons (wC (.int 5)) (wCons (wC (.int 1)) (wCons (wC (.int 1)) wNil)))) wNil)) (wC (.int 5))) wNil))))) wNil)))))
    t_law_no_sales_7)
@[irreducible] def t_law_no_sales_6 : WS := t_law_no_sales_6_
theorem t_law_no_sales_6_eq : t_law_no_sales_6 = t_law_no_sales_6_ := by unfold t_law_no_sales_6; rfl
def t_law_no_sales_5_ : WS := (wSeq (wSet 1 (wOp (dCatV false) (wVar 1) (wLv (wCons (wTup (wCons (wC (.int 1)) (wCons (wC (.int 1)) (wCons (wC (.int 4)) (wCons (wTup (wCons (wTup (wCons (wC (.int 0)) (wCons (wC (.int 1)) (wCons (wC (.int 1)) wNil)))) wNil)) wNil))))) (wCons (wTup (wCons (wC (.int 1)) (wCons (wC (.int 1)) (wCons (wC (.int 4)) (wCons (wTup (wCons (wTup (wCons (wC (.int 100)) (wCons (wC (.int 1)) (wCons (wC (.int 1)) wNil)))) wNil)) wNil))))) (wCons (wTup (wCons (wC (.int 1)) (wCons (wC (.int 1)) (wCons (wC (.int 4)) (wCons (wTup (wCons (wTup (wCons (wC (.int 5)) (wCons (wC (.int 1)) (wCons (wC (.int 5)) wNil)))) wNil)) wNil))))) (wCons (wTup (wCons (wC (.int 1)) (wCons (wC (.int 1)) (wCons (wC (.int 4)) (wCons (wTup (wCons (wTup (wCons (wC (.int 5)) (wCons (wC (.int 5)) (wCons (wC (.int 1)) wNil)))) wNil)) wNil))))) wNil)))))))
    t_law_no_sales_6)
@[irreducible] def t_law_no_sales_5 : WS := t_law_no_sales_5_
theorem t_law_no_sales_5_eq : t_law_no_sales_5 = t_law_no_sales_5_ := by unfold t_law_no_sales_5; rfl
def t_law_no_sales_4_ : WS := (wSeq (wSet 1 (wOp (dCatV false) (wVar 1) (wLv (wCons (wTup (wCons (wVar 2) (wCons (wVar 3) (wCons (wVar 4) (wCons (wTup wNil) wNil))))) (wCons (wTup (wCons (wVar 2) (wCons (wVar 3) (wCons (wVar 4) (wCons (wCB (dListV false) (wCons (wVar 5) wNil)) wNil))))) (wCons (wTup (wCons (wC (.bl true)) (wCons (wVar 3) (wCons (wVar 4) (wCons (wVar 5) wNil))))) wNil))))))
    t_law_no_sales_5)
@[irreducible] def t_law_no_sales_4 : WS := t_law_no_sales_4_
theorem t_law_no_sales_4_eq : t_law_no_sales_4 = t_law_no_sales_4_ := by unfold t_law_no_sales_4; rfl
def t_law_no_sales_3_ : WS := (wSeq (wSet 1 (wOp (dCatV false) (wVar 1) (wLv (wCons (wTup (wCons (wVar 2) (wCons (wVar 3) (wCons (wC (.int 25)) (wCons (wVar 5) wNil))))) (wCons (wTup (wCons (wVar 2) (wCons (wVar 3) (wCons (wC (.int 0)) (wCons (wVar 5) wNil))))) (wCons (wTup (wCons (wNeg (wC (.int 1))) (wCons (wVar 3) (wCons (wVar 4) (wCons (wVar 5) wNil))))) wNil))))))
    t_law_no_sales_4)
@[irreducible] def t_law_no_sales_3 : WS := t_law_no_sales_3_
theorem t_law_no_sales_3_eq : t_law_no_sales_3 = t_law_no_sales_3_ := by unfold t_law_no_sales_3; rfl
def w_law_no_sales : WS := (wSeq (wAsg (wVar 0) (gT 4 (gsC (gN 2) (gsC (gN 3) (gsC (gN 4) (gsC (gN 5) gs0))))))
    (wSeq (wSet 1 (wLv (wCons (wC .non) (wCons (wTup wNil) (wCons (wCB (dListV false) (wCons (wVar 0) wNil)) (wCons (wSlW (wVar 0) wNoP (wPt (wC (.int 3)))) (wCons (wOp dCatT (wVar 0) (wTup (wCons (wC (.int 0)) wNil))) (wCons (wTup (wCons (wC (.int 13)) (wCons (wVar 3) (wCons (wVar 4) (wCons (wVar 5) wNil))))) (wCons (wTup (wCons (wVar 2) (wCons (wC (.int 13)) (wCons (wVar 4) (wCons (wVar 5) wNil))))) wNil)))))))))
    t_law_no_sales_3))
theorem body_law_no_sales {P : Program} {w : World} {K : PySem.W.Frag} {mg : Str → Option Value} {base : Heap} (T : Bl mg) (X_ : Fx K mg) (M : ModB K mg base) {f : Addr} {cdv : Value} {A : Around} {outer : List PySem.Env} {s : Shared} {H : Hp} {E : XK}
    (hr : Room 4 (A.deeper (envOfC "_law_no_sales" (defScope s_law_no_sales) s.heap.objs.size f cdv))) : DSs (cxOf (CXE P w) P w K mg base N_law_no_sales "_law_no_sales" (defScope s_law_no_sales) f cdv A outer s H E) (defBody s_law_no_sales) w_law_no_sales :=
  (dss_cons (ds_asg (de_var 0) (dg_tup (calm_of hr (by decide)) (dgs_cons (dg_name 2 sc_law_no_sales.nd) (dgs_cons (dg_name 3 sc_law_no_sales.nd) (dgs_cons (dg_name 4 sc_law_no_sales.nd) (dgs_cons (dg_name 5 sc_law_no_sales.nd) dgs_nil))))))
    (dss_cons (ds_set 1 sc_law_no_sales.nd (de_lv (da_cons de_non (da_cons (de_tup da_nil) (da_cons (de_listV false T.list_ (da_cons (de_var 0) da_nil)) (da_cons (de_sliceW (de_var 0) dop_none (dop_some de_int)) (da_cons (de_catT (de_var 0) (de_tup (da_cons de_int da_nil))) (da_cons (de_tup (da_cons de_int (da_cons (de_var 3) (da_cons (de_var 4) (da_cons (de_var 5) da_nil))))) (da_cons (de_tup (da_cons (de_var 2) (da_cons de_int (da_cons (de_var 4) (da_cons (de_var 5) da_nil))))) da_nil)))))))))
    (irr_ds (t_law_no_sales_3_eq) (dss_cons (ds_set 1 sc_law_no_sales.nd (de_catV false (de_var 1) (de_lv (da_cons (de_tup (da_cons (de_var 2) (da_cons (de_var 3) (da_cons de_int (da_cons (de_var 5) da_nil))))) (da_cons (de_tup (da_cons (de_var 2) (da_cons (de_var 3) (da_cons de_int (da_cons (de_var 5) da_nil))))) (da_cons (de_tup (da_cons (de_neg de_int) (da_cons (de_var 3) (da_cons (de_var 4) (da_cons (de_var 5) da_nil))))) da_nil))))))
    (irr_ds (t_law_no_sales_4_eq) (dss_cons (ds_set 1 sc_law_no_sales.nd (de_catV false (de_var 1) (de_lv (da_cons (de_tup (da_cons (de_var 2) (da_cons (de_var 3) (da_cons (de_var 4) (da_cons (de_tup da_nil) da_nil))))) (da_cons (de_tup (da_cons (de_var 2) (da_cons (de_var 3) (da_cons (de_var 4) (da_cons (de_listV false T.list_ (da_cons (de_var 5) da_nil)) da_nil))))) (da_cons (de_tup (da_cons de_bl (da_cons (de_var 3) (da_cons (de_var 4) (da_cons (de_var 5) da_nil))))) da_nil))))))
    (irr_ds (t_law_no_sales_5_eq) (dss_cons (ds_set 1 sc_law_no_sales.nd (de_catV false (de_var 1) (de_lv (da_cons (de_tup (da_cons de_int (da_cons de_int (da_cons de_int (da_cons (de_tup (da_cons (de_tup (da_cons de_int (da_cons de_int (da_cons de_int da_nil)))) da_nil)) da_nil))))) (da_cons (de_tup (da_cons de_int (da_cons de_int (da_cons de_int (da_cons (de_tup (da_cons (de_tup (da_cons de_int (da_cons de_int (da_cons de_int da_nil)))) da_nil)) da_nil))))) (da_cons (de_tup (da_cons de_int (da_cons de_int (da_cons de_int (da_cons (de_tup (da_cons (de_tup (da_cons de_int (da_cons de_int (da_cons de_int da_nil)))) da_nil)) da_nil))))) (da_cons (de_tup (da_cons de_int (da_cons de_int (da_cons de_int (da_cons (de_tup (da_cons (de_tup (da_cons de_int (da_cons de_int (da_cons de_int da_nil)))) da_nil)) da_nil))))) da_nil)))))))
    (irr_ds (t_law_no_sales_6_eq) (dss_cons (ds_set 1 sc_law_no_sales.nd (de_catV false (de_var 1) (de_lv (da_cons (de_tup (da_cons de_int (da_cons de_int (da_cons de_int (da_cons (de_tup (da_cons (de_tup (da_cons de_int (da_cons de_int (da_cons de_int da_nil)))) (da_cons (de_tup (da_cons de_int (da_cons de_int (da_cons de_int da_nil)))) da_nil))) da_nil))))) (da_cons (de_tup (da_cons de_int (da_cons de_int (da_cons de_int (da_cons (de_repT0 (de_tup (da_cons (de_tup (da_cons de_int (da_cons de_int (da_cons de_int da_nil)))) da_nil)) de_int) da_nil))))) da_nil)))))
    (irr_ds (t_law_no_sales_7_eq) (dss_one (ds_ret (de_catV false (de_var 1) (de_lv (da_cons (de_tup (da_cons de_int (da_cons de_int (da_cons de_int (da_cons (de_tup (da_cons (de_tup (da_cons de_int (da_cons de_int da_nil))) da_nil)) da_nil))))) (da_cons (de_tup (da_cons de_int (da_cons de_int (da_cons de_int (da_cons (de_tup (da_cons de_int da_nil)) da_nil))))) (da_cons (de_tup (da_cons de_int (da_cons de_int (da_cons de_int (da_cons (de_tup (da_cons (de_tup (da_cons de_int (da_cons de_bl (da_cons de_int da_nil)))) da_nil)) da_nil))))) (da_cons (de_tup (da_cons de_int (da_cons de_int (da_cons de_int (da_cons (de_tup (da_cons (de_lv (da_cons de_int (da_cons de_int (da_cons de_int da_nil)))) da_nil)) da_nil))))) da_nil)))))))))))))))))))

abbrev s_is_whole : Stmt := top 22
abbrev N_is_whole : List Str := ["thing"]
theorem sc_is_whole : FnScope N_is_whole ["thing"] (defScope s_is_whole) := ⟨rfl, rfl, rfl, by decide +kernel, rfl, by decide +kernel, by decide +kernel⟩
def w_is_whole : WS := (wRet (wAndV (wCB (dIsin rows) (wCons (wVar 0) (wCons (wC (.ty "int")) wNil))) (wNotV (wCB (dIsin rows) (wCons (wVar 0) (wCons (wC (.ty "bool")) wNil))))))
theorem body_is_whole {P : Program} {w : World} {K : PySem.W.Frag} {mg : Str → Option Value} {base : Heap} (T : Bl mg) (X_ : Fx K mg) (M : ModB K mg base) {f : Addr} {cdv : Value} {A : Around} {outer : List PySem.Env} {s : Shared} {H : Hp} {E : XK}
    (hr : Room 4 (A.deeper (envOfC "is_whole" (defScope s_is_whole) s.heap.objs.size f cdv))) : DSs (cxOf (CXE P w) P w K mg base N_is_whole "is_whole" (defScope s_is_whole) f cdv A outer s H E) (defBody s_is_whole) w_is_whole :=
  (dss_one (ds_ret (de_and (de_isin X_.hX T.isinstance_ (da_cons (de_var 0) (da_cons (de_ty rfl T.int_ (by decide +kernel)) da_nil))) (de_one (de_not (de_isin X_.hX T.isinstance_ (da_cons (de_var 0) (da_cons (de_ty rfl T.bool_ (by decide +kernel)) da_nil))))))))

abbrev s_is_between : Stmt := top 23
abbrev N_is_between : List Str := ["thing", "least", "most"]
theorem sc_is_between : FnScope N_is_between ["thing", "least", "most"] (defScope s_is_between) := ⟨rfl, rfl, rfl, by decide +kernel, rfl, by decide +kernel, by decide +kernel⟩
def w_is_between : WS := (wRet (wAndV (wCall g_is_whole (wCons (wVar 0) wNil)) (wChain dLeI dLeI (wVar 1) (wVar 0) (wVar 2))))
theorem body_is_between {P : Program} {w : World} {K : PySem.W.Frag} {mg : Str → Option Value} {base : Heap} (T : Bl mg) (X_ : Fx K mg) (M : ModB K mg base) (F_is_whole : ∀ base, ModB K mg base → FnI P w K mg base 5 "is_whole" 1 g_is_whole) {f : Addr} {cdv : Value} {A : Around} {outer : List PySem.Env} {s : Shared} {H : Hp} {E : XK}
    (hr : Room 5 (A.deeper (envOfC "is_between" (defScope s_is_between) s.heap.objs.size f cdv))) : DSs (cxOf (CXE P w) P w K mg base N_is_between "is_between" (defScope s_is_between) f cdv A outer s H E) (defBody s_is_between) w_is_between :=
  (dss_one (ds_ret (de_and (de_call ((F_is_whole base M).up (by decide)) hr (da_cons (de_var 0) da_nil)) (de_one (de_chain op_le op_le dLeI_ok dLeI_ok (de_var 1) (de_var 0) (de_var 2))))))

abbrev s_is_class : Stmt := top 37
abbrev N_is_class : List Str := ["thing", "fare", "share", "size"]
theorem sc_is_class : FnScope N_is_class ["thing"] (defScope s_is_class) := ⟨rfl, rfl, rfl, by decide +kernel, rfl, by decide +kernel, by decide +kernel⟩
def w_is_class : WS := (wSeq (wIfS (wOrT (wNotT (wB (wCB (dIsin rows) (wCons (wVar 0) (wCons (wC (.ty "tuple")) wNil))))) (wB (wOp (dI0 fun i j => .bl (true ^^ decide (i = j))) (wCB (dLen) (wCons (wVar 0) wNil)) (wC (.int 3))))) (wRet (wC (.bl false))) wSkip)
    (wSeq (wAsg (wVar 0) (gT 3 (gsC (gN 1) (gsC (gN 2) (gsC (gN 3) gs0)))))
    (wRet (wAndV (wCall g_is_between (wCons (wVar 1) (wCons (wC (.int 1)) (wCons (wC (.int 99)) wNil)))) (wAndV (wCall g_is_whole (wCons (wVar 2) wNil)) (wAndV (wOp (dI0 fun i j => .bl (decide (j ≤ i))) (wVar 2) (wC (.int 1))) (wCall g_is_between (wCons (wVar 3) (wCons (wC (.int 1)) (wCons (wC (.int 4)) wNil))))))))))
theorem body_is_class {P : Program} {w : World} {K : PySem.W.Frag} {mg : Str → Option Value} {base : Heap} (T : Bl mg) (X_ : Fx K mg) (M : ModB K mg base) (F_is_between : ∀ base, ModB K mg base → FnI P w K mg base 6 "is_between" 3 g_is_between) (F_is_whole : ∀ base, ModB K mg base → FnI P w K mg base 5 "is_whole" 1 g_is_whole) {f : Addr} {cdv : Value} {A : Around} {outer : List PySem.Env} {s : Shared} {H : Hp} {E : XK}
    (hr : Room 6 (A.deeper (envOfC "is_class" (defScope s_is_class) s.heap.objs.size f cdv))) : DSs (cxOf (CXE P w) P w K mg base N_is_class "is_class" (defScope s_is_class) f cdv A outer s H E) (defBody s_is_class) w_is_class :=
  (dss_cons (ds_if (DW.dt (dw_or (dt_not (dt_val (de_isin X_.hX T.isinstance_ (da_cons (de_var 0) (da_cons (de_ty rfl T.tuple_ (by decide +kernel)) da_nil))))) (dw_one (dt_neI (de_len T.len_ (da_cons (de_var 0) da_nil)) de_int)))) (dss_one (ds_ret de_bl)) dss_nil)
    (dss_cons (ds_asg (de_var 0) (dg_tup (calm_of hr (by decide)) (dgs_cons (dg_name 1 sc_is_class.nd) (dgs_cons (dg_name 2 sc_is_class.nd) (dgs_cons (dg_name 3 sc_is_class.nd) dgs_nil)))))
    (dss_one (ds_ret (de_and (de_call ((F_is_between base M).up (by decide)) hr (da_cons (de_var 1) (da_cons de_int (da_cons (de_gint T.g_MOST_FARE) da_nil)))) (de_and (de_call ((F_is_whole base M).up (by decide)) hr (da_cons (de_var 2) da_nil)) (de_and (de_ge (de_var 2) de_int) (de_one (de_call ((F_is_between base M).up (by decide)) hr (da_cons (de_var 3) (da_cons de_int (da_cons (de_gint T.g_MOST_SIZE) da_nil))))))))))))

abbrev s_are_classes : Stmt := top 36
abbrev N_are_classes : List Str := ["thing", "cases", "part", "fare", "share", "size"]
theorem sc_are_classes : FnScope N_are_classes ["thing", "cases"] (defScope s_are_classes) := ⟨rfl, rfl, rfl, by decide +kernel, rfl, by decide +kernel, by decide +kernel⟩
def w_are_classes : WS := (wSeq (wIfS (wOrT (wNotT (wB (wCB (dIsin rows) (wCons (wVar 0) (wCons (wC (.ty "tuple")) wNil))))) (wNotT (wB (wChain dLeI dLeI (wC (.int 1)) (wCB (dLen) (wCons (wVar 0) wNil)) (wC (.int 4)))))) (wRet (wC (.bl false))) wSkip)
    (wSeq (wIfS (wNotT (wB (wCB (dAll) (wCons (wLc (sA (wVar 0)) (CT.nm 2) wYes (wCall g_is_class (wCons (wVar 2) wNil)) [2] false) wNil)))) (wRet (wC (.bl false))) wSkip)
    (wRet (wOp (dI0 fun i j => .bl (decide (i ≤ j))) (wCB (dSum) (wCons (wLc (sA (wVar 0)) (CT.tr 3 4 5) wYes (wVar 4) [3, 4, 5] false) wNil)) (wVar 1)))))
theorem body_are_classes {P : Program} {w : World} {K : PySem.W.Frag} {mg : Str → Option Value} {base : Heap} (T : Bl mg) (X_ : Fx K mg) (M : ModB K mg base) (F_is_class : ∀ base, ModB K mg base → FnI P w K mg base 7 "is_class" 1 g_is_class) {f : Addr} {cdv : Value} {A : Around} {outer : List PySem.Env} {s : Shared} {H : Hp} {E : XK}
    (hr : Room 7 (A.deeper (envOfC "are_classes" (defScope s_are_classes) s.heap.objs.size f cdv))) : DSs (cxOf (CXE P w) P w K mg base N_are_classes "are_classes" (defScope s_are_classes) f cdv A outer s H E) (defBody s_are_classes) w_are_classes :=
  (dss_cons (ds_if (DW.dt (dw_or (dt_not (dt_val (de_isin X_.hX T.isinstance_ (da_cons (de_var 0) (da_cons (de_ty rfl T.tuple_ (by decide +kernel)) da_nil))))) (dw_one (dt_not (dt_chain op_le op_le dLeI_ok dLeI_ok de_int (de_len T.len_ (da_cons (de_var 0) da_nil)) (de_gint T.g_MOST_CLASSES)))))) (dss_one (ds_ret de_bl)) dss_nil)
    (dss_cons (ds_if (dt_not (dt_val (de_all (calm_of hr (by decide)) T.all_ (da_cons (de_lc false (CT.nm 2) (calm_of hr (by decide)) sc_are_classes.nd (src_A (de_var 0)) (blkOk_by (own := [("part", 2)]) (N := N_are_classes) (sc := defScope s_are_classes) (by decide +kernel)) (List.mem_singleton.mpr rfl) (fun _ _ _ _ _ => pg_name (i := 2) sc_are_classes.nd rfl (Or.inl rfl)) (fun _ _ _ _ _ => dts_nil) (fun _ _ _ _ _ => (de_call ((F_is_class base M).up (by decide)) hr (da_cons (de_var 2) da_nil))) s H) da_nil)))) (dss_one (ds_ret de_bl)) dss_nil)
    (dss_one (ds_ret (de_le (de_sum (calm_of hr (by decide)) T.sum_ (da_cons (de_lc false (CT.tr 3 4 5) (calm_of hr (by decide)) sc_are_classes.nd (src_A (de_var 0)) (blkOk_by (own := [("fare", 3), ("share", 4), ("size", 5)]) (N := N_are_classes) (sc := defScope s_are_classes) (by decide +kernel)) ⟨by decide, by decide, by decide⟩ (fun _ _ _ _ _ => pg_tup (calm_of hr (by decide)) (pgs_cons (pg_name (i := 3) sc_are_classes.nd rfl (Or.inl rfl)) (pgs_cons (pg_name (i := 4) sc_are_classes.nd rfl (Or.inl rfl)) (pgs_cons (pg_name (i := 5) sc_are_classes.nd rfl (Or.inl rfl)) pgs_nil)))) (fun _ _ _ _ _ => dts_nil) (fun _ _ _ _ _ => (de_var 4)) s H) da_nil)) (de_var 1))))))

abbrev s_is_sale : Stmt := top 35
abbrev N_is_sale : List Str := ["thing", "seats", "periods", "cases", "classes"]
theorem sc_is_sale : FnScope N_is_sale ["thing"] (defScope s_is_sale) := ⟨rfl, rfl, rfl, by decide +kernel, rfl, by decide +kernel, by decide +kernel⟩
def w_is_sale : WS := (wSeq (wIfS (wOrT (wNotT (wB (wCB (dIsin rows) (wCons (wVar 0) (wCons (wC (.ty "tuple")) wNil))))) (wB (wOp (dI0 fun i j => .bl (true ^^ decide (i = j))) (wCB (dLen) (wCons (wVar 0) wNil)) (wC (.int 4))))) (wRet (wC (.bl false))) wSkip)
    (wSeq (wAsg (wVar 0) (gT 4 (gsC (gN 1) (gsC (gN 2) (gsC (gN 3) (gsC (gN 4) gs0))))))
    (wRet (wAndV (wCall g_is_between (wCons (wVar 1) (wCons (wC (.int 0)) (wCons (wC (.int 12)) wNil)))) (wAndV (wCall g_is_between (wCons (wVar 2) (wCons (wC (.int 0)) (wCons (wC (.int 12)) wNil)))) (wAndV (wCall g_is_between (wCons (wVar 3) (wCons (wC (.int 1)) (wCons (wC (.int 24)) wNil)))) (wCall g_are_classes (wCons (wVar 4) (wCons (wVar 3) wNil)))))))))
theorem body_is_sale {P : Program} {w : World} {K : PySem.W.Frag} {mg : Str → Option Value} {base : Heap} (T : Bl mg) (X_ : Fx K mg) (M : ModB K mg base) (F_is_between : ∀ base, ModB K mg base → FnI P w K mg base 6 "is_between" 3 g_is_between) (F_are_classes : ∀ base, ModB K mg base → FnI P w K mg base 8 "are_classes" 2 g_are_classes) {f : Addr} {cdv : Value} {A : Around} {outer : List PySem.Env} {s : Shared} {H : Hp} {E : XK}
    (hr : Room 8 (A.deeper (envOfC "is_sale" (defScope s_is_sale) s.heap.objs.size f cdv))) : DSs (cxOf (CXE P w) P w K mg base N_is_sale "is_sale" (defScope s_is_sale) f cdv A outer s H E) (defBody s_is_sale) w_is_sale :=
  (dss_cons (ds_if (DW.dt (dw_or (dt_not (dt_val (de_isin X_.hX T.isinstance_ (da_cons (de_var 0) (da_cons (de_ty rfl T.tuple_ (by decide +kernel)) da_nil))))) (dw_one (dt_neI (de_len T.len_ (da_cons (de_var 0) da_nil)) de_int)))) (dss_one (ds_ret de_bl)) dss_nil)
    (dss_cons (ds_asg (de_var 0) (dg_tup (calm_of hr (by decide)) (dgs_cons (dg_name 1 sc_is_sale.nd) (dgs_cons (dg_name 2 sc_is_sale.nd) (dgs_cons (dg_name 3 sc_is_sale.nd) (dgs_cons (dg_name 4 sc_is_sale.nd) dgs_nil))))))
    (dss_one (ds_ret (de_and (de_call ((F_is_between base M).up (by decide)) hr (da_cons (de_var 1) (da_cons de_int (da_cons (de_gint T.g_MOST_SEATS) da_nil)))) (de_and (de_call ((F_is_between base M).up (by decide)) hr (da_cons (de_var 2) (da_cons de_int (da_cons (de_gint T.g_MOST_PERIODS) da_nil)))) (de_and (de_call ((F_is_between base M).up (by decide)) hr (da_cons (de_var 3) (da_cons de_int (da_cons (de_gint T.g_MOST_CASES) da_nil)))) (de_one (de_call ((F_are_classes base M).up (by decide)) hr (da_cons (de_var 4) (da_cons (de_var 3) da_nil)))))))))))

abbrev s_need_sale : Stmt := top 38
abbrev N_need_sale : List Str := ["thing"]
theorem sc_need_sale : FnScope N_need_sale ["thing"] (defScope s_need_sale) := ⟨rfl, rfl, rfl, by decide +kernel, rfl, by decide +kernel, by decide +kernel⟩
def w_need_sale : WS := (wIfS (wNotT (wB (wCall g_is_sale (wCons (wVar 0) wNil)))) (wRaise "NoSale" (wCons (wC (.str "this is no sale")) wNil)) wSkip)
theorem body_need_sale {P : Program} {w : World} {K : PySem.W.Frag} {mg : Str → Option Value} {base : Heap} (T : Bl mg) (X_ : Fx K mg) (M : ModB K mg base) (F_is_sale : ∀ base, ModB K mg base → FnI P w K mg base 9 "is_sale" 1 g_is_sale) {f : Addr} {cdv : Value} {A : Around} {outer : List PySem.Env} {s : Shared} {H : Hp} {E : XK}
    (hr : Room 9 (A.deeper (envOfC "need_sale" (defScope s_need_sale) s.heap.objs.size f cdv))) : DSs (cxOf (CXE P w) P w K mg base N_need_sale "need_sale" (defScope s_need_sale) f cdv A outer s H E) (defBody s_need_sale) w_need_sale :=
  (dss_one (ds_if (dt_not (dt_val (de_call ((F_is_sale base M).up (by decide)) hr (da_cons (de_var 0) da_nil)))) (dss_one (ds_raise X_.r_NoSale (calm_of hr (by decide)) (da_cons de_str da_nil))) dss_nil))

abbrev s_need_class : Stmt := top 39
abbrev N_need_class : List Str := ["sale", "number", "seats", "periods", "cases", "classes"]
theorem sc_need_class : FnScope N_need_class ["sale", "number"] (defScope s_need_class) := ⟨rfl, rfl, rfl, by decide +kernel, rfl, by decide +kernel, by decide +kernel⟩
def w_need_class : WS := (wSeq (wAsg (wVar 0) (gT 4 (gsC (gN 2) (gsC (gN 3) (gsC (gN 4) (gsC (gN 5) gs0))))))
    (wIfS (wNotT (wB (wCall g_is_between (wCons (wVar 1) (wCons (wC (.int 0)) (wCons (wOp (dI0 fun i j => .int (i - j)) (wCB (dLen) (wCons (wVar 5) wNil)) (wC (.int 1))) wNil)))))) (wRaise "NoClass" (wCons (wC (.str "the sale has no class of this number")) wNil)) wSkip))
theorem body_need_class {P : Program} {w : World} {K : PySem.W.Frag} {mg : Str → Option Value} {base : Heap} (T : Bl mg) (X_ : Fx K mg) (M : ModB K mg base) (F_is_between : ∀ base, ModB K mg base → FnI P w K mg base 6 "is_between" 3 g_is_between) {f : Addr} {cdv : Value} {A : Around} {outer : List PySem.Env} {s : Shared} {H : Hp} {E : XK}
    (hr : Room 6 (A.deeper (envOfC "need_class" (defScope s_need_class) s.heap.objs.size f cdv))) : DSs (cxOf (CXE P w) P w K mg base N_need_class "need_class" (defScope s_need_class) f cdv A outer s H E) (defBody s_need_class) w_need_class :=
  (dss_cons (ds_asg (de_var 0) (dg_tup (calm_of hr (by decide)) (dgs_cons (dg_name 2 sc_need_class.nd) (dgs_cons (dg_name 3 sc_need_class.nd) (dgs_cons (dg_name 4 sc_need_class.nd) (dgs_cons (dg_name 5 sc_need_class.nd) dgs_nil))))))
    (dss_one (ds_if (dt_not (dt_val (de_call ((F_is_between base M).up (by decide)) hr (da_cons (de_var 1) (da_cons de_int (da_cons (de_sub (de_len T.len_ (da_cons (de_var 5) da_nil)) de_int) da_nil)))))) (dss_one (ds_raise X_.r_NoClass (calm_of hr (by decide)) (da_cons de_str da_nil))) dss_nil)))

abbrev s_need_time : Stmt := top 40
abbrev N_need_time : List Str := ["sale", "time", "least", "seats", "periods", "cases", "classes"]
theorem sc_need_time : FnScope N_need_time ["sale", "time", "least"] (defScope s_need_time) := ⟨rfl, rfl, rfl, by decide +kernel, rfl, by decide +kernel, by decide +kernel⟩
def w_need_time : WS := (wSeq (wAsg (wVar 0) (gT 4 (gsC (gN 3) (gsC (gN 4) (gsC (gN 5) (gsC (gN 6) gs0))))))
    (wIfS (wNotT (wB (wCall g_is_between (wCons (wVar 1) (wCons (wVar 2) (wCons (wVar 4) wNil)))))) (wRaise "NoTime" (wCons (wC (.str "the sale has no such time here")) wNil)) wSkip))
theorem body_need_time {P : Program} {w : World} {K : PySem.W.Frag} {mg : Str → Option Value} {base : Heap} (T : Bl mg) (X_ : Fx K mg) (M : ModB K mg base) (F_is_between : ∀ base, ModB K mg base → FnI P w K mg base 6 "is_between" 3 g_is_between) {f : Addr} {cdv : Value} {A : Around} {outer : List PySem.Env} {s : Shared} {H : Hp} {E : XK}
    (hr : Room 6 (A.deeper (envOfC "need_time" (defScope s_need_time) s.heap.objs.size f cdv))) : DSs (cxOf (CXE P w) P w K mg base N_need_time "need_time" (defScope s_need_time) f cdv A outer s H E) (defBody s_need_time) w_need_time :=
  (dss_cons (ds_asg (de_var 0) (dg_tup (calm_of hr (by decide)) (dgs_cons (dg_name 3 sc_need_time.nd) (dgs_cons (dg_name 4 sc_need_time.nd) (dgs_cons (dg_name 5 sc_need_time.nd) (dgs_cons (dg_name 6 sc_need_time.nd) dgs_nil))))))
    (dss_one (ds_if (dt_not (dt_val (de_call ((F_is_between base M).up (by decide)) hr (da_cons (de_var 1) (da_cons (de_var 2) (da_cons (de_var 4) da_nil)))))) (dss_one (ds_raise X_.r_NoTime (calm_of hr (by decide)) (da_cons de_str da_nil))) dss_nil)))

abbrev s_can_sell : Stmt := top 48
abbrev N_can_sell : List Str := ["kind", "left", "fare", "share", "size"]
theorem sc_can_sell : FnScope N_can_sell ["kind", "left"] (defScope s_can_sell) := ⟨rfl, rfl, rfl, by decide +kernel, rfl, by decide +kernel, by decide +kernel⟩
def w_can_sell : WS := (wSeq (wAsg (wVar 0) (gT 3 (gsC (gN 2) (gsC (gN 3) (gsC (gN 4) gs0)))))
    (wRet (wOp (dI0 fun i j => .bl (decide (i ≤ j))) (wVar 4) (wVar 1))))
theorem body_can_sell {P : Program} {w : World} {K : PySem.W.Frag} {mg : Str → Option Value} {base : Heap} (T : Bl mg) (X_ : Fx K mg) (M : ModB K mg base) {f : Addr} {cdv : Value} {A : Around} {outer : List PySem.Env} {s : Shared} {H : Hp} {E : XK}
    (hr : Room 4 (A.deeper (envOfC "can_sell" (defScope s_can_sell) s.heap.objs.size f cdv))) : DSs (cxOf (CXE P w) P w K mg base N_can_sell "can_sell" (defScope s_can_sell) f cdv A outer s H E) (defBody s_can_sell) w_can_sell :=
  (dss_cons (ds_asg (de_var 0) (dg_tup (calm_of hr (by decide)) (dgs_cons (dg_name 2 sc_can_sell.nd) (dgs_cons (dg_name 3 sc_can_sell.nd) (dgs_cons (dg_name 4 sc_can_sell.nd) dgs_nil)))))
    (dss_one (ds_ret (de_le (de_var 4) (de_var 1)))))

abbrev s_sold_gain : Stmt := top 49
abbrev N_sold_gain : List Str := ["kind", "left", "later", "fare", "share", "size", "tops", "bottom"]
theorem sc_sold_gain : FnScope N_sold_gain ["kind", "left", "later"] (defScope s_sold_gain) := ⟨rfl, rfl, rfl, by decide +kernel, rfl, by decide +kernel, by decide +kernel⟩
def w_sold_gain : WS := (wSeq (wAsg (wVar 0) (gT 3 (gsC (gN 3) (gsC (gN 4) (gsC (gN 5) gs0)))))
    (wSeq (wAsg (wVar 2) (gT 2 (gsC (gN 6) (gsC (gN 7) gs0))))
    (wRet (wOp (dI0 fun i j => .int (i - j)) (wOp (dI0 fun i j => .int (i + j)) (wOp (dI CMl fun i j => .int (i * j)) (wVar 3) (wVar 7)) (wOp dIxV (wVar 6) (wOp (dI0 fun i j => .int (i - j)) (wVar 1) (wVar 5)))) (wOp dIxV (wVar 6) (wVar 1))))))
theorem body_sold_gain {P : Program} {w : World} {K : PySem.W.Frag} {mg : Str → Option Value} {base : Heap} (T : Bl mg) (X_ : Fx K mg) (M : ModB K mg base) {f : Addr} {cdv : Value} {A : Around} {outer : List PySem.Env} {s : Shared} {H : Hp} {E : XK}
    (hr : Room 4 (A.deeper (envOfC "sold_gain" (defScope s_sold_gain) s.heap.objs.size f cdv))) : DSs (cxOf (CXE P w) P w K mg base N_sold_gain "sold_gain" (defScope s_sold_gain) f cdv A outer s H E) (defBody s_sold_gain) w_sold_gain :=
  (dss_cons (ds_asg (de_var 0) (dg_tup (calm_of hr (by decide)) (dgs_cons (dg_name 3 sc_sold_gain.nd) (dgs_cons (dg_name 4 sc_sold_gain.nd) (dgs_cons (dg_name 5 sc_sold_gain.nd) dgs_nil)))))
    (dss_cons (ds_asg (de_var 2) (dg_tup (calm_of hr (by decide)) (dgs_cons (dg_name 6 sc_sold_gain.nd) (dgs_cons (dg_name 7 sc_sold_gain.nd) dgs_nil))))
    (dss_one (ds_ret (de_sub (de_add (de_mul (de_var 3) (de_var 7)) (de_ixV (de_var 6) (de_sub (de_var 1) (de_var 5)))) (de_ixV (de_var 6) (de_var 1)))))))

abbrev s_best_gain : Stmt := top 47
abbrev N_best_gain : List Str := ["kind", "left", "later", "fare", "share", "size"]
theorem sc_best_gain : FnScope N_best_gain ["kind", "left", "later"] (defScope s_best_gain) := ⟨rfl, rfl, rfl, by decide +kernel, rfl, by decide +kernel, by decide +kernel⟩
def w_best_gain : WS := (wSeq (wAsg (wVar 0) (gT 3 (gsC (gN 3) (gsC (gN 4) (gsC (gN 5) gs0)))))
    (wRet (wIfE (wB (wCall g_can_sell (wCons (wVar 0) (wCons (wVar 1) wNil)))) (wOp (dI CMl fun i j => .int (i * j)) (wVar 4) (wCB (d2I fun i j => if j > i then j else i) (wCons (wC (.int 0)) (wCons (wCall g_sold_gain (wCons (wVar 0) (wCons (wVar 1) (wCons (wVar 2) wNil)))) wNil)))) (wC (.int 0)))))
theorem body_best_gain {P : Program} {w : World} {K : PySem.W.Frag} {mg : Str → Option Value} {base : Heap} (T : Bl mg) (X_ : Fx K mg) (M : ModB K mg base) (F_can_sell : ∀ base, ModB K mg base → FnI P w K mg base 5 "can_sell" 2 g_can_sell) (F_sold_gain : ∀ base, ModB K mg base → FnI P w K mg base 5 "sold_gain" 3 g_sold_gain) {f : Addr} {cdv : Value} {A : Around} {outer : List PySem.Env} {s : Shared} {H : Hp} {E : XK}
    (hr : Room 5 (A.deeper (envOfC "best_gain" (defScope s_best_gain) s.heap.objs.size f cdv))) : DSs (cxOf (CXE P w) P w K mg base N_best_gain "best_gain" (defScope s_best_gain) f cdv A outer s H E) (defBody s_best_gain) w_best_gain :=
  (dss_cons (ds_asg (de_var 0) (dg_tup (calm_of hr (by decide)) (dgs_cons (dg_name 3 sc_best_gain.nd) (dgs_cons (dg_name 4 sc_best_gain.nd) (dgs_cons (dg_name 5 sc_best_gain.nd) dgs_nil)))))
    (dss_one (ds_ret (de_if (dt_val (de_call ((F_can_sell base M).up (by decide)) hr (da_cons (de_var 0) (da_cons (de_var 1) da_nil)))) (de_mul (de_var 4) (de_max (calm_of hr (by decide)) T.max_ (da_cons de_int (da_cons (de_call ((F_sold_gain base M).up (by decide)) hr (da_cons (de_var 0) (da_cons (de_var 1) (da_cons (de_var 2) da_nil)))) da_nil)))) de_int))))

abbrev s_level_before : Stmt := top 46
abbrev N_level_before : List Str := ["cases", "classes", "later", "means", "tops", "bottom", "left", "top", "kind"]
theorem sc_level_before : FnScope N_level_before ["cases", "classes", "later"] (defScope s_level_before) := ⟨rfl, rfl, rfl, by decide +kernel, rfl, by decide +kernel, by decide +kernel⟩
def b_level_before_3_ : WS := (wDrop (wMeth dAppend (wVar 3) (wCons (wOp (dI0 fun i j => .int (i + j)) (wOp (dI CMl fun i j => .int (i * j)) (wVar 0) (wVar 7)) (wCB (dSum) (wCons (wLc (sA (wVar 1)) (CT.nm 8) wYes (wCall g_best_gain (wCons (wVar 8) (wCons (wVar 6) (wCons (wVar 2) wNil)))) [8] false) wNil))) wNil)))
@[irreducible] def b_level_before_3 : WS := b_level_before_3_
theorem b_level_before_3_eq : b_level_before_3 = b_level_before_3_ := by unfold b_level_before_3; rfl
def w_level_before : WS := (wSeq (wAsg (wVar 2) (gT 2 (gsC (gN 4) (gsC (gN 5) gs0))))
    (wSeq (wSet 3 (wLst wNil))
    (wSeq (wForG (sEnQ (wCons (wVar 4) wNil)) (gT 2 (gsC (gN 6) (gsC (gN 7) gs0))) b_level_before_3)
    (wRet (wTup (wCons (wVar 3) (wCons (wOp (dI CMl fun i j => .int (i * j)) (wVar 0) (wVar 5)) wNil)))))))
theorem body_level_before {P : Program} {w : World} {K : PySem.W.Frag} {mg : Str → Option Value} {base : Heap} (T : Bl mg) (X_ : Fx K mg) (M : ModB K mg base) (F_best_gain : ∀ base, ModB K mg base → FnI P w K mg base 6 "best_gain" 3 g_best_gain) {f : Addr} {cdv : Value} {A : Around} {outer : List PySem.Env} {s : Shared} {H : Hp} {E : XK}
    (hr : Room 6 (A.deeper (envOfC "level_before" (defScope s_level_before) s.heap.objs.size f cdv))) : DSs (cxOf (CXE P w) P w K mg base N_level_before "level_before" (defScope s_level_before) f cdv A outer s H E) (defBody s_level_before) w_level_before :=
  (dss_cons (ds_asg (de_var 2) (dg_tup (calm_of hr (by decide)) (dgs_cons (dg_name 4 sc_level_before.nd) (dgs_cons (dg_name 5 sc_level_before.nd) dgs_nil))))
    (dss_cons (ds_set 3 sc_level_before.nd (de_lst da_nil))
    (dss_cons (ds_forG PassesOwn.leaving (calm_of hr (by decide)) (srcg_EnQ T.enumerate_ (da_cons (de_var 4) da_nil)) (dg_tup (calm_of hr (by decide)) (dgs_cons (dg_name 6 sc_level_before.nd) (dgs_cons (dg_name 7 sc_level_before.nd) dgs_nil))) (irr_ds (b_level_before_3_eq) (dss_one (ds_expr (de_lmeth PySem.F.slot_list_append PySem.F.type_list_append mt_append dAppend_ok (de_var 3) (da_cons (de_add (de_mul (de_var 0) (de_var 7)) (de_sum (calm_of hr (by decide)) T.sum_ (da_cons (de_lc false (CT.nm 8) (calm_of hr (by decide)) sc_level_before.nd (src_A (de_var 1)) (blkOk_by (own := [("kind", 8)]) (N := N_level_before) (sc := defScope s_level_before) (by decide +kernel)) (List.mem_singleton.mpr rfl) (fun _ _ _ _ _ => pg_name (i := 8) sc_level_before.nd rfl (Or.inl rfl)) (fun _ _ _ _ _ => dts_nil) (fun _ _ _ _ _ => (de_call ((F_best_gain base M).up (by decide)) hr (da_cons (de_var 8) (da_cons (de_var 6) (da_cons (de_var 2) da_nil))))) s H) da_nil))) da_nil))))))
    (dss_one (ds_ret (de_tup (da_cons (de_var 3) (da_cons (de_mul (de_var 0) (de_var 5)) da_nil))))))))

abbrev s_levels_from : Stmt := top 44
abbrev N_levels_from : List Str := ["cases", "classes", "last", "time", "levels"]
theorem sc_levels_from : FnScope N_levels_from ["cases", "classes", "last", "time"] (defScope s_levels_from) := ⟨rfl, rfl, rfl, by decide +kernel, rfl, by decide +kernel, by decide +kernel⟩
def b_levels_from_2_ : WS := (wDrop (wMeth dAppend (wVar 4) (wCons (wCall g_level_before (wCons (wVar 0) (wCons (wVar 1) (wCons (wOp dIxV (wVar 4) (wNeg (wC (.int 1)))) wNil)))) wNil)))
@[irreducible] def b_levels_from_2 : WS := b_levels_from_2_
theorem b_levels_from_2_eq : b_levels_from_2 = b_levels_from_2_ := by unfold b_levels_from_2; rfl
def w_levels_from : WS := (wSeq (wSet 4 (wLst (wCons (wVar 2) wNil)))
    (wSeq (wWhile (wB (wOp (dI0 fun i j => .bl (decide (i ≤ j))) (wCB (dLen) (wCons (wVar 4) wNil)) (wVar 3))) b_levels_from_2)
    (wRet (wVar 4))))
theorem body_levels_from {P : Program} {w : World} {K : PySem.W.Frag} {mg : Str → Option Value} {base : Heap} (T : Bl mg) (X_ : Fx K mg) (M : ModB K mg base) (F_level_before : ∀ base, ModB K mg base → FnI P w K mg base 7 "level_before" 3 g_level_before) {f : Addr} {cdv : Value} {A : Around} {outer : List PySem.Env} {s : Shared} {H : Hp} {E : XK}
    (hr : Room 7 (A.deeper (envOfC "levels_from" (defScope s_levels_from) s.heap.objs.size f cdv))) : DSs (cxOf (CXE P w) P w K mg base N_levels_from "levels_from" (defScope s_levels_from) f cdv A outer s H E) (defBody s_levels_from) w_levels_from :=
  (dss_cons (ds_set 4 sc_levels_from.nd (de_lst (da_cons (de_var 2) da_nil)))
    (dss_cons (ds_while PassesOwn.leaving (dt_le (de_len T.len_ (da_cons (de_var 4) da_nil)) (de_var 3)) (irr_ds (b_levels_from_2_eq) (dss_one (ds_expr (de_lmeth PySem.F.slot_list_append PySem.F.type_list_append mt_append dAppend_ok (de_var 4) (da_cons (de_call ((F_level_before base M).up (by decide)) hr (da_cons (de_var 0) (da_cons (de_var 1) (da_cons (de_ixV (de_var 4) (de_neg de_int)) da_nil)))) da_nil))))))
    (dss_one (ds_ret (de_var 4)))))

abbrev s_nought_level : Stmt := top 45
abbrev N_nought_level : List Str := ["seats"]
theorem sc_nought_level : FnScope N_nought_level ["seats"] (defScope s_nought_level) := ⟨rfl, rfl, rfl, by decide +kernel, rfl, by decide +kernel, by decide +kernel⟩
def w_nought_level : WS := (wRet (wTup (wCons (wOp (dRep false) (wLv (wCons (wC (.int 0)) wNil)) (wOp (dI0 fun i j => .int (i + j)) (wVar 0) (wC (.int 1)))) (wCons (wC (.int 1)) wNil))))
theorem body_nought_level {P : Program} {w : World} {K : PySem.W.Frag} {mg : Str → Option Value} {base : Heap} (T : Bl mg) (X_ : Fx K mg) (M : ModB K mg base) {f : Addr} {cdv : Value} {A : Around} {outer : List PySem.Env} {s : Shared} {H : Hp} {E : XK}
    (hr : Room 4 (A.deeper (envOfC "nought_level" (defScope s_nought_level) s.heap.objs.size f cdv))) : DSs (cxOf (CXE P w) P w K mg base N_nought_level "nought_level" (defScope s_nought_level) f cdv A outer s H E) (defBody s_nought_level) w_nought_level :=
  (dss_one (ds_ret (de_tup (da_cons (de_rep false (de_lv (da_cons de_int da_nil)) (de_add (de_var 0) de_int)) (da_cons de_int da_nil)))))

abbrev s_worth_levels : Stmt := top 43
abbrev N_worth_levels : List Str := ["sale", "time", "seats", "periods", "cases", "classes"]
theorem sc_worth_levels : FnScope N_worth_levels ["sale", "time"] (defScope s_worth_levels) := ⟨rfl, rfl, rfl, by decide +kernel, rfl, by decide +kernel, by decide +kernel⟩
def w_worth_levels : WS := (wSeq (wAsg (wVar 0) (gT 4 (gsC (gN 2) (gsC (gN 3) (gsC (gN 4) (gsC (gN 5) gs0))))))
    (wRet (wCall g_levels_from (wCons (wVar 4) (wCons (wVar 5) (wCons (wCall g_nought_level (wCons (wVar 2) wNil)) (wCons (wVar 1) wNil)))))))
theorem body_worth_levels {P : Program} {w : World} {K : PySem.W.Frag} {mg : Str → Option Value} {base : Heap} (T : Bl mg) (X_ : Fx K mg) (M : ModB K mg base) (F_levels_from : ∀ base, ModB K mg base → FnI P w K mg base 8 "levels_from" 4 g_levels_from) (F_nought_level : ∀ base, ModB K mg base → FnI P w K mg base 5 "nought_level" 1 g_nought_level) {f : Addr} {cdv : Value} {A : Around} {outer : List PySem.Env} {s : Shared} {H : Hp} {E : XK}
    (hr : Room 8 (A.deeper (envOfC "worth_levels" (defScope s_worth_levels) s.heap.objs.size f cdv))) : DSs (cxOf (CXE P w) P w K mg base N_worth_levels "worth_levels" (defScope s_worth_levels) f cdv A outer s H E) (defBody s_worth_levels) w_worth_levels :=
  (dss_cons (ds_asg (de_var 0) (dg_tup (calm_of hr (by decide)) (dgs_cons (dg_name 2 sc_worth_levels.nd) (dgs_cons (dg_name 3 sc_worth_levels.nd) (dgs_cons (dg_name 4 sc_worth_levels.nd) (dgs_cons (dg_name 5 sc_worth_levels.nd) dgs_nil))))))
    (dss_one (ds_ret (de_call ((F_levels_from base M).up (by decide)) hr (da_cons (de_var 4) (da_cons (de_var 5) (da_cons (de_call ((F_nought_level base M).up (by decide)) hr (da_cons (de_var 2) da_nil)) (da_cons (de_var 1) da_nil))))))))

abbrev s_is_opened : Stmt := top 52
abbrev N_is_opened : List Str := ["kind", "left", "later"]
theorem sc_is_opened : FnScope N_is_opened ["kind", "left", "later"] (defScope s_is_opened) := ⟨rfl, rfl, rfl, by decide +kernel, rfl, by decide +kernel, by decide +kernel⟩
def w_is_opened : WS := (wRet (wAndV (wCall g_can_sell (wCons (wVar 0) (wCons (wVar 1) wNil))) (wOp (dI0 fun i j => .bl (decide (j ≤ i))) (wCall g_sold_gain (wCons (wVar 0) (wCons (wVar 1) (wCons (wVar 2) wNil)))) (wC (.int 0)))))
theorem body_is_opened {P : Program} {w : World} {K : PySem.W.Frag} {mg : Str → Option Value} {base : Heap} (T : Bl mg) (X_ : Fx K mg) (M : ModB K mg base) (F_can_sell : ∀ base, ModB K mg base → FnI P w K mg base 5 "can_sell" 2 g_can_sell) (F_sold_gain : ∀ base, ModB K mg base → FnI P w K mg base 5 "sold_gain" 3 g_sold_gain) {f : Addr} {cdv : Value} {A : Around} {outer : List PySem.Env} {s : Shared} {H : Hp} {E : XK}
    (hr : Room 5 (A.deeper (envOfC "is_opened" (defScope s_is_opened) s.heap.objs.size f cdv))) : DSs (cxOf (CXE P w) P w K mg base N_is_opened "is_opened" (defScope s_is_opened) f cdv A outer s H E) (defBody s_is_opened) w_is_opened :=
  (dss_one (ds_ret (de_and (de_call ((F_can_sell base M).up (by decide)) hr (da_cons (de_var 0) (da_cons (de_var 1) da_nil))) (de_one (de_ge (de_call ((F_sold_gain base M).up (by decide)) hr (da_cons (de_var 0) (da_cons (de_var 1) (da_cons (de_var 2) da_nil)))) de_int)))))

abbrev s_opened : Stmt := top 51
abbrev N_opened : List Str := ["sale", "number", "time", "later", "seats", "periods", "cases", "classes", "left"]
theorem sc_opened : FnScope N_opened ["sale", "number", "time"] (defScope s_opened) := ⟨rfl, rfl, rfl, by decide +kernel, rfl, by decide +kernel, by decide +kernel⟩
def w_opened : WS := (wSeq (wDrop (wCall g_need_sale (wCons (wVar 0) wNil)))
    (wSeq (wDrop (wCall g_need_class (wCons (wVar 0) (wCons (wVar 1) wNil))))
    (wSeq (wDrop (wCall g_need_time (wCons (wVar 0) (wCons (wVar 2) (wCons (wC (.int 1)) wNil)))))
    (wSeq (wAsg (wVar 0) (gT 4 (gsC (gN 4) (gsC (gN 5) (gsC (gN 6) (gsC (gN 7) gs0))))))
    (wSeq (wSet 3 (wOp dIxV (wCall g_worth_levels (wCons (wVar 0) (wCons (wOp (dI0 fun i j => .int (i - j)) (wVar 2) (wC (.int 1))) wNil))) (wNeg (wC (.int 1)))))
    (wRet (wCB (dTupleV) (wCons (wLc (sR1 (wCons (wOp (dI0 fun i j => .int (i + j)) (wVar 4) (wC (.int 1))) wNil)) (CT.nm 8) (wB (wCall g_is_opened (wCons (wOp dIxV (wVar 7) (wVar 1)) (wCons (wVar 8) (wCons (wVar 3) wNil))))) (wVar 8) [8] false) wNil))))))))
theorem body_opened {P : Program} {w : World} {K : PySem.W.Frag} {mg : Str → Option Value} {base : Heap} (T : Bl mg) (X_ : Fx K mg) (M : ModB K mg base) (F_need_sale : ∀ base, ModB K mg base → FnI P w K mg base 10 "need_sale" 1 g_need_sale) (F_need_class : ∀ base, ModB K mg base → FnI P w K mg base 7 "need_class" 2 g_need_class) (F_need_time : ∀ base, ModB K mg base → FnI P w K mg base 7 "need_time" 3 g_need_time) (F_worth_levels : ∀ base, ModB K mg base → FnI P w K mg base 9 "worth_levels" 2 g_worth_levels) (F_is_opened : ∀ base, ModB K mg base → FnI P w K mg base 6 "is_opened" 3 g_is_opened) {f : Addr} {cdv : Value} {A : Around} {outer : List PySem.Env} {s : Shared} {H : Hp} {E : XK}
    (hr : Room 10 (A.deeper (envOfC "opened" (defScope s_opened) s.heap.objs.size f cdv))) : DSs (cxOf (CXE P w) P w K mg base N_opened "opened" (defScope s_opened) f cdv A outer s H E) (defBody s_opened) w_opened :=
  (dss_cons (ds_expr (de_call ((F_need_sale base M).up (by decide)) hr (da_cons (de_var 0) da_nil)))
    (dss_cons (ds_expr (de_call ((F_need_class base M).up (by decide)) hr (da_cons (de_var 0) (da_cons (de_var 1) da_nil))))
    (dss_cons (ds_expr (de_call ((F_need_time base M).up (by decide)) hr (da_cons (de_var 0) (da_cons (de_var 2) (da_cons de_int da_nil)))))
    (dss_cons (ds_asg (de_var 0) (dg_tup (calm_of hr (by decide)) (dgs_cons (dg_name 4 sc_opened.nd) (dgs_cons (dg_name 5 sc_opened.nd) (dgs_cons (dg_name 6 sc_opened.nd) (dgs_cons (dg_name 7 sc_opened.nd) dgs_nil))))))
    (dss_cons (ds_set 3 sc_opened.nd (de_ixV (de_call ((F_worth_levels base M).up (by decide)) hr (da_cons (de_var 0) (da_cons (de_sub (de_var 2) de_int) da_nil))) (de_neg de_int)))
    (dss_one (ds_ret (de_tupleV T.tuple_ (da_cons (de_lc false (CT.nm 8) (calm_of hr (by decide)) sc_opened.nd (srcg_R1 T.range_ (da_cons (de_add (de_var 4) de_int) da_nil)).lc (blkOk_by (own := [("left", 8)]) (N := N_opened) (sc := defScope s_opened) (by decide +kernel)) (List.mem_singleton.mpr rfl) (fun _ _ _ _ _ => pg_name (i := 8) sc_opened.nd rfl (Or.inl rfl)) (fun _ _ _ _ _ => dts_one (dt_val (de_call ((F_is_opened base M).up (by decide)) hr (da_cons (de_ixV (de_var 7) (de_var 1)) (da_cons (de_var 8) (da_cons (de_var 3) da_nil)))))) (fun _ _ _ _ _ => (de_var 8)) s H) da_nil)))))))))

abbrev s_mark : Stmt := top 54
abbrev N_mark : List Str := ["sale", "number", "time", "numbers", "seats", "periods", "cases", "classes", "fare", "share", "size"]
theorem sc_mark : FnScope N_mark ["sale", "number", "time"] (defScope s_mark) := ⟨rfl, rfl, rfl, by decide +kernel, rfl, by decide +kernel, by decide +kernel⟩
def t_mark_2_ : WS := (wSeq (wAsg (wVar 0) (gT 4 (gsC (gN 4) (gsC (gN 5) (gsC (gN 6) (gsC (gN 7) gs0))))))
    (wSeq (wIfS (wNotT (wB (wCB (dAll) (wCons (wLc (sA (wVar 7)) (CT.tr 8 9 10) wYes (wOp (dI0 fun i j => .bl (false ^^ decide (i = j))) (wVar 10) (wC (.int 1))) [8, 9, 10] false) wNil)))) (wRaise "NoSingle" (wCons (wC (.str "not every size of the sale is 1")) wNil)) wSkip)
    (wRet (wIfE (wTr (wVar 3)) (wOp dIxV (wVar 3) (wC (.int 0))) (wC .non)))))
@[irreducible] def t_mark_2 : WS := t_mark_2_
theorem t_mark_2_eq : t_mark_2 = t_mark_2_ := by unfold t_mark_2; rfl
def w_mark : WS := (wSeq (wSet 3 (wCall g_opened (wCons (wVar 0) (wCons (wVar 1) (wCons (wVar 2) wNil)))))
    t_mark_2)
theorem body_mark {P : Program} {w : World} {K : PySem.W.Frag} {mg : Str → Option Value} {base : Heap} (T : Bl mg) (X_ : Fx K mg) (M : ModB K mg base) (F_opened : ∀ base, ModB K mg base → FnI P w K mg base 11 "opened" 3 g_opened) {f : Addr} {cdv : Value} {A : Around} {outer : List PySem.Env} {s : Shared} {H : Hp} {E : XK}
    (hr : Room 11 (A.deeper (envOfC "mark" (defScope s_mark) s.heap.objs.size f cdv))) : DSs (cxOf (CXE P w) P w K mg base N_mark "mark" (defScope s_mark) f cdv A outer s H E) (defBody s_mark) w_mark :=
  (dss_cons (ds_set 3 sc_mark.nd (de_call ((F_opened base M).up (by decide)) hr (da_cons (de_var 0) (da_cons (de_var 1) (da_cons (de_var 2) da_nil)))))
    (irr_ds (t_mark_2_eq) (dss_cons (ds_asg (de_var 0) (dg_tup (calm_of hr (by decide)) (dgs_cons (dg_name 4 sc_mark.nd) (dgs_cons (dg_name 5 sc_mark.nd) (dgs_cons (dg_name 6 sc_mark.nd) (dgs_cons (dg_name 7 sc_mark.nd) dgs_nil))))))
    (dss_cons (ds_if (dt_not (dt_val (de_all (calm_of hr (by decide)) T.all_ (da_cons (de_lc false (CT.tr 8 9 10) (calm_of hr (by decide)) sc_mark.nd (src_A (de_var 7)) (blkOk_by (own := [("fare", 8), ("share", 9), ("size", 10)]) (N := N_mark) (sc := defScope s_mark) (by decide +kernel)) ⟨by decide, by decide, by decide⟩ (fun _ _ _ _ _ => pg_tup (calm_of hr (by decide)) (pgs_cons (pg_name (i := 8) sc_mark.nd rfl (Or.inl rfl)) (pgs_cons (pg_name (i := 9) sc_mark.nd rfl (Or.inl rfl)) (pgs_cons (pg_name (i := 10) sc_mark.nd rfl (Or.inl rfl)) pgs_nil)))) (fun _ _ _ _ _ => dts_nil) (fun _ _ _ _ _ => (de_eqI (de_var 10) de_int)) s H) da_nil)))) (dss_one (ds_raise X_.r_NoSingle (calm_of hr (by decide)) (da_cons de_str da_nil))) dss_nil)
    (dss_one (ds_ret (de_if (dt_tru (de_var 3)) (de_ixV (de_var 3) de_int) de_non)))))))

abbrev s_need_left : Stmt := top 41
abbrev N_need_left : List Str := ["sale", "left", "least", "seats", "periods", "cases", "classes"]
theorem sc_need_left : FnScope N_need_left ["sale", "left", "least"] (defScope s_need_left) := ⟨rfl, rfl, rfl, by decide +kernel, rfl, by decide +kernel, by decide +kernel⟩
def w_need_left : WS := (wSeq (wAsg (wVar 0) (gT 4 (gsC (gN 3) (gsC (gN 4) (gsC (gN 5) (gsC (gN 6) gs0))))))
    (wIfS (wNotT (wB (wCall g_is_between (wCons (wVar 1) (wCons (wVar 2) (wCons (wVar 3) wNil)))))) (wRaise "NoLeft" (wCons (wC (.str "the sale has no such number of seats left here")) wNil)) wSkip))
theorem body_need_left {P : Program} {w : World} {K : PySem.W.Frag} {mg : Str → Option Value} {base : Heap} (T : Bl mg) (X_ : Fx K mg) (M : ModB K mg base) (F_is_between : ∀ base, ModB K mg base → FnI P w K mg base 6 "is_between" 3 g_is_between) {f : Addr} {cdv : Value} {A : Around} {outer : List PySem.Env} {s : Shared} {H : Hp} {E : XK}
    (hr : Room 6 (A.deeper (envOfC "need_left" (defScope s_need_left) s.heap.objs.size f cdv))) : DSs (cxOf (CXE P w) P w K mg base N_need_left "need_left" (defScope s_need_left) f cdv A outer s H E) (defBody s_need_left) w_need_left :=
  (dss_cons (ds_asg (de_var 0) (dg_tup (calm_of hr (by decide)) (dgs_cons (dg_name 3 sc_need_left.nd) (dgs_cons (dg_name 4 sc_need_left.nd) (dgs_cons (dg_name 5 sc_need_left.nd) (dgs_cons (dg_name 6 sc_need_left.nd) dgs_nil))))))
    (dss_one (ds_if (dt_not (dt_val (de_call ((F_is_between base M).up (by decide)) hr (da_cons (de_var 1) (da_cons (de_var 2) (da_cons (de_var 3) da_nil)))))) (dss_one (ds_raise X_.r_NoLeft (calm_of hr (by decide)) (da_cons de_str da_nil))) dss_nil)))

abbrev s_greatest_divisor : Stmt := top 27
abbrev N_greatest_divisor : List Str := ["top", "bottom"]
theorem sc_greatest_divisor : FnScope N_greatest_divisor ["top", "bottom"] (defScope s_greatest_divisor) := ⟨rfl, rfl, rfl, by decide +kernel, rfl, by decide +kernel, by decide +kernel⟩
def b_greatest_divisor_1 : WS := (wPar 0 1 (wCons (wVar 1) (wCons (wOp (dI (fun _ j => 0 < j) fun i j => .int (i % j)) (wVar 0) (wVar 1)) wNil)))
def w_greatest_divisor : WS := (wSeq (wWhile (wB (wOp (dI0 fun i j => .bl (true ^^ decide (i = j))) (wVar 1) (wC (.int 0)))) b_greatest_divisor_1)
    (wRet (wVar 0)))
theorem body_greatest_divisor {P : Program} {w : World} {K : PySem.W.Frag} {mg : Str → Option Value} {base : Heap} (T : Bl mg) (X_ : Fx K mg) (M : ModB K mg base) {f : Addr} {cdv : Value} {A : Around} {outer : List PySem.Env} {s : Shared} {H : Hp} {E : XK}
    (hr : Room 4 (A.deeper (envOfC "greatest_divisor" (defScope s_greatest_divisor) s.heap.objs.size f cdv))) : DSs (cxOf (CXE P w) P w K mg base N_greatest_divisor "greatest_divisor" (defScope s_greatest_divisor) f cdv A outer s H E) (defBody s_greatest_divisor) w_greatest_divisor :=
  (dss_cons (ds_while PassesOwn.leaving (dt_neI (de_var 1) de_int) (dss_one (ds_par 0 1 (calm_of hr (by decide)) sc_greatest_divisor.nd (da_cons (de_var 1) (da_cons (de_mod (de_var 0) (de_var 1)) da_nil)))))
    (dss_one (ds_ret (de_var 0))))

abbrev s_can_divide : Stmt := top 26
abbrev N_can_divide : List Str := ["top", "bottom"]
theorem sc_can_divide : FnScope N_can_divide ["top", "bottom"] (defScope s_can_divide) := ⟨rfl, rfl, rfl, by decide +kernel, rfl, by decide +kernel, by decide +kernel⟩
def w_can_divide : WS := (wRet (wAndV (wCall g_is_whole (wCons (wVar 0) wNil)) (wAndV (wCall g_is_whole (wCons (wVar 1) wNil)) (wOp (dI0 fun i j => .bl (decide (j ≤ i))) (wVar 1) (wC (.int 1))))))
theorem body_can_divide {P : Program} {w : World} {K : PySem.W.Frag} {mg : Str → Option Value} {base : Heap} (T : Bl mg) (X_ : Fx K mg) (M : ModB K mg base) (F_is_whole : ∀ base, ModB K mg base → FnI P w K mg base 5 "is_whole" 1 g_is_whole) {f : Addr} {cdv : Value} {A : Around} {outer : List PySem.Env} {s : Shared} {H : Hp} {E : XK}
    (hr : Room 5 (A.deeper (envOfC "can_divide" (defScope s_can_divide) s.heap.objs.size f cdv))) : DSs (cxOf (CXE P w) P w K mg base N_can_divide "can_divide" (defScope s_can_divide) f cdv A outer s H E) (defBody s_can_divide) w_can_divide :=
  (dss_one (ds_ret (de_and (de_call ((F_is_whole base M).up (by decide)) hr (da_cons (de_var 0) da_nil)) (de_and (de_call ((F_is_whole base M).up (by decide)) hr (da_cons (de_var 1) da_nil)) (de_one (de_ge (de_var 1) de_int))))))

abbrev s_fraction : Stmt := top 25
abbrev N_fraction : List Str := ["top", "bottom", "divisor"]
theorem sc_fraction : FnScope N_fraction ["top", "bottom"] (defScope s_fraction) := ⟨rfl, rfl, rfl, by decide +kernel, rfl, by decide +kernel, by decide +kernel⟩
def w_fraction : WS := (wSeq (wIfS (wNotT (wB (wCall g_can_divide (wCons (wVar 0) (wCons (wVar 1) wNil))))) (wRaise "NoNumber" (wCons (wC (.str "not two whole numbers, the second one from 1 on")) wNil)) wSkip)
    (wSeq (wSet 2 (wCall g_greatest_divisor (wCons (wVar 0) (wCons (wVar 1) wNil))))
    (wRet (wTup (wCons (wOp (dI CDv fun i j => .int (i / j)) (wVar 0) (wVar 2)) (wCons (wOp (dI CDv fun i j => .int (i / j)) (wVar 1) (wVar 2)) wNil))))))
theorem body_fraction {P : Program} {w : World} {K : PySem.W.Frag} {mg : Str → Option Value} {base : Heap} (T : Bl mg) (X_ : Fx K mg) (M : ModB K mg base) (F_greatest_divisor : ∀ base, ModB K mg base → FnI P w K mg base 5 "greatest_divisor" 2 g_greatest_divisor) (F_can_divide : ∀ base, ModB K mg base → FnI P w K mg base 6 "can_divide" 2 g_can_divide) {f : Addr} {cdv : Value} {A : Around} {outer : List PySem.Env} {s : Shared} {H : Hp} {E : XK}
    (hr : Room 6 (A.deeper (envOfC "fraction" (defScope s_fraction) s.heap.objs.size f cdv))) : DSs (cxOf (CXE P w) P w K mg base N_fraction "fraction" (defScope s_fraction) f cdv A outer s H E) (defBody s_fraction) w_fraction :=
  (dss_cons (ds_if (dt_not (dt_val (de_call ((F_can_divide base M).up (by decide)) hr (da_cons (de_var 0) (da_cons (de_var 1) da_nil))))) (dss_one (ds_raise X_.r_NoNumber (calm_of hr (by decide)) (da_cons de_str da_nil))) dss_nil)
    (dss_cons (ds_set 2 sc_fraction.nd (de_call ((F_greatest_divisor base M).up (by decide)) hr (da_cons (de_var 0) (da_cons (de_var 1) da_nil))))
    (dss_one (ds_ret (de_tup (da_cons (de_fdiv (de_var 0) (de_var 2)) (da_cons (de_fdiv (de_var 1) (de_var 2)) da_nil)))))))

abbrev s_seat_worth : Stmt := top 53
abbrev N_seat_worth : List Str := ["sale", "time", "left", "tops", "bottom"]
theorem sc_seat_worth : FnScope N_seat_worth ["sale", "time", "left"] (defScope s_seat_worth) := ⟨rfl, rfl, rfl, by decide +kernel, rfl, by decide +kernel, by decide +kernel⟩
def w_seat_worth : WS := (wSeq (wDrop (wCall g_need_sale (wCons (wVar 0) wNil)))
    (wSeq (wDrop (wCallD g_need_time 0 (wCons (wVar 0) (wCons (wVar 1) wNil))))
    (wSeq (wDrop (wCall g_need_left (wCons (wVar 0) (wCons (wVar 2) (wCons (wC (.int 1)) wNil)))))
    (wSeq (wAsg (wOp dIxV (wCall g_worth_levels (wCons (wVar 0) (wCons (wVar 1) wNil))) (wVar 1)) (gT 2 (gsC (gN 3) (gsC (gN 4) gs0))))
    (wRet (wCall g_fraction (wCons (wOp (dI0 fun i j => .int (i - j)) (wOp dIxV (wVar 3) (wVar 2)) (wOp dIxV (wVar 3) (wOp (dI0 fun i j => .int (i - j)) (wVar 2) (wC (.int 1))))) (wCons (wVar 4) wNil))))))))
theorem body_seat_worth {P : Program} {w : World} {K : PySem.W.Frag} {mg : Str → Option Value} {base : Heap} (T : Bl mg) (X_ : Fx K mg) (M : ModB K mg base) (F_need_sale : ∀ base, ModB K mg base → FnI P w K mg base 10 "need_sale" 1 g_need_sale) (F_need_left : ∀ base, ModB K mg base → FnI P w K mg base 7 "need_left" 3 g_need_left) (F_fraction : ∀ base, ModB K mg base → FnI P w K mg base 7 "fraction" 2 g_fraction) (F_worth_levels : ∀ base, ModB K mg base → FnI P w K mg base 9 "worth_levels" 2 g_worth_levels) (FD_need_time : ∀ base, ModB K mg base → FnD P w K mg base 7 "need_time" 3 0 g_need_time) {f : Addr} {cdv : Value} {A : Around} {outer : List PySem.Env} {s : Shared} {H : Hp} {E : XK}
    (hr : Room 10 (A.deeper (envOfC "seat_worth" (defScope s_seat_worth) s.heap.objs.size f cdv))) : DSs (cxOf (CXE P w) P w K mg base N_seat_worth "seat_worth" (defScope s_seat_worth) f cdv A outer s H E) (defBody s_seat_worth) w_seat_worth :=
  (dss_cons (ds_expr (de_call ((F_need_sale base M).up (by decide)) hr (da_cons (de_var 0) da_nil)))
    (dss_cons (ds_expr (de_callD ((FD_need_time base M).up (by decide)) hr (da_cons (de_var 0) (da_cons (de_var 1) da_nil))))
    (dss_cons (ds_expr (de_call ((F_need_left base M).up (by decide)) hr (da_cons (de_var 0) (da_cons (de_var 2) (da_cons de_int da_nil)))))
    (dss_cons (ds_asg (de_ixV (de_call ((F_worth_levels base M).up (by decide)) hr (da_cons (de_var 0) (da_cons (de_var 1) da_nil))) (de_var 1)) (dg_tup (calm_of hr (by decide)) (dgs_cons (dg_name 3 sc_seat_worth.nd) (dgs_cons (dg_name 4 sc_seat_worth.nd) dgs_nil))))
    (dss_one (ds_ret (de_call ((F_fraction base M).up (by decide)) hr (da_cons (de_sub (de_ixV (de_var 3) (de_var 2)) (de_ixV (de_var 3) (de_sub (de_var 2) de_int))) (da_cons (de_var 4) da_nil)))))))))

abbrev s_law_word : Stmt := top 59
abbrev N_law_word : List Str := ["_law_e", "_law_marks", "_law_words_here", "_law_at"]
theorem sc_law_word : FnScope N_law_word ["_law_e"] (defScope s_law_word) := ⟨rfl, rfl, rfl, by decide +kernel, rfl, by decide +kernel, by decide +kernel⟩
def w_law_word : WS := (wSeq (wSet 1 (wLv (wCons (wCB (dIsinX rows) (wCons (wVar 0) (wCons (wC (.cl "NoNumber")) wNil))) (wCons (wCB (dIsinX rows) (wCons (wVar 0) (wCons (wC (.cl "NoSale")) wNil))) (wCons (wCB (dIsinX rows) (wCons (wVar 0) (wCons (wC (.cl "NoNet")) wNil))) (wCons (wCB (dIsinX rows) (wCons (wVar 0) (wCons (wC (.cl "NoClass")) wNil))) wNil))))))
    (wSeq (wSet 1 (wOp (dCatV false) (wVar 1) (wLv (wCons (wCB (dIsinX rows) (wCons (wVar 0) (wCons (wC (.cl "NoTime")) wNil))) (wCons (wCB (dIsinX rows) (wCons (wVar 0) (wCons (wC (.cl "NoLeft")) wNil))) (wCons (wCB (dIsinX rows) (wCons (wVar 0) (wCons (wC (.cl "NoSingle")) wNil))) (wCons (wCB (dIsinX rows) (wCons (wVar 0) (wCons (wC (.cl "NoPlan")) wNil))) wNil)))))))
    (wSeq (wSet 1 (wOp (dCatV false) (wVar 1) (wLv (wCons (wCB (dIsinX rows) (wCons (wVar 0) (wCons (wC (.cl "NoRun")) wNil))) (wCons (wCB (dIsinX rows) (wCons (wVar 0) (wCons (wC (.cl "NoLimit")) wNil))) (wCons (wCB (dIsinX rows) (wCons (wVar 0) (wCons (wC (.cl "NoShow")) wNil))) (wCons (wCB (dIsinX rows) (wCons (wVar 0) (wCons (wC (.cl "NoAmends")) wNil))) wNil)))))))
    (wSeq (wSet 1 (wOp (dCatV false) (wVar 1) (wLv (wCons (wCB (dIsinX rows) (wCons (wVar 0) (wCons (wC (.cl "NoPrices")) wNil))) (wCons (wCB (dIsinX rows) (wCons (wVar 0) (wCons (wC (.cl "NoLine")) wNil))) (wCons (wCB (dIsinX rows) (wCons (wVar 0) (wCons (wC (.cl "NoText")) wNil))) wNil))))))
    (wSeq (wSet 1 (wOp (dCatV false) (wVar 1) (wLv (wCons (wCB (dIsinX rows) (wCons (wVar 0) (wCons (wC (.cl "Over")) wNil))) (wCons (wCB (dIsinX rows) (wCons (wVar 0) (wCons (wC (.cl "Nothing")) wNil))) wNil)))))
    (wSeq (wSet 2 (wLv (wCons (wC (.str "number")) (wCons (wC (.str "sale")) (wCons (wC (.str "net")) (wCons (wC (.str "class")) (wCons (wC (.str "time")) (wCons (wC (.str "left")) (wCons (wC (.str "single")) (wCons (wC (.str "plan")) (wCons (wC (.str "run")) (wCons (wC (.str "limit")) (wCons (wC (.str "show")) (wCons (wC (.str "amends")) wNil))))))))))))))
    (wSeq (wSet 2 (wOp (dCatV false) (wVar 2) (wLv (wCons (wC (.str "prices")) (wCons (wC (.str "line")) (wCons (wC (.str "text")) (wCons (wC (.str "over")) (wCons (wC (.str "nothing")) wNil))))))))
    (wSeq (wIfS (wOrT (wB (wOp (dI0 fun i j => .bl (true ^^ decide (i = j))) (wMeth dCountB (wVar 1) (wCons (wC (.bl true)) wNil)) (wC (.int 1)))) (wNotT (wB (wCB (dIsinX rows) (wCons (wVar 0) (wCons (wC (.ty "ValueError")) wNil)))))) (wRet (wC (.str "other"))) wSkip)
    (wSeq (wSet 3 (wMeth dIndexB (wVar 1) (wCons (wC (.bl true)) wNil)))
    (wRet (wIfE (wB (wOp (dEq false) (wLv (wCons (wCB (dIsinX rows) (wCons (wVar 0) (wCons (wC (.cl "NoThing")) wNil))) (wCons (wCB (dIsinX rows) (wCons (wVar 0) (wCons (wC (.cl "NotNow")) wNil))) wNil))) (wLv (wCons (wOp (dI0 fun i j => .bl (decide (i < j))) (wVar 3) (wC (.int 15))) (wCons (wOp (dI0 fun i j => .bl (decide (j < i))) (wVar 3) (wC (.int 14))) wNil))))) (wOp dIxV (wVar 2) (wVar 3)) (wC (.str "other")))))))))))))
theorem body_law_word {P : Program} {w : World} {K : PySem.W.Frag} {mg : Str → Option Value} {base : Heap} (T : Bl mg) (X_ : Fx K mg) (M : ModB K mg base) {f : Addr} {cdv : Value} {A : Around} {outer : List PySem.Env} {s : Shared} {H : Hp} {E : XK}
    (hr : Room 1 (A.deeper (envOfC "_law_word" (defScope s_law_word) s.heap.objs.size f cdv))) : DSs (cxOf (CXE P w) P w K mg base N_law_word "_law_word" (defScope s_law_word) f cdv A outer s H E) (defBody s_law_word) w_law_word :=
  (dss_cons (ds_set 1 sc_law_word.nd (de_lv (da_cons (de_isinX X_.hX T.isinstance_ (da_cons (de_var 0) (da_cons (de_cls X_.c_NoNumber) da_nil))) (da_cons (de_isinX X_.hX T.isinstance_ (da_cons (de_var 0) (da_cons (de_cls X_.c_NoSale) da_nil))) (da_cons (de_isinX X_.hX T.isinstance_ (da_cons (de_var 0) (da_cons (de_cls X_.c_NoNet) da_nil))) (da_cons (de_isinX X_.hX T.isinstance_ (da_cons (de_var 0) (da_cons (de_cls X_.c_NoClass) da_nil))) da_nil))))))
    (dss_cons (ds_set 1 sc_law_word.nd (de_catV false (de_var 1) (de_lv (da_cons (de_isinX X_.hX T.isinstance_ (da_cons (de_var 0) (da_cons (de_cls X_.c_NoTime) da_nil))) (da_cons (de_isinX X_.hX T.isinstance_ (da_cons (de_var 0) (da_cons (de_cls X_.c_NoLeft) da_nil))) (da_cons (de_isinX X_.hX T.isinstance_ (da_cons (de_var 0) (da_cons (de_cls X_.c_NoSingle) da_nil))) (da_cons (de_isinX X_.hX T.isinstance_ (da_cons (de_var 0) (da_cons (de_cls X_.c_NoPlan) da_nil))) da_nil)))))))
    (dss_cons (ds_set 1 sc_law_word.nd (de_catV false (de_var 1) (de_lv (da_cons (de_isinX X_.hX T.isinstance_ (da_cons (de_var 0) (da_cons (de_cls X_.c_NoRun) da_nil))) (da_cons (de_isinX X_.hX T.isinstance_ (da_cons (de_var 0) (da_cons (de_cls X_.c_NoLimit) da_nil))) (da_cons (de_isinX X_.hX T.isinstance_ (da_cons (de_var 0) (da_cons (de_cls X_.c_NoShow) da_nil))) (da_cons (de_isinX X_.hX T.isinstance_ (da_cons (de_var 0) (da_cons (de_cls X_.c_NoAmends) da_nil))) da_nil)))))))
    (dss_cons (ds_set 1 sc_law_word.nd (de_catV false (de_var 1) (de_lv (da_cons (de_isinX X_.hX T.isinstance_ (da_cons (de_var 0) (da_cons (de_cls X_.c_NoPrices) da_nil))) (da_cons (de_isinX X_.hX T.isinstance_ (da_cons (de_var 0) (da_cons (de_cls X_.c_NoLine) da_nil))) (da_cons (de_isinX X_.hX T.isinstance_ (da_cons (de_var 0) (da_cons (de_cls X_.c_NoText) da_nil))) da_nil))))))
    (dss_cons (ds_set 1 sc_law_word.nd (de_catV false (de_var 1) (de_lv (da_cons (de_isinX X_.hX T.isinstance_ (da_cons (de_var 0) (da_cons (de_cls X_.c_Over) da_nil))) (da_cons (de_isinX X_.hX T.isinstance_ (da_cons (de_var 0) (da_cons (de_cls X_.c_Nothing) da_nil))) da_nil)))))
    (dss_cons (ds_set 2 sc_law_word.nd (de_lv (da_cons de_str (da_cons de_str (da_cons de_str (da_cons de_str (da_cons de_str (da_cons de_str (da_cons de_str (da_cons de_str (da_cons de_str (da_cons de_str (da_cons de_str (da_cons de_str da_nil))))))))))))))
    (dss_cons (ds_set 2 sc_law_word.nd (de_catV false (de_var 2) (de_lv (da_cons de_str (da_cons de_str (da_cons de_str (da_cons de_str (da_cons de_str da_nil))))))))
    (dss_cons (ds_if (DW.dt (dw_or (dt_neI (de_lmeth PySem.F.slot_list_count PySem.F.type_list_count mt_countB dCountB_ok (de_var 1) (da_cons de_bl da_nil)) de_int) (dw_one (dt_not (dt_val (de_isinX X_.hX T.isinstance_ (da_cons (de_var 0) (da_cons (de_ty rfl T.ValueError_ (by decide +kernel)) da_nil)))))))) (dss_one (ds_ret de_str)) dss_nil)
    (dss_cons (ds_set 3 sc_law_word.nd (de_lmeth PySem.F.slot_list_index PySem.F.type_list_index mt_index dIndexB_ok (de_var 1) (da_cons de_bl da_nil)))
    (dss_one (ds_ret (de_if (dt_eq hr.units (de_lv (da_cons (de_isinX X_.hX T.isinstance_ (da_cons (de_var 0) (da_cons (de_cls X_.c_NoThing) da_nil))) (da_cons (de_isinX X_.hX T.isinstance_ (da_cons (de_var 0) (da_cons (de_cls X_.c_NotNow) da_nil))) da_nil))) (de_lv (da_cons (de_lt (de_var 3) de_int) (da_cons (de_gt (de_var 3) de_int) da_nil)))) (de_ixV (de_var 2) (de_var 3)) de_str))))))))))))

abbrev s_law_said : Stmt := top 60

abbrev s_law_words : Stmt := top 65
abbrev N_law_words : List Str := ["_law_deal", "_law_which", "_law_when", "_law_here", "_law_calls", "_law_kept", "_law_found", "_law_call"]
theorem sc_law_words : FnScope N_law_words ["_law_deal", "_law_which", "_law_when", "_law_here"] (defScope s_law_words) := ⟨rfl, rfl, rfl, by decide +kernel, rfl, by decide +kernel, by decide +kernel⟩
def t_law_words_6_ : WS := (wRet (wIfE (wB (wOp (dEqS false) (wCB (dReprY) (wCons (wTup (wCons (wVar 0) (wCons (wVar 1) (wCons (wVar 2) (wCons (wVar 3) wNil))))) wNil)) (wVar 5))) (wVar 6) (wLv wNil)))
@[irreducible] def t_law_words_6 : WS := t_law_words_6_
theorem t_law_words_6_eq : t_law_words_6 = t_law_words_6_ := by unfold t_law_words_6; rfl
def t_law_words_5_ (f_1 c_1 f_2 c_2 f_3 c_3 : Addr) : WS := (wSeq (wSet 6 (wLcG (sQY (wVar 4)) (CT.nm 7) wYes (wOp dIx (wSaidV wd "_law_words.<locals>.<lambda>" [(f_1, c_1, (wCall g_opened (wCons (wVar 0) (wCons (wVar 1) (wCons (wVar 2) wNil))))), (f_2, c_2, (wCall g_mark (wCons (wVar 0) (wCons (wVar 1) (wCons (wVar 2) wNil))))), (f_3, c_3, (wCall g_seat_worth (wCons (wVar 0) (wCons (wVar 2) (wCons (wVar 3) wNil)))))] 7) (wC (.int 0))) [7] false))
    t_law_words_6)
@[irreducible] def t_law_words_5 (f_1 c_1 f_2 c_2 f_3 c_3 : Addr) : WS := t_law_words_5_ f_1 c_1 f_2 c_2 f_3 c_3
theorem t_law_words_5_eq (f_1 c_1 f_2 c_2 f_3 c_3 : Addr) : t_law_words_5 f_1 c_1 f_2 c_2 f_3 c_3 = t_law_words_5_ f_1 c_1 f_2 c_2 f_3 c_3 := by unfold t_law_words_5; rfl
def t_law_words_4_ (f_1 c_1 f_2 c_2 f_3 c_3 : Addr) : WS := (wSeq (wSet 5 (wCB (dReprY) (wCons (wTup (wCons (wVar 0) (wCons (wVar 1) (wCons (wVar 2) (wCons (wVar 3) wNil))))) wNil)))
    (t_law_words_5 f_1 c_1 f_2 c_2 f_3 c_3))
@[irreducible] def t_law_words_4 (f_1 c_1 f_2 c_2 f_3 c_3 : Addr) : WS := t_law_words_4_ f_1 c_1 f_2 c_2 f_3 c_3
theorem t_law_words_4_eq (f_1 c_1 f_2 c_2 f_3 c_3 : Addr) : t_law_words_4 f_1 c_1 f_2 c_2 f_3 c_3 = t_law_words_4_ f_1 c_1 f_2 c_2 f_3 c_3 := by unfold t_law_words_4; rfl
def w_law_words (Pt : Addr) : WS := (wLamSet (Pt, "_law_words.<locals>.<lambda>") 4 fun f_1 c_1 =>
    (wLamApp (Pt, "_law_words.<locals>.<lambda>") 4 fun f_2 c_2 =>
    (wLamApp (Pt, "_law_words.<locals>.<lambda>") 4 fun f_3 c_3 =>
    (t_law_words_4 f_1 c_1 f_2 c_2 f_3 c_3))))
theorem body_law_words {P : Program} {w : World} {K : PySem.W.Frag} {mg : Str → Option Value} {base : Heap} (T : Bl mg) (X_ : Fx K mg) (M : ModB K mg base) (F_opened : ∀ base, ModB K mg base → FnI P w K mg base 11 "opened" 3 g_opened) (F_mark : ∀ base, ModB K mg base → FnI P w K mg base 12 "mark" 3 g_mark) (F_seat_worth : ∀ base, ModB K mg base → FnI P w K mg base 11 "seat_worth" 3 g_seat_worth) {f c Pt : Addr} (hcd : PySem.W.codeHdIn K c Pt = true) (Sd : SaidI P w K mg 13 "_law_said" wd) {A : Around} {outer : List PySem.Env} {s : Shared} {H : Hp} {E : XK}
    (hr : Room 14 (A.deeper (envOfC "_law_words" (defScope s_law_words) s.heap.objs.size f (.ref c)))) : DSs (cxOf (CXE P w) P w K mg base N_law_words "_law_words" (defScope s_law_words) f (.ref c) A outer s H E) (defBody s_law_words) (w_law_words Pt) :=
  (dss_lamSet 4 sc_law_words.nd rfl hcd M.bm (lamSc_by (sc := defScope s_law_words) (by decide +kernel)) (fun f_1 c_1 pm_1 cv_1 =>
    (dss_lamApp 4 rfl hcd M.bm (lamSc_by (sc := defScope s_law_words) (by decide +kernel)) (fun f_2 c_2 pm_2 cv_2 =>
    (dss_lamApp 4 rfl hcd M.bm (lamSc_by (sc := defScope s_law_words) (by decide +kernel)) (fun f_3 c_3 pm_3 cv_3 =>
    (irr_ds (t_law_words_4_eq f_1 c_1 f_2 c_2 f_3 c_3) (dss_cons (ds_set 5 sc_law_words.nd (de_reprY hr M.bm T.repr_ (da_cons (de_tup (da_cons (de_var 0) (da_cons (de_var 1) (da_cons (de_var 2) (da_cons (de_var 3) da_nil))))) da_nil)))
    (irr_ds (t_law_words_5_eq f_1 c_1 f_2 c_2 f_3 c_3) (dss_cons (ds_setSaidL (k := 12) 6 7 false (CT.nm 7) (calm_of hr (by decide)) sc_law_words.nd (sw_true rfl rfl rfl (by decide +kernel)) (srcg_QY (srcg_Q (de_var 4))).cc (blkOk_by (own := [("_law_call", 7)]) (N := N_law_words) (sc := defScope s_law_words) (by decide +kernel)) (List.mem_singleton.mpr rfl) (fun _ _ _ _ _ => pg_name (i := 7) sc_law_words.nd rfl (Or.inl rfl)) Sd (hr.mono (by decide)) M.bm (lams_cons (lamPin_of (pin_there (pin_there pin_here)) (lamSc_by (sc := defScope s_law_words) (by decide +kernel)) (lamV_by (N := N_law_words) (by decide +kernel)) (fun _ _ _ _ => rfl) (fun base f c' cl A outer s H E M hr => (de_call ((F_opened base M).up (by decide)) hr (da_cons (de_var 0) (da_cons (de_var 1) (da_cons (de_var 2) da_nil)))))) (lams_cons (lamPin_of (pin_there pin_here) (lamSc_by (sc := defScope s_law_words) (by decide +kernel)) (lamV_by (N := N_law_words) (by decide +kernel)) (fun _ _ _ _ => rfl) (fun base f c' cl A outer s H E M hr => (de_call ((F_mark base M).up (by decide)) hr (da_cons (de_var 0) (da_cons (de_var 1) (da_cons (de_var 2) da_nil)))))) (lams_cons (lamPin_of pin_here (lamSc_by (sc := defScope s_law_words) (by decide +kernel)) (lamV_by (N := N_law_words) (by decide +kernel)) (fun _ _ _ _ => rfl) (fun base f c' cl A outer s H E M hr => (de_call ((F_seat_worth base M).up (by decide)) hr (da_cons (de_var 0) (da_cons (de_var 2) (da_cons (de_var 3) da_nil)))))) lams_nil))))
    (irr_ds (t_law_words_6_eq) (dss_one (ds_ret (de_if (dt_eqS (de_reprY hr M.bm T.repr_ (da_cons (de_tup (da_cons (de_var 0) (da_cons (de_var 1) (da_cons (de_var 2) (da_cons (de_var 3) da_nil))))) da_nil)) (de_var 5)) (de_var 6) (de_lv da_nil)))))))))))))))

abbrev s_law_odd : Stmt := top 61
abbrev N_law_odd : List Str := ["_law_state_here", "_law_some"]
theorem sc_law_odd : FnScope N_law_odd ["_law_state_here"] (defScope s_law_odd) := ⟨rfl, rfl, rfl, by decide +kernel, rfl, by decide +kernel, by decide +kernel⟩
def w_law_odd : WS := (wSeq (wSet 1 (wLv (wCons (wC .non) (wCons (wC (.bl true)) (wCons (wC (.bl false)) (wCons (wC (.int 0)) (wCons (wC (.int 1)) (wCons (wNeg (wC (.int 1))) (wCons (wC (.int 13)) (wCons (wOp (dI CPow fun i j => .int (i ^ j.toNat)) (wC (.int 10)) (wC (.int 29))) (wCons (wC (.str "")) (wCons (wC (.str "1 1 1 1/1/1")) (wCons (wTup wNil) (wCons (wLv wNil) (wCons wD0 (wCons (wTup (wCons (wC (.int 0)) wNil)) (wCons (wLv (wCons (wC (.int 0)) wNil)) (wCons (wTup (wCons (wC (.int 0)) (wCons (wC (.int 1)) wNil))) (wCons (wTup (wCons (wTup (wCons (wC (.int 0)) (wCons (wC (.int 1)) wNil))) wNil)) wNil)))))))))))))))))))
    (wRet (wOp dIxV (wOp (dCatV false) (wVar 1) (wLv (wCons (wTup (wCons (wTup wNil) wNil)) (wCons (wTup (wCons (wC .non) wNil)) (wCons (wD1 0 1) (wCons (wTup (wCons (wTup (wCons (wC (.int 0)) (wCons (wC (.int 1)) wNil))) (wCons (wTup (wCons (wC (.int 0)) (wCons (wC (.int 1)) wNil))) wNil))) (wCons (wTup (wCons (wC (.str "0")) wNil)) (wCons (wTup (wCons (wC (.int 1)) (wCons (wC (.int 0)) wNil))) (wCons (wTup (wCons (wTup (wCons (wC (.int 2)) (wCons (wC (.int 2)) wNil))) wNil)) wNil))))))))) (wCall g_law_take (wCons (wVar 0) (wCons (wC (.int 24)) wNil))))))
theorem body_law_odd {P : Program} {w : World} {K : PySem.W.Frag} {mg : Str → Option Value} {base : Heap} (T : Bl mg) (X_ : Fx K mg) (M : ModB K mg base) (F_law_take : ∀ base, ModB K mg base → FnI P w K mg base 5 "_law_take" 2 g_law_take) {f : Addr} {cdv : Value} {A : Around} {outer : List PySem.Env} {s : Shared} {H : Hp} {E : XK}
    (hr : Room 5 (A.deeper (envOfC "_law_odd" (defScope s_law_odd) s.heap.objs.size f cdv))) : DSs (cxOf (CXE P w) P w K mg base N_law_odd "_law_odd" (defScope s_law_odd) f cdv A outer s H E) (defBody s_law_odd) w_law_odd :=
  (dss_cons (ds_set 1 sc_law_odd.nd (de_lv (da_cons de_non (da_cons de_bl (da_cons de_bl (da_cons de_int (da_cons de_int (da_cons (de_neg de_int) (da_cons de_int (da_cons (de_pow de_int de_int) (da_cons de_str (da_cons de_str (da_cons (de_tup da_nil) (da_cons (de_lv da_nil) (da_cons de_d0 (da_cons (de_tup (da_cons de_int da_nil)) (da_cons (de_lv (da_cons de_int da_nil)) (da_cons (de_tup (da_cons de_int (da_cons de_int da_nil))) (da_cons (de_tup (da_cons (de_tup (da_cons de_int (da_cons de_int da_nil))) da_nil)) da_nil)))))))))))))))))))
    (dss_one (ds_ret (de_ixV (de_catV false (de_var 1) (de_lv (da_cons (de_tup (da_cons (de_tup da_nil) da_nil)) (da_cons (de_tup (da_cons de_non da_nil)) (da_cons de_d1 (da_cons (de_tup (da_cons (de_tup (da_cons de_int (da_cons de_int da_nil))) (da_cons (de_tup (da_cons de_int (da_cons de_int da_nil))) da_nil))) (da_cons (de_tup (da_cons de_str da_nil)) (da_cons (de_tup (da_cons de_int (da_cons de_int da_nil))) (da_cons (de_tup (da_cons (de_tup (da_cons de_int (da_cons de_int da_nil))) da_nil)) da_nil))))))))) (de_call ((F_law_take base M).up (by decide)) hr (da_cons (de_var 0) (da_cons de_int da_nil)))))))
end K33

namespace K33
open FM PySem PySem.Spec PyProof.Rows L2 DD

abbrev s_law : Stmt := top 66
abbrev N_law : List Str := ["_law_script", "_law_k", "_law_state_here", "_law_deal", "_law_bad", "_law_big", "_law_seats", "_law_periods", "_law_cases", "_law_offers_here", "_law_when", "_law_here"]
theorem sc_law : FnScope N_law ["_law_script"] (defScope s_law) := ⟨rfl, rfl, rfl, by decide +kernel, rfl, by decide +kernel, by decide +kernel⟩
def t_law_21_ (Pt : Addr) : WS := (wIfS (wOrT (wB (wOp (dEq true) (wCall (g_law_words Pt) (wCons (wVar 5) (wCons (wC (.int 0)) (wCons (wC (.int 1)) (wCons (wC (.int 1)) wNil))))) (wLv (wCons (wC (.str "told")) (wCons (wC (.str "single")) (wCons (wC (.str "told")) wNil)))))) (wB (wOp (dEqS true) (wOp dIxV (wCall (g_law_words Pt) (wCons (wVar 5) (wCons (wC (.int 2)) (wCons (wC (.int 1)) (wCons (wC (.int 1)) wNil))))) (wC (.int 1))) (wC (.str "class"))))) (wRet (wC (.bl false))) wSkip)
@[irreducible] def t_law_21 (Pt : Addr) : WS := t_law_21_ Pt
theorem t_law_21_eq (Pt : Addr) : t_law_21 Pt = t_law_21_ Pt := by unfold t_law_21; rfl
def t_law_20_ (Pt : Addr) : WS := (wSeq (wSet 5 (wTup (wCons (wC (.int 1)) (wCons (wC (.int 1)) (wCons (wC (.int 4)) (wCons (wTup (wCons (wTup (wCons (wC (.int 5)) (wCons (wC (.int 1)) (wCons (wC (.int 1)) wNil)))) (wCons (wTup (wCons (wC (.int 5)) (wCons (wC (.int 1)) (wCons (wC (.int 2)) wNil)))) wNil))) wNil))))))
    (t_law_21 Pt))
@[irreducible] def t_law_20 (Pt : Addr) : WS := t_law_20_ Pt
theorem t_law_20_eq (Pt : Addr) : t_law_20 Pt = t_law_20_ Pt := by unfold t_law_20; rfl
def b_law_17_ (Pt : Addr) : WS := (wIfS (wOrT (wB (wOp (dEqS true) (wOp dIxV (wCall (g_law_words Pt) (wCons (wVar 3) (wCons (wC (.int 0)) (wCons (wVar 7) (wCons (wVar 4) wNil))))) (wC (.int 2))) (wC (.str "left")))) (wB (wOp (dEqS true) (wOp dIxV (wCall (g_law_words Pt) (wCons (wVar 3) (wCons (wC (.int 0)) (wCons (wC (.int 0)) (wCons (wVar 4) wNil))))) (wC (.int 2))) (wC (.str "left"))))) (wRet (wC (.bl false))) wSkip)
@[irreducible] def b_law_17 (Pt : Addr) : WS := b_law_17_ Pt
theorem b_law_17_eq (Pt : Addr) : b_law_17 Pt = b_law_17_ Pt := by unfold b_law_17; rfl
def t_law_17_ (Pt : Addr) : WS := (wSeq (wForG (sQY (wLv (wCons (wC (.int 0)) (wCons (wNeg (wC (.int 1))) (wCons (wOp (dI0 fun i j => .int (i + j)) (wVar 6) (wC (.int 1))) (wCons (wC (.bl true)) (wCons (wC .non) (wCons (wC (.str "1")) (wCons (wTup (wCons (wC (.int 1)) wNil)) (wCons (wLv (wCons (wC (.int 1)) wNil)) (wCons wD0 (wCons (wOp (dI CPow fun i j => .int (i ^ j.toNat)) (wC (.int 10)) (wC (.int 29))) wNil)))))))))))) (gN 4) (b_law_17 Pt))
    (t_law_20 Pt))
@[irreducible] def t_law_17 (Pt : Addr) : WS := t_law_17_ Pt
theorem t_law_17_eq (Pt : Addr) : t_law_17 Pt = t_law_17_ Pt := by unfold t_law_17; rfl
def t_law_15_ (Pt : Addr) : WS := (wSeq (wIfS (wB (wOp (dEq true) (wCall (g_law_words Pt) (wCons (wVar 3) (wCons (wC (.int 0)) (wCons (wC (.int 0)) (wCons (wC .non) wNil))))) (wLv (wCons (wC (.str "time")) (wCons (wC (.str "time")) (wCons (wC (.str "left")) wNil)))))) (wRet (wC (.bl false))) wSkip)
    (t_law_17 Pt))
@[irreducible] def t_law_15 (Pt : Addr) : WS := t_law_15_ Pt
theorem t_law_15_eq (Pt : Addr) : t_law_15 Pt = t_law_15_ Pt := by unfold t_law_15; rfl
def b_law_12_ (Pt : Addr) : WS := (wIfS (wOrT (wB (wOp (dEq true) (wCall (g_law_words Pt) (wCons (wVar 3) (wCons (wC (.int 0)) (wCons (wVar 4) (wCons (wC .non) wNil))))) (wOp (dRep false) (wLv (wCons (wC (.str "time")) wNil)) (wC (.int 3))))) (wB (wOp (dEq true) (wCall (g_law_words Pt) (wCons (wVar 3) (wCons (wC (.int 0)) (wCons (wVar 4) (wCons (wC (.int 1)) wNil))))) (wOp (dRep false) (wLv (wCons (wC (.str "time")) wNil)) (wC (.int 3)))))) (wRet (wC (.bl false))) wSkip)
@[irreducible] def b_law_12 (Pt : Addr) : WS := b_law_12_ Pt
theorem b_law_12_eq (Pt : Addr) : b_law_12 Pt = b_law_12_ Pt := by unfold b_law_12; rfl
def t_law_12_ (Pt : Addr) : WS := (wSeq (wForG (sQY (wLv (wCons (wNeg (wC (.int 1))) (wCons (wOp (dI0 fun i j => .int (i + j)) (wVar 7) (wC (.int 1))) (wCons (wC (.bl false)) (wCons (wC .non) (wCons (wC (.str "1")) (wCons (wTup (wCons (wC (.int 1)) wNil)) (wCons (wLv (wCons (wC (.int 1)) wNil)) (wCons wD0 (wCons (wOp (dI CPow fun i j => .int (i ^ j.toNat)) (wC (.int 10)) (wC (.int 29))) wNil))))))))))) (gN 4) (b_law_12 Pt))
    (t_law_15 Pt))
@[irreducible] def t_law_12 (Pt : Addr) : WS := t_law_12_ Pt
theorem t_law_12_eq (Pt : Addr) : t_law_12 Pt = t_law_12_ Pt := by unfold t_law_12; rfl
def b_law_9_ (Pt : Addr) : WS := (wIfS (wB (wOp (dEq true) (wSlW (wCall (g_law_words Pt) (wCons (wVar 3) (wCons (wVar 4) (wCons (wVar 10) (wCons (wVar 11) wNil))))) wNoP (wPt (wC (.int 2)))) (wOp (dRep false) (wLv (wCons (wC (.str "class")) wNil)) (wC (.int 2))))) (wRet (wC (.bl false))) wSkip)
@[irreducible] def b_law_9 (Pt : Addr) : WS := b_law_9_ Pt
theorem b_law_9_eq (Pt : Addr) : b_law_9 Pt = b_law_9_ Pt := by unfold b_law_9; rfl
def b_law_8_ (Pt : Addr) : WS := (wForG (sQY (wLv (wCons (wTup (wCons (wC (.int 0)) (wCons (wC .non) wNil))) (wCons (wTup (wCons (wC .non) (wCons (wC (.int 0)) wNil))) (wCons (wTup (wCons (wC (.int 1)) (wCons (wC (.int 1)) wNil))) wNil))))) (gT 2 (gsC (gN 10) (gsC (gN 11) gs0))) (b_law_9 Pt))
@[irreducible] def b_law_8 (Pt : Addr) : WS := b_law_8_ Pt
theorem b_law_8_eq (Pt : Addr) : b_law_8 Pt = b_law_8_ Pt := by unfold b_law_8; rfl
def t_law_8_ (Pt : Addr) : WS := (wSeq (wForG (sQY (wLv (wCons (wNeg (wC (.int 1))) (wCons (wCB (dLen) (wCons (wVar 9) wNil)) (wCons (wC (.bl true)) (wCons (wC .non) (wCons (wC (.str "0")) (wCons (wTup (wCons (wC (.int 0)) wNil)) (wCons (wLv (wCons (wC (.int 0)) wNil)) (wCons wD0 (wCons (wOp (dI CPow fun i j => .int (i ^ j.toNat)) (wC (.int 10)) (wC (.int 29))) wNil))))))))))) (gN 4) (b_law_8 Pt))
    (t_law_12 Pt))
@[irreducible] def t_law_8 (Pt : Addr) : WS := t_law_8_ Pt
theorem t_law_8_eq (Pt : Addr) : t_law_8 Pt = t_law_8_ Pt := by unfold t_law_8; rfl
def b_law_5_ (Pt : Addr) : WS := (wIfS (wOrT (wB (wOp (dEq true) (wCall (g_law_words Pt) (wCons (wVar 4) (wCons (wC (.int 0)) (wCons (wC (.int 1)) (wCons (wC (.int 1)) wNil))))) (wOp (dRep false) (wLv (wCons (wC (.str "sale")) wNil)) (wC (.int 3))))) (wB (wOp (dEq true) (wCall (g_law_words Pt) (wCons (wVar 4) (wCons (wC .non) (wCons (wC .non) (wCons (wC .non) wNil))))) (wOp (dRep false) (wLv (wCons (wC (.str "sale")) wNil)) (wC (.int 3)))))) (wRet (wC (.bl false))) wSkip)
@[irreducible] def b_law_5 (Pt : Addr) : WS := b_law_5_ Pt
theorem b_law_5_eq (Pt : Addr) : b_law_5 Pt = b_law_5_ Pt := by unfold b_law_5; rfl
def b_law_1_ (Pt : Addr) : WS := (wSeq (wSet 2 (wCall g_law_state (wCons (wVar 0) (wCons (wVar 1) wNil))))
    (wSeq (wSet 3 (wCall g_law_sale (wCons (wVar 2) (wCons (wC (.int 12)) (wCons (wC (.int 12)) (wCons (wC (.int 4)) wNil))))))
    (wSeq (wAsg (wVar 3) (gT 4 (gsC (gN 6) (gsC (gN 7) (gsC (gN 8) (gsC (gN 9) gs0))))))
    (wSeq (wForG (sQY (wOp (dCatV false) (wCall g_law_no_sales (wCons (wVar 3) wNil)) (wLv (wCons (wCall g_law_odd (wCons (wVar 2) wNil)) wNil)))) (gN 4) (b_law_5 Pt))
    (t_law_8 Pt)))))
@[irreducible] def b_law_1 (Pt : Addr) : WS := b_law_1_ Pt
theorem b_law_1_eq (Pt : Addr) : b_law_1 Pt = b_law_1_ Pt := by unfold b_law_1; rfl
def w_law (Pt : Addr) : WS := (wSeq (wForG (sG (sR1 (wCons (wCB (d2I fun i j => if j > i then j else i) (wCons (wC (.int 1)) (wCons (wCB (d2I fun i j => if j < i then j else i) (wCons (wCB (dLen) (wCons (wVar 0) wNil)) (wCons (wC (.int 3)) wNil))) wNil))) wNil))) (gN 1) (b_law_1 Pt))
    (wRet (wC (.bl true))))
theorem body_law {P : Program} {w : World} {K : PySem.W.Frag} {mg : Str → Option Value} {base : Heap} (T : Bl mg) (X_ : Fx K mg) (M : ModB K mg base) {Pt : Addr} (F_law_state : ∀ base, ModB K mg base → FnI P w K mg base 6 "_law_state" 2 g_law_state) (F_law_sale : ∀ base, ModB K mg base → FnI P w K mg base 7 "_law_sale" 4 g_law_sale) (F_law_no_sales : ∀ base, ModB K mg base → FnI P w K mg base 5 "_law_no_sales" 1 g_law_no_sales) (F_law_words : ∀ base, ModB K mg base → FnI P w K mg base 15 "_law_words" 4 (g_law_words Pt)) (F_law_odd : ∀ base, ModB K mg base → FnI P w K mg base 6 "_law_odd" 1 g_law_odd) {f : Addr} {cdv : Value} {A : Around} {outer : List PySem.Env} {s : Shared} {H : Hp} {E : XK}
    (hr : Room 15 (A.deeper (envOfC "law" (defScope s_law) s.heap.objs.size f cdv))) : DSs (cxOf (CXE P w) P w K mg base N_law "law" (defScope s_law) f cdv A outer s H E) (defBody s_law) (w_law Pt) :=
  (dss_cons (ds_forG PassesOwn.leaving (calm_of hr (by decide)) (srcg_R1 T.range_ (da_cons (de_max (calm_of hr (by decide)) T.max_ (da_cons de_int (da_cons (de_min (calm_of hr (by decide)) T.min_ (da_cons (de_len T.len_ (da_cons (de_var 0) da_nil)) (da_cons de_int da_nil))) da_nil))) da_nil)) (dg_name 1 sc_law.nd) (irr_ds (b_law_1_eq Pt) (dss_cons (ds_set 2 sc_law.nd (de_call ((F_law_state base M).up (by decide)) hr (da_cons (de_var 0) (da_cons (de_var 1) da_nil))))
    (dss_cons (ds_set 3 sc_law.nd (de_call ((F_law_sale base M).up (by decide)) hr (da_cons (de_var 2) (da_cons de_int (da_cons de_int (da_cons de_int da_nil))))))
    (dss_cons (ds_asg (de_var 3) (dg_tup (calm_of hr (by decide)) (dgs_cons (dg_name 6 sc_law.nd) (dgs_cons (dg_name 7 sc_law.nd) (dgs_cons (dg_name 8 sc_law.nd) (dgs_cons (dg_name 9 sc_law.nd) dgs_nil))))))
    (dss_cons (ds_forG PassesOwn.leaving (calm_of hr (by decide)) (srcg_QY (srcg_Q (de_catV false (de_call ((F_law_no_sales base M).up (by decide)) hr (da_cons (de_var 3) da_nil)) (de_lv (da_cons (de_call ((F_law_odd base M).up (by decide)) hr (da_cons (de_var 2) da_nil)) da_nil))))) (dg_name 4 sc_law.nd) (irr_ds (b_law_5_eq Pt) (dss_one (ds_if (DW.dt (dw_or (dt_ne hr.units (de_call ((F_law_words base M).up (by decide)) hr (da_cons (de_var 4) (da_cons de_int (da_cons de_int (da_cons de_int da_nil))))) (de_rep false (de_lv (da_cons de_str da_nil)) de_int)) (dw_one (dt_ne hr.units (de_call ((F_law_words base M).up (by decide)) hr (da_cons (de_var 4) (da_cons de_non (da_cons de_non (da_cons de_non da_nil))))) (de_rep false (de_lv (da_cons de_str da_nil)) de_int))))) (dss_one (ds_ret de_bl)) dss_nil))))
    (irr_ds (t_law_8_eq Pt) (dss_cons (ds_forG PassesOwn.leaving (calm_of hr (by decide)) (srcg_QY (srcg_Q (de_lv (da_cons (de_neg de_int) (da_cons (de_len T.len_ (da_cons (de_var 9) da_nil)) (da_cons de_bl (da_cons de_non (da_cons de_str (da_cons (de_tup (da_cons de_int da_nil)) (da_cons (de_lv (da_cons de_int da_nil)) (da_cons de_d0 (da_cons (de_pow de_int de_int) da_nil)))))))))))) (dg_name 4 sc_law.nd) (irr_ds (b_law_8_eq Pt) (dss_one (ds_forG PassesOwn.leaving (calm_of hr (by decide)) (srcg_QY (srcg_Q (de_lv (da_cons (de_tup (da_cons de_int (da_cons de_non da_nil))) (da_cons (de_tup (da_cons de_non (da_cons de_int da_nil))) (da_cons (de_tup (da_cons de_int (da_cons de_int da_nil))) da_nil)))))) (dg_tup (calm_of hr (by decide)) (dgs_cons (dg_name 10 sc_law.nd) (dgs_cons (dg_name 11 sc_law.nd) dgs_nil))) (irr_ds (b_law_9_eq Pt) (dss_one (ds_if (dt_ne hr.units (de_sliceW (de_call ((F_law_words base M).up (by decide)) hr (da_cons (de_var 3) (da_cons (de_var 4) (da_cons (de_var 10) (da_cons (de_var 11) da_nil))))) dop_none (dop_some de_int)) (de_rep false (de_lv (da_cons de_str da_nil)) de_int)) (dss_one (ds_ret de_bl)) dss_nil)))))))
    (irr_ds (t_law_12_eq Pt) (dss_cons (ds_forG PassesOwn.leaving (calm_of hr (by decide)) (srcg_QY (srcg_Q (de_lv (da_cons (de_neg de_int) (da_cons (de_add (de_var 7) de_int) (da_cons de_bl (da_cons de_non (da_cons de_str (da_cons (de_tup (da_cons de_int da_nil)) (da_cons (de_lv (da_cons de_int da_nil)) (da_cons de_d0 (da_cons (de_pow de_int de_int) da_nil)))))))))))) (dg_name 4 sc_law.nd) (irr_ds (b_law_12_eq Pt) (dss_one (ds_if (DW.dt (dw_or (dt_ne hr.units (de_call ((F_law_words base M).up (by decide)) hr (da_cons (de_var 3) (da_cons de_int (da_cons (de_var 4) (da_cons de_non da_nil))))) (de_rep false (de_lv (da_cons de_str da_nil)) de_int)) (dw_one (dt_ne hr.units (de_call ((F_law_words base M).up (by decide)) hr (da_cons (de_var 3) (da_cons de_int (da_cons (de_var 4) (da_cons de_int da_nil))))) (de_rep false (de_lv (da_cons de_str da_nil)) de_int))))) (dss_one (ds_ret de_bl)) dss_nil))))
    (irr_ds (t_law_15_eq Pt) (dss_cons (ds_if (dt_ne hr.units (de_call ((F_law_words base M).up (by decide)) hr (da_cons (de_var 3) (da_cons de_int (da_cons de_int (da_cons de_non da_nil))))) (de_lv (da_cons de_str (da_cons de_str (da_cons de_str da_nil))))) (dss_one (ds_ret de_bl)) dss_nil)
    (irr_ds (t_law_17_eq Pt) (dss_cons (ds_forG PassesOwn.leaving (calm_of hr (by decide)) (srcg_QY (srcg_Q (de_lv (da_cons de_int (da_cons (de_neg de_int) (da_cons (de_add (de_var 6) de_int) (da_cons de_bl (da_cons de_non (da_cons de_str (da_cons (de_tup (da_cons de_int da_nil)) (da_cons (de_lv (da_cons de_int da_nil)) (da_cons de_d0 (da_cons (de_pow de_int de_int) da_nil))))))))))))) (dg_name 4 sc_law.nd) (irr_ds (b_law_17_eq Pt) (dss_one (ds_if (DW.dt (dw_or (dt_neS (de_ixV (de_call ((F_law_words base M).up (by decide)) hr (da_cons (de_var 3) (da_cons de_int (da_cons (de_var 7) (da_cons (de_var 4) da_nil))))) de_int) de_str) (dw_one (dt_neS (de_ixV (de_call ((F_law_words base M).up (by decide)) hr (da_cons (de_var 3) (da_cons de_int (da_cons de_int (da_cons (de_var 4) da_nil))))) de_int) de_str)))) (dss_one (ds_ret de_bl)) dss_nil))))
    (irr_ds (t_law_20_eq Pt) (dss_cons (ds_set 5 sc_law.nd (de_tup (da_cons de_int (da_cons de_int (da_cons de_int (da_cons (de_tup (da_cons (de_tup (da_cons de_int (da_cons de_int (da_cons de_int da_nil)))) (da_cons (de_tup (da_cons de_int (da_cons de_int (da_cons de_int da_nil)))) da_nil))) da_nil))))))
    (irr_ds (t_law_21_eq Pt) (dss_one (ds_if (DW.dt (dw_or (dt_ne hr.units (de_call ((F_law_words base M).up (by decide)) hr (da_cons (de_var 5) (da_cons de_int (da_cons de_int (da_cons de_int da_nil))))) (de_lv (da_cons de_str (da_cons de_str (da_cons de_str da_nil))))) (dw_one (dt_neS (de_ixV (de_call ((F_law_words base M).up (by decide)) hr (da_cons (de_var 5) (da_cons de_int (da_cons de_int (da_cons de_int da_nil))))) de_int) de_str)))) (dss_one (ds_ret de_bl)) dss_nil)))))))))))))))))))
    (dss_one (ds_ret de_bl)))
end K33

namespace K33
open FM PySem PySem.Spec PyProof.Rows L2 DD
theorem if_t {b : Bool} {A B : Prop} (h : b = true) (a : A) : if b = true then A else B := by rw [if_pos h]; exact a
theorem if_f {b : Bool} {A B : Prop} (h : b = false) (a : B) : if b = true then A else B := by rw [h]; exact iteF a
abbrev en (Q : KD) : EndD := ⟨fun _ S' => Q .non S', Q, fun _ _ => False, fun _ _ => False⟩
theorem at_of' {xs : List D} {z : Int} {j : Nat} {v : D} (e : z = (j : Int)) (h : xs[j]? = some v) : L2.atI xs z = some v := by
  rw [e]
  exact atI_nat h
theorem sm64 {i : Int} (h : i.natAbs < 2 ^ 64) : Sm i := Nat.lt_of_lt_of_le h (Nat.pow_le_pow_right (by decide) (by decide))
theorem get_set {k : Nat} {S : Sto} {u v : List D} (h : S[k]? = some u) : (S.set k v)[k]? = some v := List.getElem?_set_self (List.getElem?_eq_some_iff.mp h).1
theorem ok_law_cell_at (ds : List D) (E : XD) (S : Sto) (Q : KD) (h : g_law_cell_at ds E S Q) : w_law_cell_at E (en Q) (startD N_law_cell_at ds) S := by
  obtain ⟨ns, k, rfl, hk, q⟩ := h
  by_cases hl : k < (ns.map D.int).length
  · refine if_t (decide_eq_true hl) ?_
    refine ixv (xs := ns.map D.int) rfl hk hl fun d hd => ?_
    rw [List.getElem?_map] at hd
    cases e : ns[k.toNat]? with
    | none => rw [e] at hd; cases hd
    | some n =>
      rw [e] at hd
      cases hd
      exact q n
  · exact if_f (decide_eq_false hl) (q 0)
theorem ok_law_state (ds : List D) (E : XD) (S : Sto) (Q : KD) (h : g_law_state ds E S Q) : w_law_state E (en Q) (startD N_law_state ds) S := by
  obtain ⟨ns, k, rfl, hk, q⟩ := h
  refine ⟨ns, k, rfl, hk, fun c => ?_⟩
  refine ⟨⟨by decide, by decide, by decide⟩, show (0 : Int) < 2147483647 by decide, by show 3 ≤ 1000; decide, ?_⟩
  refine q _ _ _ ⟨?_, ⟨Int.emod_nonneg _ (by decide), Int.emod_lt_of_pos _ (by decide)⟩, by decide⟩
  show 0 ≤ (if c - (10 : Int) ^ (18 : Int).toNat > 0 then _ else _)
  split <;> omega
theorem jx0 {k : Nat} {S : Sto} {x y z : D} {Q : KD} (h : S[k]? = some [x, y, z]) (q : Q x S) : dIx (.lst k) (.int 0) S Q := by
  show (match S[k]? with | some ds => dAt ds 0 S Q | none => False)
  rw [h]
  exact q
theorem jx1 {k : Nat} {S : Sto} {x y z : D} {Q : KD} (h : S[k]? = some [x, y, z]) (q : Q y S) : dIx (.lst k) (.int 1) S Q := by
  show (match S[k]? with | some ds => dAt ds 1 S Q | none => False)
  rw [h]
  exact q
theorem jx2 {k : Nat} {S : Sto} {x y z : D} {Q : KD} (h : S[k]? = some [x, y, z]) (q : Q z S) : dIx (.lst k) (.int 2) S Q := by
  show (match S[k]? with | some ds => dAt ds 2 S Q | none => False)
  rw [h]
  exact q
theorem jset0 {k : Nat} {S : Sto} {x y z d : D} {Q : Sto → Prop} (h : S[k]? = some [x, y, z]) (q : Q (S.set k [d, y, z])) : dSetL (.lst k) (.int 0) d S Q := by
  show (match S[k]? with | some ds => (match ixN ds.length 0 with | some j => Q (S.set k (ds.set j d)) | none => False) | none => False)
  rw [h]
  exact q
theorem jset1 {k : Nat} {S : Sto} {x y z d : D} {Q : Sto → Prop} (h : S[k]? = some [x, y, z]) (q : Q (S.set k [x, d, z])) : dSetL (.lst k) (.int 1) d S Q := by
  show (match S[k]? with | some ds => (match ixN ds.length 1 with | some j => Q (S.set k (ds.set j d)) | none => False) | none => False)
  rw [h]
  exact q
theorem jset2 {k : Nat} {S : Sto} {x y z d : D} {Q : Sto → Prop} (h : S[k]? = some [x, y, z]) (q : Q (S.set k [x, y, d])) : dSetL (.lst k) (.int 2) d S Q := by
  show (match S[k]? with | some ds => (match ixN ds.length 2 with | some j => Q (S.set k (ds.set j d)) | none => False) | none => False)
  rw [h]
  exact q
theorem ok_law_take (ds : List D) (E : XD) (S : Sto) (Q : KD) (h : g_law_take ds E S Q) : w_law_take E (en Q) (startD N_law_take ds) S := by
  obtain ⟨k, b, rfl, hb, sb, ⟨x, y, z, hS, hx, ⟨hy, hy2⟩, hz⟩, q⟩ := h
  by_cases hx0 : 0 < x
  · refine jx0 hS (if_t (decide_eq_true hx0) ?_)
    refine jx0 hS ⟨hb, ?_⟩
    refine jx0 hS ⟨⟨hb, sb⟩, ?_⟩
    refine jset0 hS ?_
    exact q (x % b) _ (Int.emod_nonneg _ (by omega)) (Int.emod_lt_of_pos _ hb) ⟨x / b, y, z, rfl, Int.ediv_nonneg hx (by omega), ⟨hy, hy2⟩, hz⟩
  · refine jx0 hS (if_f (decide_eq_false hx0) ?_)
    refine jx2 hS ?_
    refine jset2 hS ?_
    have hS1 := get_set (v := [.int x, .int y, .int (z + 1)]) hS
    refine jx1 hS1 ⟨⟨sm64 (by omega), sm64 (by decide)⟩, ?_⟩
    refine jx2 hS1 ⟨show (0 : Int) < 2147483647 by decide, ?_⟩
    refine jset1 hS1 ?_
    have g1 := Int.emod_nonneg (y * 48271 + 29 + (z + 1)) (show (2147483647 : Int) ≠ 0 by decide)
    have l1 := Int.emod_lt_of_pos (y * 48271 + 29 + (z + 1)) (show (0 : Int) < 2147483647 by decide)
    have hS2 := get_set (v := [.int x, .int ((y * 48271 + 29 + (z + 1)) % 2147483647), .int (z + 1)]) hS1
    have sz : Sm ((y * 48271 + 29 + (z + 1)) % 2147483647) := sm64 (by omega)
    obtain ⟨u, eu⟩ : ∃ u, u = (y * 48271 + 29 + (z + 1)) % 2147483647 := ⟨_, rfl⟩
    refine jx1 hS2 (jx1 hS2 ⟨⟨sz, sz⟩, ?_⟩)
    refine jx1 hS2 ⟨⟨sm64 (by decide), sz⟩, show (0 : Int) < 2147483629 by decide, ?_⟩
    rw [← eu] at g1 l1 sz
    have g2 := Int.emod_nonneg (u * u + 39373 * u + 7) (show (2147483629 : Int) ≠ 0 by decide)
    have l2 := Int.emod_lt_of_pos (u * u + 39373 * u + 7) (show (0 : Int) < 2147483629 by decide)
    have su : Sm ((u * u + 39373 * u + 7) % 2147483629) := sm64 (by omega)
    rw [eu] at g1 l1 su
    refine ⟨⟨su, su⟩, ⟨sm64 (by decide), su⟩, show (0 : Int) < 2147483587 by decide, ?_⟩
    refine ⟨⟨by decide, sm64 (by decide)⟩, hb, ?_⟩
    exact q _ _ (Int.emod_nonneg _ (by omega)) (Int.emod_lt_of_pos _ hb) ⟨x, _, z + 1, by rw [List.set_set], hx, ⟨g1, l1⟩, by omega⟩
theorem Stp.has {k : Nat} {S S' : Sto} (h : Has k S) (s : Stp k S S') : Has k S' := by
  obtain ⟨x, y, z, e, _⟩ := h
  obtain ⟨x', y', z', rfl, o⟩ := s
  exact ⟨x', y', z', get_set e, o⟩
theorem Stp.other {k m : Nat} {S S' : Sto} (a : Stp k S S') (h : k ≠ m) : S'[m]? = S[m]? := by
  obtain ⟨x, y, z, rfl, _⟩ := a
  exact List.getElem?_set_ne h
theorem Stp.len {k : Nat} {S S' : Sto} (a : Stp k S S') : S'.length = S.length := by
  obtain ⟨x, y, z, rfl, _⟩ := a
  exact List.length_set
theorem Has.lt {k : Nat} {S : Sto} (h : Has k S) : k < S.length := by
  obtain ⟨x, y, z, e, _⟩ := h
  exact (List.getElem?_eq_some_iff.mp e).1
theorem Has.at_ {k : Nat} {S S' : Sto} (h : Has k S) (e : S'[k]? = S[k]?) : Has k S' := by
  obtain ⟨x, y, z, e1, o⟩ := h
  exact ⟨x, y, z, by rw [e]; exact e1, o⟩
theorem Gr.refl (S : Sto) : Gr S S := ⟨fun _ _ => rfl, Nat.le_refl _⟩
theorem Gr.trans {S S1 S2 : Sto} (a : Gr S S1) (b : Gr S1 S2) : Gr S S2 := ⟨fun j h => by rw [b.o j (Nat.lt_of_lt_of_le h a.l), a.o j h], Nat.le_trans a.l b.l⟩
theorem Gr.app (S T : Sto) : Gr S (S ++ T) := ⟨fun j h => List.getElem?_append_left h, by rw [List.length_append]; omega⟩
theorem Gr.set {S0 S : Sto} {j : Nat} {xs : List D} (g : Gr S0 S) (hj : S0.length ≤ j) : Gr S0 (S.set j xs) := ⟨fun i h => by rw [List.getElem?_set_ne (by omega)]; exact g.o i h, by rw [List.length_set]; exact g.l⟩
theorem Has.gr {k : Nat} {S S' : Sto} (h : Has k S) (g : Gr S S') : Has k S' := h.at_ (g.o k h.lt)
theorem Kp.refl {k : Nat} {S : Sto} (h : Has k S) : Kp k S S := ⟨h, fun _ _ _ => rfl, Nat.le_refl _⟩
theorem Kp.trans {k : Nat} {S S1 S2 : Sto} (a : Kp k S S1) (b : Kp k S1 S2) : Kp k S S2 := ⟨b.h, fun j n h => by rw [b.o j n (Nat.lt_of_lt_of_le h a.l), a.o j n h], Nat.le_trans a.l b.l⟩
theorem Stp.kp {k : Nat} {S S' : Sto} (h : Has k S) (s : Stp k S S') : Kp k S S' := ⟨s.has h, fun j n _ => s.other (Ne.symm n), Nat.le_of_eq s.len.symm⟩
theorem Gr.kp {k : Nat} {S S' : Sto} (h : Has k S) (g : Gr S S') : Kp k S S' := ⟨h.gr g, fun j _ l => g.o j l, g.l⟩
theorem app_at {j : Nat} {xs : List D} {d : D} {S : Sto} {Q : KD} (h : S[j]? = some xs) (hl : xs.length < 1000) (q : Q .non (S.set j (xs ++ [d]))) : dAppend (.lst j) [d] S Q := by
  unfold dAppend
  show (match S[j]? with | some ys => ys.length < 1000 ∧ Q .non (S.set j (ys ++ [d])) | none => False)
  rw [h]
  exact ⟨hl, q⟩
theorem Kp.set {k j : Nat} {S0 S : Sto} {xs : List D} (h : Kp k S0 S) (hkj : k ≠ j) (hj : S0.length ≤ j) : Kp k S0 (S.set j xs) :=
  ⟨h.h.at_ (List.getElem?_set_ne (Ne.symm hkj)), fun i n l => by rw [List.getElem?_set_ne (by omega)]; exact h.o i n l, by rw [List.length_set]; exact h.l⟩
end K33

namespace K33
open FM PySem PySem.Spec PyProof.Rows L2 DD
structure OffOk (fare sizes c : Int) (cl : Cls) (room : Int) : Prop where
  o : ∀ p ∈ cl, (1 ≤ p.1 ∧ p.1 ≤ fare) ∧ 1 ≤ p.2.1 ∧ (1 ≤ p.2.2 ∧ p.2.2 ≤ sizes)
  s : shares cl + room = c
  r : 0 ≤ room
theorem OffOk.le {fare sizes c room : Int} {cl : Cls} (ok : OffOk fare sizes c cl room) : room ≤ c := by
  have h := ok.s
  have : 0 ≤ shares cl := sum_nonneg _ _ fun p hp => by have := (ok.o p hp).2.1; omega
  omega
theorem OffOk.more {fare sizes c room f s z : Int} {cl : Cls} (ok : OffOk fare sizes c cl room) (hf : 1 ≤ f ∧ f ≤ fare) (hs : 1 ≤ s ∧ s ≤ room) (hz : 1 ≤ z ∧ z ≤ sizes) : OffOk fare sizes c (cl ++ [(f, s, z)]) (room - s) := by
  refine ⟨List.forall_mem_append.mpr ⟨ok.o, List.forall_mem_cons.mpr ⟨⟨hf, hs.1, hz⟩, fun _ z => nomatch z⟩⟩, ?_, by omega⟩
  unfold shares
  rw [List.map_append, List.sum_append]
  have h := ok.s
  unfold shares at h
  simp only [List.map_cons, List.map_nil, List.sum_cons, List.sum_nil]
  omega
theorem min_b {a b : Int} (h : 1 ≤ a) (h2 : 1 ≤ b) : ∃ m : Int, (if b < a then b else a) = m ∧ 1 ≤ m ∧ m ≤ a := ⟨_, rfl, by split <;> omega, by split <;> omega⟩
theorem offers_body {E : XD} {Dn : EndD} {k j : Nat} {sizes c fare : Int} (hz : 1 ≤ sizes ∧ sizes ≤ 4) (hc : 1 ≤ c ∧ c ≤ 24) (hf : 1 ≤ fare ∧ fare ≤ 99) {s1 s4 s7 s8 : Option D} {S0 : Sto} (hkj : k ≠ j) (hj0 : S0.length ≤ j) {cl : Cls} {room : Int} {S : Sto} (hl : cl.length < 900) (ok : OffOk fare sizes c cl room) (kp : Kp k S0 S) (hS : S[j]? = some (clD cl))
    (q : ∀ cl' room' o7 o8 S', (room ≤ 0 ∧ cl' = cl ∨ cl'.length = cl.length + 1) → OffOk fare sizes c cl' room' → Kp k S0 S' → S'[j]? = some (clD cl') → Dn.nx [some (.lst k), s1, some (.int sizes), some (.int fare), s4, some (.lst j), some (.int room'), o7, o8] S') :
    b_law_offers_2 E Dn [some (.lst k), s1, some (.int sizes), some (.int fare), s4, some (.lst j), some (.int room), s7, s8] S := by
  rw [b_law_offers_2_eq]
  have hle := ok.le
  by_cases hr : 0 < room
  · refine if_t (decide_eq_true hr) ?_
    refine ⟨by show 3 ≤ 1000; decide, ?_⟩
    refine ⟨k, 3, rfl, by decide, sm64 (by decide), kp.h, fun r1 S1 a1 b1 t1 => ?_⟩
    have k1 := kp.trans (t1.kp kp.h)
    refine ixv_mem rfl a1 b1 fun x hx => ?_
    obtain ⟨m, rfl, m1⟩ : ∃ m : Int, x = .int m ∧ 1 ≤ m := by
      rcases List.mem_cons.mp hx with rfl | hx
      · exact ⟨24, rfl, by decide⟩
      rcases List.mem_cons.mp hx with rfl | hx
      · exact ⟨6, rfl, by decide⟩
      rcases List.mem_cons.mp hx with rfl | hx
      · exact ⟨2, rfl, by decide⟩
      · exact absurd hx (by simp)
    obtain ⟨b, eb, b0, b9⟩ := min_b (a := room) (b := m) (by omega) m1
    refine ⟨k, (if m < room then m else room), rfl, by rw [eb]; omega, by rw [eb]; exact sm64 (by omega), k1.h, fun r2 S2 a2 b2 t2 => ?_⟩
    rw [eb] at b2
    have k2 := k1.trans (t2.kp k1.h)
    refine ⟨k, fare, rfl, by omega, sm64 (by omega), k2.h, fun r3 S3 a3 b3 t3 => ?_⟩
    have k3 := k2.trans (t3.kp k2.h)
    obtain ⟨b', eb', b0', b9'⟩ := min_b (a := fare) (b := 9) (by omega) (by decide)
    refine ⟨k, (if 9 < fare then 9 else fare), rfl, by rw [eb']; omega, by rw [eb']; exact sm64 (by omega), k3.h, fun r4 S4 a4 b4 t4 => ⟨by show 3 ≤ 1000; decide, ?_⟩⟩
    rw [eb'] at b4
    have k4 := k3.trans (t4.kp k3.h)
    refine ⟨k, 3, rfl, by decide, sm64 (by decide), k4.h, fun r5 S5 a5 b5 t5 => ?_⟩
    have k5 := k4.trans (t5.kp k4.h)
    refine ixv_mem rfl a5 b5 fun x hx => ?_
    obtain ⟨f, rfl, f1, f2⟩ : ∃ f : Int, x = .int f ∧ 1 ≤ f ∧ f ≤ fare := by
      rcases List.mem_cons.mp hx with rfl | hx
      · exact ⟨1 + r3, rfl, by omega, by omega⟩
      rcases List.mem_cons.mp hx with rfl | hx
      · exact ⟨1 + r4, rfl, by omega, by omega⟩
      rcases List.mem_cons.mp hx with rfl | hx
      · exact ⟨fare, rfl, by omega, by omega⟩
      · exact absurd hx (by simp)
    refine ⟨trivial, ?_⟩
    refine ⟨k, sizes, rfl, by omega, sm64 (by omega), k5.h, fun r6 S6 a6 b6 t6 => ⟨by show 3 ≤ 1000; decide, ?_⟩⟩
    have k6 := k5.trans (t6.kp k5.h)
    have e6 : S6[j]? = some (clD cl) := by rw [t6.other hkj, t5.other hkj, t4.other hkj, t3.other hkj, t2.other hkj, t1.other hkj]; exact hS
    refine app_at e6 (by rw [List.length_map]; omega) ?_
    refine q (cl ++ [(f, 1 + r2, 1 + r6)]) (room - (1 + r2)) _ _ _ (.inr (by rw [List.length_append]; rfl)) (ok.more ⟨f1, f2⟩ ⟨by omega, by omega⟩ ⟨by omega, by omega⟩) (k6.set hkj hj0) ?_
    rw [List.getElem?_set_self (List.getElem?_eq_some_iff.mp e6).1]
    unfold clD
    rw [List.map_append]
    rfl
  · exact if_f (decide_eq_false hr) (q cl room _ _ S (.inl ⟨by omega, rfl⟩) ok kp hS)
theorem offers_loop {E : XD} {Dn : EndD} {k j : Nat} {sizes c fare : Int} (hz : 1 ≤ sizes ∧ sizes ≤ 4) (hc : 1 ≤ c ∧ c ≤ 24) (hf : 1 ≤ fare ∧ fare ≤ 99) {s1 : Option D} {S0 : Sto} (hkj : k ≠ j) (hj0 : S0.length ≤ j) :
    ∀ (ds : List D) (cl : Cls) (room : Int) (o4 o7 o8 : Option D) (S : Sto), cl.length + ds.length ≤ 4 → OffOk fare sizes c cl room → Kp k S0 S → S[j]? = some (clD cl) → (cl = [] → 0 < ds.length) →
      (∀ cl' room' o4 o7 o8 S', cl'.length ≤ 4 → 1 ≤ cl'.length → OffOk fare sizes c cl' room' → Kp k S0 S' → S'[j]? = some (clD cl') → Dn.nx [some (.lst k), s1, some (.int sizes), some (.int fare), o4, some (.lst j), some (.int room'), o7, o8] S') →
      loopD (gN 4) b_law_offers_2 E Dn (fun _ => True) ds [some (.lst k), s1, some (.int sizes), some (.int fare), o4, some (.lst j), some (.int room), o7, o8] S
  | [], cl, room, o4, o7, o8, S, hl, ok, kp, hS, hne, q => by
    refine ⟨trivial, q cl room o4 o7 o8 S (by simpa using hl) ?_ ok kp hS⟩
    cases cl with
    | nil => exact absurd (hne rfl) (by simp)
    | cons _ _ => simp
  | d :: ds, cl, room, o4, o7, o8, S, hl, ok, kp, hS, hne, q => by
    rw [List.length_cons] at hl
    refine ⟨trivial, offers_body hz hc hf hkj hj0 (by omega) ok kp hS fun cl' room' o7 o8 S' h1 ok' kp' hS' => ?_⟩
    refine offers_loop hz hc hf hkj hj0 ds cl' room' _ _ _ S' ?_ ok' kp' hS' (fun e => ?_) q
    · rcases h1 with ⟨_, rfl⟩ | h1 <;> omega
    · rcases h1 with ⟨h1, h2⟩ | h1
      · rw [← h2, e] at ok
        have h := ok.s
        simp [shares] at h
        omega
      · rw [e] at h1; simp at h1
theorem rng_len (lo : Int) (n : Nat) : (rngD lo n).length = n := by unfold rngD; rw [List.length_map, List.length_range]
theorem ok_law_offers (ds : List D) (E : XD) (S : Sto) (Q : KD) (h : g_law_offers ds E S Q) : w_law_offers E (en Q) (startD N_law_offers ds) S := by
  obtain ⟨k, c, z, f, rfl, hc, hz, hf, hS, q⟩ := h
  refine ⟨by show 0 ≤ 1000; decide, ?_⟩
  have k7 : Kp k S (S ++ [[]]) := Gr.kp hS (Gr.app _ _)
  refine ⟨k, 4, rfl, by decide, sm64 (by decide), k7.h, fun r7 S7 a7 b7 t7 => ⟨⟨by omega, by omega⟩, ?_⟩⟩
  have k8 := k7.trans (t7.kp k7.h)
  have hkj : k ≠ S.length := Nat.ne_of_lt hS.lt
  have e7 : S7[S.length]? = some (clD []) := by rw [t7.other hkj]; simp
  refine offers_loop (sizes := z) (c := c) (fare := f) (S0 := S) hz hc hf hkj (Nat.le_refl _) _ [] c _ _ _ S7 (by rw [rng_len]; show 0 + _ ≤ 4; omega) ⟨(fun _ z => nomatch z), by simp [shares], by omega⟩ k8 e7 (fun _ => by rw [rng_len]; omega) fun cl room o4 o7 o8 S8 l1 l2 ok kp hS8 => ?_
  refine tup_seq (x := .lst S.length) (xs := clD cl) hS8 ?_
  have h1 := ok.s
  have h2 := ok.r
  exact q cl S8 ⟨l2, l1⟩ ok.o (by omega) kp
theorem ok_law_sale (ds : List D) (E : XD) (S : Sto) (Q : KD) (h : g_law_sale ds E S Q) : w_law_sale E (en Q) (startD N_law_sale ds) S := by
  obtain ⟨k, far, long, sizes, rfl, hf, hlo, hz, hS, q⟩ := h
  refine ⟨by show 2 ≤ 1000; decide, ?_⟩
  refine ⟨k, 2, rfl, by decide, sm64 (by decide), hS, fun r1 S1 a1 b1 t1 => ?_⟩
  have k1 := t1.kp hS
  refine ixv_mem rfl a1 b1 fun x hx => ?_
  obtain ⟨m, rfl, m1, m2⟩ : ∃ m : Int, x = .int m ∧ 1 ≤ m ∧ m ≤ 24 := by
    rcases List.mem_cons.mp hx with rfl | hx
    · exact ⟨24, rfl, by decide, by decide⟩
    rcases List.mem_cons.mp hx with rfl | hx
    · exact ⟨6, rfl, by decide, by decide⟩
    · exact absurd hx (by simp)
  refine ⟨k, m, rfl, by omega, sm64 (by omega), k1.h, fun r2 S2 a2 b2 t2 => ?_⟩
  have k2 := k1.trans (t2.kp k1.h)
  refine ⟨k, far + 1, rfl, by omega, sm64 (by omega), k2.h, fun r3 S3 a3 b3 t3 => ?_⟩
  have k3 := k2.trans (t3.kp k2.h)
  refine ⟨k, long + 1, rfl, by omega, sm64 (by omega), k3.h, fun r4 S4 a4 b4 t4 => ⟨by show 3 ≤ 1000; decide, ?_⟩⟩
  have k4 := k3.trans (t4.kp k3.h)
  refine ⟨k, 1 + r2, sizes, 99, rfl, ⟨by omega, by omega⟩, hz, by decide, k4.h, fun cl S5 hl ho hs k5 => ⟨by show 1 ≤ 1000; decide, by show 3 + 1 ≤ 1000; decide, ?_⟩⟩
  exact q r3 r4 (1 + r2) cl S5 ⟨⟨a3, by omega⟩, ⟨a4, by omega⟩, ⟨by omega, by omega⟩, hl, ho, hs⟩ (k4.trans k5)
end K33

namespace K33
open FM PySem PySem.Spec PyProof.Rows L2 DD
theorem ok_is_whole (ds : List D) (E : XD) (S : Sto) (Q : KD) (h : g_is_whole ds E S Q) : w_is_whole E (en Q) (startD N_is_whole ds) S := by
  obtain ⟨d, rfl, ok, q⟩ := h
  cases d with
  | non => exact ⟨_, .none_int, iteF q⟩
  | bl b => exact ⟨_, .bool_int, iteT ⟨_, .bool_bool, q⟩⟩
  | int b => exact ⟨_, .int_int, iteT ⟨_, .int_bool, q⟩⟩
  | str b => exact ⟨_, .str_int, iteF q⟩
  | tup b => exact ⟨_, .tuple_int, iteF q⟩
  | lv b => exact ⟨_, .list_int, iteF q⟩
  | lst b => exact ⟨_, .list_int, iteF q⟩
  | sv b => exact ⟨_, .list_int, iteF q⟩
  | dc b => exact ⟨_, .dict_int, iteF q⟩
  | ty b => exact ok.elim
  | ob b => exact ok.elim
  | ex b => exact ok.elim
  | cl b => exact ok.elim
  | dv b c => exact ok.elim
  | dm b => exact ok.elim
  | ins b c => exact ok.elim
  | lam b c => exact ok.elim
  | exn b c => exact ok.elim
theorem ok_greatest_divisor (ds : List D) (E : XD) (S : Sto) (Q : KD) (h : g_greatest_divisor ds E S Q) : w_greatest_divisor E (en Q) (startD N_greatest_divisor ds) S := by
  obtain ⟨a, b, rfl, hb, q⟩ := h
  refine ⟨fun m r S' => ∃ a' b' : Int, r = [some (.int a'), some (.int b')] ∧ 0 ≤ b' ∧ (b' = 0 → 0 ≤ a') ∧ Int.gcd a' b' = Int.gcd a b ∧ m = b'.toNat ∧ S' = S, ⟨_, a, b, rfl, by omega, by omega, rfl, rfl, rfl⟩, ?_⟩
  rintro m r S' ⟨a', b', rfl, h0, h1, hg, rfl, rfl⟩
  by_cases hz : b' = 0
  · refine if_f (by rw [decide_eq_true hz]; rfl) ?_
    show Q (.int a') S'
    have e : (Int.gcd a b : Int) = a' := by
      rw [← hg, hz, Int.gcd_zero]
      have := h1 hz
      omega
    rw [← e]
    exact q
  · refine if_t (by rw [decide_eq_false hz]; rfl) ⟨fun r' S'' => r' = [some (.int b'), some (.int (a' % b'))] ∧ S'' = S', ?_, ?_⟩
    · rintro r' S'' ⟨rfl, rfl⟩
      have l := Int.emod_lt_of_pos a' (show 0 < b' by omega)
      have g := Int.emod_nonneg a' hz
      exact ⟨(a' % b').toNat, by omega, b', a' % b', rfl, g, fun _ => h0, by rw [gcd_step]; exact hg, rfl, rfl⟩
    · exact ⟨show 0 < b' by omega, rfl, rfl⟩
theorem ok_can_divide (ds : List D) (E : XD) (S : Sto) (Q : KD) (h : g_can_divide ds E S Q) : w_can_divide E (en Q) (startD N_can_divide ds) S := by
  obtain ⟨d, e, rfl, ok1, ok2, q⟩ := h
  refine ⟨d, rfl, ok1, ?_⟩
  cases d with
  | int a =>
    refine iteT ⟨e, rfl, ok2, ?_⟩
    cases e with
    | int b => exact iteT q
    | _ => exact iteF q
  | _ => exact iteF q
theorem ok_fraction (ds : List D) (E : XD) (S : Sto) (Q : KD) (h : g_fraction ds E S Q) : w_fraction E (en Q) (startD N_fraction ds) S := by
  obtain ⟨d, e, rfl, ok1, ok2, h⟩ := h
  refine ⟨d, e, rfl, ok1, ok2, ?_⟩
  rcases h with ⟨a, b, rfl, rfl, hb, sm, q⟩ | ⟨hc, q⟩
  · refine if_f (by show (!canD (.int a) (.int b)) = false; rw [show canD (.int a) (.int b) = true from decide_eq_true (by omega)]; rfl) ?_
    refine ⟨a, b, rfl, hb, ?_⟩
    have hg := gcd_pos (a := a) hb
    have sg : Sm (Int.gcd a b : Int) := by
      have : Int.gcd a b ≤ b.natAbs := Nat.le_of_dvd (by omega) (Int.gcd_dvd_natAbs_right a b)
      unfold Sm at sm ⊢
      omega
    rw [nfP_def] at q
    exact ⟨⟨hg, sg⟩, ⟨hg, sg⟩, by show 2 ≤ 1000; decide, q⟩
  · exact if_t (by rw [hc]; rfl) ⟨by show 1 ≤ 1000; decide, q⟩
theorem numB_int {d : D} {lo hi : Int} (h : numB d lo hi = true) : ∃ i, d = .int i ∧ lo ≤ i ∧ i ≤ hi := by
  cases d <;> first | cases h | skip
  rename_i i
  have h : (decide (lo ≤ i) && decide (i ≤ hi)) = true := h
  rw [Bool.and_eq_true, decide_eq_true_eq, decide_eq_true_eq] at h
  exact ⟨i, rfl, h.1, h.2⟩
theorem ok_is_between (ds : List D) (E : XD) (S : Sto) (Q : KD) (h : g_is_between ds E S Q) : w_is_between E (en Q) (startD N_is_between ds) S := by
  obtain ⟨d, lo, hi, rfl, ok, q⟩ := h
  refine ⟨d, rfl, ok, ?_⟩
  cases d with
  | int i =>
    refine iteT ?_
    have q : Q (.bl (decide (lo ≤ i) && decide (i ≤ hi))) S := q
    by_cases h1 : lo ≤ i
    · rw [decide_eq_true h1, Bool.true_and] at q
      exact if_t (b := decide (lo ≤ i)) (decide_eq_true h1) q
    · rw [decide_eq_false h1, Bool.false_and] at q
      exact if_f (b := decide (lo ≤ i)) (decide_eq_false h1) q
  | _ => exact iteF q
theorem wh1_int {d : D} (h : wh1 d = true) : ∃ i, d = .int i ∧ 1 ≤ i := by
  cases d <;> first | cases h | skip
  exact ⟨_, rfl, of_decide_eq_true h⟩
theorem clsB_tup {d : D} (h : clsB d = true) : ∃ f s z : Int, d = dCl f s z ∧ (1 ≤ f ∧ f ≤ 99) ∧ 1 ≤ s ∧ (1 ≤ z ∧ z ≤ 4) := by
  match d, h with
  | .tup [f, s, z], h =>
    have h : (numB f 1 99 && (wh1 s && numB z 1 4)) = true := h
    rw [Bool.and_eq_true, Bool.and_eq_true] at h
    obtain ⟨h1, h2, h3⟩ := h
    obtain ⟨f, rfl, a1, a2⟩ := numB_int h1
    obtain ⟨s, rfl, b1⟩ := wh1_int h2
    obtain ⟨z, rfl, c1, c2⟩ := numB_int h3
    exact ⟨f, s, z, rfl, ⟨a1, a2⟩, b1, ⟨c1, c2⟩⟩
theorem ok_is_class (ds : List D) (E : XD) (S : Sto) (Q : KD) (h : g_is_class ds E S Q) : w_is_class E (en Q) (startD N_is_class ds) S := by
  obtain ⟨d, rfl, ok, q⟩ := h
  cases d with
  | non => exact ⟨_, .none_tuple, iteT (iteT q)⟩
  | bl b => exact ⟨_, .bool_tuple, iteT (iteT q)⟩
  | int b => exact ⟨_, .int_tuple, iteT (iteT q)⟩
  | str b => exact ⟨_, .str_tuple, iteT (iteT q)⟩
  | lv b => exact ⟨_, .list_tuple, iteT (iteT q)⟩
  | dc b => exact ⟨_, .dict_tuple, iteT (iteT q)⟩
  | tup xs =>
    refine ⟨_, .tuple_tuple, iteF ?_⟩
    have ok := plain_tup ok
    match xs, ok, q with
    | [], ok, q => exact q
    | [x], ok, q => exact q
    | [x, y], ok, q => exact q
    | x :: y :: z :: u :: r, ok, q => exact q
    | [x, y, z], ok, q =>
      rw [plain_cons, plain_cons, plain_cons, Bool.and_eq_true, Bool.and_eq_true, Bool.and_eq_true] at ok
      have q : Q (.bl (numB x 1 99 && (wh1 y && numB z 1 4))) S := q
      refine ⟨rfl, x, 1, 99, rfl, plain_ok ok.1, ?_⟩
      cases h1 : numB x 1 99 with
      | false => rw [h1] at q; exact iteF q
      | true =>
        rw [h1, Bool.true_and] at q
        refine iteT ⟨y, rfl, plain_ok ok.2.1, ?_⟩
        cases y with
        | int i =>
          refine iteT ?_
          have q : Q (.bl (decide (1 ≤ i) && numB z 1 4)) S := q
          by_cases h2 : 1 ≤ i
          · rw [decide_eq_true h2, Bool.true_and] at q
            exact if_t (b := decide (1 ≤ i)) (decide_eq_true h2) ⟨z, 1, 4, rfl, plain_ok ok.2.2.1, q⟩
          · rw [decide_eq_false h2, Bool.false_and] at q
            exact if_f (b := decide (1 ≤ i)) (decide_eq_false h2) q
        | _ => exact iteF q
  | _ => simp [plainD] at ok
theorem comp_clss {Ex : XD} {r0 : Rho} (hl : 2 < r0.length) {Q : List D → Sto → Prop} (S : Sto) : ∀ (ds acc : List D), (∀ d ∈ ds, plainD d = true) → acc.length + ds.length ≤ 900 → Q (acc ++ ds.map fun d => .bl (clsB d)) S →
    compD (CT.nm 2) wYes (wCall g_is_class (wCons (wVar 2) wNil)) Ex r0 ds acc S Q
  | [], acc, _, _, q => by
    rw [List.map_nil, List.append_nil] at q
    exact q
  | d :: ds, acc, hd, hn, q => by
    have e : (r0.set 2 (some d)).getD 2 none = some d := by
      rw [List.getD_eq_getElem?_getD, List.getElem?_set_self hl]; rfl
    have hn' : acc.length + ds.length ≤ 899 := by rw [List.length_cons] at hn; omega
    show wVar 2 Ex (r0.set 2 (some d)) S _
    unfold wVar
    rw [e]
    refine ⟨d, rfl, hd d List.mem_cons_self, by omega, ?_⟩
    refine comp_clss hl S ds (acc ++ [.bl (clsB d)]) (fun x hx => hd x (List.mem_cons_of_mem _ hx)) (by rw [List.length_append, List.length_singleton]; omega) ?_
    rw [List.append_assoc]
    exact q
theorem comp_shrs {Ex : XD} {a b : Option D} {Q : List D → Sto → Prop} (S : Sto) : ∀ (ds acc : List D), (∀ d ∈ ds, clsB d = true) → acc.length + ds.length ≤ 900 → Q (acc ++ ds.map fun d => .int (shr d)) S →
    compD (CT.tr 3 4 5) wYes (wVar 4) Ex [a, b, none, none, none, none] ds acc S Q
  | [], acc, _, _, q => by
    rw [List.map_nil, List.append_nil] at q
    exact q
  | d :: ds, acc, hd, hn, q => by
    have hn' : acc.length + ds.length ≤ 899 := by rw [List.length_cons] at hn; omega
    obtain ⟨f, s, z, rfl, _⟩ := clsB_tup (hd d List.mem_cons_self)
    refine ⟨by omega, ?_⟩
    refine comp_shrs S ds (acc ++ [.int s]) (fun x hx => hd x (List.mem_cons_of_mem _ hx)) (by rw [List.length_append, List.length_singleton]; omega) ?_
    rw [List.append_assoc]
    exact q
theorem bools_map' {al : Type} (f : al → Bool) : ∀ xs : List al, bools (xs.map fun x => .bl (f x)) = some (xs.map f)
  | [] => rfl
  | x :: xs => by
    show consO (f x) (bools (xs.map fun x => .bl (f x))) = _
    rw [bools_map' f xs]
    rfl
theorem numsD_map' {al : Type} (f : al → Int) : ∀ xs : List al, numsD (xs.map fun x => .int (f x)) = some (xs.map f)
  | [] => rfl
  | x :: xs => by
    show consO (f x) (numsD (xs.map fun x => .int (f x))) = _
    rw [numsD_map' f xs]
    rfl
theorem ok_are_classes (ds : List D) (E : XD) (S : Sto) (Q : KD) (h : g_are_classes ds E S Q) : w_are_classes E (en Q) (startD N_are_classes ds) S := by
  obtain ⟨d, c, rfl, ok, q⟩ := h
  cases d with
  | non => exact ⟨_, .none_tuple, iteT (iteT q)⟩
  | bl b => exact ⟨_, .bool_tuple, iteT (iteT q)⟩
  | int b => exact ⟨_, .int_tuple, iteT (iteT q)⟩
  | str b => exact ⟨_, .str_tuple, iteT (iteT q)⟩
  | lv b => exact ⟨_, .list_tuple, iteT (iteT q)⟩
  | dc b => exact ⟨_, .dict_tuple, iteT (iteT q)⟩
  | tup cl =>
    refine ⟨_, .tuple_tuple, iteF ?_⟩
    have hcl := plains_iff.mp (plain_tup ok)
    have q : Q (.bl ((decide (1 ≤ cl.length) && decide (cl.length ≤ 4)) && (cl.all clsB && decide ((cl.map shr).sum ≤ c)))) S := q
    by_cases hl : 1 ≤ cl.length ∧ cl.length ≤ 4
    · rw [decide_eq_true hl.1, decide_eq_true hl.2, Bool.true_and, Bool.true_and] at q
      refine if_t (b := decide ((1 : Int) ≤ (cl.length : Int))) (decide_eq_true (by omega)) ?_
      refine if_f (b := !decide ((cl.length : Int) ≤ 4)) (by rw [decide_eq_true (by omega)]; rfl) ?_
      refine comp_clss (by show 2 < 6; decide) S cl [] hcl (by show 0 + cl.length ≤ 900; omega) ?_
      refine ⟨_, _, rfl, bools_map' clsB cl, ?_⟩
      cases ha : cl.all clsB with
      | false =>
        rw [ha, Bool.false_and] at q
        refine if_t (b := !((cl.map clsB).all id)) (by rw [List.all_map]; rw [show cl.all (id ∘ clsB) = cl.all clsB from rfl, ha]; rfl) ?_
        exact q
      | true =>
        rw [ha, Bool.true_and] at q
        refine if_f (b := !((cl.map clsB).all id)) (by rw [List.all_map]; rw [show cl.all (id ∘ clsB) = cl.all clsB from rfl, ha]; rfl) ?_
        refine comp_shrs S cl [] (fun d hd => List.all_eq_true.mp ha d hd) (by show 0 + cl.length ≤ 900; omega) ?_
        exact ⟨_, _, rfl, numsD_map' shr cl, q⟩
    · have e : (decide (1 ≤ cl.length) && decide (cl.length ≤ 4)) = false := by
        rcases (by omega : ¬ 1 ≤ cl.length ∨ ¬ cl.length ≤ 4) with z | z
        · rw [decide_eq_false z]; rfl
        · rw [decide_eq_false z, Bool.and_false]
      rw [e, Bool.false_and] at q
      by_cases h5 : 1 ≤ cl.length
      · refine if_t (b := decide ((1 : Int) ≤ (cl.length : Int))) (decide_eq_true (by omega)) ?_
        exact if_t (b := !decide ((cl.length : Int) ≤ 4)) (by rw [decide_eq_false (by omega)]; rfl) q
      · refine if_f (b := decide ((1 : Int) ≤ (cl.length : Int))) (decide_eq_false (by omega)) ?_
        exact q
  | _ => simp [plainD] at ok
theorem clss_sum {cl : List D} {d : D} (h : ∀ x ∈ cl, clsB x = true) (hd : d ∈ cl) : shr d ≤ (cl.map shr).sum := by
  have nn : ∀ {l : List D}, (∀ x ∈ l, clsB x = true) → 0 ≤ (l.map shr).sum := by
    intro l
    induction l with
    | nil => intro _; simp
    | cons x l ih =>
      intro h
      rw [List.map_cons, List.sum_cons]
      obtain ⟨f, s, z, rfl, _, b1, _⟩ := clsB_tup (h x List.mem_cons_self)
      have := ih fun y hy => h y (List.mem_cons_of_mem _ hy)
      have e : shr (dCl f s z) = s := rfl
      rw [e]
      omega
  induction cl with
  | nil => cases hd
  | cons x l ih =>
    rw [List.map_cons, List.sum_cons]
    obtain ⟨f, s, z, rfl, _, b1, _⟩ := clsB_tup (h x List.mem_cons_self)
    have n1 := nn fun y hy => h y (List.mem_cons_of_mem (dCl f s z) hy)
    have e : shr (dCl f s z) = s := rfl
    rcases List.mem_cons.mp hd with rfl | hd
    · omega
    · have := ih (fun y hy => h y (List.mem_cons_of_mem _ hy)) hd
      rw [e]
      omega
theorem cls_off {d : D} (h : offB d = true) : clsB d = true := by
  match d, h with
  | .tup [f, s, z], h =>
    have h : (numB f 1 99 && (numB s 1 (10 ^ 30) && numB z 1 4)) = true := h
    rw [Bool.and_eq_true, Bool.and_eq_true] at h
    obtain ⟨h1, h2, h3⟩ := h
    obtain ⟨s, rfl, b1, _⟩ := numB_int h2
    show (numB f 1 99 && (decide (1 ≤ s) && numB z 1 4)) = true
    rw [h1, h3, decide_eq_true b1]; rfl
theorem off_cls {d : D} (h : clsB d = true) (hs : shr d ≤ 24) : offB d = true := by
  match d, h, hs with
  | .tup [f, s, z], h, hs =>
    have h : (numB f 1 99 && (wh1 s && numB z 1 4)) = true := h
    rw [Bool.and_eq_true, Bool.and_eq_true] at h
    obtain ⟨h1, h2, h3⟩ := h
    obtain ⟨s, rfl, b1⟩ := wh1_int h2
    have hs : s ≤ 24 := hs
    show (numB f 1 99 && ((decide (1 ≤ s) && decide (s ≤ 10 ^ 30)) && numB z 1 4)) = true
    rw [h1, h3, decide_eq_true b1, decide_eq_true (by omega)]; rfl
theorem clss_off {cl : List D} {c : Int} (hc : c ≤ 24) : (cl.all clsB && decide ((cl.map shr).sum ≤ c)) = (cl.all offB && decide ((cl.map shr).sum ≤ c)) := by
  by_cases hs : (cl.map shr).sum ≤ c
  · rw [decide_eq_true hs, Bool.and_true, Bool.and_true, Bool.eq_iff_iff, List.all_eq_true, List.all_eq_true]
    refine ⟨fun h d hd => off_cls (h d hd) ?_, fun h d hd => cls_off (h d hd)⟩
    have := clss_sum h hd
    omega
  · rw [decide_eq_false hs, Bool.and_false, Bool.and_false]
theorem sale_g1 {x y z u : D} (h : numB x 0 12 = false) : saleB (.tup [x, y, z, u]) = false := by
  cases z <;> first | rfl | (cases u <;> first | rfl | (show (numB x 0 12 && _) = false; rw [h, Bool.false_and]))
theorem sale_g2 {x y z u : D} (h : numB y 0 12 = false) : saleB (.tup [x, y, z, u]) = false := by
  cases z <;> first | rfl | (cases u <;> first | rfl | (show (numB x 0 12 && (numB y 0 12 && _)) = false; rw [h, Bool.false_and, Bool.and_false]))
theorem sale_g3 {x y z u : D} (h : numB z 1 24 = false) : saleB (.tup [x, y, z, u]) = false := by
  cases z <;> first | rfl | (cases u <;> first | rfl | (show (numB x 0 12 && (numB y 0 12 && (numB _ 1 24 && _))) = false; rw [h, Bool.false_and, Bool.and_false, Bool.and_false]))
theorem sale_g4 {x y u : D} {c : Int} (h1 : numB x 0 12 = true) (h2 : numB y 0 12 = true) (h3 : numB (.int c) 1 24 = true) (hc : c ≤ 24) : saleB (.tup [x, y, .int c, u]) = clssB u c := by
  cases u <;> first | rfl | skip
  rename_i cl
  show (numB x 0 12 && (numB y 0 12 && (numB (.int c) 1 24 && ((decide (1 ≤ cl.length) && decide (cl.length ≤ 4)) && (cl.all offB && decide ((cl.map shr).sum ≤ c)))))) = ((decide (1 ≤ cl.length) && decide (cl.length ≤ 4)) && (cl.all clsB && decide ((cl.map shr).sum ≤ c)))
  rw [h1, h2, h3, Bool.true_and, Bool.true_and, Bool.true_and, clss_off hc]
theorem ok_is_sale (ds : List D) (E : XD) (S : Sto) (Q : KD) (h : g_is_sale ds E S Q) : w_is_sale E (en Q) (startD N_is_sale ds) S := by
  obtain ⟨d, rfl, ok, q⟩ := h
  cases d with
  | non => exact ⟨_, .none_tuple, iteT (iteT q)⟩
  | bl b => exact ⟨_, .bool_tuple, iteT (iteT q)⟩
  | int b => exact ⟨_, .int_tuple, iteT (iteT q)⟩
  | str b => exact ⟨_, .str_tuple, iteT (iteT q)⟩
  | lv b => exact ⟨_, .list_tuple, iteT (iteT q)⟩
  | dc b => exact ⟨_, .dict_tuple, iteT (iteT q)⟩
  | tup xs =>
    refine ⟨_, .tuple_tuple, iteF ?_⟩
    have ok := plain_tup ok
    match xs, ok, q with
    | [], ok, q => exact q
    | [x], ok, q => exact q
    | [x, y], ok, q => exact q
    | [x, y, z], ok, q =>
      have q : Q (.bl false) S := by cases z <;> exact q
      exact q
    | x :: y :: z :: u :: v :: r, ok, q =>
      have q : Q (.bl false) S := by cases z <;> first | exact q | (cases u <;> exact q)
      exact q
    | [x, y, z, u], ok, q =>
      rw [plain_cons, plain_cons, plain_cons, plain_cons, Bool.and_eq_true, Bool.and_eq_true, Bool.and_eq_true, Bool.and_eq_true] at ok
      refine ⟨rfl, x, 0, 12, rfl, plain_ok ok.1, ?_⟩
      cases h1 : numB x 0 12 with
      | false => rw [sale_g1 h1] at q; exact iteF q
      | true =>
        refine iteT ⟨y, 0, 12, rfl, plain_ok ok.2.1, ?_⟩
        cases h2 : numB y 0 12 with
        | false => rw [sale_g2 h2] at q; exact iteF q
        | true =>
          refine iteT ⟨z, 1, 24, rfl, plain_ok ok.2.2.1, ?_⟩
          cases h3 : numB z 1 24 with
          | false => rw [sale_g3 h3] at q; exact iteF q
          | true =>
            obtain ⟨c, rfl, c1, c2⟩ := numB_int h3
            rw [sale_g4 h1 h2 h3 c2] at q
            exact iteT ⟨u, c, rfl, ok.2.2.2.1, q⟩
  | _ => simp [plainD] at ok
theorem SqB.seq {b : Nat} {S : Sto} {x : D} {ys : List D} (h : SqB b S x ys) : asSeq S x = some ys := by
  rcases h with rfl | ⟨j, _, rfl, e⟩
  · rfl
  · exact e
theorem SqB.gr {b : Nat} {S S' : Sto} {x : D} {ys : List D} (h : SqB b S x ys) (g : Gr S S') : SqB b S' x ys := by
  rcases h with rfl | ⟨j, hj, rfl, e⟩
  · exact .inl rfl
  · exact .inr ⟨j, hj, rfl, by rw [g.o j (List.getElem?_eq_some_iff.mp e).1]; exact e⟩
theorem SqB.lo {b : Nat} {S : Sto} {x : D} {ys : List D} (h : SqB b S x ys) : SqB 0 S x ys := by
  rcases h with rfl | ⟨j, _, rfl, e⟩
  · exact .inl rfl
  · exact .inr ⟨j, Nat.zero_le _, rfl, e⟩
theorem rowW_at {w : Nat → Int} {n l : Nat} (h : l ≤ n) : (rowW w n)[l]? = some (.int (w l)) := by
  unfold rowW
  rw [List.getElem?_map, List.getElem?_range (by omega)]
  rfl
theorem rowW_len (w : Nat → Int) (n : Nat) : (rowW w n).length = n + 1 := by unfold rowW; rw [List.length_map, List.length_range]
theorem rowW_ix {x : D} {w : Nat → Int} {n : Nat} {a : Int} {S : Sto} {Q : KD} (hx : asSeq S x = some (rowW w n)) (h0 : 0 ≤ a) (h1 : a.toNat ≤ n) (q : Q (.int (w a.toNat)) S) : dIxV x (.int a) S Q := by
  refine ixv hx h0 (by rw [rowW_len]; omega) fun d hd => ?_
  rw [rowW_at h1] at hd
  cases hd
  exact q
theorem sm1000 {i : Int} (h : i.natAbs < 2 ^ 1002) : Sm i := Nat.lt_of_lt_of_le h (Nat.pow_le_pow_right (by decide) (by decide))
theorem sm10 {i : Int} (h : i.natAbs < 2 ^ 10) : Sm i := Nat.lt_of_lt_of_le h (Nat.pow_le_pow_right (by decide) (by decide))
theorem ok_can_sell (ds : List D) (E : XD) (S : Sto) (Q : KD) (h : g_can_sell ds E S Q) : w_can_sell E (en Q) (startD N_can_sell ds) S := by
  obtain ⟨p, l, rfl, q⟩ := h
  exact ⟨rfl, q⟩
theorem ok_sold_gain (ds : List D) (E : XD) (S : Sto) (Q : KD) (h : g_sold_gain ds E S Q) : w_sold_gain E (en Q) (startD N_sold_gain ds) S := by
  obtain ⟨p, l, x, b, w, n, rfl, ok, sq, bw, hl, q⟩ := h
  have hf := ok.f
  have hz := ok.z
  have sb : Sm b := sm1000 (Nat.lt_of_lt_of_le bw.b (Nat.pow_le_pow_right (by decide) (by decide)))
  refine ⟨rfl, rfl, ⟨sm10 (by omega), sb⟩, ?_⟩
  refine rowW_ix sq.seq (by omega) (by omega) ?_
  refine rowW_ix sq.seq (by omega) (by omega) ?_
  have e : (l - p.2.2).toNat = l.toNat - p.2.2.toNat := by omega
  show Q (.int (p.1 * b + w (l - p.2.2).toNat - w l.toNat)) S
  rw [e]
  exact q
theorem gain_bnd {w : Nat → Int} {b : Int} {n l : Nat} {p : Int × Int × Int} (ok : Ok3 p) (bw : Bw w b n) (h : l ≤ n) : (gainI w b l p).natAbs < 2 ^ 1010 := by
  have h1 := bw.w l h
  have h2 := bw.w (l - p.2.2.toNat) (by omega)
  have h3 := bw.b
  have hf := ok.f
  have h4 : (p.1 * b).natAbs ≤ 99 * b.natAbs := by rw [Int.natAbs_mul]; exact Nat.mul_le_mul_right _ (by omega)
  have h5 : (2 : Nat) ^ 1010 = 1024 * 2 ^ 1000 := by rw [show (1010 : Nat) = 10 + 1000 from rfl, Nat.pow_add]
  unfold gainI
  omega
theorem ok_best_gain (ds : List D) (E : XD) (S : Sto) (Q : KD) (h : g_best_gain ds E S Q) : w_best_gain E (en Q) (startD N_best_gain ds) S := by
  obtain ⟨p, l, x, b, w, n, rfl, ok, sq, bw, hl, q⟩ := h
  refine ⟨rfl, ?_⟩
  refine ⟨p, l, rfl, ?_⟩
  have el : ((l.toNat : Nat) : Int) = l := by omega
  by_cases hz : p.2.2 ≤ l
  · refine if_t (b := decide (p.2.2 ≤ l)) (decide_eq_true hz) ?_
    refine ⟨p, l, x, b, w, n, rfl, ok, sq, bw, ⟨hz, hl.2⟩, ?_⟩
    have hs := ok.s
    have sg : Sm (if gainI w b l.toNat p > 0 then gainI w b l.toNat p else 0) := by
      have := gain_bnd ok bw hl.2
      split
      · exact Nat.lt_of_lt_of_le this (Nat.pow_le_pow_right (by decide) (by decide))
      · exact sm10 (by decide)
    refine ⟨⟨sm10 (by omega), sg⟩, ?_⟩
    unfold bestG at q
    rw [el, if_pos hz] at q
    exact q
  · refine if_f (b := decide (p.2.2 ≤ l)) (decide_eq_false hz) ?_
    unfold bestG at q
    rw [el, if_neg hz] at q
    exact q
theorem rep_row (n : Nat) : (List.replicate (n + 1) [D.int 0]).flatten = rowW (fun _ => 0) n := by
  unfold rowW
  generalize n + 1 = m
  induction m with
  | zero => rfl
  | succ m ih =>
    rw [List.range_succ, List.map_append, ← ih, List.replicate_succ', List.flatten_append]
    rfl
theorem ok_nought_level (ds : List D) (E : XD) (S : Sto) (Q : KD) (h : g_nought_level ds E S Q) : w_nought_level E (en Q) (startD N_nought_level ds) S := by
  obtain ⟨n, rfl, hn, q⟩ := h
  refine ⟨by show 1 ≤ 1000; decide, ⟨by omega, by omega, by show 1 * (n + 1).toNat ≤ 1000; omega⟩, by show 2 ≤ 1000; decide, ?_⟩
  have e : (n + 1).toNat = n.toNat + 1 := by omega
  show Q (.tup [.lv (List.replicate (n + 1).toNat [D.int 0]).flatten, .int 1]) S
  rw [e, rep_row]
  exact q

theorem best_gain_eq {w : Nat → Int} {b : Int} {l : Nat} {p : Int × Int × Int} : bestG w b l p = p.2.1 * bestI w b l p - p.2.1 * w l := by
  rw [← Int.mul_sub]
  unfold bestG bestI gainI
  split
  · congr 1
    split <;> omega
  · rw [Int.sub_self, Int.mul_zero]
theorem step_gain (c : Int) (w : Nat → Int) (b : Int) (l : Nat) : ∀ cl : Cls, c * w l + (cl.map (bestG w b l)).sum = stepI c cl w b l
  | [] => by unfold FM.stepI shares; simp
  | p :: cl => by
    have ih := step_gain c w b l cl
    unfold FM.stepI shares at ih ⊢
    simp only [List.map_cons, List.sum_cons] at ih ⊢
    rw [best_gain_eq]
    have e : (c - (p.2.1 + (cl.map fun p => p.2.1).sum)) * w l = (c - (cl.map fun p => p.2.1).sum) * w l - p.2.1 * w l := by rw [← Int.sub_mul]; congr 1; omega
    rw [e]
    omega
theorem comp_best {Ex : XD} {x : D} {b : Int} {w : Nat → Int} {n : Nat} {l : Int} {S : Sto} (sq : SqB 0 S x (rowW w n)) (bw : Bw w b n) (hl : 0 ≤ l ∧ l.toNat ≤ n) {s0 s1 s3 s4 s5 s7 : Option D} {Q : List D → Sto → Prop} : ∀ (cl : Cls) (acc : List D), (∀ p ∈ cl, Ok3 p) → acc.length + cl.length ≤ 900 → Q (acc ++ cl.map fun p => D.int (bestG w b l.toNat p)) S →
    compD (CT.nm 8) wYes (wCall g_best_gain (wCons (wVar 8) (wCons (wVar 6) (wCons (wVar 2) wNil)))) Ex [s0, s1, some (dLev x b), s3, s4, s5, some (.int l), s7, none] (clD cl) acc S Q
  | [], acc, _, _, q => by
    rw [List.map_nil, List.append_nil] at q
    exact q
  | p :: cl, acc, hd, hn, q => by
    have hn' : acc.length + cl.length ≤ 899 := by rw [List.length_cons] at hn; omega
    refine ⟨p, l, x, b, w, n, rfl, hd p List.mem_cons_self, sq, bw, hl, by omega, ?_⟩
    refine comp_best sq bw hl cl (acc ++ [.int (bestG w b l.toNat p)]) (fun y hy => hd y (List.mem_cons_of_mem _ hy)) (by rw [List.length_append, List.length_singleton]; omega) ?_
    rw [List.append_assoc]
    exact q
theorem numsD_mapW {al : Type} (f : al → Int) : ∀ xs : List al, numsD (xs.map fun x => .int (f x)) = some (xs.map f)
  | [] => rfl
  | x :: xs => by
    show consO (f x) (numsD (xs.map fun x => .int (f x))) = _
    rw [numsD_mapW f xs]
    rfl
theorem ok3_of {c : Int} {cl : Cls} (ok : SaleOk c cl) : ∀ p ∈ cl, Ok3 p := fun p hp => by
  have h := ok.o p hp
  refine ⟨h.1, ⟨h.2.1, ?_⟩, h.2.2⟩
  have h1 := ok.s
  have h2 := ok.hc
  have : p.2.1 ≤ shares cl := by
    have nn : ∀ x ∈ cl, 0 ≤ x.2.1 := fun x hx => by have := (ok.o x hx).2.1; omega
    clear h1 h2 h ok
    unfold shares
    induction cl with
    | nil => cases hp
    | cons a l ih =>
      rw [List.map_cons, List.sum_cons]
      have z := sum_nonneg (fun p : Int × Int × Int => p.2.1) l fun x hx => nn x (List.mem_cons_of_mem _ hx)
      have za := nn a List.mem_cons_self
      rcases List.mem_cons.mp hp with rfl | hp
      · omega
      · have := ih hp fun x hx => nn x (List.mem_cons_of_mem _ hx)
        omega
  omega
theorem level_body {E : XD} {Dn : EndD} {c : Int} {cl : Cls} {x : D} {b : Int} {w : Nat → Int} {n : Nat} {S : Sto} {j : Nat} {l : Int} {acc : List D} (ok : SaleOk c cl) (h4 : cl.length ≤ 4) (sq : SqB 0 S x (rowW w n)) (bw : Bw w b n) (hl : 0 ≤ l ∧ l.toNat ≤ n) (hj : S[j]? = some acc) (ha : acc.length ≤ 100) {s4 s5 s8 : Option D}
    (q : Dn.nx [some (.int c), some (.tup (clD cl)), some (dLev x b), some (.lst j), s4, s5, some (.int l), some (.int (w l.toNat)), s8] (S.set j (acc ++ [.int (stepI c cl w b l.toNat)]))) :
    b_level_before_3 E Dn [some (.int c), some (.tup (clD cl)), some (dLev x b), some (.lst j), s4, s5, some (.int l), some (.int (w l.toNat)), s8] S := by
  rw [b_level_before_3_eq]
  have hc := ok.hc
  have hw := bw.w l.toNat hl.2
  refine ⟨trivial, ⟨sm10 (by omega), sm1000 (Nat.lt_of_lt_of_le hw (Nat.pow_le_pow_right (by decide) (by decide)))⟩, ?_⟩
  refine comp_best sq bw hl cl [] (ok3_of ok) (by show 0 + cl.length ≤ 900; omega) ?_
  refine ⟨_, _, rfl, numsD_mapW (fun p => bestG w b l.toNat p) cl, ?_⟩
  have e := step_gain c w b l.toNat cl
  refine app_at hj (by omega) ?_
  show Dn.nx _ (S.set j (acc ++ [.int (c * w l.toNat + (cl.map (bestG w b l.toNat)).sum)]))
  rw [e]
  exact q
theorem enD_row (w : Nat → Int) (n : Nat) : enD (rowW w n) = (List.range (n + 1)).map fun (l : Nat) => D.tup [.int (l : Int), .int (w l)] := by
  refine List.ext_getElem? fun i => ?_
  unfold enD rowW
  rw [List.getElem?_map, List.getElem?_zipIdx, List.getElem?_map, List.getElem?_map]
  cases h : (List.range (n + 1))[i]? with
  | none => rfl
  | some a =>
    obtain ⟨h1, h2⟩ := List.getElem?_eq_some_iff.mp h
    rw [List.getElem_range] at h2
    subst h2
    show some (D.tup [.int ((0 + i : Nat) : Int), .int (w i)]) = _
    rw [Nat.zero_add]
    rfl
theorem level_loop {E : XD} {Dn : EndD} {c : Int} {cl : Cls} {x : D} {b : Int} {w : Nat → Int} {n : Nat} {j : Nat} {chk : Sto → Prop} {S0 : Sto} (hj : j = S0.length) (ok : SaleOk c cl) (h4 : cl.length ≤ 4) (hn : n ≤ 16) (sq : SqB 0 S0 x (rowW w n)) (bw : Bw w b n) (hchk : ∀ S, Gr S0 S → chk S) {s4 s5 : Option D} :
    ∀ (m i : Nat) (o6 o7 o8 : Option D), i + m = n + 1 →
      (∀ o6 o7 o8, Dn.nx [some (.int c), some (.tup (clD cl)), some (dLev x b), some (.lst j), s4, s5, o6, o7, o8] (S0 ++ [rowW (stepI c cl w b) n])) →
      loopD (gT 2 (gsC (gN 6) (gsC (gN 7) gs0))) b_level_before_3 E Dn chk ((List.range' i m).map fun (l : Nat) => D.tup [.int (l : Int), .int (w l)]) [some (.int c), some (.tup (clD cl)), some (dLev x b), some (.lst j), s4, s5, o6, o7, o8] (S0 ++ [(List.range i).map fun (l : Nat) => D.int (stepI c cl w b l)])
  | 0, i, o6, o7, o8, hi, q => by
    have e : i = n + 1 := by omega
    subst e
    exact ⟨hchk _ (Gr.app _ _), q o6 o7 o8⟩
  | m + 1, i, o6, o7, o8, hi, q => by
    rw [List.range'_succ, List.map_cons]
    refine ⟨hchk _ (Gr.app _ _), rfl, ?_⟩
    have hb := level_body (E := E) (Dn := { Dn with nx := loopD (gT 2 (gsC (gN 6) (gsC (gN 7) gs0))) b_level_before_3 E Dn chk ((List.range' (i + 1) m).map fun (l : Nat) => D.tup [.int (l : Int), .int (w l)]), ct := loopD (gT 2 (gsC (gN 6) (gsC (gN 7) gs0))) b_level_before_3 E Dn chk ((List.range' (i + 1) m).map fun (l : Nat) => D.tup [.int (l : Int), .int (w l)]), bk := Dn.nx }) (S := S0 ++ [(List.range i).map fun (l : Nat) => D.int (stepI c cl w b l)]) (j := j) (l := (i : Int)) (acc := (List.range i).map fun (l : Nat) => D.int (stepI c cl w b l)) (s4 := s4) (s5 := s5) (s8 := o8) ok h4 (sq.gr (Gr.app _ _)) bw ⟨by omega, by omega⟩ (by rw [hj, List.getElem?_append_right (Nat.le_refl _), Nat.sub_self]; rfl) (by rw [List.length_map, List.length_range]; omega) ?_
    · exact hb
    · have es : (S0 ++ [(List.range i).map fun (l : Nat) => D.int (stepI c cl w b l)]).set j ((List.range i).map (fun (l : Nat) => D.int (stepI c cl w b l)) ++ [.int (stepI c cl w b (i : Int).toNat)]) = S0 ++ [(List.range (i + 1)).map fun (l : Nat) => D.int (stepI c cl w b l)] := by
        subst hj
        rw [List.range_succ, List.map_append]
        simp
      rw [es]
      exact level_loop hj ok h4 hn sq bw hchk m (i + 1) _ _ _ (by omega) q
theorem ok_level_before (ds : List D) (E : XD) (S : Sto) (Q : KD) (h : g_level_before ds E S Q) : w_level_before E (en Q) (startD N_level_before ds) S := by
  obtain ⟨c, cl, x, b, w, n, rfl, ok, h4, hn, sq, bw, q⟩ := h
  have hc := ok.hc
  refine ⟨rfl, by show 0 ≤ 1000; decide, ?_⟩
  have fin : ∀ {o6 o7 o8 : Option D}, wRet (wTup (wCons (wVar 3) (wCons (wOp (dI CMl fun i j => .int (i * j)) (wVar 0) (wVar 5)) wNil))) E (en Q) [some (.int c), some (.tup (clD cl)), some (dLev x b), some (.lst S.length), some x, some (.int b), o6, o7, o8] (S ++ [rowW (stepI c cl w b) n]) := fun {o6 o7 o8} =>
    ⟨⟨sm10 (by omega), sm1000 (Nat.lt_of_lt_of_le bw.b (Nat.pow_le_pow_right (by decide) (by decide)))⟩, by show 2 ≤ 1000; decide, q⟩
  have main : ∀ (chk : Sto → Prop), (∀ S', Gr S S' → chk S') → ∀ Dn : EndD, (∀ o6 o7 o8, Dn.nx [some (.int c), some (.tup (clD cl)), some (dLev x b), some (.lst S.length), some x, some (.int b), o6, o7, o8] (S ++ [rowW (stepI c cl w b) n])) → loopD (gT 2 (gsC (gN 6) (gsC (gN 7) gs0))) b_level_before_3 E Dn chk (enD (rowW w n)) [some (.int c), some (.tup (clD cl)), some (dLev x b), some (.lst S.length), some x, some (.int b), none, none, none] (S ++ [[]]) := fun chk hk Dn hq => by
    rw [enD_row, List.range_eq_range']
    exact level_loop rfl ok h4 hn sq bw hk (n + 1) 0 none none none (by omega) hq
  rcases sq with rfl | ⟨i, _, rfl, e⟩
  · exact main (fun _ => True) (fun _ _ => trivial) _ fun o6 o7 o8 => fin
  · have li := (List.getElem?_eq_some_iff.mp e).1
    show match (S ++ [[]])[i]? with | some xs => _ | none => False
    have e2 : (S ++ [[]])[i]? = some (rowW w n) := by rw [List.getElem?_append_left li]; exact e
    rw [e2]
    exact main (fun S' => S'[i]? = some (rowW w n)) (fun S' g => by rw [g.o i li]; exact e) _ fun o6 o7 o8 => fin
theorem Wi_bw {c : Int} {cl : Cls} (ok : SaleOk c cl) {t n : Nat} (ht : t ≤ 12) : Bw (Wi c cl t) (c ^ t) n := by
  have p0 := pow_pos' ok.hc.1 t
  have p1 := pow_bnd ok.hc ht
  have e : (2 : Nat) ^ 128 ≤ 2 ^ 1000 := Nat.pow_le_pow_right (by decide) (by decide)
  refine ⟨?_, fun l _ => ?_⟩
  · omega
  · have h0 := Wi_nonneg ok t l
    have h1 := Wi_bnd ok ht l
    omega
theorem step_abs {c : Int} {cl : Cls} (ok : SaleOk c cl) {w : Nat → Int} {b : Int} {M : Int} {l : Nat} (hw : ∀ m, m ≤ l → -M ≤ w m ∧ w m ≤ M) (hb : -M ≤ b ∧ b ≤ M) : -(2400 * M) ≤ stepI c cl w b l ∧ stepI c cl w b l ≤ 2400 * M := by
  have hM : 0 ≤ M := by omega
  have hc := ok.hc
  have s0 := ok.sh0
  have s1 := ok.s
  have best : ∀ p ∈ cl, -(100 * M) ≤ bestI w b l p ∧ bestI w b l p ≤ 100 * M := fun p hp => by
    have hf := (ok.o p hp).1
    have h1 := hw l (Nat.le_refl _)
    have h2 := hw (l - p.2.2.toNat) (by omega)
    have h3 : p.1 * b ≤ 99 * M := Int.le_trans (Int.mul_le_mul_of_nonneg_left hb.2 (by omega)) (Int.mul_le_mul_of_nonneg_right hf.2 hM)
    have h4 : -(99 * M) ≤ p.1 * b := by
      have := Int.mul_le_mul_of_nonneg_left hb.1 (show 0 ≤ p.1 by omega)
      have h5 := Int.mul_le_mul_of_nonneg_right hf.2 hM
      rw [Int.mul_neg] at this
      omega
    unfold bestI
    split <;> omega
  have su : (cl.map fun p => p.2.1 * bestI w b l p).sum ≤ (cl.map fun p => p.2.1 * (100 * M)).sum := sum_le _ _ cl fun p hp => Int.mul_le_mul_of_nonneg_left (best p hp).2 (by have := (ok.o p hp).2.1; omega)
  have sl : (cl.map fun p => p.2.1 * (-(100 * M))).sum ≤ (cl.map fun p => p.2.1 * bestI w b l p).sum := sum_le _ _ cl fun p hp => Int.mul_le_mul_of_nonneg_left (best p hp).1 (by have := (ok.o p hp).2.1; omega)
  rw [sum_mul (fun p : Int × Int × Int => p.2.1)] at su sl
  have e : (cl.map fun p : Int × Int × Int => p.2.1).sum = shares cl := rfl
  rw [e] at su sl
  have h1 := hw l (Nat.le_refl _)
  have a1 : (c - shares cl) * w l ≤ (c - shares cl) * (100 * M) := Int.mul_le_mul_of_nonneg_left (by omega) (by omega)
  have a2 : (c - shares cl) * (-(100 * M)) ≤ (c - shares cl) * w l := Int.mul_le_mul_of_nonneg_left (by omega) (by omega)
  have z : (c - shares cl) * (100 * M) + shares cl * (100 * M) = c * (100 * M) := by rw [← Int.add_mul]; congr 1; omega
  have z2 : c * (100 * M) ≤ 24 * (100 * M) := Int.mul_le_mul_of_nonneg_right hc.2 (by omega)
  rw [Int.mul_neg] at a2 sl
  unfold FM.stepI
  omega
theorem WG_abs {c : Int} {cl : Cls} (ok : SaleOk c cl) {w : Nat → Int} {b : Int} {n : Nat} (h : B8 w b n) : ∀ t : Nat, (-(2 ^ (800 + 12 * t)) ≤ c ^ t * b ∧ c ^ t * b ≤ 2 ^ (800 + 12 * t)) ∧ ∀ l, l ≤ n → (-(2 ^ (800 + 12 * t)) ≤ WG c cl w b t l ∧ WG c cl w b t l ≤ 2 ^ (800 + 12 * t))
  | 0 => by
    have hb := h.b
    have e : ((2 ^ 800 : Nat) : Int) = (2 : Int) ^ 800 := by rw [Int.natCast_pow]; rfl
    refine ⟨?_, fun l hl => ?_⟩
    · rw [Int.pow_zero, Int.one_mul, Nat.mul_zero, Nat.add_zero, ← e]
      omega
    · have hw := h.w l hl
      rw [Nat.mul_zero, Nat.add_zero, ← e]
      show _ ≤ w l ∧ w l ≤ _
      omega
  | t + 1 => by
    obtain ⟨h1, h2⟩ := WG_abs ok h t
    have hc := ok.hc
    have e : (2 : Int) ^ (800 + 12 * (t + 1)) = 4096 * 2 ^ (800 + 12 * t) := by
      rw [show 800 + 12 * (t + 1) = 12 + (800 + 12 * t) by omega, Int.pow_add]
      rfl
    rw [e]
    generalize (2 : Int) ^ (800 + 12 * t) = M at h1 h2
    have hM : 0 ≤ M := by omega
    refine ⟨?_, fun l hl => ?_⟩
    · rw [Int.pow_succ, Int.mul_comm (c ^ t) c, Int.mul_assoc]
      have a1 : c * (c ^ t * b) ≤ c * M := Int.mul_le_mul_of_nonneg_left h1.2 (by omega)
      have a2 : c * (-M) ≤ c * (c ^ t * b) := Int.mul_le_mul_of_nonneg_left h1.1 (by omega)
      have a3 : c * M ≤ 24 * M := Int.mul_le_mul_of_nonneg_right hc.2 hM
      rw [Int.mul_neg] at a2
      omega
    · have := step_abs ok (w := WG c cl w b t) (b := c ^ t * b) (M := M) (l := l) (fun m hm => h2 m (by omega)) h1
      show _ ≤ stepI c cl (WG c cl w b t) (c ^ t * b) l ∧ stepI c cl (WG c cl w b t) (c ^ t * b) l ≤ _
      omega
theorem WG_bw {c : Int} {cl : Cls} (ok : SaleOk c cl) {w : Nat → Int} {b : Int} {n : Nat} (h : B8 w b n) {t : Nat} (ht : t ≤ 12) : Bw (WG c cl w b t) (c ^ t * b) n := by
  obtain ⟨h1, h2⟩ := WG_abs ok h t
  have e0 : 2 ^ (800 + 12 * t) < 2 ^ 1000 := Nat.pow_lt_pow_right (by decide) (by omega)
  have e2 : ((2 ^ (800 + 12 * t) : Nat) : Int) = (2 : Int) ^ (800 + 12 * t) := by rw [Int.natCast_pow]; rfl
  have e : (2 : Int) ^ (800 + 12 * t) < ((2 ^ 1000 : Nat) : Int) := by rw [← e2]; exact Int.ofNat_lt.mpr e0
  refine ⟨by omega, fun l hl => ?_⟩
  have := h2 l hl
  omega
theorem levs_test {E : XD} {k : Nat} {xs : List D} {S : Sto} {K : Bool → Sto → Prop} {u : Int} {a b c : Option D} (e : S[k]? = some xs) (q : K (decide ((xs.length : Int) ≤ u)) S) : wB (wOp (dI0 fun i j => .bl (decide (i ≤ j))) (wCB (dLen) (wCons (wVar 4) wNil)) (wVar 3)) E [a, b, c, some (.int u), some (.lst k)] S K := by
  show (match S[k]? with | some xs => K (decide ((xs.length : Int) ≤ u)) S | none => False)
  rw [e]
  exact q
structure Lv (S0 S : Sto) (r : Nat) (c : Int) (cl : Cls) (w : Nat → Int) (b : Int) (n T : Nat) : Prop where
  at_ : LevsG S0.length S (.lst r) c cl w b n T
  gr : Gr S0 S
theorem levs_body {E : XD} {Dn : EndD} {c b : Int} {cl : Cls} {w : Nat → Int} {n t : Nat} {s2 s3 : Option D} {S0 S : Sto} {r : Nat} (hn : n ≤ 16) (ok : SaleOk c cl) (h4 : cl.length ≤ 4) (b8 : B8 w b n) (ht : t ≤ 11) (h : Lv S0 S r c cl w b n t)
    (q : ∀ S', Lv S0 S' r c cl w b n (t + 1) → Dn.nx [some (.int c), some (.tup (clD cl)), s2, s3, some (.lst r)] S') :
    b_levels_from_2 E Dn [some (.int c), some (.tup (clD cl)), s2, s3, some (.lst r)] S := by
  rw [b_levels_from_2_eq]
  obtain ⟨⟨r', xs, er, hr, e, l, a⟩, gr⟩ := h
  cases er
  have hne : xs ≠ [] := by intro z; rw [z] at l; cases l
  obtain ⟨ys, x, rfl⟩ : ∃ ys x, xs = ys ++ [x] := ⟨xs.dropLast, xs.getLast hne, (List.dropLast_concat_getLast hne).symm⟩
  have ly : ys.length = t := by rw [List.length_append, List.length_singleton] at l; omega
  obtain ⟨y, rfl, ay⟩ := a t x (by rw [List.getElem?_append_right (by omega), ly]; simp)
  refine ⟨trivial, ?_⟩
  refine ixv_last (x := .lst r) (xs := ys) (d := dLev y (c ^ t * b)) e ?_
  refine ⟨c, cl, y, c ^ t * b, WG c cl w b t, n, rfl, ok, h4, hn, ay.lo, WG_bw ok b8 (by omega), ?_⟩
  have lr := (List.getElem?_eq_some_iff.mp e).1
  have e4 : (S ++ [rowW (stepI c cl (WG c cl w b t) (c ^ t * b)) n])[r]? = some (ys ++ [dLev y (c ^ t * b)]) := by rw [List.getElem?_append_left lr]; exact e
  refine app_at e4 (by omega) ?_
  have g2 : Gr S0 ((S ++ [rowW (stepI c cl (WG c cl w b t) (c ^ t * b)) n]).set r (ys ++ [dLev y (c ^ t * b)] ++ [dLev (.lst S.length) (c * (c ^ t * b))])) := (gr.trans (Gr.app _ _)).set hr
  refine q _ ⟨⟨r, ys ++ [dLev y (c ^ t * b)] ++ [dLev (.lst S.length) (c * (c ^ t * b))], rfl, hr, List.getElem?_set_self (by rw [List.length_append]; omega), by rw [List.length_append, l]; rfl, fun t' d hd => ?_⟩, g2⟩
  have keep : ∀ {i : Nat} {zs : List D}, i ≠ r → S[i]? = some zs → ((S ++ [rowW (stepI c cl (WG c cl w b t) (c ^ t * b)) n]).set r (ys ++ [dLev y (c ^ t * b)] ++ [dLev (.lst S.length) (c * (c ^ t * b))]))[i]? = some zs := fun {i zs} hi h => by
    rw [List.getElem?_set_ne (Ne.symm hi), List.getElem?_append_left (List.getElem?_eq_some_iff.mp h).1]; exact h
  by_cases ht' : t' ≤ t
  · rw [List.getElem?_append_left (by omega)] at hd
    obtain ⟨z, rfl, az⟩ := a t' d hd
    refine ⟨z, rfl, ?_⟩
    rcases az with rfl | ⟨i, hi, rfl, e2⟩
    · exact .inl rfl
    · refine .inr ⟨i, hi, rfl, keep (fun z => ?_) e2⟩
      subst z
      rw [e] at e2
      have e5 : ys ++ [dLev y (c ^ t * b)] = rowW (WG c cl w b t') n := Option.some.inj e2
      have hm : dLev y (c ^ t * b) ∈ rowW (WG c cl w b t') n := by rw [← e5]; simp
      unfold rowW at hm
      obtain ⟨_, _, e6⟩ := List.mem_map.mp hm
      cases e6
  · have hlt := (List.getElem?_eq_some_iff.mp hd).1
    rw [List.length_append, l, List.length_singleton] at hlt
    have et : t' = t + 1 := by omega
    subst et
    rw [List.getElem?_append_right (by omega), l] at hd
    simp at hd
    subst hd
    have ep : c ^ (t + 1) * b = c * (c ^ t * b) := by rw [Int.pow_succ, Int.mul_comm (c ^ t) c, Int.mul_assoc]
    refine ⟨.lst S.length, by rw [ep], .inr ⟨S.length, gr.l, rfl, ?_⟩⟩
    rw [List.getElem?_set_ne (by omega)]
    simp
    rfl
theorem ok_levels_from (ds : List D) (E : XD) (S : Sto) (Q : KD) (h : g_levels_from ds E S Q) : w_levels_from E (en Q) (startD N_levels_from ds) S := by
  obtain ⟨c, cl, b, w, n, u, rfl, ok, h4, hn, b8, hu, q⟩ := h
  refine ⟨by show 1 ≤ 1000; decide, ?_⟩
  have h0 : Lv S (S ++ [[dLev (.lv (rowW w n)) b]]) S.length c cl w b n 0 := by
    refine ⟨⟨S.length, [dLev (.lv (rowW w n)) b], rfl, Nat.le_refl _, by rw [List.getElem?_append_right (Nat.le_refl _), Nat.sub_self]; rfl, rfl, fun t' d hd => ?_⟩, Gr.app _ _⟩
    match t', hd with
    | 0, hd => cases hd; exact ⟨.lv (rowW w n), by rw [Int.pow_zero, Int.one_mul], .inl rfl⟩
  refine ⟨fun m r S' => ∃ T : Nat, T ≤ u.toNat ∧ m = u.toNat - T ∧ r = [some (.int c), some (.tup (clD cl)), some (dLev (.lv (rowW w n)) b), some (.int u), some (.lst S.length)] ∧ Lv S S' S.length c cl w b n T, ⟨_, 0, by omega, rfl, rfl, h0⟩, ?_⟩
  rintro m r S' ⟨T, hT, rfl, rfl, lv⟩
  obtain ⟨r', xs, er, hr, e, l, a⟩ := lv.at_
  cases er
  refine levs_test e ?_
  by_cases hlt : T < u.toNat
  · refine if_t (b := decide ((xs.length : Int) ≤ u)) (decide_eq_true (by omega)) ?_
    refine ⟨fun r' S'' => r' = [some (.int c), some (.tup (clD cl)), some (dLev (.lv (rowW w n)) b), some (.int u), some (.lst S.length)] ∧ Lv S S'' S.length c cl w b n (T + 1), ?_, ?_⟩
    · rintro r' S'' ⟨rfl, lv'⟩
      exact ⟨u.toNat - (T + 1), by omega, T + 1, by omega, rfl, rfl, lv'⟩
    · exact levs_body hn ok h4 b8 (by omega) lv fun S'' h'' => ⟨rfl, h''⟩
  · have eT : T = u.toNat := by omega
    subst eT
    refine if_f (b := decide ((xs.length : Int) ≤ u)) (decide_eq_false (by omega)) ?_
    exact q _ S' lv.at_ lv.gr
theorem ok_worth_levels (ds : List D) (E : XD) (S : Sto) (Q : KD) (h : g_worth_levels ds E S Q) : w_worth_levels E (en Q) (startD N_worth_levels ds) S := by
  obtain ⟨n, t, c, cl, u, rfl, hs, hu, q⟩ := h
  have hn := hs.hn
  have ok : SaleOk c cl := ⟨hs.hc, hs.o, hs.s⟩
  refine ⟨rfl, n, rfl, hn, ?_⟩
  refine ⟨c, cl, 1, fun _ => 0, n.toNat, u, rfl, ok, hs.l.2, by omega, ⟨Nat.one_le_two_pow, fun _ _ => Nat.zero_le _⟩, hu, fun x S' lv gr => q x S' ?_ gr⟩
  obtain ⟨r, xs, rfl, hr, e, l, a⟩ := lv
  refine ⟨r, xs, rfl, hr, e, l, fun t' d hd => ?_⟩
  obtain ⟨y, rfl, ay⟩ := a t' d hd
  rw [WG_nought] at ay
  exact ⟨y, by rw [Int.mul_one], ay⟩
theorem ok_need_sale (ds : List D) (E : XD) (S : Sto) (Q : KD) (h : g_need_sale ds E S Q) : w_need_sale E (en Q) (startD N_need_sale ds) S := by
  obtain ⟨d, rfl, ok, h⟩ := h
  refine ⟨d, rfl, ok, ?_⟩
  rcases h with ⟨hb, q⟩ | ⟨hb, q⟩
  · exact if_f (b := !saleB d) (by rw [hb]; rfl) q
  · exact if_t (b := !saleB d) (by rw [hb]; rfl) ⟨by show 1 ≤ 1000; decide, q⟩
theorem ok_need_time (ds : List D) (E : XD) (S : Sto) (Q : KD) (h : g_need_time ds E S Q) : w_need_time E (en Q) (startD N_need_time ds) S := by
  obtain ⟨n, t, c, cl, d, lo, rfl, ok, h⟩ := h
  refine ⟨rfl, d, lo, t, rfl, ok, ?_⟩
  rcases h with ⟨hb, q⟩ | ⟨hb, q⟩
  · exact if_f (b := !numB d lo t) (by rw [hb]; rfl) q
  · exact if_t (b := !numB d lo t) (by rw [hb]; rfl) ⟨by show 1 ≤ 1000; decide, q⟩
theorem numB_of {i lo hi : Int} (h1 : lo ≤ i) (h2 : i ≤ hi) : numB (.int i) lo hi = true := by
  show (decide (lo ≤ i) && decide (i ≤ hi)) = true
  rw [decide_eq_true h1, decide_eq_true h2]; rfl
theorem clD_shr : ∀ cl : Cls, ((clD cl).map shr).sum = shares cl
  | [] => rfl
  | p :: cl => by
    show (shr (dCl p.1 p.2.1 p.2.2) :: (clD cl).map shr).sum = _
    rw [List.sum_cons, clD_shr cl]
    rfl
theorem Sale.saleB {far long n t c : Int} {cl : Cls} (hs : Sale far long 4 n t c cl) (h1 : far ≤ 12) (h2 : long ≤ 12) : saleB (dSale n t c cl) = true := by
  have hn := hs.hn
  have ht := hs.ht
  have hc := hs.hc
  have hl := hs.l
  have ok : SaleOk c cl := ⟨hs.hc, hs.o, hs.s⟩
  have ln : (clD cl).length = cl.length := List.length_map _
  show (numB (.int n) 0 12 && (numB (.int t) 0 12 && (numB (.int c) 1 24 && ((decide (1 ≤ (clD cl).length) && decide ((clD cl).length ≤ 4)) && ((clD cl).all offB && decide (((clD cl).map shr).sum ≤ c)))))) = true
  rw [numB_of hn.1 (by omega), numB_of ht.1 (by omega), numB_of hc.1 hc.2, ln, decide_eq_true hl.1, decide_eq_true hl.2, clD_shr, decide_eq_true (p := shares cl ≤ c) hs.s]
  have ha : (clD cl).all offB = true := by
    rw [List.all_eq_true]
    intro d hd
    obtain ⟨p, hp, rfl⟩ := List.mem_map.mp hd
    have o := ok3_of ok p hp
    show (numB (.int p.1) 1 99 && (numB (.int p.2.1) 1 (10 ^ 30) && numB (.int p.2.2) 1 4)) = true
    have := o.s
    rw [numB_of o.f.1 o.f.2, numB_of o.s.1 (by omega), numB_of o.z.1 o.z.2]; rfl
  rw [ha]; rfl
theorem ok_need_left (ds : List D) (E : XD) (S : Sto) (Q : KD) (h : g_need_left ds E S Q) : w_need_left E (en Q) (startD N_need_left ds) S := by
  obtain ⟨n, t, c, cl, d, lo, rfl, ok, h⟩ := h
  refine ⟨rfl, d, lo, n, rfl, ok, ?_⟩
  rcases h with ⟨hb, q⟩ | ⟨hb, q⟩
  · exact if_f (b := !numB d lo n) (by rw [hb]; rfl) q
  · exact if_t (b := !numB d lo n) (by rw [hb]; rfl) ⟨by show 1 ≤ 1000; decide, q⟩

theorem lev_ix {c : Int} {cl : Cls} {b n T : Nat} {x : D} {u : Int} {S : Sto} {Q : KD} (lv : LevsAt b S x c cl n T) (h0 : 0 ≤ u) (h1 : u.toNat ≤ T) (q : ∀ y, SqB 0 S y (rowW (Wi c cl u.toNat) n) → Q (dLev y (c ^ u.toNat)) S) : dIxV x (.int u) S Q := by
  obtain ⟨r, xs, rfl, hr, e, l, a⟩ := lv
  refine ixv (x := .lst r) (xs := xs) e h0 (by omega) fun d hd => ?_
  obtain ⟨y, rfl, ay⟩ := a _ d hd
  exact q y ay.lo
theorem ixv_last' {x : D} {xs : List D} {S : Sto} {Q : KD} {T : Nat} (hx : asSeq S x = some xs) (hl : xs.length = T + 1) (q : ∀ d, xs[T]? = some d → Q d S) : dIxV x (.int (-1)) S Q := by
  have hne : xs ≠ [] := by intro z; rw [z] at hl; cases hl
  obtain ⟨ys, d, rfl⟩ : ∃ ys d, xs = ys ++ [d] := ⟨xs.dropLast, xs.getLast hne, (List.dropLast_concat_getLast hne).symm⟩
  have ly : ys.length = T := by rw [List.length_append, List.length_singleton] at hl; omega
  exact ixv_last hx (q d (by rw [List.getElem?_append_right (by omega), ly]; simp))
theorem ok_need_class (ds : List D) (E : XD) (S : Sto) (Q : KD) (h : g_need_class ds E S Q) : w_need_class E (en Q) (startD N_need_class ds) S := by
  obtain ⟨n, t, c, cl, d, rfl, ok, h⟩ := h
  have ln : (clD cl).length = cl.length := List.length_map _
  have lnI : (((clD cl).length : Nat) : Int) = (cl.length : Int) := by rw [ln]
  refine ⟨rfl, d, 0, (((clD cl).length : Nat) : Int) - 1, rfl, ok, ?_⟩
  rw [lnI]
  rcases h with ⟨hb, q⟩ | ⟨hb, q⟩
  · exact if_f (b := !numB d 0 ((cl.length : Int) - 1)) (by rw [hb]; rfl) q
  · exact if_t (b := !numB d 0 ((cl.length : Int) - 1)) (by rw [hb]; rfl) ⟨by show 1 ≤ 1000; decide, q⟩
theorem ok_is_opened (ds : List D) (E : XD) (S : Sto) (Q : KD) (h : g_is_opened ds E S Q) : w_is_opened E (en Q) (startD N_is_opened ds) S := by
  obtain ⟨p, l, x, b, w, n, rfl, ok, sq, bw, hl, q⟩ := h
  refine ⟨p, l, rfl, ?_⟩
  by_cases hz : p.2.2 ≤ l
  · rw [decide_eq_true hz, Bool.true_and] at q
    exact if_t (b := decide (p.2.2 ≤ l)) (decide_eq_true hz) ⟨p, l, x, b, w, n, rfl, ok, sq, bw, ⟨hz, hl.2⟩, q⟩
  · rw [decide_eq_false hz, Bool.false_and] at q
    exact if_f (b := decide (p.2.2 ≤ l)) (decide_eq_false hz) q
theorem comp_open {Ex : XD} {cl : Cls} {i : Int} {x : D} {b : Int} {w : Nat → Int} {m : Nat} {S : Sto} {p : Int × Int × Int} (hi : 0 ≤ i) (hp : cl[i.toNat]? = some p) (ok : Ok3 p) (sq : SqB 0 S x (rowW w m)) (bw : Bw w b m) (hm : m ≤ 12) {s2 s4 s5 s6 : Option D} {s0 : Option D} {Q : List D → Sto → Prop} :
    ∀ (k lo : Nat) (acc : List D), lo + k = m + 1 → acc.length ≤ lo →
      Q (acc ++ ((List.range' lo k).filter fun (l : Nat) => decide (p.2.2 ≤ (l : Int)) && decide (0 ≤ gainI w b l p)).map fun (l : Nat) => D.int (l : Int)) S →
      compD (CT.nm 8) (wB (wCall g_is_opened (wCons (wOp dIxV (wVar 7) (wVar 1)) (wCons (wVar 8) (wCons (wVar 3) wNil))))) (wVar 8) Ex [s0, some (.int i), s2, some (dLev x b), s4, s5, s6, some (.tup (clD cl)), none] ((List.range' lo k).map fun (l : Nat) => D.int (l : Int)) acc S Q
  | 0, lo, acc, _, _, q => by
    rw [List.range'_zero, List.filter_nil, List.map_nil, List.append_nil] at q
    exact q
  | k + 1, lo, acc, hk, ha, q => by
    rw [List.range'_succ, List.map_cons]
    have hlen : i < ((clD cl).length : Int) := by
      have h1 := (List.getElem?_eq_some_iff.mp hp).1
      have h2 : (clD cl).length = cl.length := List.length_map _
      omega
    refine ixv (x := .tup (clD cl)) (xs := clD cl) rfl hi hlen fun d hd => ?_
    rw [List.getElem?_map, hp] at hd
    cases hd
    refine ⟨p, (lo : Int), x, b, w, m, rfl, ok, sq, bw, ⟨by omega, by omega⟩, ?_⟩
    rw [List.range'_succ, List.filter_cons] at q
    have et : ((lo : Int)).toNat = lo := by omega
    rw [et]
    cases hb : (decide (p.2.2 ≤ (lo : Int)) && decide (0 ≤ gainI w b lo p)) with
    | true =>
      rw [hb, if_pos rfl, List.map_cons] at q
      refine iteT ⟨by omega, ?_⟩
      refine comp_open hi hp ok sq bw hm k (lo + 1) (acc ++ [.int (lo : Int)]) (by omega) (by rw [List.length_append, List.length_singleton]; omega) ?_
      rw [List.append_assoc]
      exact q
    | false =>
      rw [hb, if_neg Bool.false_ne_true] at q
      refine iteF ?_
      exact comp_open hi hp ok sq bw hm k (lo + 1) acc (by omega) (by omega) q
theorem cls_at {cl : Cls} {i : Int} (h0 : 0 ≤ i) (h1 : i ≤ (cl.length : Int) - 1) : ∃ p, cl[i.toNat]? = some p := ⟨cl[i.toNat]'(by omega), List.getElem?_eq_getElem (by omega)⟩
theorem ok_opened (ds : List D) (E : XD) (S : Sto) (Q : KD) (h : g_opened ds E S Q) : w_opened E (en Q) (startD N_opened ds) S := by
  obtain ⟨x, w, u, rfl, px, pw, pu, h⟩ := h
  rcases h with ⟨n, t, c, cl, rfl, hs, hw, hu, q⟩ | ⟨hb, q⟩ | ⟨n, t, c, cl, rfl, hs, h⟩
  · have hn := hs.hn
    have ht := hs.ht
    have ok : SaleOk c cl := ⟨hs.hc, hs.o, hs.s⟩
    obtain ⟨i, rfl, hi, i2⟩ := numB_int hw
    obtain ⟨u, rfl, u1, u2⟩ := numB_int hu
    obtain ⟨p, hp⟩ := cls_at hi i2
    have ok3 := ok3_of ok p (List.mem_of_getElem? hp)
    refine ⟨dSale n t c cl, rfl, px, .inl ⟨hs.saleB (by decide) (by decide), ?_⟩⟩
    refine ⟨n, t, c, cl, .int i, rfl, trivial, .inl ⟨hw, ?_⟩⟩
    refine ⟨n, t, c, cl, .int u, 1, rfl, trivial, .inl ⟨hu, ?_⟩⟩
    refine ⟨rfl, ?_⟩
    refine ⟨n, t, c, cl, u - 1, rfl, hs, ⟨by omega, by omega⟩, fun x S' lv gr => ?_⟩
    obtain ⟨r, xs, rfl, hr, e, l, a⟩ := lv
    refine ixv_last' (x := .lst r) (xs := xs) e l fun d hd => ?_
    obtain ⟨y, rfl, ay⟩ := a _ d hd
    refine ⟨⟨by omega, by omega⟩, ?_⟩
    have er : rngD 0 (n + 1).toNat = (List.range' 0 (n.toNat + 1)).map fun (l : Nat) => D.int (l : Int) := by
      unfold rngD
      rw [show (n + 1).toNat = n.toNat + 1 by omega, List.range_eq_range']
      refine List.map_congr_left fun j _ => ?_
      rw [Int.zero_add]
    rw [er]
    refine comp_open (m := n.toNat) hi hp ok3 ay.lo (Wi_bw ok (by omega)) (by omega) (n.toNat + 1) 0 [] (by omega) (by show 0 ≤ 0; omega) ?_
    rw [dTupleV_def]
    have q := q (((List.range' 0 (n.toNat + 1)).filter (fun (l : Nat) => decide (p.2.2 ≤ (l : Int)) && decide (0 ≤ gainI (Wi c cl (u - 1).toNat) (c ^ (u - 1).toNat) l p))).map fun (l : Nat) => (l : Int)) S' gr
    rw [List.map_map] at q
    exact q
  · exact ⟨x, rfl, px, .inr ⟨hb, q⟩⟩
  · refine ⟨dSale n t c cl, rfl, px, .inl ⟨hs.saleB (by decide) (by decide), ?_⟩⟩
    rcases h with ⟨hw, q⟩ | ⟨hw, hu, q⟩
    · exact ⟨n, t, c, cl, w, rfl, plain_ok pw, .inr ⟨hw, q⟩⟩
    · refine ⟨n, t, c, cl, w, rfl, plain_ok pw, .inl ⟨hw, ?_⟩⟩
      exact ⟨n, t, c, cl, u, 1, rfl, plain_ok pu, .inr ⟨hu, q⟩⟩
theorem comp_one {Ex : XD} {S : Sto} {Q : List D → Sto → Prop} {s0 s1 s2 s3 s4 s5 s6 s7 : Option D} (cl : Cls) (hl : cl.length ≤ 4) (q : Q (cl.map fun p => .bl (decide (p.2.2 = 1))) S) :
    compD (CT.tr 8 9 10) wYes (wOp (dI0 fun i j => .bl (false ^^ decide (i = j))) (wVar 10) (wC (.int 1))) Ex [s0, s1, s2, s3, s4, s5, s6, s7, none, none, none] (clD cl) [] S Q := by
  refine comp_map (fun p : Int × Int × Int => dCl p.1 p.2.1 p.2.2) (fun p => .bl (decide (p.2.2 = 1))) cl (by omega) ?_ q
  intro p hp K kk
  show K (.bl (false ^^ decide (p.2.2 = 1))) S
  rw [Bool.false_xor]
  exact kk
theorem ok_mark (ds : List D) (E : XD) (S : Sto) (Q : KD) (h : g_mark ds E S Q) : w_mark E (en Q) (startD N_mark ds) S := by
  obtain ⟨x, w, u, rfl, px, pw, pu, h⟩ := h
  refine ⟨x, w, u, rfl, px, pw, pu, ?_⟩
  have go : ∀ {n t c : Int} {cl : Cls}, Sale 12 12 4 n t c cl → ∀ (ls : List Int) S', Gr S S' → ((sngB cl = true ∧ ∀ d S', Gr S S' → Q d S') ∨ (sngB cl = false ∧ ∀ S', Gr S S' → E.ex "NoSingle" S')) →
      t_mark_2 E (en Q) [some (dSale n t c cl), some w, some u, some (.tup (ls.map D.int)), none, none, none, none, none, none, none] S' := fun {n t c cl} hs ls S' g h => by
    rw [t_mark_2_eq]
    refine ⟨rfl, ?_⟩
    refine comp_one cl hs.l.2 ?_
    refine ⟨_, _, rfl, bools_map' (fun p : Int × Int × Int => decide (p.2.2 = 1)) cl, ?_⟩
    have ea : ((cl.map fun p => decide (p.2.2 = 1)).all id) = sngB cl := by unfold sngB; rw [List.all_map]; rfl
    rw [ea]
    rcases h with ⟨hb, q⟩ | ⟨hb, q⟩
    · refine if_f (b := !sngB cl) (by rw [hb]; rfl) ?_
      show wIfE (wTr (wVar 3)) (wOp dIxV (wVar 3) (wC (.int 0))) (wC .non) E [some (dSale n t c cl), some w, some u, some (.tup (ls.map D.int)), some (.int n), some (.int t), some (.int c), some (.tup (clD cl)), none, none, none] S' Q
      cases ls with
      | nil => exact q _ S' g
      | cons l r =>
        refine ixv (x := .tup (.int l :: r.map D.int)) (xs := .int l :: r.map D.int) (a := 0) rfl (by decide) (by rw [List.length_cons]; omega) fun d hd => ?_
        cases hd
        exact q _ S' g
    · refine if_t (b := !sngB cl) (by rw [hb]; rfl) ?_
      exact ⟨by show 1 ≤ 1000; decide, q S' g⟩
  rcases h with ⟨n, t, c, cl, rfl, hs, hw, hu, hb, q⟩ | h | ⟨n, t, c, cl, rfl, hs, h⟩
  · exact .inl ⟨n, t, c, cl, rfl, hs, hw, hu, fun ls S' g => go hs ls S' g (.inl ⟨hb, q⟩)⟩
  · exact .inr (.inl h)
  · rcases h with h | h | ⟨hw, hu, hb, q⟩
    · exact .inr (.inr ⟨n, t, c, cl, rfl, hs, .inl h⟩)
    · exact .inr (.inr ⟨n, t, c, cl, rfl, hs, .inr h⟩)
    · exact .inl ⟨n, t, c, cl, rfl, hs, hw, hu, fun ls S' g => go hs ls S' g (.inr ⟨hb, q⟩)⟩
theorem ok_seat_worth (ds : List D) (E : XD) (S : Sto) (Q : KD) (h : g_seat_worth ds E S Q) : w_seat_worth E (en Q) (startD N_seat_worth ds) S := by
  obtain ⟨x, u, l, rfl, px, pu, pl, h⟩ := h
  rcases h with ⟨n, t, c, cl, rfl, hs, hu, hl, q⟩ | ⟨hb, q⟩ | ⟨n, t, c, cl, rfl, hs, h⟩
  · have hn := hs.hn
    have ht := hs.ht
    have ok : SaleOk c cl := ⟨hs.hc, hs.o, hs.s⟩
    obtain ⟨u, rfl, u1, u2⟩ := numB_int hu
    obtain ⟨l, rfl, l1, l2⟩ := numB_int hl
    refine ⟨dSale n t c cl, rfl, px, .inl ⟨hs.saleB (by decide) (by decide), ?_⟩⟩
    refine ⟨n, t, c, cl, .int u, 0, rfl, trivial, .inl ⟨hu, ?_⟩⟩
    refine ⟨n, t, c, cl, .int l, 1, rfl, trivial, .inl ⟨hl, ?_⟩⟩
    refine ⟨n, t, c, cl, u, rfl, hs, ⟨by omega, by omega⟩, fun x S' lv gr => ?_⟩
    refine lev_ix lv u1 (Nat.le_refl _) fun y sq => ⟨rfl, ?_⟩
    refine rowW_ix sq.seq (by omega) (by omega) ?_
    refine rowW_ix sq.seq (by omega) (by omega) ?_
    have bw := Wi_bw (n := n.toNat) ok (show u.toNat ≤ 12 by omega)
    refine ⟨_, _, rfl, trivial, trivial, .inl ⟨_, _, rfl, rfl, pow_pos' ok.hc.1 _, sm1000 (Nat.lt_of_lt_of_le bw.b (Nat.pow_le_pow_right (by decide) (by decide))), ?_⟩⟩
    exact q _ S' gr
  · exact ⟨x, rfl, px, .inr ⟨hb, q⟩⟩
  · refine ⟨dSale n t c cl, rfl, px, .inl ⟨hs.saleB (by decide) (by decide), ?_⟩⟩
    rcases h with ⟨hu, q⟩ | ⟨hu, hl, q⟩
    · exact ⟨n, t, c, cl, u, 0, rfl, plain_ok pu, .inr ⟨hu, q⟩⟩
    · refine ⟨n, t, c, cl, u, 0, rfl, plain_ok pu, .inl ⟨hu, ?_⟩⟩
      exact ⟨n, t, c, cl, l, 1, rfl, plain_ok pl, .inr ⟨hl, q⟩⟩
end K33

namespace K33
open FM PySem PySem.Spec PyProof.Rows L2 DD
theorem share_24 {far long sizes n t c : Int} {cl : Cls} (h : Sale far long sizes n t c cl) {p : Int × Int × Int} (hp : p ∈ cl) : p.2.1 ≤ 24 := by
  have h1 := h.s
  have h2 := h.hc
  have : p.2.1 ≤ shares cl := by
    have nn : ∀ x ∈ cl, 0 ≤ x.2.1 := fun x hx => by have := (h.o x hx).2.1; omega
    clear h1 h2 h
    unfold shares
    induction cl with
    | nil => cases hp
    | cons a l ih =>
      rw [List.map_cons, List.sum_cons]
      have z := sum_nonneg (fun p : Int × Int × Int => p.2.1) l fun x hx => nn x (List.mem_cons_of_mem _ hx)
      have za := nn a List.mem_cons_self
      rcases List.mem_cons.mp hp with rfl | hp
      · omega
      · have := ih hp fun x hx => nn x (List.mem_cons_of_mem _ hx)
        omega
  omega
theorem SysUp {m b e b' e' : Nat} {ds : List D} (h : Sys m b e ds) (hb : b ≤ b') (he : e ≤ e') : Sys m b' e' ds := by
  obtain ⟨qs, h1, h2, h3, h4, h5⟩ := h
  exact ⟨qs, h1, h2, h3, Nat.le_trans h4 hb, Nat.le_trans h5 he⟩
theorem Sys.all {m b e : Nat} : ∀ {ds : List D}, (∀ d ∈ ds, Sy m b e d) → Sys m (ds.length * (b + 1)) e ds
  | [], _ => SysUp Sys.nil (Nat.zero_le _) (Nat.zero_le _)
  | d :: ds, h => by
    have z := Sys.cons (h d List.mem_cons_self) (Sys.all (ds := ds) fun x hx => h x (List.mem_cons_of_mem _ hx))
    refine SysUp z ?_ (by omega)
    rw [List.length_cons, Nat.succ_mul]
    omega
theorem Sy.lv {m b e : Nat} {ds : List D} (h : Sys m b e ds) : Sy (m + 1) b (e + 1) (.lv ds) := by
  obtain ⟨qs, t1, t2, t3, t4, t5⟩ := h
  refine ⟨.list qs, fun S n => ?_, ?_, ?_, ?_, ?_⟩
  · show (seqO (ds.map (pydX S (n + m)))).map PyData.list = _
    rw [t1 S n]; rfl
  · rw [PyData.showable]; exact t2
  · rw [PyData.leavesShort]; exact t3
  · rw [PyData.bulk]; exact t4
  · rw [PyData.depth]; omega
def okBe (b e : Nat) (q : PyData) : Bool := q.showable && (q.leavesShort 2000 && (decide (q.bulk ≤ b) && decide (q.depth ≤ e)))
theorem Sy_of {d : D} {q : PyData} {m b e : Nat} (h : ∀ S n, pydX S (n + m) d = some q) (hb : okBe b e q = true) : Sy m b e d := by
  unfold okBe at hb
  rw [Bool.and_eq_true, Bool.and_eq_true, Bool.and_eq_true, decide_eq_true_eq, decide_eq_true_eq] at hb
  exact ⟨q, h, hb.1, hb.2.1, hb.2.2.1, hb.2.2.2⟩
theorem cutTk {ds : List D} {k : Nat} (h : k ≤ ds.length) : DD.cutD ds none (some (k : Int)) = ds.take k := by
  unfold DD.cutD
  rw [HT.sIx_none, HT.sIx_nat, Nat.min_eq_left h]
  simp
structure PS (m b e : Nat) (d : D) : Prop where
  p : plainD d = true
  y : Sy m b e d
theorem PS.mono {m b e m' b' e' : Nat} {d : D} (h : PS m b e d) (hm : m ≤ m') (hb : b ≤ b') (he : e ≤ e') : PS m' b' e' d := ⟨h.p, h.y.mono hm hb he⟩
theorem PS.int {i : Int} (h : i.natAbs < 2 ^ 64) : PS 1 0 0 (.int i) := ⟨by rw [plainD], (Sw.int (c := false) (m := 0) (Nat.lt_of_lt_of_le h (Nat.pow_le_pow_right (by decide) (by decide)))).y⟩
theorem PS.tup {m b e : Nat} {xs : List D} (h : ∀ x ∈ xs, PS m b e x) : PS (m + 1) (xs.length * (b + 1)) (e + 1) (.tup xs) := ⟨by rw [plainD]; exact plains_iff.mpr fun x hx => (h x hx).p, Sy.tup (Sys.all fun x hx => (h x hx).y)⟩
theorem PS.lv {m b e : Nat} {xs : List D} (h : ∀ x ∈ xs, PS m b e x) : PS (m + 1) (xs.length * (b + 1)) (e + 1) (.lv xs) := ⟨by rw [plainD]; exact plains_iff.mpr fun x hx => (h x hx).p, Sy.lv (Sys.all fun x hx => (h x hx).y)⟩
theorem all1 {P : D → Prop} {x : D} (h : P x) : ∀ y ∈ [x], P y := fun y hy => by rw [List.mem_singleton.mp hy]; exact h
theorem allC {P : D → Prop} {x : D} {xs : List D} (h : P x) (t : ∀ y ∈ xs, P y) : ∀ y ∈ x :: xs, P y := List.forall_mem_cons.mpr ⟨h, t⟩
theorem all0 {P : D → Prop} : ∀ y ∈ ([] : List D), P y := fun _ h => nomatch h
theorem pc3 {f s z : Int} (h1 : f.natAbs < 2 ^ 64) (h2 : s.natAbs < 2 ^ 64) (h3 : z.natAbs < 2 ^ 64) : PS 2 3 1 (.tup [.int f, .int s, .int z]) := PS.tup (m := 1) (b := 0) (e := 0) (allC (PS.int h1) (allC (PS.int h2) (all1 (PS.int h3))))
theorem pi {i : Int} (h : i.natAbs < 2 ^ 64) : PS 3 20 2 (.int i) := (PS.int h).mono (by decide) (by decide) (by decide)
theorem pt {xs : List D} (h : ∀ x ∈ xs, PS 2 3 1 x) (hl : xs.length ≤ 5) : PS 3 20 2 (.tup xs) := (PS.tup h).mono (Nat.le_refl _) (by omega) (Nat.le_refl _)
theorem pl {xs : List D} (h : ∀ x ∈ xs, PS 2 3 1 x) (hl : xs.length ≤ 5) : PS 3 20 2 (.lv xs) := (PS.lv h).mono (Nat.le_refl _) (by omega) (Nat.le_refl _)
theorem badT {xs : List D} (h : ∀ x ∈ xs, PS 3 20 2 x) (hl : xs.length ≤ 5) (hb : saleB (.tup xs) = false) : BadS (.tup xs) :=
  have z := (PS.tup h).mono (m' := 6) (b' := 200) (e' := 5) (by decide) (by omega) (by decide)
  ⟨z.p, hb, z.y⟩
theorem badL {xs : List D} (h : ∀ x ∈ xs, PS 3 20 2 x) (hl : xs.length ≤ 5) : BadS (.lv xs) :=
  have z := (PS.lv h).mono (m' := 6) (b' := 200) (e' := 5) (by decide) (by omega) (by decide)
  ⟨z.p, rfl, z.y⟩
theorem saleB_at (a b : D) (c : Int) (cl : List D) : saleB (.tup [a, b, .int c, .tup cl]) = (numB a 0 12 && (numB b 0 12 && (numB (.int c) 1 24 && ((decide (1 ≤ cl.length) && decide (cl.length ≤ 4)) && (cl.all offB && decide ((cl.map shr).sum ≤ c)))))) := rfl
theorem ixT0 {x : D} {xs : List D} {S : Sto} {Q : KD} (q : Q x S) : dIx (.tup (x :: xs)) (.int 0) S Q := by
  have e : L2.atI (x :: xs) 0 = some x := at_of' (j := 0) (by omega) rfl
  show dAt (x :: xs) 0 S Q
  unfold dAt
  rw [e]
  exact q
theorem bad_lit {d : D} {q : PyData} (hp : plainD d = true) (hn : saleB d = false) (h : ∀ S n, pydX S (n + 6) d = some q) (hb : okBe 200 5 q = true) : BadS d := ⟨hp, hn, Sy_of h hb⟩
theorem bad_int {i : Int} (h : i.natAbs ≤ 10 ^ 60) : BadS (.int i) := ⟨by rw [plainD], rfl, ((Sw.int (c := false) (m := 0) (Nat.lt_of_le_of_lt h (by decide +kernel))).y).mono (by decide) (by decide) (by decide)⟩
theorem ok_law_odd (ds : List D) (E : XD) (S : Sto) (Q : KD) (h : g_law_odd ds E S Q) : w_law_odd E (en Q) (startD N_law_odd ds) S := by
  obtain ⟨k, rfl, hS, q⟩ := h
  refine ⟨⟨by decide, by decide, by decide⟩, by show 0 ≤ 1000; decide, by show 0 ≤ 1000; decide, by show 1 ≤ 1000; decide, by show 1 ≤ 1000; decide, by show 2 ≤ 1000; decide, by show 2 ≤ 1000; decide, by show 1 ≤ 1000; decide, by show 17 ≤ 1000; decide, ?_⟩
  refine ⟨by show 0 ≤ 1000; decide, by show 1 ≤ 1000; decide, by show 1 ≤ 1000; decide, by show 2 ≤ 1000; decide, by show 2 ≤ 1000; decide, by show 2 ≤ 1000; decide, by show 1 ≤ 1000; decide, by show 2 ≤ 1000; decide, by show 2 ≤ 1000; decide, by show 1 ≤ 1000; decide, by show 7 ≤ 1000; decide, ?_⟩
  refine cat_seq rfl rfl (by show 24 ≤ 1000; decide) ?_
  refine ⟨k, 24, rfl, by decide, by unfold Sm; decide, hS, fun r S' a b t => ?_⟩
  have fin : ∀ d, BadS d → Q d S' := fun d h1 => q d S' h1 t
  refine ixv_mem rfl a (by show r < 24; exact b) (List.forall_mem_append.mpr ⟨?_, ?_⟩)
  · refine List.forall_mem_cons.mpr ⟨fin _ (bad_lit (by decide +kernel) rfl (fun _ _ => rfl) (by decide +kernel)), ?_⟩
    refine List.forall_mem_cons.mpr ⟨fin _ (bad_lit (by decide +kernel) rfl (fun _ _ => rfl) (by decide +kernel)), ?_⟩
    refine List.forall_mem_cons.mpr ⟨fin _ (bad_lit (by decide +kernel) rfl (fun _ _ => rfl) (by decide +kernel)), ?_⟩
    refine List.forall_mem_cons.mpr ⟨fin _ (bad_int (by decide)), ?_⟩
    refine List.forall_mem_cons.mpr ⟨fin _ (bad_int (by decide)), ?_⟩
    refine List.forall_mem_cons.mpr ⟨fin _ (bad_int (by decide)), ?_⟩
    refine List.forall_mem_cons.mpr ⟨fin _ (bad_int (by decide)), ?_⟩
    refine List.forall_mem_cons.mpr ⟨fin _ (bad_int (by decide)), ?_⟩
    iterate 9 refine List.forall_mem_cons.mpr ⟨fin _ (bad_lit (by decide +kernel) (by first | rfl | decide +kernel) (fun _ _ => rfl) (by decide +kernel)), ?_⟩
    exact fun _ z => nomatch z
  · iterate 7 refine List.forall_mem_cons.mpr ⟨fin _ (bad_lit (by decide +kernel) (by first | rfl | decide +kernel) (fun _ _ => rfl) (by decide +kernel)), ?_⟩
    exact fun _ z => nomatch z
end K33

namespace K33
open FM PySem PySem.Spec PyProof.Rows L2 DD
section
variable {n t c : Int} {cl : Cls} {E : XD} {Q : KD} {S : Sto}
abbrev ns6 (n t c : Int) (cl : Cls) (x1 : Option D) : Rho := [some (dSale n t c cl), x1, some (.int n), some (.int t), some (.int c), some (.tup (clD cl))]

structure SP (n t c : Int) (cl : Cls) : Prop where
  hs : Sale 12 12 4 n t c cl
  n6 : n.natAbs < 2 ^ 64
  t6 : t.natAbs < 2 ^ 64
  c6 : c.natAbs < 2 ^ 64
  cls : ∀ x ∈ clD cl, PS 2 3 1 x
  len : (clD cl).length ≤ 4
theorem SP.of (hs : Sale 12 12 4 n t c cl) : SP n t c cl := by
  have hn := hs.hn
  have ht := hs.ht
  have hc := hs.hc
  have hl := hs.l
  refine ⟨hs, by omega, by omega, by omega, fun x hx => ?_, by rw [List.length_map]; omega⟩
  obtain ⟨p, hp, rfl⟩ := List.mem_map.mp hx
  have h1 := hs.o p hp
  have h2 := share_24 hs hp
  exact pc3 (by omega) (by omega) (by omega)
theorem SP.tc (K : SP n t c cl) : PS 3 20 2 (.tup (clD cl)) := pt K.cls (by have := K.len; omega)
theorem SP.sale (K : SP n t c cl) : PS 4 84 3 (dSale n t c cl) := PS.tup (m := 3) (b := 20) (e := 2) (allC (pi K.n6) (allC (pi K.t6) (allC (pi K.c6) (all1 K.tc))))
theorem PS_bl {b : Bool} : PS 3 20 2 (.bl b) := ⟨by rw [plainD], Sy_of (d := .bl b) (q := .bool b) (fun _ _ => rfl) (by cases b <;> decide +kernel)⟩
theorem bad_all {xs ys : List D} (h : ∀ d ∈ xs, BadS d) (h2 : ∀ d ∈ ys, BadS d) : ∀ d ∈ xs ++ ys, BadS d := List.forall_mem_append.mpr ⟨h, h2⟩
theorem litB {d : D} {q : PyData} (hp : plainD d = true) (hn : saleB d = false) (h : ∀ S n, pydX S (n + 6) d = some q) (hb : okBe 200 5 q = true) : BadS d := bad_lit hp hn h hb
theorem nums_last {xs : List D} (hx : ∀ d ∈ xs, BadS d) (hl : xs.length ≤ 30) (q : ∀ bs : List D, (∀ d ∈ bs, BadS d) → bs.length ≤ 50 → Q (.lv bs) S) : t_law_no_sales_7 E (en Q) (ns6 n t c cl (some (.lv xs))) S := by
  rw [t_law_no_sales_7_eq]
  refine ⟨by show 2 ≤ 1000; decide, by show 1 ≤ 1000; decide, by show 4 ≤ 1000; decide, by show 1 ≤ 1000; decide, by show 4 ≤ 1000; decide, by show 3 ≤ 1000; decide, by show 1 ≤ 1000; decide, by show 4 ≤ 1000; decide, by show 3 ≤ 1000; decide, by show 1 ≤ 1000; decide, by show 4 ≤ 1000; decide, by show 4 ≤ 1000; decide, ?_⟩
  refine cat_seq (x := .lv xs) rfl rfl (by show xs.length + 4 ≤ 1000; omega) ?_
  refine q _ (bad_all hx ?_) (by rw [List.length_append]; show xs.length + 4 ≤ 50; omega)
  iterate 4 refine List.forall_mem_cons.mpr ⟨litB (by decide +kernel) (by first | rfl | decide +kernel) (fun _ _ => rfl) (by decide +kernel), ?_⟩
  exact fun _ z => nomatch z
theorem nums_6 {xs : List D} (hx : ∀ d ∈ xs, BadS d) (hl : xs.length ≤ 28) (q : ∀ bs : List D, (∀ d ∈ bs, BadS d) → bs.length ≤ 50 → Q (.lv bs) S) : t_law_no_sales_6 E (en Q) (ns6 n t c cl (some (.lv xs))) S := by
  rw [t_law_no_sales_6_eq]
  refine ⟨by show 3 ≤ 1000; decide, by show 3 ≤ 1000; decide, by show 2 ≤ 1000; decide, by show 4 ≤ 1000; decide, by show 3 ≤ 1000; decide, by show 1 ≤ 1000; decide, ⟨by decide, by decide, by show 1 * 5 ≤ 1000; decide⟩, by show 4 ≤ 1000; decide, by show 2 ≤ 1000; decide, ?_⟩
  refine cat_seq (x := .lv xs) rfl rfl (by show xs.length + 2 ≤ 1000; omega) ?_
  have nx := nums_last (n := n) (t := t) (c := c) (cl := cl) (E := E) (Q := Q) (S := S) (xs := xs ++ [.tup [.int 1, .int 1, .int 4, .tup [.tup [.int 5, .int 3, .int 1], .tup [.int 5, .int 2, .int 1]]], .tup [.int 1, .int 1, .int 24, .tup [.tup [.int 5, .int 1, .int 1], .tup [.int 5, .int 1, .int 1], .tup [.int 5, .int 1, .int 1], .tup [.int 5, .int 1, .int 1], .tup [.int 5, .int 1, .int 1]]]]) (bad_all hx ?_) (by rw [List.length_append]; show xs.length + 2 ≤ 30; omega) q
  · exact nx
  iterate 2 refine List.forall_mem_cons.mpr ⟨litB (by decide +kernel) (by first | rfl | decide +kernel) (fun _ _ => rfl) (by decide +kernel), ?_⟩
  exact fun _ z => nomatch z
theorem nums_5 {xs : List D} (hx : ∀ d ∈ xs, BadS d) (hl : xs.length ≤ 20) (q : ∀ bs : List D, (∀ d ∈ bs, BadS d) → bs.length ≤ 50 → Q (.lv bs) S) : t_law_no_sales_5 E (en Q) (ns6 n t c cl (some (.lv xs))) S := by
  rw [t_law_no_sales_5_eq]
  refine ⟨by show 3 ≤ 1000; decide, by show 1 ≤ 1000; decide, by show 4 ≤ 1000; decide, by show 3 ≤ 1000; decide, by show 1 ≤ 1000; decide, by show 4 ≤ 1000; decide, by show 3 ≤ 1000; decide, by show 1 ≤ 1000; decide, by show 4 ≤ 1000; decide, by show 3 ≤ 1000; decide, by show 1 ≤ 1000; decide, by show 4 ≤ 1000; decide, by show 4 ≤ 1000; decide, ?_⟩
  refine cat_seq (x := .lv xs) rfl rfl (by show xs.length + 4 ≤ 1000; omega) ?_
  refine nums_6 (n := n) (t := t) (c := c) (cl := cl) (bad_all hx ?_) (by rw [List.length_append]; show xs.length + 4 ≤ 28; omega) q
  iterate 4 refine List.forall_mem_cons.mpr ⟨litB (by decide +kernel) (by first | rfl | decide +kernel) (fun _ _ => rfl) (by decide +kernel), ?_⟩
  exact fun _ z => nomatch z
theorem nums_4 (K : SP n t c cl) {xs : List D} (hx : ∀ d ∈ xs, BadS d) (hl : xs.length ≤ 12) (q : ∀ bs : List D, (∀ d ∈ bs, BadS d) → bs.length ≤ 50 → Q (.lv bs) S) : t_law_no_sales_4 E (en Q) (ns6 n t c cl (some (.lv xs))) S := by
  rw [t_law_no_sales_4_eq]
  refine ⟨by show 0 ≤ 1000; decide, by show 4 ≤ 1000; decide, ?_⟩
  rw [dListV_def]
  refine ⟨by show 4 ≤ 1000; decide, by show 4 ≤ 1000; decide, by show 3 ≤ 1000; decide, ?_⟩
  refine cat_seq (x := .lv xs) rfl rfl (by show xs.length + 3 ≤ 1000; omega) ?_
  refine nums_5 (n := n) (t := t) (c := c) (cl := cl) (bad_all hx ?_) (by rw [List.length_append]; show xs.length + 3 ≤ 20; omega) q
  refine List.forall_mem_cons.mpr ⟨badT (allC (pi K.n6) (allC (pi K.t6) (allC (pi K.c6) (all1 (pt all0 (by decide)))))) (by show 4 ≤ 5; decide) ?_, ?_⟩
  · rw [saleB_at]
    show (_ && (_ && (_ && (false && _)))) = false
    rw [Bool.false_and, Bool.and_false, Bool.and_false, Bool.and_false]
  refine List.forall_mem_cons.mpr ⟨badT (allC (pi K.n6) (allC (pi K.t6) (allC (pi K.c6) (all1 (pl K.cls (by have := K.len; omega)))))) (by show 4 ≤ 5; decide) rfl, ?_⟩
  refine List.forall_mem_cons.mpr ⟨badT (allC PS_bl (allC (pi K.t6) (allC (pi K.c6) (all1 K.tc)))) (by show 4 ≤ 5; decide) ?_, ?_⟩
  · rw [saleB_at]; rfl
  exact fun _ z => nomatch z
theorem nums_3 (K : SP n t c cl) {xs : List D} (hx : ∀ d ∈ xs, BadS d) (hl : xs.length ≤ 8) (q : ∀ bs : List D, (∀ d ∈ bs, BadS d) → bs.length ≤ 50 → Q (.lv bs) S) : t_law_no_sales_3 E (en Q) (ns6 n t c cl (some (.lv xs))) S := by
  rw [t_law_no_sales_3_eq]
  refine ⟨by show 4 ≤ 1000; decide, by show 4 ≤ 1000; decide, by show 4 ≤ 1000; decide, by show 3 ≤ 1000; decide, ?_⟩
  refine cat_seq (x := .lv xs) rfl rfl (by show xs.length + 3 ≤ 1000; omega) ?_
  refine nums_4 (n := n) (t := t) (c := c) (cl := cl) K (bad_all hx ?_) (by rw [List.length_append]; show xs.length + 3 ≤ 12; omega) q
  have f2 : numB (.int 25) 1 24 = false := rfl
  have f3 : numB (.int 0) 1 24 = false := rfl
  refine List.forall_mem_cons.mpr ⟨badT (allC (pi K.n6) (allC (pi K.t6) (allC (pi (by decide)) (all1 K.tc)))) (by show 4 ≤ 5; decide) ?_, ?_⟩
  · rw [saleB_at, f2, Bool.false_and, Bool.and_false, Bool.and_false]
  refine List.forall_mem_cons.mpr ⟨badT (allC (pi K.n6) (allC (pi K.t6) (allC (pi (by decide)) (all1 K.tc)))) (by show 4 ≤ 5; decide) ?_, ?_⟩
  · rw [saleB_at, f3, Bool.false_and, Bool.and_false, Bool.and_false]
  refine List.forall_mem_cons.mpr ⟨badT (allC (pi (i := -1) (by decide)) (allC (pi K.t6) (allC (pi K.c6) (all1 K.tc)))) (by show 4 ≤ 5; decide) ?_, ?_⟩
  · rw [saleB_at]; rfl
  exact fun _ z => nomatch z
end
theorem ok_law_no_sales (ds : List D) (E : XD) (S : Sto) (Q : KD) (h : g_law_no_sales ds E S Q) : w_law_no_sales E (en Q) (startD N_law_no_sales ds) S := by
  obtain ⟨n, t, c, cl, rfl, hs, q⟩ := h
  have K := SP.of hs
  refine ⟨rfl, ?_⟩
  refine ⟨by show 0 ≤ 1000; decide, ?_⟩
  rw [dListV_def]
  refine slw_tup (ds := [.int n, .int t, .int c, .tup (clD cl)]) ?_
  rw [show DD.cutD [D.int n, .int t, .int c, .tup (clD cl)] none (some 3) = [.int n, .int t, .int c] from cutTk (ds := [.int n, .int t, .int c, .tup (clD cl)]) (k := 3) (by show 3 ≤ 4; decide)]
  refine ⟨by show 1 ≤ 1000; decide, by show 4 + 1 ≤ 1000; decide, by show 4 ≤ 1000; decide, by show 4 ≤ 1000; decide, by show 7 ≤ 1000; decide, ?_⟩
  refine nums_3 (n := n) (t := t) (c := c) (cl := cl) K (xs := [.non, .tup [], .lv [.int n, .int t, .int c, .tup (clD cl)], .tup [.int n, .int t, .int c], .tup [.int n, .int t, .int c, .tup (clD cl), .int 0], .tup [.int 13, .int t, .int c, .tup (clD cl)], .tup [.int n, .int 13, .int c, .tup (clD cl)]]) ?_ (by show 7 ≤ 8; decide) q
  refine List.forall_mem_cons.mpr ⟨litB (by decide +kernel) rfl (fun _ _ => rfl) (by decide +kernel), ?_⟩
  refine List.forall_mem_cons.mpr ⟨litB (by decide +kernel) rfl (fun _ _ => rfl) (by decide +kernel), ?_⟩
  refine List.forall_mem_cons.mpr ⟨badL (allC (pi K.n6) (allC (pi K.t6) (allC (pi K.c6) (all1 K.tc)))) (by show 4 ≤ 5; decide), ?_⟩
  refine List.forall_mem_cons.mpr ⟨badT (allC (pi K.n6) (allC (pi K.t6) (all1 (pi K.c6)))) (by show 3 ≤ 5; decide) rfl, ?_⟩
  refine List.forall_mem_cons.mpr ⟨badT (allC (pi K.n6) (allC (pi K.t6) (allC (pi K.c6) (allC K.tc (all1 (pi (by decide))))))) (by show 5 ≤ 5; decide) rfl, ?_⟩
  have f1 : numB (.int 13) 0 12 = false := rfl
  refine List.forall_mem_cons.mpr ⟨badT (allC (pi (by decide)) (allC (pi K.t6) (allC (pi K.c6) (all1 K.tc)))) (by show 4 ≤ 5; decide) ?_, ?_⟩
  · rw [saleB_at, f1, Bool.false_and]
  refine List.forall_mem_cons.mpr ⟨badT (allC (pi K.n6) (allC (pi (by decide)) (allC (pi K.c6) (all1 K.tc)))) (by show 4 ≤ 5; decide) ?_, ?_⟩
  · rw [saleB_at, f1, Bool.false_and, Bool.and_false]
  exact fun _ z => nomatch z
end K33

namespace K33
open FM PySem PySem.Spec PyProof.Rows L2 DD
theorem setE {S : Sto} {x y : List D} : (S ++ [x]).set S.length y = S ++ [y] := by simp
theorem getE {S : Sto} {x : List D} : (S ++ [x])[S.length]? = some x := by simp
theorem saidV_any {q : Str} {f c : Addr} {we : WE} {Ls : List (Addr × Addr × WE)} {i : Nat} {E : XD} {r : Rho} {S : Sto} {Q : KD} (hm : (f, c, we) ∈ Ls) (hr : r.getD i none = some (.lam f c q)) (hw : we ⟨fun x S' => ∃ wx, wd x = some wx ∧ Q (.tup [.str wx]) S', E.tb⟩ r S (fun d S' => Q (.tup [.str "told", d]) S')) : wSaidV wd q Ls i E r S Q := by
  unfold wSaidV
  exact ⟨f, c, we, hm, hr, _, _, fun _ _ z => z, fun _ _ z => z, hw⟩
section
variable {f1 c1 f2 c2 f3 c3 : Addr} {E : XD} {Q : KD} {S0 S : Sto} {x w u l : D} {a b c : Str} {p : PyData} {k : Nat}
abbrev lwq : Str := "_law_words.<locals>.<lambda>"
abbrev ws8 (k : Nat) (x w u l : D) (x5 x6 x7 : Option D) : Rho := [some x, some w, some u, some l, some (.lst k), x5, x6, x7]
theorem tell {K : KD} {S1 S2 : Sto} {wx : Str} {xs : List D} (h : ∀ S3, Gr S1 S3 → K (.str wx) S3) (g : Gr S1 S2) : dIx (.tup (.str wx :: xs)) (.int 0) S2 K := ixT0 (h S2 g)
theorem call_1 {K : KD} {tb : List (Addr × Str)} (hx : Thg x) (hw : Thg w) (hu : Thg u) (hW : Wds x w u l a b c) (kk : ∀ S3, Gr S S3 → K (.str a) S3) :
    g_opened [x, w, u] ⟨fun y S' => ∃ wx, wd y = some wx ∧ dIx (.tup [.str wx]) (.int 0) S' K, tb⟩ S (fun d S' => dIx (.tup [.str "told", d]) (.int 0) S' K) := by
  refine ⟨x, w, u, rfl, hx.p, hw.p, hu.p, ?_⟩
  rcases hW with ⟨hb, rfl, rfl, rfl⟩ | ⟨n, t, k, cl, rfl, hs, rfl, rfl, rfl⟩
  · exact .inr (.inl ⟨hb, "sale", by decide +kernel, tell kk (Gr.refl _)⟩)
  · unfold oW at kk
    cases h1 : numB w 0 ((cl.length : Int) - 1) with
    | false =>
      rw [h1, if_neg Bool.false_ne_true] at kk
      exact .inr (.inr ⟨n, t, k, cl, rfl, hs, .inl ⟨h1, "class", by decide +kernel, tell kk (Gr.refl _)⟩⟩)
    | true =>
      rw [h1, if_pos rfl] at kk
      cases h2 : numB u 1 t with
      | false =>
        rw [h2, if_neg Bool.false_ne_true] at kk
        exact .inr (.inr ⟨n, t, k, cl, rfl, hs, .inr ⟨h1, h2, "time", by decide +kernel, tell kk (Gr.refl _)⟩⟩)
      | true =>
        rw [h2, if_pos rfl] at kk
        exact .inl ⟨n, t, k, cl, rfl, hs, h1, h2, fun ls S' g => tell kk g⟩
theorem call_2 {K : KD} {tb : List (Addr × Str)} (hx : Thg x) (hw : Thg w) (hu : Thg u) (hW : Wds x w u l a b c) (kk : ∀ S3, Gr S S3 → K (.str b) S3) :
    g_mark [x, w, u] ⟨fun y S' => ∃ wx, wd y = some wx ∧ dIx (.tup [.str wx]) (.int 0) S' K, tb⟩ S (fun d S' => dIx (.tup [.str "told", d]) (.int 0) S' K) := by
  refine ⟨x, w, u, rfl, hx.p, hw.p, hu.p, ?_⟩
  rcases hW with ⟨hb, rfl, rfl, rfl⟩ | ⟨n, t, k, cl, rfl, hs, rfl, rfl, rfl⟩
  · exact .inr (.inl ⟨hb, "sale", by decide +kernel, tell kk (Gr.refl _)⟩)
  · unfold mW at kk
    cases h1 : numB w 0 ((cl.length : Int) - 1) with
    | false =>
      rw [h1, if_neg Bool.false_ne_true] at kk
      exact .inr (.inr ⟨n, t, k, cl, rfl, hs, .inl ⟨h1, "class", by decide +kernel, tell kk (Gr.refl _)⟩⟩)
    | true =>
      rw [h1, if_pos rfl] at kk
      cases h2 : numB u 1 t with
      | false =>
        rw [h2, if_neg Bool.false_ne_true] at kk
        exact .inr (.inr ⟨n, t, k, cl, rfl, hs, .inr (.inl ⟨h1, h2, "time", by decide +kernel, tell kk (Gr.refl _)⟩)⟩)
      | true =>
        rw [h2, if_pos rfl] at kk
        cases h3 : sngB cl with
        | false =>
          rw [h3, if_neg Bool.false_ne_true] at kk
          exact .inr (.inr ⟨n, t, k, cl, rfl, hs, .inr (.inr ⟨h1, h2, h3, fun S' g => ⟨"single", by decide +kernel, tell kk g⟩⟩)⟩)
        | true =>
          rw [h3, if_pos rfl] at kk
          exact .inl ⟨n, t, k, cl, rfl, hs, h1, h2, h3, fun d S' g => tell kk g⟩
theorem call_3 {K : KD} {tb : List (Addr × Str)} (hx : Thg x) (hu : Thg u) (hl : Thg l) (hW : Wds x w u l a b c) (kk : ∀ S3, Gr S S3 → K (.str c) S3) :
    g_seat_worth [x, u, l] ⟨fun y S' => ∃ wx, wd y = some wx ∧ dIx (.tup [.str wx]) (.int 0) S' K, tb⟩ S (fun d S' => dIx (.tup [.str "told", d]) (.int 0) S' K) := by
  refine ⟨x, u, l, rfl, hx.p, hu.p, hl.p, ?_⟩
  rcases hW with ⟨hb, rfl, rfl, rfl⟩ | ⟨n, t, k, cl, rfl, hs, rfl, rfl, rfl⟩
  · exact .inr (.inl ⟨hb, "sale", by decide +kernel, tell kk (Gr.refl _)⟩)
  · unfold sW at kk
    cases h1 : numB u 0 t with
    | false =>
      rw [h1, if_neg Bool.false_ne_true] at kk
      exact .inr (.inr ⟨n, t, k, cl, rfl, hs, .inl ⟨h1, "time", by decide +kernel, tell kk (Gr.refl _)⟩⟩)
    | true =>
      rw [h1, if_pos rfl] at kk
      cases h2 : numB l 1 n with
      | false =>
        rw [h2, if_neg Bool.false_ne_true] at kk
        exact .inr (.inr ⟨n, t, k, cl, rfl, hs, .inr ⟨h1, h2, "left", by decide +kernel, tell kk (Gr.refl _)⟩⟩)
      | true =>
        rw [h2, if_pos rfl] at kk
        exact .inl ⟨n, t, k, cl, rfl, hs, h1, h2, fun d S' g => tell kk g⟩
theorem lw6 (p1 : ∀ S, pydX S 8 (.tup [x, w, u, l]) = some p) (p2 : ROkY p) {x7 : Option D} (q : Q (.lv [.str a, .str b, .str c]) S) : t_law_words_6 E (en Q) (ws8 k x w u l (some (.str (shw p))) (some (.lv [.str a, .str b, .str c])) x7) S := by
  rw [t_law_words_6_eq]
  refine ⟨by show 4 ≤ 1000; decide, p, p1 S, p2, ?_⟩
  refine if_t (b := false ^^ decide (shw p = shw p)) (by rw [decide_eq_true rfl]; rfl) ?_
  exact q
theorem lw5 (p1 : ∀ S, pydX S 8 (.tup [x, w, u, l]) = some p) (p2 : ROkY p) (hx : Thg x) (hw : Thg w) (hu : Thg u) (hl : Thg l) (hW : Wds x w u l a b c) (e : S[k]? = some [.lam f1 c1 lwq, .lam f2 c2 lwq, .lam f3 c3 lwq]) (q : ∀ S', Gr S S' → Q (.lv [.str a, .str b, .str c]) S') :
    t_law_words_5 f1 c1 f2 c2 f3 c3 E (en Q) (ws8 k x w u l (some (.str (shw p))) none none) S := by
  rw [t_law_words_5_eq]
  refine qY_at (.lst k) S (fun K kk => kk) (sqD_lst e) ?_
  refine compC_inv (al := Addr × Addr × Str) (fun z => .lam z.1 z.2.1 lwq) (fun z => .str z.2.2) (fun S' => Gr S S') (fun S' g => by rw [g.o _ (List.getElem?_eq_some_iff.mp e).1]; exact e) [(f1, c1, a), (f2, c2, b), (f3, c3, c)] S (by show 3 ≤ 1000; decide) ?_ (Gr.refl _) (fun S' g => ?_)
  · refine List.forall_mem_cons.mpr ⟨fun S1 g K kk => ?_, List.forall_mem_cons.mpr ⟨fun S1 g K kk => ?_, List.forall_mem_cons.mpr ⟨fun S1 g K kk => ?_, fun _ z => nomatch z⟩⟩⟩
    · exact saidV_any (f := f1) (c := c1) List.mem_cons_self rfl (call_1 hx hw hu hW fun S3 g3 => kk S3 (g.trans g3))
    · exact saidV_any (f := f2) (c := c2) (List.mem_cons_of_mem _ List.mem_cons_self) rfl (call_2 hx hw hu hW fun S3 g3 => kk S3 (g.trans g3))
    · exact saidV_any (f := f3) (c := c3) (List.mem_cons_of_mem _ (List.mem_cons_of_mem _ List.mem_cons_self)) rfl (call_3 hx hu hl hW fun S3 g3 => kk S3 (g.trans g3))
  · exact lw6 p1 p2 (q S' g)
end
theorem ok_law_words {Pt : Addr} (ds : List D) (E : XD) (S : Sto) (Q : KD) (h : g_law_words Pt ds E S Q) : w_law_words Pt E (en Q) (startD N_law_words ds) S := by
  obtain ⟨x, w, u, l, a, b, c, rfl, hT, hx, hw, hu, hl, hW, q⟩ := h
  obtain ⟨p, p1, p2⟩ := (Sy.tup (Sys.all (ds := [x, w, u, l]) (m := 6) (b := 200) (e := 5) (allC hx.y (allC hw.y (allC hu.y (all1 hl.y)))))).rok (by decide) (by show 4 * 201 ≤ 8000; decide) (by decide)
  unfold w_law_words wLamSet
  refine ⟨hT, fun f1 c1 => ?_⟩
  unfold wLamApp
  refine ⟨hT, S.length, _, rfl, getE, by show 1 < 1000; decide, fun f2 c2 => ?_⟩
  rw [setE]
  refine ⟨hT, S.length, _, rfl, getE, by show 2 < 1000; decide, fun f3 c3 => ?_⟩
  rw [setE]
  change t_law_words_4 f1 c1 f2 c2 f3 c3 E (en Q) (ws8 S.length x w u l none none none) (S ++ [[.lam f1 c1 lwq, .lam f2 c2 lwq, .lam f3 c3 lwq]])
  rw [t_law_words_4_eq]
  refine ⟨by show 4 ≤ 1000; decide, p, p1 _, p2, ?_⟩
  have g0 : Gr S (S ++ [[.lam f1 c1 lwq, .lam f2 c2 lwq, .lam f3 c3 lwq]]) := ⟨fun j hj => List.getElem?_append_left hj, by simp⟩
  exact lw5 p1 p2 hx hw hu hl hW getE fun S' g => q S' (g0.trans g)
end K33

namespace K33
open FM PySem PySem.Spec PyProof.Rows L2 DD
theorem isx {x y : Str} {b : Bool} {S : Sto} {Q : KD} (h : rows.any (fun r => r.x == x && r.own.contains (y, b)) = true) (q : Q (.bl b) S) : dIsinX rows [.ex x, .cl y] S Q := by
  rw [dIsinX_def]
  obtain ⟨r, hr, h2⟩ := List.any_eq_true.mp h
  rw [Bool.and_eq_true, beq_iff_eq, List.contains_iff_mem] at h2
  exact ⟨r, b, hr, h2.1, h2.2, q⟩
theorem isxT {x : Str} {n : String} {b : Bool} {S : Sto} {Q : KD} (h : rows.any (fun r => r.x == x && r.ty.contains (n, b)) = true) (q : Q (.bl b) S) : dIsinX rows [.ex x, .ty n] S Q := by
  rw [dIsinX_def]
  obtain ⟨r, hr, h2⟩ := List.any_eq_true.mp h
  rw [Bool.and_eq_true, beq_iff_eq, List.contains_iff_mem] at h2
  exact ⟨r, b, hr, h2.1, h2.2, q⟩
theorem bools_map : ∀ bs : List Bool, bools (bs.map D.bl) = some bs
  | [] => rfl
  | b :: bs => by
    show consO b (bools (bs.map D.bl)) = _
    rw [bools_map bs]
    rfl
theorem countB {bs : List Bool} {b : Bool} {S : Sto} {Q : KD} (q : Q (.int (bs.count b : Nat)) S) : dCountB (.lv (bs.map D.bl)) [.bl b] S Q := by
  unfold dCountB
  show (match bools (bs.map D.bl) with | some bs => Q (.int (bs.count b : Nat)) S | none => False)
  rw [bools_map]
  exact q
theorem indexB {bs : List Bool} {b : Bool} {j : Nat} {S : Sto} {Q : KD} (h : ixB b bs = some j) (q : Q (.int (j : Nat)) S) : dIndexB (.lv (bs.map D.bl)) [.bl b] S Q := by
  unfold dIndexB
  show (match bools (bs.map D.bl) with | some bs => (match ixB b bs with | some j => Q (.int (j : Nat)) S | none => False) | none => False)
  rw [bools_map]
  show (match ixB b bs with | some j => Q (.int (j : Nat)) S | none => False)
  rw [h]
  exact q
theorem word_NoSale {E : XD} {S : Sto} {Q : KD} (q : Q (.str "sale") S) : w_law_word E (en Q) (startD N_law_word [.ex "NoSale"]) S := by
  refine isx (x := "NoSale") (y := "NoNumber") (b := false) (by decide +kernel) ?_
  refine isx (x := "NoSale") (y := "NoSale") (b := true) (by decide +kernel) ?_
  refine isx (x := "NoSale") (y := "NoNet") (b := false) (by decide +kernel) ?_
  refine isx (x := "NoSale") (y := "NoClass") (b := false) (by decide +kernel) ?_
  refine ⟨by show 4 ≤ 1000; decide, ?_⟩
  refine isx (x := "NoSale") (y := "NoTime") (b := false) (by decide +kernel) ?_
  refine isx (x := "NoSale") (y := "NoLeft") (b := false) (by decide +kernel) ?_
  refine isx (x := "NoSale") (y := "NoSingle") (b := false) (by decide +kernel) ?_
  refine isx (x := "NoSale") (y := "NoPlan") (b := false) (by decide +kernel) ?_
  refine ⟨by show 4 ≤ 1000; decide, ?_⟩
  refine cat_seq (x := .lv [.bl false, .bl true, .bl false, .bl false]) (y := .lv [.bl false, .bl false, .bl false, .bl false]) rfl rfl (by decide) ?_
  refine isx (x := "NoSale") (y := "NoRun") (b := false) (by decide +kernel) ?_
  refine isx (x := "NoSale") (y := "NoLimit") (b := false) (by decide +kernel) ?_
  refine isx (x := "NoSale") (y := "NoShow") (b := false) (by decide +kernel) ?_
  refine isx (x := "NoSale") (y := "NoAmends") (b := false) (by decide +kernel) ?_
  refine ⟨by show 4 ≤ 1000; decide, ?_⟩
  refine cat_seq (x := .lv [.bl false, .bl true, .bl false, .bl false, .bl false, .bl false, .bl false, .bl false]) (y := .lv [.bl false, .bl false, .bl false, .bl false]) rfl rfl (by decide) ?_
  refine isx (x := "NoSale") (y := "NoPrices") (b := false) (by decide +kernel) ?_
  refine isx (x := "NoSale") (y := "NoLine") (b := false) (by decide +kernel) ?_
  refine isx (x := "NoSale") (y := "NoText") (b := false) (by decide +kernel) ?_
  refine ⟨by show 3 ≤ 1000; decide, ?_⟩
  refine cat_seq (x := .lv [.bl false, .bl true, .bl false, .bl false, .bl false, .bl false, .bl false, .bl false, .bl false, .bl false, .bl false, .bl false]) (y := .lv [.bl false, .bl false, .bl false]) rfl rfl (by decide) ?_
  refine isx (x := "NoSale") (y := "Over") (b := false) (by decide +kernel) ?_
  refine isx (x := "NoSale") (y := "Nothing") (b := false) (by decide +kernel) ?_
  refine ⟨by show 2 ≤ 1000; decide, ?_⟩
  refine cat_seq (x := .lv [.bl false, .bl true, .bl false, .bl false, .bl false, .bl false, .bl false, .bl false, .bl false, .bl false, .bl false, .bl false, .bl false, .bl false, .bl false]) (y := .lv [.bl false, .bl false]) rfl rfl (by decide) ?_
  refine ⟨by show 12 ≤ 1000; decide, ?_⟩
  refine ⟨by show 5 ≤ 1000; decide, ?_⟩
  refine cat_seq (x := .lv [.str "number", .str "sale", .str "net", .str "class", .str "time", .str "left", .str "single", .str "plan", .str "run", .str "limit", .str "show", .str "amends"]) (y := .lv [.str "prices", .str "line", .str "text", .str "over", .str "nothing"]) rfl rfl (by decide) ?_
  refine ⟨trivial, ?_⟩
  refine countB (bs := [false, true, false, false, false, false, false, false, false, false, false, false, false, false, false, false, false]) (b := true) ?_
  refine isxT (x := "NoSale") (n := "ValueError") (b := true) (by decide +kernel) ?_
  refine ⟨trivial, ?_⟩
  refine indexB (bs := [false, true, false, false, false, false, false, false, false, false, false, false, false, false, false, false, false]) (b := true) (j := 1) (by decide) ?_
  refine isx (x := "NoSale") (y := "NoThing") (b := true) (by decide +kernel) ?_
  refine isx (x := "NoSale") (y := "NotNow") (b := false) (by decide +kernel) ⟨by show 2 ≤ 1000; decide, by show 2 ≤ 1000; decide, ?_⟩
  refine ⟨_, _, rfl, rfl, rfl, rfl, ?_⟩
  refine ixv (x := .lv [.str "number", .str "sale", .str "net", .str "class", .str "time", .str "left", .str "single", .str "plan", .str "run", .str "limit", .str "show", .str "amends", .str "prices", .str "line", .str "text", .str "over", .str "nothing"]) (xs := [.str "number", .str "sale", .str "net", .str "class", .str "time", .str "left", .str "single", .str "plan", .str "run", .str "limit", .str "show", .str "amends", .str "prices", .str "line", .str "text", .str "over", .str "nothing"]) (a := 1) rfl (by decide) (by decide) fun d hd => ?_
  cases hd
  exact q
theorem word_NoClass {E : XD} {S : Sto} {Q : KD} (q : Q (.str "class") S) : w_law_word E (en Q) (startD N_law_word [.ex "NoClass"]) S := by
  refine isx (x := "NoClass") (y := "NoNumber") (b := false) (by decide +kernel) ?_
  refine isx (x := "NoClass") (y := "NoSale") (b := false) (by decide +kernel) ?_
  refine isx (x := "NoClass") (y := "NoNet") (b := false) (by decide +kernel) ?_
  refine isx (x := "NoClass") (y := "NoClass") (b := true) (by decide +kernel) ?_
  refine ⟨by show 4 ≤ 1000; decide, ?_⟩
  refine isx (x := "NoClass") (y := "NoTime") (b := false) (by decide +kernel) ?_
  refine isx (x := "NoClass") (y := "NoLeft") (b := false) (by decide +kernel) ?_
  refine isx (x := "NoClass") (y := "NoSingle") (b := false) (by decide +kernel) ?_
  refine isx (x := "NoClass") (y := "NoPlan") (b := false) (by decide +kernel) ?_
  refine ⟨by show 4 ≤ 1000; decide, ?_⟩
  refine cat_seq (x := .lv [.bl false, .bl false, .bl false, .bl true]) (y := .lv [.bl false, .bl false, .bl false, .bl false]) rfl rfl (by decide) ?_
  refine isx (x := "NoClass") (y := "NoRun") (b := false) (by decide +kernel) ?_
  refine isx (x := "NoClass") (y := "NoLimit") (b := false) (by decide +kernel) ?_
  refine isx (x := "NoClass") (y := "NoShow") (b := false) (by decide +kernel) ?_
  refine isx (x := "NoClass") (y := "NoAmends") (b := false) (by decide +kernel) ?_
  refine ⟨by show 4 ≤ 1000; decide, ?_⟩
  refine cat_seq (x := .lv [.bl false, .bl false, .bl false, .bl true, .bl false, .bl false, .bl false, .bl false]) (y := .lv [.bl false, .bl false, .bl false, .bl false]) rfl rfl (by decide) ?_
  refine isx (x := "NoClass") (y := "NoPrices") (b := false) (by decide +kernel) ?_
  refine isx (x := "NoClass") (y := "NoLine") (b := false) (by decide +kernel) ?_
  refine isx (x := "NoClass") (y := "NoText") (b := false) (by decide +kernel) ?_
  refine ⟨by show 3 ≤ 1000; decide, ?_⟩
  refine cat_seq (x := .lv [.bl false, .bl false, .bl false, .bl true, .bl false, .bl false, .bl false, .bl false, .bl false, .bl false, .bl false, .bl false]) (y := .lv [.bl false, .bl false, .bl false]) rfl rfl (by decide) ?_
  refine isx (x := "NoClass") (y := "Over") (b := false) (by decide +kernel) ?_
  refine isx (x := "NoClass") (y := "Nothing") (b := false) (by decide +kernel) ?_
  refine ⟨by show 2 ≤ 1000; decide, ?_⟩
  refine cat_seq (x := .lv [.bl false, .bl false, .bl false, .bl true, .bl false, .bl false, .bl false, .bl false, .bl false, .bl false, .bl false, .bl false, .bl false, .bl false, .bl false]) (y := .lv [.bl false, .bl false]) rfl rfl (by decide) ?_
  refine ⟨by show 12 ≤ 1000; decide, ?_⟩
  refine ⟨by show 5 ≤ 1000; decide, ?_⟩
  refine cat_seq (x := .lv [.str "number", .str "sale", .str "net", .str "class", .str "time", .str "left", .str "single", .str "plan", .str "run", .str "limit", .str "show", .str "amends"]) (y := .lv [.str "prices", .str "line", .str "text", .str "over", .str "nothing"]) rfl rfl (by decide) ?_
  refine ⟨trivial, ?_⟩
  refine countB (bs := [false, false, false, true, false, false, false, false, false, false, false, false, false, false, false, false, false]) (b := true) ?_
  refine isxT (x := "NoClass") (n := "ValueError") (b := true) (by decide +kernel) ?_
  refine ⟨trivial, ?_⟩
  refine indexB (bs := [false, false, false, true, false, false, false, false, false, false, false, false, false, false, false, false, false]) (b := true) (j := 3) (by decide) ?_
  refine isx (x := "NoClass") (y := "NoThing") (b := true) (by decide +kernel) ?_
  refine isx (x := "NoClass") (y := "NotNow") (b := false) (by decide +kernel) ⟨by show 2 ≤ 1000; decide, by show 2 ≤ 1000; decide, ?_⟩
  refine ⟨_, _, rfl, rfl, rfl, rfl, ?_⟩
  refine ixv (x := .lv [.str "number", .str "sale", .str "net", .str "class", .str "time", .str "left", .str "single", .str "plan", .str "run", .str "limit", .str "show", .str "amends", .str "prices", .str "line", .str "text", .str "over", .str "nothing"]) (xs := [.str "number", .str "sale", .str "net", .str "class", .str "time", .str "left", .str "single", .str "plan", .str "run", .str "limit", .str "show", .str "amends", .str "prices", .str "line", .str "text", .str "over", .str "nothing"]) (a := 3) rfl (by decide) (by decide) fun d hd => ?_
  cases hd
  exact q
theorem word_NoTime {E : XD} {S : Sto} {Q : KD} (q : Q (.str "time") S) : w_law_word E (en Q) (startD N_law_word [.ex "NoTime"]) S := by
  refine isx (x := "NoTime") (y := "NoNumber") (b := false) (by decide +kernel) ?_
  refine isx (x := "NoTime") (y := "NoSale") (b := false) (by decide +kernel) ?_
  refine isx (x := "NoTime") (y := "NoNet") (b := false) (by decide +kernel) ?_
  refine isx (x := "NoTime") (y := "NoClass") (b := false) (by decide +kernel) ?_
  refine ⟨by show 4 ≤ 1000; decide, ?_⟩
  refine isx (x := "NoTime") (y := "NoTime") (b := true) (by decide +kernel) ?_
  refine isx (x := "NoTime") (y := "NoLeft") (b := false) (by decide +kernel) ?_
  refine isx (x := "NoTime") (y := "NoSingle") (b := false) (by decide +kernel) ?_
  refine isx (x := "NoTime") (y := "NoPlan") (b := false) (by decide +kernel) ?_
  refine ⟨by show 4 ≤ 1000; decide, ?_⟩
  refine cat_seq (x := .lv [.bl false, .bl false, .bl false, .bl false]) (y := .lv [.bl true, .bl false, .bl false, .bl false]) rfl rfl (by decide) ?_
  refine isx (x := "NoTime") (y := "NoRun") (b := false) (by decide +kernel) ?_
  refine isx (x := "NoTime") (y := "NoLimit") (b := false) (by decide +kernel) ?_
  refine isx (x := "NoTime") (y := "NoShow") (b := false) (by decide +kernel) ?_
  refine isx (x := "NoTime") (y := "NoAmends") (b := false) (by decide +kernel) ?_
  refine ⟨by show 4 ≤ 1000; decide, ?_⟩
  refine cat_seq (x := .lv [.bl false, .bl false, .bl false, .bl false, .bl true, .bl false, .bl false, .bl false]) (y := .lv [.bl false, .bl false, .bl false, .bl false]) rfl rfl (by decide) ?_
  refine isx (x := "NoTime") (y := "NoPrices") (b := false) (by decide +kernel) ?_
  refine isx (x := "NoTime") (y := "NoLine") (b := false) (by decide +kernel) ?_
  refine isx (x := "NoTime") (y := "NoText") (b := false) (by decide +kernel) ?_
  refine ⟨by show 3 ≤ 1000; decide, ?_⟩
  refine cat_seq (x := .lv [.bl false, .bl false, .bl false, .bl false, .bl true, .bl false, .bl false, .bl false, .bl false, .bl false, .bl false, .bl false]) (y := .lv [.bl false, .bl false, .bl false]) rfl rfl (by decide) ?_
  refine isx (x := "NoTime") (y := "Over") (b := false) (by decide +kernel) ?_
  refine isx (x := "NoTime") (y := "Nothing") (b := false) (by decide +kernel) ?_
  refine ⟨by show 2 ≤ 1000; decide, ?_⟩
  refine cat_seq (x := .lv [.bl false, .bl false, .bl false, .bl false, .bl true, .bl false, .bl false, .bl false, .bl false, .bl false, .bl false, .bl false, .bl false, .bl false, .bl false]) (y := .lv [.bl false, .bl false]) rfl rfl (by decide) ?_
  refine ⟨by show 12 ≤ 1000; decide, ?_⟩
  refine ⟨by show 5 ≤ 1000; decide, ?_⟩
  refine cat_seq (x := .lv [.str "number", .str "sale", .str "net", .str "class", .str "time", .str "left", .str "single", .str "plan", .str "run", .str "limit", .str "show", .str "amends"]) (y := .lv [.str "prices", .str "line", .str "text", .str "over", .str "nothing"]) rfl rfl (by decide) ?_
  refine ⟨trivial, ?_⟩
  refine countB (bs := [false, false, false, false, true, false, false, false, false, false, false, false, false, false, false, false, false]) (b := true) ?_
  refine isxT (x := "NoTime") (n := "ValueError") (b := true) (by decide +kernel) ?_
  refine ⟨trivial, ?_⟩
  refine indexB (bs := [false, false, false, false, true, false, false, false, false, false, false, false, false, false, false, false, false]) (b := true) (j := 4) (by decide) ?_
  refine isx (x := "NoTime") (y := "NoThing") (b := true) (by decide +kernel) ?_
  refine isx (x := "NoTime") (y := "NotNow") (b := false) (by decide +kernel) ⟨by show 2 ≤ 1000; decide, by show 2 ≤ 1000; decide, ?_⟩
  refine ⟨_, _, rfl, rfl, rfl, rfl, ?_⟩
  refine ixv (x := .lv [.str "number", .str "sale", .str "net", .str "class", .str "time", .str "left", .str "single", .str "plan", .str "run", .str "limit", .str "show", .str "amends", .str "prices", .str "line", .str "text", .str "over", .str "nothing"]) (xs := [.str "number", .str "sale", .str "net", .str "class", .str "time", .str "left", .str "single", .str "plan", .str "run", .str "limit", .str "show", .str "amends", .str "prices", .str "line", .str "text", .str "over", .str "nothing"]) (a := 4) rfl (by decide) (by decide) fun d hd => ?_
  cases hd
  exact q
theorem word_NoLeft {E : XD} {S : Sto} {Q : KD} (q : Q (.str "left") S) : w_law_word E (en Q) (startD N_law_word [.ex "NoLeft"]) S := by
  refine isx (x := "NoLeft") (y := "NoNumber") (b := false) (by decide +kernel) ?_
  refine isx (x := "NoLeft") (y := "NoSale") (b := false) (by decide +kernel) ?_
  refine isx (x := "NoLeft") (y := "NoNet") (b := false) (by decide +kernel) ?_
  refine isx (x := "NoLeft") (y := "NoClass") (b := false) (by decide +kernel) ?_
  refine ⟨by show 4 ≤ 1000; decide, ?_⟩
  refine isx (x := "NoLeft") (y := "NoTime") (b := false) (by decide +kernel) ?_
  refine isx (x := "NoLeft") (y := "NoLeft") (b := true) (by decide +kernel) ?_
  refine isx (x := "NoLeft") (y := "NoSingle") (b := false) (by decide +kernel) ?_
  refine isx (x := "NoLeft") (y := "NoPlan") (b := false) (by decide +kernel) ?_
  refine ⟨by show 4 ≤ 1000; decide, ?_⟩
  refine cat_seq (x := .lv [.bl false, .bl false, .bl false, .bl false]) (y := .lv [.bl false, .bl true, .bl false, .bl false]) rfl rfl (by decide) ?_
  refine isx (x := "NoLeft") (y := "NoRun") (b := false) (by decide +kernel) ?_
  refine isx (x := "NoLeft") (y := "NoLimit") (b := false) (by decide +kernel) ?_
  refine isx (x := "NoLeft") (y := "NoShow") (b := false) (by decide +kernel) ?_
  refine isx (x := "NoLeft") (y := "NoAmends") (b := false) (by decide +kernel) ?_
  refine ⟨by show 4 ≤ 1000; decide, ?_⟩
  refine cat_seq (x := .lv [.bl false, .bl false, .bl false, .bl false, .bl false, .bl true, .bl false, .bl false]) (y := .lv [.bl false, .bl false, .bl false, .bl false]) rfl rfl (by decide) ?_
  refine isx (x := "NoLeft") (y := "NoPrices") (b := false) (by decide +kernel) ?_
  refine isx (x := "NoLeft") (y := "NoLine") (b := false) (by decide +kernel) ?_
  refine isx (x := "NoLeft") (y := "NoText") (b := false) (by decide +kernel) ?_
  refine ⟨by show 3 ≤ 1000; decide, ?_⟩
  refine cat_seq (x := .lv [.bl false, .bl false, .bl false, .bl false, .bl false, .bl true, .bl false, .bl false, .bl false, .bl false, .bl false, .bl false]) (y := .lv [.bl false, .bl false, .bl false]) rfl rfl (by decide) ?_
  refine isx (x := "NoLeft") (y := "Over") (b := false) (by decide +kernel) ?_
  refine isx (x := "NoLeft") (y := "Nothing") (b := false) (by decide +kernel) ?_
  refine ⟨by show 2 ≤ 1000; decide, ?_⟩
  refine cat_seq (x := .lv [.bl false, .bl false, .bl false, .bl false, .bl false, .bl true, .bl false, .bl false, .bl false, .bl false, .bl false, .bl false, .bl false, .bl false, .bl false]) (y := .lv [.bl false, .bl false]) rfl rfl (by decide) ?_
  refine ⟨by show 12 ≤ 1000; decide, ?_⟩
  refine ⟨by show 5 ≤ 1000; decide, ?_⟩
  refine cat_seq (x := .lv [.str "number", .str "sale", .str "net", .str "class", .str "time", .str "left", .str "single", .str "plan", .str "run", .str "limit", .str "show", .str "amends"]) (y := .lv [.str "prices", .str "line", .str "text", .str "over", .str "nothing"]) rfl rfl (by decide) ?_
  refine ⟨trivial, ?_⟩
  refine countB (bs := [false, false, false, false, false, true, false, false, false, false, false, false, false, false, false, false, false]) (b := true) ?_
  refine isxT (x := "NoLeft") (n := "ValueError") (b := true) (by decide +kernel) ?_
  refine ⟨trivial, ?_⟩
  refine indexB (bs := [false, false, false, false, false, true, false, false, false, false, false, false, false, false, false, false, false]) (b := true) (j := 5) (by decide) ?_
  refine isx (x := "NoLeft") (y := "NoThing") (b := true) (by decide +kernel) ?_
  refine isx (x := "NoLeft") (y := "NotNow") (b := false) (by decide +kernel) ⟨by show 2 ≤ 1000; decide, by show 2 ≤ 1000; decide, ?_⟩
  refine ⟨_, _, rfl, rfl, rfl, rfl, ?_⟩
  refine ixv (x := .lv [.str "number", .str "sale", .str "net", .str "class", .str "time", .str "left", .str "single", .str "plan", .str "run", .str "limit", .str "show", .str "amends", .str "prices", .str "line", .str "text", .str "over", .str "nothing"]) (xs := [.str "number", .str "sale", .str "net", .str "class", .str "time", .str "left", .str "single", .str "plan", .str "run", .str "limit", .str "show", .str "amends", .str "prices", .str "line", .str "text", .str "over", .str "nothing"]) (a := 5) rfl (by decide) (by decide) fun d hd => ?_
  cases hd
  exact q
theorem word_NoSingle {E : XD} {S : Sto} {Q : KD} (q : Q (.str "single") S) : w_law_word E (en Q) (startD N_law_word [.ex "NoSingle"]) S := by
  refine isx (x := "NoSingle") (y := "NoNumber") (b := false) (by decide +kernel) ?_
  refine isx (x := "NoSingle") (y := "NoSale") (b := false) (by decide +kernel) ?_
  refine isx (x := "NoSingle") (y := "NoNet") (b := false) (by decide +kernel) ?_
  refine isx (x := "NoSingle") (y := "NoClass") (b := false) (by decide +kernel) ?_
  refine ⟨by show 4 ≤ 1000; decide, ?_⟩
  refine isx (x := "NoSingle") (y := "NoTime") (b := false) (by decide +kernel) ?_
  refine isx (x := "NoSingle") (y := "NoLeft") (b := false) (by decide +kernel) ?_
  refine isx (x := "NoSingle") (y := "NoSingle") (b := true) (by decide +kernel) ?_
  refine isx (x := "NoSingle") (y := "NoPlan") (b := false) (by decide +kernel) ?_
  refine ⟨by show 4 ≤ 1000; decide, ?_⟩
  refine cat_seq (x := .lv [.bl false, .bl false, .bl false, .bl false]) (y := .lv [.bl false, .bl false, .bl true, .bl false]) rfl rfl (by decide) ?_
  refine isx (x := "NoSingle") (y := "NoRun") (b := false) (by decide +kernel) ?_
  refine isx (x := "NoSingle") (y := "NoLimit") (b := false) (by decide +kernel) ?_
  refine isx (x := "NoSingle") (y := "NoShow") (b := false) (by decide +kernel) ?_
  refine isx (x := "NoSingle") (y := "NoAmends") (b := false) (by decide +kernel) ?_
  refine ⟨by show 4 ≤ 1000; decide, ?_⟩
  refine cat_seq (x := .lv [.bl false, .bl false, .bl false, .bl false, .bl false, .bl false, .bl true, .bl false]) (y := .lv [.bl false, .bl false, .bl false, .bl false]) rfl rfl (by decide) ?_
  refine isx (x := "NoSingle") (y := "NoPrices") (b := false) (by decide +kernel) ?_
  refine isx (x := "NoSingle") (y := "NoLine") (b := false) (by decide +kernel) ?_
  refine isx (x := "NoSingle") (y := "NoText") (b := false) (by decide +kernel) ?_
  refine ⟨by show 3 ≤ 1000; decide, ?_⟩
  refine cat_seq (x := .lv [.bl false, .bl false, .bl false, .bl false, .bl false, .bl false, .bl true, .bl false, .bl false, .bl false, .bl false, .bl false]) (y := .lv [.bl false, .bl false, .bl false]) rfl rfl (by decide) ?_
  refine isx (x := "NoSingle") (y := "Over") (b := false) (by decide +kernel) ?_
  refine isx (x := "NoSingle") (y := "Nothing") (b := false) (by decide +kernel) ?_
  refine ⟨by show 2 ≤ 1000; decide, ?_⟩
  refine cat_seq (x := .lv [.bl false, .bl false, .bl false, .bl false, .bl false, .bl false, .bl true, .bl false, .bl false, .bl false, .bl false, .bl false, .bl false, .bl false, .bl false]) (y := .lv [.bl false, .bl false]) rfl rfl (by decide) ?_
  refine ⟨by show 12 ≤ 1000; decide, ?_⟩
  refine ⟨by show 5 ≤ 1000; decide, ?_⟩
  refine cat_seq (x := .lv [.str "number", .str "sale", .str "net", .str "class", .str "time", .str "left", .str "single", .str "plan", .str "run", .str "limit", .str "show", .str "amends"]) (y := .lv [.str "prices", .str "line", .str "text", .str "over", .str "nothing"]) rfl rfl (by decide) ?_
  refine ⟨trivial, ?_⟩
  refine countB (bs := [false, false, false, false, false, false, true, false, false, false, false, false, false, false, false, false, false]) (b := true) ?_
  refine isxT (x := "NoSingle") (n := "ValueError") (b := true) (by decide +kernel) ?_
  refine ⟨trivial, ?_⟩
  refine indexB (bs := [false, false, false, false, false, false, true, false, false, false, false, false, false, false, false, false, false]) (b := true) (j := 6) (by decide) ?_
  refine isx (x := "NoSingle") (y := "NoThing") (b := true) (by decide +kernel) ?_
  refine isx (x := "NoSingle") (y := "NotNow") (b := false) (by decide +kernel) ⟨by show 2 ≤ 1000; decide, by show 2 ≤ 1000; decide, ?_⟩
  refine ⟨_, _, rfl, rfl, rfl, rfl, ?_⟩
  refine ixv (x := .lv [.str "number", .str "sale", .str "net", .str "class", .str "time", .str "left", .str "single", .str "plan", .str "run", .str "limit", .str "show", .str "amends", .str "prices", .str "line", .str "text", .str "over", .str "nothing"]) (xs := [.str "number", .str "sale", .str "net", .str "class", .str "time", .str "left", .str "single", .str "plan", .str "run", .str "limit", .str "show", .str "amends", .str "prices", .str "line", .str "text", .str "over", .str "nothing"]) (a := 6) rfl (by decide) (by decide) fun d hd => ?_
  cases hd
  exact q
theorem ok_law_word (ds : List D) (E : XD) (S : Sto) (Q : KD) (h : gWordS wd ds E S Q) : w_law_word E (en Q) (startD N_law_word ds) S := by
  obtain ⟨x, wx, rfl, hx, q⟩ := h
  unfold wd at hx
  split at hx
  · rename_i e; subst e; cases hx; exact word_NoSale q
  split at hx
  · rename_i e; subst e; cases hx; exact word_NoClass q
  split at hx
  · rename_i e; subst e; cases hx; exact word_NoTime q
  split at hx
  · rename_i e; subst e; cases hx; exact word_NoLeft q
  split at hx
  · rename_i e; subst e; cases hx; exact word_NoSingle q
  cases hx
end K33

namespace K33
open FM PySem PySem.Spec PyProof.Rows L2 DD
theorem rng_mem {lo : Int} {n : Nat} {d : D} (h : d ∈ rngD lo n) : ∃ i : Int, d = .int i ∧ lo ≤ i ∧ i < lo + n := by
  unfold rngD at h
  obtain ⟨i, hi, rfl⟩ := List.mem_map.mp h
  have := List.mem_range.mp hi
  exact ⟨lo + (i : Int), rfl, by omega, by omega⟩
theorem Sale.ok' {far long n t c : Int} {cl : Cls} (h : Sale far long 4 n t c cl) : SaleOk c cl := ⟨h.hc, h.o, h.s⟩
theorem strok {w : Str} (h : w ∈ (["sale", "class", "time", "left", "single", "told"] : List Str)) : Sp 1 0 (.str w) := by
  rcases List.mem_cons.mp h with rfl | h
  · exact Sp.str (by decide +kernel)
  rcases List.mem_cons.mp h with rfl | h
  · exact Sp.str (by decide +kernel)
  rcases List.mem_cons.mp h with rfl | h
  · exact Sp.str (by decide +kernel)
  rcases List.mem_cons.mp h with rfl | h
  · exact Sp.str (by decide +kernel)
  rcases List.mem_cons.mp h with rfl | h
  · exact Sp.str (by decide +kernel)
  · rw [List.mem_singleton.mp h]; exact Sp.str (by decide +kernel)
theorem eqW {ng : Bool} {xs : List Str} {S : Sto} {Q : KD} (h : ∀ w ∈ xs, w ∈ (["sale", "class", "time", "left", "single", "told"] : List Str)) (q : Q (.bl (!ng)) S) : dEq ng (.lv (xs.map D.str)) (.lv (xs.map D.str)) S Q :=
  eq_same (Sps.of (m := 1) (e := 0) (ds := xs.map D.str) fun d hd => by
    obtain ⟨w, hw, rfl⟩ := List.mem_map.mp hd
    exact strok (h w hw)).lv (by decide) (by decide) q
theorem eqSC {x : Str} {E : XD} {r : Rho} {S : Sto} {Q : KD} (q : Q (.bl false) S) : wC (.str x) E r S fun y S2 => dEqS true (.str x) y S2 Q := by
  show Q (.bl (true ^^ decide (x = x))) S
  rw [decide_eq_true rfl]
  exact q
section
variable {Pt : Addr} {ns : List Int} {i n t c : Int} {k : Nat} {cl : Cls} {o4 o5 o10 o11 : Option D} {E : XD} {D1 : EndD} {S : Sto} {d : D}
abbrev lw12 (ns : List Int) (i : Int) (k : Nat) (n t c : Int) (cl : Cls) (o4 o5 o10 o11 : Option D) : Rho := [some (.sv (ns.map D.int)), some (.int i), some (.lst k), some (dSale n t c cl), o4, o5, some (.int n), some (.int t), some (.int c), some (.tup (clD cl)), o10, o11]
theorem Thg.sale (hs : Sale 12 12 4 n t c cl) : Thg (dSale n t c cl) := let z := (SP.of hs).sale; ⟨z.p, z.y.mono (by decide) (by decide) (by decide)⟩
theorem BadS.thg (h : BadS d) : Thg d := ⟨h.p, h.y⟩
theorem thg_int {i : Int} (h : i.natAbs ≤ 10 ^ 60) : Thg (.int i) := (bad_int h).thg
theorem thg_non : Thg .non := (bad_lit (d := .non) (q := .none) (by decide +kernel) rfl (fun _ _ => rfl) (by decide +kernel)).thg
theorem big_sale : Sale 12 12 4 1 1 4 [(5, 1, 1), (5, 1, 2)] := ⟨by decide, by decide, by decide, by decide, fun p hp => by
  rcases List.mem_cons.mp hp with rfl | hp
  · decide
  · rw [List.mem_singleton.mp hp]; decide, by decide⟩
theorem law21 (hT : (Pt, ("_law_words.<locals>.<lambda>" : Str)) ∈ E.tb) (hn : ∀ S' o4 o5 o10 o11, D1.nx (lw12 ns i k n t c cl o4 o5 o10 o11) S') : t_law_21 Pt E D1 (lw12 ns i k n t c cl o4 (some (dSale 1 1 4 [(5, 1, 1), (5, 1, 2)])) o10 o11) S := by
  rw [t_law_21_eq]
  refine ⟨_, _, _, _, "told", "single", "told", rfl, hT, Thg.sale big_sale, thg_int (by decide), thg_int (by decide), thg_int (by decide), .inr ⟨1, 1, 4, _, rfl, big_sale, by decide +kernel, by decide +kernel, by decide +kernel⟩, fun S1 g1 => ?_⟩
  refine ⟨by show 3 ≤ 1000; decide, ?_⟩
  refine eqW (xs := ["told", "single", "told"]) (by decide +kernel) ?_
  refine iteF ?_
  refine ⟨_, _, _, _, "class", "class", "told", rfl, hT, Thg.sale big_sale, thg_int (by decide), thg_int (by decide), thg_int (by decide), .inr ⟨1, 1, 4, _, rfl, big_sale, by decide +kernel, by decide +kernel, by decide +kernel⟩, fun S1 g1 => ?_⟩
  refine ixv (x := .lv [.str "class", .str "class", .str "told"]) (xs := [.str "class", .str "class", .str "told"]) (a := 1) rfl (by decide) (by show (1 : Int) < 3; decide) fun d hd => ?_
  cases hd
  refine eqSC ?_
  refine iteF ?_
  exact hn _ _ _ _ _
theorem num_in {i lo hi : Int} (h : lo ≤ i ∧ i ≤ hi) : numB (.int i) lo hi = true := by
  show (decide (lo ≤ i) && decide (i ≤ hi)) = true
  rw [decide_eq_true h.1, decide_eq_true h.2]; rfl
theorem num_out {i lo hi : Int} (h : ¬ (lo ≤ i ∧ i ≤ hi)) : numB (.int i) lo hi = false := by
  show (decide (lo ≤ i) && decide (i ≤ hi)) = false
  by_cases h1 : lo ≤ i
  · rw [decide_eq_false (p := i ≤ hi) fun h2 => h ⟨h1, h2⟩, Bool.and_false]
  · rw [decide_eq_false h1, Bool.false_and]
theorem lit_thg {d : D} {q : PyData} (hp : plainD d = true) (h : ∀ S n, pydX S (n + 6) d = some q) (hb : okBe 200 5 q = true) : Thg d := ⟨hp, Sy_of h hb⟩
theorem cls0 (hs : Sale 12 12 4 n t c cl) : numB (.int 0) 0 ((cl.length : Int) - 1) = true := num_in ⟨by decide, by have := hs.l.1; omega⟩

structure NoB (lo hi : Int) (d : D) : Prop where
  t : Thg d
  n : numB d lo hi = false
theorem noB_lit {lo hi : Int} {d : D} {q : PyData} (hp : plainD d = true) (hn : numB d lo hi = false) (h : ∀ S n, pydX S (n + 6) d = some q) (hb : okBe 200 5 q = true) : NoB lo hi d := ⟨lit_thg hp h hb, hn⟩
theorem noB_int {lo hi i : Int} (h : i.natAbs ≤ 10 ^ 60) (hn : ¬ (lo ≤ i ∧ i ≤ hi)) : NoB lo hi (.int i) := ⟨thg_int h, num_out hn⟩
abbrev AgN (D1 : EndD) (ns : List Int) (i : Int) (k : Nat) (n t c : Int) (cl : Cls) : Prop := ∀ S' o4 o5 o10 o11, D1.nx (lw12 ns i k n t c cl o4 o5 o10 o11) S'
theorem law17b (hT : (Pt, ("_law_words.<locals>.<lambda>" : Str)) ∈ E.tb) (hs : Sale 12 12 4 n t c cl) (hd' : NoB 1 n d) (hn : AgN D1 ns i k n t c cl) : b_law_17 Pt E D1 (lw12 ns i k n t c cl (some d) o5 o10 o11) S := by
  rw [b_law_17_eq]
  have ht := hs.ht
  have c0 := cls0 hs
  have w1 : sW n t (.int t) d = "left" := by unfold sW; rw [num_in ⟨ht.1, Int.le_refl _⟩, hd'.n]; rfl
  have w2 : sW n t (.int 0) d = "left" := by unfold sW; rw [num_in ⟨by decide, ht.1⟩, hd'.n]; rfl
  refine ⟨_, _, _, _, _, _, _, rfl, hT, Thg.sale hs, thg_int (by decide), thg_int (i := t) (by omega), hd'.t, .inr ⟨n, t, c, cl, rfl, hs, rfl, rfl, rfl⟩, fun S1 g1 => ?_⟩
  rw [w1]
  refine ixv (x := .lv [.str (oW cl t (.int 0) (.int t)), .str (mW cl t (.int 0) (.int t)), .str "left"]) (xs := [.str (oW cl t (.int 0) (.int t)), .str (mW cl t (.int 0) (.int t)), .str "left"]) (a := 2) rfl (by decide) (by show (2 : Int) < 3; decide) fun d hd => ?_
  cases hd
  refine eqSC ?_
  refine iteF ?_
  refine ⟨_, _, _, _, _, _, _, rfl, hT, Thg.sale hs, thg_int (by decide), thg_int (by decide), hd'.t, .inr ⟨n, t, c, cl, rfl, hs, rfl, rfl, rfl⟩, fun S2 g2 => ?_⟩
  rw [w2]
  refine ixv (x := .lv [.str (oW cl t (.int 0) (.int 0)), .str (mW cl t (.int 0) (.int 0)), .str "left"]) (xs := [.str (oW cl t (.int 0) (.int 0)), .str (mW cl t (.int 0) (.int 0)), .str "left"]) (a := 2) rfl (by decide) (by show (2 : Int) < 3; decide) fun d hd => ?_
  cases hd
  refine eqSC ?_
  refine iteF ?_
  exact hn _ _ _ _ _
theorem law12b (hT : (Pt, ("_law_words.<locals>.<lambda>" : Str)) ∈ E.tb) (hs : Sale 12 12 4 n t c cl) (hd' : NoB 0 t d) (hn : AgN D1 ns i k n t c cl) : b_law_12 Pt E D1 (lw12 ns i k n t c cl (some d) o5 o10 o11) S := by
  rw [b_law_12_eq]
  have c0 := cls0 hs
  have h1 : numB d 1 t = false := by
    cases h : numB d 1 t with
    | false => rfl
    | true =>
      obtain ⟨j, rfl, j1, j2⟩ := numB_int h
      have z := hd'.n
      rw [num_in ⟨by omega, j2⟩] at z; cases z
  have w1 : oW cl t (.int 0) d = "time" := by unfold oW; rw [c0, h1]; rfl
  have w2 : mW cl t (.int 0) d = "time" := by unfold mW; rw [c0, h1]; rfl
  have w3 : ∀ l, sW n t d l = "time" := fun l => by unfold sW; rw [hd'.n]; rfl
  refine ⟨_, _, _, _, _, _, _, rfl, hT, Thg.sale hs, thg_int (by decide), hd'.t, thg_non, .inr ⟨n, t, c, cl, rfl, hs, rfl, rfl, rfl⟩, fun S1 g1 => ?_⟩
  rw [w1, w2, w3]
  refine ⟨by show 1 ≤ 1000; decide, ⟨by decide, by decide, by show 1 * 3 ≤ 1000; decide⟩, iteF ?_⟩
  refine eqW (xs := ["time", "time", "time"]) (by decide +kernel) ?_
  refine iteF ?_
  refine ⟨_, _, _, _, _, _, _, rfl, hT, Thg.sale hs, thg_int (by decide), hd'.t, thg_int (by decide), .inr ⟨n, t, c, cl, rfl, hs, rfl, rfl, rfl⟩, fun S2 g2 => ?_⟩
  rw [w1, w2, w3]
  refine ⟨by show 1 ≤ 1000; decide, ⟨by decide, by decide, by show 1 * 3 ≤ 1000; decide⟩, iteF ?_⟩
  refine eqW (xs := ["time", "time", "time"]) (by decide +kernel) ?_
  refine iteF ?_
  exact hn _ _ _ _ _
theorem law9b (hT : (Pt, ("_law_words.<locals>.<lambda>" : Str)) ∈ E.tb) (hs : Sale 12 12 4 n t c cl) (hd' : NoB 0 ((cl.length : Int) - 1) d) {x y : D} (hx : Thg x) (hy : Thg y) (hn : ∀ S', D1.nx (lw12 ns i k n t c cl (some d) o5 (some x) (some y)) S') : b_law_9 Pt E D1 (lw12 ns i k n t c cl (some d) o5 (some x) (some y)) S := by
  rw [b_law_9_eq]
  have w1 : oW cl t d x = "class" := by unfold oW; rw [hd'.n]; rfl
  have w2 : mW cl t d x = "class" := by unfold mW; rw [hd'.n]; rfl
  refine ⟨_, _, _, _, _, _, _, rfl, hT, Thg.sale hs, hd'.t, hx, hy, .inr ⟨n, t, c, cl, rfl, hs, rfl, rfl, rfl⟩, fun S1 g1 => ?_⟩
  rw [w1, w2]
  refine slw_lv (ds := [.str "class", .str "class", .str (sW n t x y)]) ?_
  rw [show DD.cutD [D.str "class", .str "class", .str (sW n t x y)] none (some 2) = [.str "class", .str "class"] from cutTk (ds := [.str "class", .str "class", .str (sW n t x y)]) (k := 2) (by show 2 ≤ 3; decide)]
  refine ⟨by show 1 ≤ 1000; decide, ⟨by decide, by decide, by show 1 * 2 ≤ 1000; decide⟩, iteF ?_⟩
  refine eqW (xs := ["class", "class"]) (by decide +kernel) ?_
  refine iteF ?_
  exact hn _
theorem law5b (hT : (Pt, ("_law_words.<locals>.<lambda>" : Str)) ∈ E.tb) (hd' : BadS d) (hn : AgN D1 ns i k n t c cl) : b_law_5 Pt E D1 (lw12 ns i k n t c cl (some d) o5 o10 o11) S := by
  rw [b_law_5_eq]
  refine ⟨_, _, _, _, "sale", "sale", "sale", rfl, hT, hd'.thg, thg_int (by decide), thg_int (by decide), thg_int (by decide), .inl ⟨hd'.n, rfl, rfl, rfl⟩, fun S1 g1 => ?_⟩
  refine ⟨by show 1 ≤ 1000; decide, ⟨by decide, by decide, by show 1 * 3 ≤ 1000; decide⟩, iteF ?_⟩
  refine eqW (xs := ["sale", "sale", "sale"]) (by decide +kernel) ?_
  refine iteF ?_
  refine ⟨_, _, _, _, "sale", "sale", "sale", rfl, hT, hd'.thg, thg_non, thg_non, thg_non, .inl ⟨hd'.n, rfl, rfl, rfl⟩, fun S2 g2 => ?_⟩
  refine ⟨by show 1 ≤ 1000; decide, ⟨by decide, by decide, by show 1 * 3 ≤ 1000; decide⟩, iteF ?_⟩
  refine eqW (xs := ["sale", "sale", "sale"]) (by decide +kernel) ?_
  refine iteF ?_
  exact hn _ _ _ _ _
theorem law20 (hT : (Pt, ("_law_words.<locals>.<lambda>" : Str)) ∈ E.tb) (hn : AgN D1 ns i k n t c cl) : t_law_20 Pt E D1 (lw12 ns i k n t c cl o4 o5 o10 o11) S := by
  rw [t_law_20_eq]
  refine ⟨by show 3 ≤ 1000; decide, by show 3 ≤ 1000; decide, by show 2 ≤ 1000; decide, by show 4 ≤ 1000; decide, ?_⟩
  exact law21 (o4 := o4) (o10 := o10) (o11 := o11) hT hn
theorem law17 (hT : (Pt, ("_law_words.<locals>.<lambda>" : Str)) ∈ E.tb) (hs : Sale 12 12 4 n t c cl) (hn : AgN D1 ns i k n t c cl) : t_law_17 Pt E D1 (lw12 ns i k n t c cl o4 o5 o10 o11) S := by
  rw [t_law_17_eq]
  have hn' := hs.hn
  refine qY_at (.lv [.int 0, .int (-1), .int (n + 1), .bl true, .non, .str "1", .tup [.int 1], .lv [.int 1], .dc [], .int (10 ^ 29)]) S (fun K kk => ⟨by show 1 ≤ 1000; decide, by show 1 ≤ 1000; decide, ⟨by decide, by decide, by decide⟩, by show 10 ≤ 1000; decide, kk⟩) rfl ?_
  refine loop_i (fun ds ρ S' => (∀ d ∈ ds, NoB 1 n d) ∧ ∃ o4 o5 o10 o11, ρ = lw12 ns i k n t c cl o4 o5 o10 o11) (fun _ _ _ _ => trivial) ?_ ?_ _ _ _ ⟨?_, o4, o5, o10, o11, rfl⟩
  · rintro ρ S' ⟨_, o4, o5, o10, o11, rfl⟩
    exact law20 hT hn
  · rintro d ds ρ S' ⟨hd, o4, o5, o10, o11, rfl⟩ D2 e2 hn2 _ _
    exact law17b (o5 := o5) (o10 := o10) (o11 := o11) hT hs (hd d List.mem_cons_self) fun S3 o4 o5 o10 o11 => hn2 _ _ ⟨fun x hx => hd x (List.mem_cons_of_mem _ hx), o4, o5, o10, o11, rfl⟩
  · refine List.forall_mem_cons.mpr ⟨noB_int (by decide) (by omega), ?_⟩
    refine List.forall_mem_cons.mpr ⟨noB_int (by decide) (by omega), ?_⟩
    refine List.forall_mem_cons.mpr ⟨noB_int (by omega) (by omega), ?_⟩
    refine List.forall_mem_cons.mpr ⟨noB_lit (by decide +kernel) rfl (fun _ _ => rfl) (by decide +kernel), ?_⟩
    refine List.forall_mem_cons.mpr ⟨noB_lit (by decide +kernel) rfl (fun _ _ => rfl) (by decide +kernel), ?_⟩
    refine List.forall_mem_cons.mpr ⟨noB_lit (by decide +kernel) rfl (fun _ _ => rfl) (by decide +kernel), ?_⟩
    refine List.forall_mem_cons.mpr ⟨noB_lit (by decide +kernel) rfl (fun _ _ => rfl) (by decide +kernel), ?_⟩
    refine List.forall_mem_cons.mpr ⟨noB_lit (by decide +kernel) rfl (fun _ _ => rfl) (by decide +kernel), ?_⟩
    refine List.forall_mem_cons.mpr ⟨noB_lit (by decide +kernel) rfl (fun _ _ => rfl) (by decide +kernel), ?_⟩
    refine List.forall_mem_cons.mpr ⟨noB_int (by decide) (fun z => by have z2 : (10 : Int) ^ 29 ≤ n := z.2; omega), ?_⟩
    exact fun _ z => nomatch z
theorem law15 (hT : (Pt, ("_law_words.<locals>.<lambda>" : Str)) ∈ E.tb) (hs : Sale 12 12 4 n t c cl) (hn : AgN D1 ns i k n t c cl) : t_law_15 Pt E D1 (lw12 ns i k n t c cl o4 o5 o10 o11) S := by
  rw [t_law_15_eq]
  have c0 := cls0 hs
  have ht := hs.ht
  have w1 : oW cl t (.int 0) (.int 0) = "time" := by unfold oW; rw [c0, num_out (by omega)]; rfl
  have w2 : mW cl t (.int 0) (.int 0) = "time" := by unfold mW; rw [c0, num_out (by omega)]; rfl
  have w3 : sW n t (.int 0) .non = "left" := by unfold sW; rw [num_in ⟨by decide, ht.1⟩]; rfl
  refine ⟨_, _, _, _, _, _, _, rfl, hT, Thg.sale hs, thg_int (by decide), thg_int (by decide), thg_non, .inr ⟨n, t, c, cl, rfl, hs, rfl, rfl, rfl⟩, fun S1 g1 => ?_⟩
  rw [w1, w2, w3]
  refine ⟨by show 3 ≤ 1000; decide, ?_⟩
  refine eqW (xs := ["time", "time", "left"]) (by decide +kernel) ?_
  refine iteF ?_
  exact law17 (o4 := o4) (o5 := o5) (o10 := o10) (o11 := o11) hT hs hn
theorem law12 (hT : (Pt, ("_law_words.<locals>.<lambda>" : Str)) ∈ E.tb) (hs : Sale 12 12 4 n t c cl) (hn : AgN D1 ns i k n t c cl) : t_law_12 Pt E D1 (lw12 ns i k n t c cl o4 o5 o10 o11) S := by
  rw [t_law_12_eq]
  have ht := hs.ht
  refine qY_at (.lv [.int (-1), .int (t + 1), .bl false, .non, .str "1", .tup [.int 1], .lv [.int 1], .dc [], .int (10 ^ 29)]) S (fun K kk => ⟨by show 1 ≤ 1000; decide, by show 1 ≤ 1000; decide, ⟨by decide, by decide, by decide⟩, by show 9 ≤ 1000; decide, kk⟩) rfl ?_
  refine loop_i (fun ds ρ S' => (∀ d ∈ ds, NoB 0 t d) ∧ ∃ o4 o5 o10 o11, ρ = lw12 ns i k n t c cl o4 o5 o10 o11) (fun _ _ _ _ => trivial) ?_ ?_ _ _ _ ⟨?_, o4, o5, o10, o11, rfl⟩
  · rintro ρ S' ⟨_, o4, o5, o10, o11, rfl⟩
    exact law15 (o4 := o4) (o5 := o5) (o10 := o10) (o11 := o11) hT hs hn
  · rintro d ds ρ S' ⟨hd, o4, o5, o10, o11, rfl⟩ D2 e2 hn2 _ _
    exact law12b (o5 := o5) (o10 := o10) (o11 := o11) hT hs (hd d List.mem_cons_self) fun S3 o4 o5 o10 o11 => hn2 _ _ ⟨fun x hx => hd x (List.mem_cons_of_mem _ hx), o4, o5, o10, o11, rfl⟩
  · refine List.forall_mem_cons.mpr ⟨noB_int (by decide) (by omega), ?_⟩
    refine List.forall_mem_cons.mpr ⟨noB_int (by omega) (by omega), ?_⟩
    refine List.forall_mem_cons.mpr ⟨noB_lit (by decide +kernel) rfl (fun _ _ => rfl) (by decide +kernel), ?_⟩
    refine List.forall_mem_cons.mpr ⟨noB_lit (by decide +kernel) rfl (fun _ _ => rfl) (by decide +kernel), ?_⟩
    refine List.forall_mem_cons.mpr ⟨noB_lit (by decide +kernel) rfl (fun _ _ => rfl) (by decide +kernel), ?_⟩
    refine List.forall_mem_cons.mpr ⟨noB_lit (by decide +kernel) rfl (fun _ _ => rfl) (by decide +kernel), ?_⟩
    refine List.forall_mem_cons.mpr ⟨noB_lit (by decide +kernel) rfl (fun _ _ => rfl) (by decide +kernel), ?_⟩
    refine List.forall_mem_cons.mpr ⟨noB_lit (by decide +kernel) rfl (fun _ _ => rfl) (by decide +kernel), ?_⟩
    refine List.forall_mem_cons.mpr ⟨noB_int (by decide) (fun z => by have z2 : (10 : Int) ^ 29 ≤ t := z.2; omega), ?_⟩
    exact fun _ z => nomatch z
theorem law8b (hT : (Pt, ("_law_words.<locals>.<lambda>" : Str)) ∈ E.tb) (hs : Sale 12 12 4 n t c cl) (hd' : NoB 0 ((cl.length : Int) - 1) d) (hn : AgN D1 ns i k n t c cl) : b_law_8 Pt E D1 (lw12 ns i k n t c cl (some d) o5 o10 o11) S := by
  rw [b_law_8_eq]
  refine qY_at (.lv [.tup [.int 0, .non], .tup [.non, .int 0], .tup [.int 1, .int 1]]) S (fun K kk => ⟨by show 2 ≤ 1000; decide, by show 2 ≤ 1000; decide, by show 2 ≤ 1000; decide, by show 3 ≤ 1000; decide, kk⟩) rfl ?_
  refine loop_i (fun ds ρ S' => (∀ e ∈ ds, ∃ x y, e = .tup [x, y] ∧ Thg x ∧ Thg y) ∧ ∃ o5 o10 o11, ρ = lw12 ns i k n t c cl (some d) o5 o10 o11) (fun _ _ _ _ => trivial) ?_ ?_ _ _ _ ⟨?_, o5, o10, o11, rfl⟩
  · rintro ρ S' ⟨_, o5, o10, o11, rfl⟩
    exact hn _ _ _ _ _
  · rintro e ds ρ S' ⟨hd, o5, o10, o11, rfl⟩ D2 e2 hn2 _ _
    obtain ⟨x, y, rfl, hx, hy⟩ := hd e List.mem_cons_self
    refine ⟨rfl, ?_⟩
    show b_law_9 Pt E D2 (lw12 ns i k n t c cl (some d) o5 (some x) (some y)) S'
    exact law9b hT hs hd' hx hy fun S3 => hn2 _ _ ⟨fun z hz => hd z (List.mem_cons_of_mem _ hz), o5, some x, some y, rfl⟩
  · refine List.forall_mem_cons.mpr ⟨⟨_, _, rfl, thg_int (by decide), thg_non⟩, ?_⟩
    refine List.forall_mem_cons.mpr ⟨⟨_, _, rfl, thg_non, thg_int (by decide)⟩, ?_⟩
    refine List.forall_mem_cons.mpr ⟨⟨_, _, rfl, thg_int (by decide), thg_int (by decide)⟩, ?_⟩
    exact fun _ z => nomatch z
theorem law8 (hT : (Pt, ("_law_words.<locals>.<lambda>" : Str)) ∈ E.tb) (hs : Sale 12 12 4 n t c cl) (hn : AgN D1 ns i k n t c cl) : t_law_8 Pt E D1 (lw12 ns i k n t c cl o4 o5 o10 o11) S := by
  rw [t_law_8_eq]
  have hl := hs.l
  have ll : ((clD cl).length : Int) = (cl.length : Int) := by rw [List.length_map]
  refine qY_at (.lv [.int (-1), .int ((clD cl).length : Nat), .bl true, .non, .str "0", .tup [.int 0], .lv [.int 0], .dc [], .int (10 ^ 29)]) S (fun K kk => ⟨by show 1 ≤ 1000; decide, by show 1 ≤ 1000; decide, ⟨by decide, by decide, by decide⟩, by show 9 ≤ 1000; decide, kk⟩) rfl ?_
  refine loop_i (fun ds ρ S' => (∀ d ∈ ds, NoB 0 ((cl.length : Int) - 1) d) ∧ ∃ o4 o5 o10 o11, ρ = lw12 ns i k n t c cl o4 o5 o10 o11) (fun _ _ _ _ => trivial) ?_ ?_ _ _ _ ⟨?_, o4, o5, o10, o11, rfl⟩
  · rintro ρ S' ⟨_, o4, o5, o10, o11, rfl⟩
    exact law12 (o4 := o4) (o5 := o5) (o10 := o10) (o11 := o11) hT hs hn
  · rintro d ds ρ S' ⟨hd, o4, o5, o10, o11, rfl⟩ D2 e2 hn2 _ _
    exact law8b (o5 := o5) (o10 := o10) (o11 := o11) hT hs (hd d List.mem_cons_self) fun S3 o4 o5 o10 o11 => hn2 _ _ ⟨fun x hx => hd x (List.mem_cons_of_mem _ hx), o4, o5, o10, o11, rfl⟩
  · refine List.forall_mem_cons.mpr ⟨noB_int (by decide) (by omega), ?_⟩
    refine List.forall_mem_cons.mpr ⟨noB_int (by omega) (by omega), ?_⟩
    refine List.forall_mem_cons.mpr ⟨noB_lit (by decide +kernel) rfl (fun _ _ => rfl) (by decide +kernel), ?_⟩
    refine List.forall_mem_cons.mpr ⟨noB_lit (by decide +kernel) rfl (fun _ _ => rfl) (by decide +kernel), ?_⟩
    refine List.forall_mem_cons.mpr ⟨noB_lit (by decide +kernel) rfl (fun _ _ => rfl) (by decide +kernel), ?_⟩
    refine List.forall_mem_cons.mpr ⟨noB_lit (by decide +kernel) rfl (fun _ _ => rfl) (by decide +kernel), ?_⟩
    refine List.forall_mem_cons.mpr ⟨noB_lit (by decide +kernel) rfl (fun _ _ => rfl) (by decide +kernel), ?_⟩
    refine List.forall_mem_cons.mpr ⟨noB_lit (by decide +kernel) rfl (fun _ _ => rfl) (by decide +kernel), ?_⟩
    refine List.forall_mem_cons.mpr ⟨noB_int (by decide) (fun z => by have z2 : (10 : Int) ^ 29 ≤ (cl.length : Int) - 1 := z.2; omega), ?_⟩
    exact fun _ z => nomatch z
theorem qY_bad {o0 o1 : Option D} {rest : Rho} {Q : List D → (Sto → Prop) → Sto → Prop} (hs : Sale 12 12 4 n t c cl) (hk : Has k S) (q : ∀ ds S', (∀ d ∈ ds, BadS d) → Q ds (fun _ => True) S') :
    sQY (wOp (dCatV false) (wCall g_law_no_sales (wCons (wVar 3) wNil)) (wLv (wCons (wCall g_law_odd (wCons (wVar 2) wNil)) wNil))) E (o0 :: o1 :: some (.lst k) :: some (dSale n t c cl) :: rest) S Q := by
  rw [sQY_def]
  refine ⟨n, t, c, cl, rfl, hs, fun bs hb hl => ?_⟩
  refine ⟨k, rfl, hk, fun o S3 ho st => ⟨by show 1 ≤ 1000; decide, ?_⟩⟩
  refine cat_seq (x := .lv bs) (y := .lv [o]) rfl rfl (by show bs.length + 1 ≤ 1000; omega) ?_
  exact q (bs ++ [o]) S3 (bad_all hb (all1 ho))
theorem turn {o2 o3 o6 o7 o8 o9 : Option D} (hT : (Pt, ("_law_words.<locals>.<lambda>" : Str)) ∈ E.tb) (hi : 0 ≤ i) (hn : ∀ S' k n t c cl o4 o5 o10 o11, D1.nx (lw12 ns i k n t c cl o4 o5 o10 o11) S') : b_law_1 Pt E D1 [some (.sv (ns.map D.int)), some (.int i), o2, o3, o4, o5, o6, o7, o8, o9, o10, o11] S := by
  rw [b_law_1_eq]
  refine ⟨ns, i, rfl, hi, fun x y z st => ?_⟩
  have hS : Has S.length (S ++ [[.int x, .int y, .int z]]) := ⟨x, y, z, by simp, st⟩
  refine ⟨S.length, 12, 12, 4, rfl, by decide, by decide, by decide, hS, fun n t c cl S2 hs k2 => ?_⟩
  refine ⟨rfl, ?_⟩
  refine qY_bad hs k2.h fun bs S3 hb => ?_
  refine loop_i (fun ds ρ S' => (∀ d ∈ ds, BadS d) ∧ ∃ o4 o5 o10 o11, ρ = lw12 ns i S.length n t c cl o4 o5 o10 o11) (fun _ _ _ _ => trivial) ?_ ?_ _ _ _ ⟨hb, o4, o5, o10, o11, rfl⟩
  · rintro ρ S' ⟨_, o4, o5, o10, o11, rfl⟩
    exact law8 (o4 := o4) (o5 := o5) (o10 := o10) (o11 := o11) hT hs fun S' o4 o5 o10 o11 => hn _ _ _ _ _ _ _ _ _ _
  · rintro d ds ρ S' ⟨hd, o4, o5, o10, o11, rfl⟩ D2 e2 hn2 _ _
    exact law5b (o5 := o5) (o10 := o10) (o11 := o11) hT (hd d List.mem_cons_self) fun S3 o4 o5 o10 o11 => hn2 _ _ ⟨fun x hx => hd x (List.mem_cons_of_mem _ hx), o4, o5, o10, o11, rfl⟩
end
theorem ok_law {Pt : Addr} (ds : List D) (E : XD) (S : Sto) (Q : KD) (h : gLawT [(Pt, "_law_words.<locals>.<lambda>")] ds E S Q) : w_law Pt E (en Q) (startD N_law ds) S := by
  obtain ⟨ns, rfl, hn, rfl, hT, q⟩ := h
  have e : (if (if (3 : Int) < ((ns.map D.int).length : Int) then 3 else ((ns.map D.int).length : Int)) > 1 then (if (3 : Int) < ((ns.map D.int).length : Int) then 3 else ((ns.map D.int).length : Int)) else 1) < 2 ^ 62 ∧ -(2 ^ 62) ≤ (if (if (3 : Int) < ((ns.map D.int).length : Int) then 3 else ((ns.map D.int).length : Int)) > 1 then (if (3 : Int) < ((ns.map D.int).length : Int) then 3 else ((ns.map D.int).length : Int)) else 1) := by
    generalize ((ns.map D.int).length : Int) = z
    split <;> split <;> omega
  refine ⟨⟨e.2, e.1⟩, ?_⟩
  refine loop_i (fun ds r S' => (∃ o1 o2 o3 o4 o5 o6 o7 o8 o9 o10 o11, r = [some (.sv (ns.map D.int)), o1, o2, o3, o4, o5, o6, o7, o8, o9, o10, o11]) ∧ ∀ d ∈ ds, ∃ i : Int, d = .int i ∧ 0 ≤ i) (fun _ _ _ _ => trivial) ?_ ?_ _ _ _ ⟨⟨_, _, _, _, _, _, _, _, _, _, _, rfl⟩, ?_⟩
  · rintro r S' _
    exact q S'
  · rintro d ds r S7 ⟨⟨o1, o2, o3, o4, o5, o6, o7, o8, o9, o10, o11, rfl⟩, hd⟩ D1 e1 hn _ _
    obtain ⟨i, rfl, hi⟩ := hd d List.mem_cons_self
    exact turn (hT _ (List.mem_singleton.mpr rfl)) hi fun S' k n t c cl o4 o5 o10 o11 => hn _ _ ⟨⟨_, _, _, _, _, _, _, _, _, _, _, rfl⟩, fun x hx => hd x (List.mem_cons_of_mem _ hx)⟩
  · intro d hd
    obtain ⟨i, rfl, h1, _⟩ := rng_mem hd
    exact ⟨i, rfl, h1⟩
end K33

namespace K33
open FM PySem PySem.Spec PyProof.Rows L2 DD
theorem said_txtB : SaidTxtB s_law_said "_law_said" "_law_call" "_law_e" "_law_word" "SeatError" :=
  ⟨⟨_, _, _, _, _, _, _, _, _, _, _, _, _, _, _, _, rfl⟩, ⟨rfl, rfl, rfl, by decide +kernel, rfl, by decide +kernel, by decide +kernel⟩, rfl, rfl, rfl, rfl, by decide, by decide, by decide, by decide, by decide, by decide⟩
theorem mo_are_classes : MoG g_are_classes := fun _ _ _ _ _ k ⟨a0, a1, c0, c1, q⟩ => ⟨a0, a1, c0, c1, k _ _ q⟩
theorem mo_best_gain : MoG g_best_gain := fun _ _ _ _ _ k ⟨a0, a1, a2, a3, a4, a5, c0, c1, c2, c3, c4, q⟩ => ⟨a0, a1, a2, a3, a4, a5, c0, c1, c2, c3, c4, k _ _ q⟩
theorem mo_can_divide : MoG g_can_divide := fun _ _ _ _ _ k ⟨a0, a1, c0, c1, c2, q⟩ => ⟨a0, a1, c0, c1, c2, k _ _ q⟩
theorem mo_can_sell : MoG g_can_sell := fun _ _ _ _ _ k ⟨a0, a1, c0, q⟩ => ⟨a0, a1, c0, k _ _ q⟩
theorem mo_fraction : MoG g_fraction := fun _ _ _ _ _ k ⟨a0, a1, c0, c1, c2, q⟩ => ⟨a0, a1, c0, c1, c2, q.imp (fun ⟨b0, b1, d0, d1, d2, d3, q⟩ => ⟨b0, b1, d0, d1, d2, d3, k _ _ q⟩) fun z => z⟩
theorem mo_greatest_divisor : MoG g_greatest_divisor := fun _ _ _ _ _ k ⟨a0, a1, c0, c1, q⟩ => ⟨a0, a1, c0, c1, k _ _ q⟩
theorem mo_is_between : MoG g_is_between := fun _ _ _ _ _ k ⟨a0, a1, a2, c0, c1, q⟩ => ⟨a0, a1, a2, c0, c1, k _ _ q⟩
theorem mo_is_class : MoG g_is_class := fun _ _ _ _ _ k ⟨a0, c0, c1, q⟩ => ⟨a0, c0, c1, k _ _ q⟩
theorem mo_is_opened : MoG g_is_opened := fun _ _ _ _ _ k ⟨a0, a1, a2, a3, a4, a5, c0, c1, c2, c3, c4, q⟩ => ⟨a0, a1, a2, a3, a4, a5, c0, c1, c2, c3, c4, k _ _ q⟩
theorem mo_is_sale : MoG g_is_sale := fun _ _ _ _ _ k ⟨a0, c0, c1, q⟩ => ⟨a0, c0, c1, k _ _ q⟩
theorem mo_is_whole : MoG g_is_whole := fun _ _ _ _ _ k ⟨a0, c0, c1, q⟩ => ⟨a0, c0, c1, k _ _ q⟩
theorem mo_law_cell_at : MoG g_law_cell_at := fun _ _ _ _ _ k ⟨a0, a1, c0, c1, q⟩ => ⟨a0, a1, c0, c1, fun v0 => k _ _ (q v0)⟩
theorem mo_law_no_sales : MoG g_law_no_sales := fun _ _ _ _ _ k ⟨a0, a1, a2, a3, c0, c1, q⟩ => ⟨a0, a1, a2, a3, c0, c1, fun v0 v1 v2 => k _ _ (q v0 v1 v2)⟩
theorem mo_law_odd : MoG g_law_odd := fun _ _ _ _ _ k ⟨a0, c0, c1, q⟩ => ⟨a0, c0, c1, fun v0 v1 v2 v3 => k _ _ (q v0 v1 v2 v3)⟩
theorem mo_law_offers : MoG g_law_offers := fun _ _ _ _ _ k ⟨a0, a1, a2, a3, c0, c1, c2, c3, c4, q⟩ => ⟨a0, a1, a2, a3, c0, c1, c2, c3, c4, fun v0 v1 v2 v3 v4 v5 => k _ _ (q v0 v1 v2 v3 v4 v5)⟩
theorem mo_law_sale : MoG g_law_sale := fun _ _ _ _ _ k ⟨a0, a1, a2, a3, c0, c1, c2, c3, c4, q⟩ => ⟨a0, a1, a2, a3, c0, c1, c2, c3, c4, fun v0 v1 v2 v3 v4 v5 v6 => k _ _ (q v0 v1 v2 v3 v4 v5 v6)⟩
theorem mo_law_state : MoG g_law_state := fun _ _ _ _ _ k ⟨a0, a1, c0, c1, q⟩ => ⟨a0, a1, c0, c1, fun v0 v1 v2 v3 => k _ _ (q v0 v1 v2 v3)⟩
theorem mo_law_take : MoG g_law_take := fun _ _ _ _ _ k ⟨a0, a1, c0, c1, c2, c3, q⟩ => ⟨a0, a1, c0, c1, c2, c3, fun v0 v1 v2 v3 v4 => k _ _ (q v0 v1 v2 v3 v4)⟩
theorem mo_law_words (Pt : Addr) : MoG (g_law_words Pt) := fun _ _ _ _ _ k ⟨a0, a1, a2, a3, a4, a5, a6, c0, c1, c2, c3, c4, c5, c6, q⟩ => ⟨a0, a1, a2, a3, a4, a5, a6, c0, c1, c2, c3, c4, c5, c6, fun v0 v1 => k _ _ (q v0 v1)⟩
theorem mo_level_before : MoG g_level_before := fun _ _ _ _ _ k ⟨a0, a1, a2, a3, a4, a5, c0, c1, c2, c3, c4, c5, q⟩ => ⟨a0, a1, a2, a3, a4, a5, c0, c1, c2, c3, c4, c5, k _ _ q⟩
theorem mo_levels_from : MoG g_levels_from := fun _ _ _ _ _ k ⟨a0, a1, a2, a3, a4, a5, c0, c1, c2, c3, c4, c5, q⟩ => ⟨a0, a1, a2, a3, a4, a5, c0, c1, c2, c3, c4, c5, fun v0 v1 v2 v3 => k _ _ (q v0 v1 v2 v3)⟩
theorem mo_mark : MoG g_mark := fun _ _ _ _ _ k ⟨a0, a1, a2, c0, c1, c2, c3, q⟩ => ⟨a0, a1, a2, c0, c1, c2, c3, q.imp (fun ⟨b0, b1, b2, b3, d0, d1, d2, d3, d4, q⟩ => ⟨b0, b1, b2, b3, d0, d1, d2, d3, d4, fun v0 v1 v2 => k _ _ (q v0 v1 v2)⟩) fun z => z⟩
theorem mo_need_class : MoG g_need_class := fun _ _ _ _ _ k ⟨a0, a1, a2, a3, a4, c0, c1, q⟩ => ⟨a0, a1, a2, a3, a4, c0, c1, q.imp (fun ⟨d0, q⟩ => ⟨d0, k _ _ q⟩) fun z => z⟩
theorem mo_need_left : MoG g_need_left := fun _ _ _ _ _ k ⟨a0, a1, a2, a3, a4, a5, c0, c1, q⟩ => ⟨a0, a1, a2, a3, a4, a5, c0, c1, q.imp (fun ⟨d0, q⟩ => ⟨d0, k _ _ q⟩) fun z => z⟩
theorem mo_need_sale : MoG g_need_sale := fun _ _ _ _ _ k ⟨a0, c0, c1, q⟩ => ⟨a0, c0, c1, q.imp (fun ⟨d0, q⟩ => ⟨d0, k _ _ q⟩) fun z => z⟩
theorem mo_need_time : MoG g_need_time := fun _ _ _ _ _ k ⟨a0, a1, a2, a3, a4, a5, c0, c1, q⟩ => ⟨a0, a1, a2, a3, a4, a5, c0, c1, q.imp (fun ⟨d0, q⟩ => ⟨d0, k _ _ q⟩) fun z => z⟩
theorem mo_nought_level : MoG g_nought_level := fun _ _ _ _ _ k ⟨a0, c0, c1, q⟩ => ⟨a0, c0, c1, k _ _ q⟩
theorem mo_opened : MoG g_opened := fun _ _ _ _ _ k ⟨a0, a1, a2, c0, c1, c2, c3, q⟩ => ⟨a0, a1, a2, c0, c1, c2, c3, q.imp (fun ⟨b0, b1, b2, b3, d0, d1, d2, d3, q⟩ => ⟨b0, b1, b2, b3, d0, d1, d2, d3, fun v0 v1 v2 => k _ _ (q v0 v1 v2)⟩) fun z => z⟩
theorem mo_seat_worth : MoG g_seat_worth := fun _ _ _ _ _ k ⟨a0, a1, a2, c0, c1, c2, c3, q⟩ => ⟨a0, a1, a2, c0, c1, c2, c3, q.imp (fun ⟨b0, b1, b2, b3, d0, d1, d2, d3, q⟩ => ⟨b0, b1, b2, b3, d0, d1, d2, d3, fun v0 v1 v2 => k _ _ (q v0 v1 v2)⟩) fun z => z⟩
theorem mo_sold_gain : MoG g_sold_gain := fun _ _ _ _ _ k ⟨a0, a1, a2, a3, a4, a5, c0, c1, c2, c3, c4, q⟩ => ⟨a0, a1, a2, a3, a4, a5, c0, c1, c2, c3, c4, k _ _ q⟩
theorem mo_worth_levels : MoG g_worth_levels := fun _ _ _ _ _ k ⟨a0, a1, a2, a3, a4, c0, c1, c2, q⟩ => ⟨a0, a1, a2, a3, a4, c0, c1, c2, fun v0 v1 v2 v3 => k _ _ (q v0 v1 v2 v3)⟩
theorem all_mk {l : PySem.W.OpenLaw} {w : World} {K : PySem.W.Frag} {h : Heap} {mg : Str → Option Value} {fa f0 f1 f2 f3 f4 f5 f6 f7 f8 f9 f10 f11 f12 f13 f14 f15 f16 f17 f18 f19 f20 f21 f22 f23 f24 f25 f26 f27 f28 f29 f30 f31 f32 f33 T13 T24 C_NoNumber C_NoSale C_NoNet C_NoClass C_NoTime C_NoLeft C_NoSingle C_NoPlan C_NoRun C_NoLimit C_NoShow C_NoAmends C_NoPrices C_NoLine C_NoText C_Over C_Nothing C_NoThing C_NotNow C_SeatError cc : Addr} (Pt : Addr) (X : K.In h) (G : h.Ns mainGlobals mg) (hfa : mg "law" = some (.ref fa))
    {od0 an0 od1 an1 od2 an2 od3 an3 od4 an4 od5 an5 od6 an6 od7 an7 od8 an8 od9 an9 od10 an10 od11 an11 od12 an12 od13 an13 od14 an14 od15 an15 od16 an16 od17 an17 od18 an18 od19 an19 od20 an20 od21 an21 od22 an22 od23 an23 od24 an24 od25 an25 od26 an26 od27 an27 od28 an28 od29 an29 od30 an30 od31 an31 od32 an32 od33 an33 td13 td24 : Option Addr} {sl0 sl1 sl2 sl3 sl4 sl5 sl6 sl7 sl8 sl9 sl10 sl11 sl12 sl13 sl14 sl15 sl16 sl17 sl18 sl19 sl20 sl21 sl22 sl23 sl24 sl25 sl26 sl27 sl28 sl29 sl30 sl31 sl32 sl33 ts13 ts24 : Array (Option Value)} {oc0 kV0 dc0 pm0 ct0 cd0 oc1 kV1 dc1 pm1 ct1 cd1 oc2 kV2 dc2 pm2 ct2 cd2 oc3 kV3 dc3 pm3 ct3 cd3 oc4 kV4 dc4 pm4 ct4 cd4 oc5 kV5 dc5 pm5 ct5 cd5 oc6 kV6 dc6 pm6 ct6 cd6 oc7 kV7 dc7 pm7 ct7 cd7 oc8 kV8 dc8 pm8 ct8 cd8 oc9 kV9 dc9 pm9 ct9 cd9 oc10 kV10 dc10 pm10 ct10 cd10 oc11 kV11 dc11 pm11 ct11 cd11 oc12 kV12 dc12 pm12 ct12 cd12 oc13 kV13 dc13 pm13 ct13 cd13 oc14 kV14 dc14 pm14 ct14 cd14 oc15 kV15 dc15 pm15 ct15 cd15 oc16 kV16 dc16 pm16 ct16 cd16 oc17 kV17 dc17 pm17 ct17 cd17 oc18 kV18 dc18 pm18 ct18 cd18 oc19 kV19 dc19 pm19 ct19 cd19 oc20 kV20 dc20 pm20 ct20 cd20 oc21 kV21 dc21 pm21 ct21 cd21 oc22 kV22 dc22 pm22 ct22 cd22 oc23 kV23 dc23 pm23 ct23 cd23 oc24 kV24 dc24 pm24 ct24 cd24 oc25 kV25 dc25 pm25 ct25 cd25 oc26 kV26 dc26 pm26 ct26 cd26 oc27 kV27 dc27 pm27 ct27 cd27 oc28 kV28 dc28 pm28 ct28 cd28 oc29 kV29 dc29 pm29 ct29 cd29 oc30 kV30 dc30 pm30 ct30 cd30 oc31 kV31 dc31 pm31 ct31 oc32 kV32 dc32 pm32 ct32 cd32 oc33 kV33 dc33 pm33 ct33 cd33 tc13 tc24 : Value} {tn13 tn24 : Nat} {tk13 tk24 tk_MOST_SEATS tk_MOST_PERIODS tk_MOST_CASES tk_MOST_CLASSES tk_MOST_FARE tk_MOST_SIZE : Tok}
    (a0 : PySem.W.nsIn K mainGlobals "_law_cell_at" = some (some (.ref f0)))
    (l0 : K.lookup f0 = some ⟨oc0, od0, .func (PySem.W.fnOf "_law_cell_at" "_law_cell_at" (defArgs s_law_cell_at) (defBody s_law_cell_at) (defScope s_law_cell_at) .none kV0 dc0 pm0 an0 cd0 ct0), sl0⟩)
    (c0 : PySem.W.codeIn K cd0 "_law_cell_at" = true)
    (k0 : PySem.W.keepIn K (.ref f0) = true)
    (a1 : PySem.W.nsIn K mainGlobals "_law_state" = some (some (.ref f1)))
    (l1 : K.lookup f1 = some ⟨oc1, od1, .func (PySem.W.fnOf "_law_state" "_law_state" (defArgs s_law_state) (defBody s_law_state) (defScope s_law_state) .none kV1 dc1 pm1 an1 cd1 ct1), sl1⟩)
    (c1 : PySem.W.codeIn K cd1 "_law_state" = true)
    (k1 : PySem.W.keepIn K (.ref f1) = true)
    (a2 : PySem.W.nsIn K mainGlobals "_law_take" = some (some (.ref f2)))
    (l2 : K.lookup f2 = some ⟨oc2, od2, .func (PySem.W.fnOf "_law_take" "_law_take" (defArgs s_law_take) (defBody s_law_take) (defScope s_law_take) .none kV2 dc2 pm2 an2 cd2 ct2), sl2⟩)
    (c2 : PySem.W.codeIn K cd2 "_law_take" = true)
    (k2 : PySem.W.keepIn K (.ref f2) = true)
    (a3 : PySem.W.nsIn K mainGlobals "_law_offers" = some (some (.ref f3)))
    (l3 : K.lookup f3 = some ⟨oc3, od3, .func (PySem.W.fnOf "_law_offers" "_law_offers" (defArgs s_law_offers) (defBody s_law_offers) (defScope s_law_offers) .none kV3 dc3 pm3 an3 cd3 ct3), sl3⟩)
    (c3 : PySem.W.codeIn K cd3 "_law_offers" = true)
    (k3 : PySem.W.keepIn K (.ref f3) = true)
    (a4 : PySem.W.nsIn K mainGlobals "_law_sale" = some (some (.ref f4)))
    (l4 : K.lookup f4 = some ⟨oc4, od4, .func (PySem.W.fnOf "_law_sale" "_law_sale" (defArgs s_law_sale) (defBody s_law_sale) (defScope s_law_sale) .none kV4 dc4 pm4 an4 cd4 ct4), sl4⟩)
    (c4 : PySem.W.codeIn K cd4 "_law_sale" = true)
    (k4 : PySem.W.keepIn K (.ref f4) = true)
    (a5 : PySem.W.nsIn K mainGlobals "_law_no_sales" = some (some (.ref f5)))
    (l5 : K.lookup f5 = some ⟨oc5, od5, .func (PySem.W.fnOf "_law_no_sales" "_law_no_sales" (defArgs s_law_no_sales) (defBody s_law_no_sales) (defScope s_law_no_sales) .none kV5 dc5 pm5 an5 cd5 ct5), sl5⟩)
    (c5 : PySem.W.codeIn K cd5 "_law_no_sales" = true)
    (k5 : PySem.W.keepIn K (.ref f5) = true)
    (a6 : PySem.W.nsIn K mainGlobals "is_whole" = some (some (.ref f6)))
    (l6 : K.lookup f6 = some ⟨oc6, od6, .func (PySem.W.fnOf "is_whole" "is_whole" (defArgs s_is_whole) (defBody s_is_whole) (defScope s_is_whole) .none kV6 dc6 pm6 an6 cd6 ct6), sl6⟩)
    (c6 : PySem.W.codeIn K cd6 "is_whole" = true)
    (k6 : PySem.W.keepIn K (.ref f6) = true)
    (a7 : PySem.W.nsIn K mainGlobals "is_between" = some (some (.ref f7)))
    (l7 : K.lookup f7 = some ⟨oc7, od7, .func (PySem.W.fnOf "is_between" "is_between" (defArgs s_is_between) (defBody s_is_between) (defScope s_is_between) .none kV7 dc7 pm7 an7 cd7 ct7), sl7⟩)
    (c7 : PySem.W.codeIn K cd7 "is_between" = true)
    (k7 : PySem.W.keepIn K (.ref f7) = true)
    (a8 : PySem.W.nsIn K mainGlobals "is_class" = some (some (.ref f8)))
    (l8 : K.lookup f8 = some ⟨oc8, od8, .func (PySem.W.fnOf "is_class" "is_class" (defArgs s_is_class) (defBody s_is_class) (defScope s_is_class) .none kV8 dc8 pm8 an8 cd8 ct8), sl8⟩)
    (c8 : PySem.W.codeIn K cd8 "is_class" = true)
    (k8 : PySem.W.keepIn K (.ref f8) = true)
    (a9 : PySem.W.nsIn K mainGlobals "are_classes" = some (some (.ref f9)))
    (l9 : K.lookup f9 = some ⟨oc9, od9, .func (PySem.W.fnOf "are_classes" "are_classes" (defArgs s_are_classes) (defBody s_are_classes) (defScope s_are_classes) .none kV9 dc9 pm9 an9 cd9 ct9), sl9⟩)
    (c9 : PySem.W.codeIn K cd9 "are_classes" = true)
    (k9 : PySem.W.keepIn K (.ref f9) = true)
    (a10 : PySem.W.nsIn K mainGlobals "is_sale" = some (some (.ref f10)))
    (l10 : K.lookup f10 = some ⟨oc10, od10, .func (PySem.W.fnOf "is_sale" "is_sale" (defArgs s_is_sale) (defBody s_is_sale) (defScope s_is_sale) .none kV10 dc10 pm10 an10 cd10 ct10), sl10⟩)
    (c10 : PySem.W.codeIn K cd10 "is_sale" = true)
    (k10 : PySem.W.keepIn K (.ref f10) = true)
    (a11 : PySem.W.nsIn K mainGlobals "need_sale" = some (some (.ref f11)))
    (l11 : K.lookup f11 = some ⟨oc11, od11, .func (PySem.W.fnOf "need_sale" "need_sale" (defArgs s_need_sale) (defBody s_need_sale) (defScope s_need_sale) .none kV11 dc11 pm11 an11 cd11 ct11), sl11⟩)
    (c11 : PySem.W.codeIn K cd11 "need_sale" = true)
    (k11 : PySem.W.keepIn K (.ref f11) = true)
    (a12 : PySem.W.nsIn K mainGlobals "need_class" = some (some (.ref f12)))
    (l12 : K.lookup f12 = some ⟨oc12, od12, .func (PySem.W.fnOf "need_class" "need_class" (defArgs s_need_class) (defBody s_need_class) (defScope s_need_class) .none kV12 dc12 pm12 an12 cd12 ct12), sl12⟩)
    (c12 : PySem.W.codeIn K cd12 "need_class" = true)
    (k12 : PySem.W.keepIn K (.ref f12) = true)
    (a13 : PySem.W.nsIn K mainGlobals "need_time" = some (some (.ref f13)))
    (l13 : K.lookup f13 = some ⟨oc13, od13, .func (PySem.W.fnOf "need_time" "need_time" (defArgs s_need_time) (defBody s_need_time) (defScope s_need_time) (.ref T13) kV13 dc13 pm13 an13 cd13 ct13), sl13⟩)
    (t13 : List.lookup T13 K = some ⟨tc13, td13, .seq #[.int 0 tk13] tn13, ts13⟩)
    (c13 : PySem.W.codeIn K cd13 "need_time" = true)
    (k13 : PySem.W.keepIn K (.ref f13) = true)
    (a14 : PySem.W.nsIn K mainGlobals "can_sell" = some (some (.ref f14)))
    (l14 : K.lookup f14 = some ⟨oc14, od14, .func (PySem.W.fnOf "can_sell" "can_sell" (defArgs s_can_sell) (defBody s_can_sell) (defScope s_can_sell) .none kV14 dc14 pm14 an14 cd14 ct14), sl14⟩)
    (c14 : PySem.W.codeIn K cd14 "can_sell" = true)
    (k14 : PySem.W.keepIn K (.ref f14) = true)
    (a15 : PySem.W.nsIn K mainGlobals "sold_gain" = some (some (.ref f15)))
    (l15 : K.lookup f15 = some ⟨oc15, od15, .func (PySem.W.fnOf "sold_gain" "sold_gain" (defArgs s_sold_gain) (defBody s_sold_gain) (defScope s_sold_gain) .none kV15 dc15 pm15 an15 cd15 ct15), sl15⟩)
    (c15 : PySem.W.codeIn K cd15 "sold_gain" = true)
    (k15 : PySem.W.keepIn K (.ref f15) = true)
    (a16 : PySem.W.nsIn K mainGlobals "best_gain" = some (some (.ref f16)))
    (l16 : K.lookup f16 = some ⟨oc16, od16, .func (PySem.W.fnOf "best_gain" "best_gain" (defArgs s_best_gain) (defBody s_best_gain) (defScope s_best_gain) .none kV16 dc16 pm16 an16 cd16 ct16), sl16⟩)
    (c16 : PySem.W.codeIn K cd16 "best_gain" = true)
    (k16 : PySem.W.keepIn K (.ref f16) = true)
    (a17 : PySem.W.nsIn K mainGlobals "level_before" = some (some (.ref f17)))
    (l17 : K.lookup f17 = some ⟨oc17, od17, .func (PySem.W.fnOf "level_before" "level_before" (defArgs s_level_before) (defBody s_level_before) (defScope s_level_before) .none kV17 dc17 pm17 an17 cd17 ct17), sl17⟩)
    (c17 : PySem.W.codeIn K cd17 "level_before" = true)
    (k17 : PySem.W.keepIn K (.ref f17) = true)
    (a18 : PySem.W.nsIn K mainGlobals "levels_from" = some (some (.ref f18)))
    (l18 : K.lookup f18 = some ⟨oc18, od18, .func (PySem.W.fnOf "levels_from" "levels_from" (defArgs s_levels_from) (defBody s_levels_from) (defScope s_levels_from) .none kV18 dc18 pm18 an18 cd18 ct18), sl18⟩)
    (c18 : PySem.W.codeIn K cd18 "levels_from" = true)
    (k18 : PySem.W.keepIn K (.ref f18) = true)
    (a19 : PySem.W.nsIn K mainGlobals "nought_level" = some (some (.ref f19)))
    (l19 : K.lookup f19 = some ⟨oc19, od19, .func (PySem.W.fnOf "nought_level" "nought_level" (defArgs s_nought_level) (defBody s_nought_level) (defScope s_nought_level) .none kV19 dc19 pm19 an19 cd19 ct19), sl19⟩)
    (c19 : PySem.W.codeIn K cd19 "nought_level" = true)
    (k19 : PySem.W.keepIn K (.ref f19) = true)
    (a20 : PySem.W.nsIn K mainGlobals "worth_levels" = some (some (.ref f20)))
    (l20 : K.lookup f20 = some ⟨oc20, od20, .func (PySem.W.fnOf "worth_levels" "worth_levels" (defArgs s_worth_levels) (defBody s_worth_levels) (defScope s_worth_levels) .none kV20 dc20 pm20 an20 cd20 ct20), sl20⟩)
    (c20 : PySem.W.codeIn K cd20 "worth_levels" = true)
    (k20 : PySem.W.keepIn K (.ref f20) = true)
    (a21 : PySem.W.nsIn K mainGlobals "is_opened" = some (some (.ref f21)))
    (l21 : K.lookup f21 = some ⟨oc21, od21, .func (PySem.W.fnOf "is_opened" "is_opened" (defArgs s_is_opened) (defBody s_is_opened) (defScope s_is_opened) .none kV21 dc21 pm21 an21 cd21 ct21), sl21⟩)
    (c21 : PySem.W.codeIn K cd21 "is_opened" = true)
    (k21 : PySem.W.keepIn K (.ref f21) = true)
    (a22 : PySem.W.nsIn K mainGlobals "opened" = some (some (.ref f22)))
    (l22 : K.lookup f22 = some ⟨oc22, od22, .func (PySem.W.fnOf "opened" "opened" (defArgs s_opened) (defBody s_opened) (defScope s_opened) .none kV22 dc22 pm22 an22 cd22 ct22), sl22⟩)
    (c22 : PySem.W.codeIn K cd22 "opened" = true)
    (k22 : PySem.W.keepIn K (.ref f22) = true)
    (a23 : PySem.W.nsIn K mainGlobals "mark" = some (some (.ref f23)))
    (l23 : K.lookup f23 = some ⟨oc23, od23, .func (PySem.W.fnOf "mark" "mark" (defArgs s_mark) (defBody s_mark) (defScope s_mark) .none kV23 dc23 pm23 an23 cd23 ct23), sl23⟩)
    (c23 : PySem.W.codeIn K cd23 "mark" = true)
    (k23 : PySem.W.keepIn K (.ref f23) = true)
    (a24 : PySem.W.nsIn K mainGlobals "need_left" = some (some (.ref f24)))
    (l24 : K.lookup f24 = some ⟨oc24, od24, .func (PySem.W.fnOf "need_left" "need_left" (defArgs s_need_left) (defBody s_need_left) (defScope s_need_left) (.ref T24) kV24 dc24 pm24 an24 cd24 ct24), sl24⟩)
    (t24 : List.lookup T24 K = some ⟨tc24, td24, .seq #[.int 0 tk24] tn24, ts24⟩)
    (c24 : PySem.W.codeIn K cd24 "need_left" = true)
    (k24 : PySem.W.keepIn K (.ref f24) = true)
    (a25 : PySem.W.nsIn K mainGlobals "greatest_divisor" = some (some (.ref f25)))
    (l25 : K.lookup f25 = some ⟨oc25, od25, .func (PySem.W.fnOf "greatest_divisor" "greatest_divisor" (defArgs s_greatest_divisor) (defBody s_greatest_divisor) (defScope s_greatest_divisor) .none kV25 dc25 pm25 an25 cd25 ct25), sl25⟩)
    (c25 : PySem.W.codeIn K cd25 "greatest_divisor" = true)
    (k25 : PySem.W.keepIn K (.ref f25) = true)
    (a26 : PySem.W.nsIn K mainGlobals "can_divide" = some (some (.ref f26)))
    (l26 : K.lookup f26 = some ⟨oc26, od26, .func (PySem.W.fnOf "can_divide" "can_divide" (defArgs s_can_divide) (defBody s_can_divide) (defScope s_can_divide) .none kV26 dc26 pm26 an26 cd26 ct26), sl26⟩)
    (c26 : PySem.W.codeIn K cd26 "can_divide" = true)
    (k26 : PySem.W.keepIn K (.ref f26) = true)
    (a27 : PySem.W.nsIn K mainGlobals "fraction" = some (some (.ref f27)))
    (l27 : K.lookup f27 = some ⟨oc27, od27, .func (PySem.W.fnOf "fraction" "fraction" (defArgs s_fraction) (defBody s_fraction) (defScope s_fraction) .none kV27 dc27 pm27 an27 cd27 ct27), sl27⟩)
    (c27 : PySem.W.codeIn K cd27 "fraction" = true)
    (k27 : PySem.W.keepIn K (.ref f27) = true)
    (a28 : PySem.W.nsIn K mainGlobals "seat_worth" = some (some (.ref f28)))
    (l28 : K.lookup f28 = some ⟨oc28, od28, .func (PySem.W.fnOf "seat_worth" "seat_worth" (defArgs s_seat_worth) (defBody s_seat_worth) (defScope s_seat_worth) .none kV28 dc28 pm28 an28 cd28 ct28), sl28⟩)
    (c28 : PySem.W.codeIn K cd28 "seat_worth" = true)
    (k28 : PySem.W.keepIn K (.ref f28) = true)
    (a29 : PySem.W.nsIn K mainGlobals "_law_word" = some (some (.ref f29)))
    (l29 : K.lookup f29 = some ⟨oc29, od29, .func (PySem.W.fnOf "_law_word" "_law_word" (defArgs s_law_word) (defBody s_law_word) (defScope s_law_word) .none kV29 dc29 pm29 an29 cd29 ct29), sl29⟩)
    (c29 : PySem.W.codeIn K cd29 "_law_word" = true)
    (k29 : PySem.W.keepIn K (.ref f29) = true)
    (a30 : PySem.W.nsIn K mainGlobals "_law_said" = some (some (.ref f30)))
    (l30 : K.lookup f30 = some ⟨oc30, od30, .func (PySem.W.fnOf "_law_said" "_law_said" (defArgs s_law_said) (defBody s_law_said) (defScope s_law_said) .none kV30 dc30 pm30 an30 cd30 ct30), sl30⟩)
    (c30 : PySem.W.codeIn K cd30 "_law_said" = true)
    (k30 : PySem.W.keepIn K (.ref f30) = true)
    (a31 : PySem.W.nsIn K mainGlobals "_law_words" = some (some (.ref f31)))
    (l31 : K.lookup f31 = some ⟨oc31, od31, .func (PySem.W.fnOf "_law_words" "_law_words" (defArgs s_law_words) (defBody s_law_words) (defScope s_law_words) .none kV31 dc31 pm31 an31 (.ref cc) ct31), sl31⟩)
    (c31 : PySem.W.codeIn K (.ref cc) "_law_words" = true)
    (k31 : PySem.W.keepIn K (.ref f31) = true)
    (a32 : PySem.W.nsIn K mainGlobals "_law_odd" = some (some (.ref f32)))
    (l32 : K.lookup f32 = some ⟨oc32, od32, .func (PySem.W.fnOf "_law_odd" "_law_odd" (defArgs s_law_odd) (defBody s_law_odd) (defScope s_law_odd) .none kV32 dc32 pm32 an32 cd32 ct32), sl32⟩)
    (c32 : PySem.W.codeIn K cd32 "_law_odd" = true)
    (k32 : PySem.W.keepIn K (.ref f32) = true)
    (a33 : PySem.W.nsIn K mainGlobals "law" = some (some (.ref f33)))
    (l33 : K.lookup f33 = some ⟨oc33, od33, .func (PySem.W.fnOf "law" "law" (defArgs s_law) (defBody s_law) (defScope s_law) .none kV33 dc33 pm33 an33 cd33 ct33), sl33⟩)
    (c33 : PySem.W.codeIn K cd33 "law" = true)
    (k33 : PySem.W.keepIn K (.ref f33) = true)
    (v_MOST_SEATS : PySem.W.nsIn K mainGlobals "MOST_SEATS" = some (some (.int 12 tk_MOST_SEATS)))
    (v_MOST_PERIODS : PySem.W.nsIn K mainGlobals "MOST_PERIODS" = some (some (.int 12 tk_MOST_PERIODS)))
    (v_MOST_CASES : PySem.W.nsIn K mainGlobals "MOST_CASES" = some (some (.int 24 tk_MOST_CASES)))
    (v_MOST_CLASSES : PySem.W.nsIn K mainGlobals "MOST_CLASSES" = some (some (.int 4 tk_MOST_CLASSES)))
    (v_MOST_FARE : PySem.W.nsIn K mainGlobals "MOST_FARE" = some (some (.int 99 tk_MOST_FARE)))
    (v_MOST_SIZE : PySem.W.nsIn K mainGlobals "MOST_SIZE" = some (some (.int 4 tk_MOST_SIZE)))
    (z_ValueError : PySem.W.nsIn K mainGlobals "ValueError" = some none)
    (z_all : PySem.W.nsIn K mainGlobals "all" = some none)
    (z_bool : PySem.W.nsIn K mainGlobals "bool" = some none)
    (z_enumerate : PySem.W.nsIn K mainGlobals "enumerate" = some none)
    (z_int : PySem.W.nsIn K mainGlobals "int" = some none)
    (z_isinstance : PySem.W.nsIn K mainGlobals "isinstance" = some none)
    (z_len : PySem.W.nsIn K mainGlobals "len" = some none)
    (z_list : PySem.W.nsIn K mainGlobals "list" = some none)
    (z_max : PySem.W.nsIn K mainGlobals "max" = some none)
    (z_min : PySem.W.nsIn K mainGlobals "min" = some none)
    (z_range : PySem.W.nsIn K mainGlobals "range" = some none)
    (z_repr : PySem.W.nsIn K mainGlobals "repr" = some none)
    (z_sum : PySem.W.nsIn K mainGlobals "sum" = some none)
    (z_tuple : PySem.W.nsIn K mainGlobals "tuple" = some none)
    (n_NoNumber : PySem.W.nsIn K mainGlobals "NoNumber" = some (some (.ref C_NoNumber)))
    (n_NoSale : PySem.W.nsIn K mainGlobals "NoSale" = some (some (.ref C_NoSale)))
    (n_NoNet : PySem.W.nsIn K mainGlobals "NoNet" = some (some (.ref C_NoNet)))
    (n_NoClass : PySem.W.nsIn K mainGlobals "NoClass" = some (some (.ref C_NoClass)))
    (n_NoTime : PySem.W.nsIn K mainGlobals "NoTime" = some (some (.ref C_NoTime)))
    (n_NoLeft : PySem.W.nsIn K mainGlobals "NoLeft" = some (some (.ref C_NoLeft)))
    (n_NoSingle : PySem.W.nsIn K mainGlobals "NoSingle" = some (some (.ref C_NoSingle)))
    (n_NoPlan : PySem.W.nsIn K mainGlobals "NoPlan" = some (some (.ref C_NoPlan)))
    (n_NoRun : PySem.W.nsIn K mainGlobals "NoRun" = some (some (.ref C_NoRun)))
    (n_NoLimit : PySem.W.nsIn K mainGlobals "NoLimit" = some (some (.ref C_NoLimit)))
    (n_NoShow : PySem.W.nsIn K mainGlobals "NoShow" = some (some (.ref C_NoShow)))
    (n_NoAmends : PySem.W.nsIn K mainGlobals "NoAmends" = some (some (.ref C_NoAmends)))
    (n_NoPrices : PySem.W.nsIn K mainGlobals "NoPrices" = some (some (.ref C_NoPrices)))
    (n_NoLine : PySem.W.nsIn K mainGlobals "NoLine" = some (some (.ref C_NoLine)))
    (n_NoText : PySem.W.nsIn K mainGlobals "NoText" = some (some (.ref C_NoText)))
    (n_Over : PySem.W.nsIn K mainGlobals "Over" = some (some (.ref C_Over)))
    (n_Nothing : PySem.W.nsIn K mainGlobals "Nothing" = some (some (.ref C_Nothing)))
    (n_NoThing : PySem.W.nsIn K mainGlobals "NoThing" = some (some (.ref C_NoThing)))
    (n_NotNow : PySem.W.nsIn K mainGlobals "NotNow" = some (some (.ref C_NotNow)))
    (n_SeatError : PySem.W.nsIn K mainGlobals "SeatError" = some (some (.ref C_SeatError)))
    (x_NoSale : PySem.W.excIn K C_NoSale [.type "ValueError", .type "Exception", .type "BaseException", .type "object"] "ValueError.__new__" = true)
    (x_NoClass : PySem.W.excIn K C_NoClass [.type "ValueError", .type "Exception", .type "BaseException", .type "object"] "ValueError.__new__" = true)
    (x_NoTime : PySem.W.excIn K C_NoTime [.type "ValueError", .type "Exception", .type "BaseException", .type "object"] "ValueError.__new__" = true)
    (x_NoSingle : PySem.W.excIn K C_NoSingle [.type "ValueError", .type "Exception", .type "BaseException", .type "object"] "ValueError.__new__" = true)
    (x_NoLeft : PySem.W.excIn K C_NoLeft [.type "ValueError", .type "Exception", .type "BaseException", .type "object"] "ValueError.__new__" = true)
    (x_NoNumber : PySem.W.excIn K C_NoNumber [.type "ValueError", .type "Exception", .type "BaseException", .type "object"] "ValueError.__new__" = true)
    (ga_NoSale : PySem.W.findIn K (.ref C_NoSale) "__getattribute__" = some (some (.builtin "BaseException.__getattribute__")))
    (gt_NoSale : PySem.W.findIn K (.ref C_NoSale) "__getattr__" = some none)
    (gc_NoSale : PySem.W.findIn K (.ref C_NoSale) "__class__" = some (some (.builtin "object.__class__")))
    (mo_NoSale : PySem.W.mroIn K C_NoSale (.type "object") = some true)
    (mb_NoSale : PySem.W.mroIn K C_NoSale (.type "BaseException") = some true)
    (i_NoSale_NoNumber : PySem.W.kitOne K (.ref C_NoSale) (.ref C_NoNumber) = some false)
    (i_NoSale_NoSale : PySem.W.kitOne K (.ref C_NoSale) (.ref C_NoSale) = some true)
    (i_NoSale_NoNet : PySem.W.kitOne K (.ref C_NoSale) (.ref C_NoNet) = some false)
    (i_NoSale_NoClass : PySem.W.kitOne K (.ref C_NoSale) (.ref C_NoClass) = some false)
    (i_NoSale_NoTime : PySem.W.kitOne K (.ref C_NoSale) (.ref C_NoTime) = some false)
    (i_NoSale_NoLeft : PySem.W.kitOne K (.ref C_NoSale) (.ref C_NoLeft) = some false)
    (i_NoSale_NoSingle : PySem.W.kitOne K (.ref C_NoSale) (.ref C_NoSingle) = some false)
    (i_NoSale_NoPlan : PySem.W.kitOne K (.ref C_NoSale) (.ref C_NoPlan) = some false)
    (i_NoSale_NoRun : PySem.W.kitOne K (.ref C_NoSale) (.ref C_NoRun) = some false)
    (i_NoSale_NoLimit : PySem.W.kitOne K (.ref C_NoSale) (.ref C_NoLimit) = some false)
    (i_NoSale_NoShow : PySem.W.kitOne K (.ref C_NoSale) (.ref C_NoShow) = some false)
    (i_NoSale_NoAmends : PySem.W.kitOne K (.ref C_NoSale) (.ref C_NoAmends) = some false)
    (i_NoSale_NoPrices : PySem.W.kitOne K (.ref C_NoSale) (.ref C_NoPrices) = some false)
    (i_NoSale_NoLine : PySem.W.kitOne K (.ref C_NoSale) (.ref C_NoLine) = some false)
    (i_NoSale_NoText : PySem.W.kitOne K (.ref C_NoSale) (.ref C_NoText) = some false)
    (i_NoSale_Over : PySem.W.kitOne K (.ref C_NoSale) (.ref C_Over) = some false)
    (i_NoSale_Nothing : PySem.W.kitOne K (.ref C_NoSale) (.ref C_Nothing) = some false)
    (i_NoSale_NoThing : PySem.W.kitOne K (.ref C_NoSale) (.ref C_NoThing) = some true)
    (i_NoSale_NotNow : PySem.W.kitOne K (.ref C_NoSale) (.ref C_NotNow) = some false)
    (i_NoSale_ValueError : PySem.W.kitOne K (.ref C_NoSale) (.type "ValueError") = some true)
    (m_NoSale : PySem.W.exmOne K (.ref C_NoSale) (.ref C_SeatError) = some true)
    (ga_NoClass : PySem.W.findIn K (.ref C_NoClass) "__getattribute__" = some (some (.builtin "BaseException.__getattribute__")))
    (gt_NoClass : PySem.W.findIn K (.ref C_NoClass) "__getattr__" = some none)
    (gc_NoClass : PySem.W.findIn K (.ref C_NoClass) "__class__" = some (some (.builtin "object.__class__")))
    (mo_NoClass : PySem.W.mroIn K C_NoClass (.type "object") = some true)
    (mb_NoClass : PySem.W.mroIn K C_NoClass (.type "BaseException") = some true)
    (i_NoClass_NoNumber : PySem.W.kitOne K (.ref C_NoClass) (.ref C_NoNumber) = some false)
    (i_NoClass_NoSale : PySem.W.kitOne K (.ref C_NoClass) (.ref C_NoSale) = some false)
    (i_NoClass_NoNet : PySem.W.kitOne K (.ref C_NoClass) (.ref C_NoNet) = some false)
    (i_NoClass_NoClass : PySem.W.kitOne K (.ref C_NoClass) (.ref C_NoClass) = some true)
    (i_NoClass_NoTime : PySem.W.kitOne K (.ref C_NoClass) (.ref C_NoTime) = some false)
    (i_NoClass_NoLeft : PySem.W.kitOne K (.ref C_NoClass) (.ref C_NoLeft) = some false)
    (i_NoClass_NoSingle : PySem.W.kitOne K (.ref C_NoClass) (.ref C_NoSingle) = some false)
    (i_NoClass_NoPlan : PySem.W.kitOne K (.ref C_NoClass) (.ref C_NoPlan) = some false)
    (i_NoClass_NoRun : PySem.W.kitOne K (.ref C_NoClass) (.ref C_NoRun) = some false)
    (i_NoClass_NoLimit : PySem.W.kitOne K (.ref C_NoClass) (.ref C_NoLimit) = some false)
    (i_NoClass_NoShow : PySem.W.kitOne K (.ref C_NoClass) (.ref C_NoShow) = some false)
    (i_NoClass_NoAmends : PySem.W.kitOne K (.ref C_NoClass) (.ref C_NoAmends) = some false)
    (i_NoClass_NoPrices : PySem.W.kitOne K (.ref C_NoClass) (.ref C_NoPrices) = some false)
    (i_NoClass_NoLine : PySem.W.kitOne K (.ref C_NoClass) (.ref C_NoLine) = some false)
    (i_NoClass_NoText : PySem.W.kitOne K (.ref C_NoClass) (.ref C_NoText) = some false)
    (i_NoClass_Over : PySem.W.kitOne K (.ref C_NoClass) (.ref C_Over) = some false)
    (i_NoClass_Nothing : PySem.W.kitOne K (.ref C_NoClass) (.ref C_Nothing) = some false)
    (i_NoClass_NoThing : PySem.W.kitOne K (.ref C_NoClass) (.ref C_NoThing) = some true)
    (i_NoClass_NotNow : PySem.W.kitOne K (.ref C_NoClass) (.ref C_NotNow) = some false)
    (i_NoClass_ValueError : PySem.W.kitOne K (.ref C_NoClass) (.type "ValueError") = some true)
    (m_NoClass : PySem.W.exmOne K (.ref C_NoClass) (.ref C_SeatError) = some true)
    (ga_NoTime : PySem.W.findIn K (.ref C_NoTime) "__getattribute__" = some (some (.builtin "BaseException.__getattribute__")))
    (gt_NoTime : PySem.W.findIn K (.ref C_NoTime) "__getattr__" = some none)
    (gc_NoTime : PySem.W.findIn K (.ref C_NoTime) "__class__" = some (some (.builtin "object.__class__")))
    (mo_NoTime : PySem.W.mroIn K C_NoTime (.type "object") = some true)
    (mb_NoTime : PySem.W.mroIn K C_NoTime (.type "BaseException") = some true)
    (i_NoTime_NoNumber : PySem.W.kitOne K (.ref C_NoTime) (.ref C_NoNumber) = some false)
    (i_NoTime_NoSale : PySem.W.kitOne K (.ref C_NoTime) (.ref C_NoSale) = some false)
    (i_NoTime_NoNet : PySem.W.kitOne K (.ref C_NoTime) (.ref C_NoNet) = some false)
    (i_NoTime_NoClass : PySem.W.kitOne K (.ref C_NoTime) (.ref C_NoClass) = some false)
    (i_NoTime_NoTime : PySem.W.kitOne K (.ref C_NoTime) (.ref C_NoTime) = some true)
    (i_NoTime_NoLeft : PySem.W.kitOne K (.ref C_NoTime) (.ref C_NoLeft) = some false)
    (i_NoTime_NoSingle : PySem.W.kitOne K (.ref C_NoTime) (.ref C_NoSingle) = some false)
    (i_NoTime_NoPlan : PySem.W.kitOne K (.ref C_NoTime) (.ref C_NoPlan) = some false)
    (i_NoTime_NoRun : PySem.W.kitOne K (.ref C_NoTime) (.ref C_NoRun) = some false)
    (i_NoTime_NoLimit : PySem.W.kitOne K (.ref C_NoTime) (.ref C_NoLimit) = some false)
    (i_NoTime_NoShow : PySem.W.kitOne K (.ref C_NoTime) (.ref C_NoShow) = some false)
    (i_NoTime_NoAmends : PySem.W.kitOne K (.ref C_NoTime) (.ref C_NoAmends) = some false)
    (i_NoTime_NoPrices : PySem.W.kitOne K (.ref C_NoTime) (.ref C_NoPrices) = some false)
    (i_NoTime_NoLine : PySem.W.kitOne K (.ref C_NoTime) (.ref C_NoLine) = some false)
    (i_NoTime_NoText : PySem.W.kitOne K (.ref C_NoTime) (.ref C_NoText) = some false)
    (i_NoTime_Over : PySem.W.kitOne K (.ref C_NoTime) (.ref C_Over) = some false)
    (i_NoTime_Nothing : PySem.W.kitOne K (.ref C_NoTime) (.ref C_Nothing) = some false)
    (i_NoTime_NoThing : PySem.W.kitOne K (.ref C_NoTime) (.ref C_NoThing) = some true)
    (i_NoTime_NotNow : PySem.W.kitOne K (.ref C_NoTime) (.ref C_NotNow) = some false)
    (i_NoTime_ValueError : PySem.W.kitOne K (.ref C_NoTime) (.type "ValueError") = some true)
    (m_NoTime : PySem.W.exmOne K (.ref C_NoTime) (.ref C_SeatError) = some true)
    (ga_NoLeft : PySem.W.findIn K (.ref C_NoLeft) "__getattribute__" = some (some (.builtin "BaseException.__getattribute__")))
    (gt_NoLeft : PySem.W.findIn K (.ref C_NoLeft) "__getattr__" = some none)
    (gc_NoLeft : PySem.W.findIn K (.ref C_NoLeft) "__class__" = some (some (.builtin "object.__class__")))
    (mo_NoLeft : PySem.W.mroIn K C_NoLeft (.type "object") = some true)
    (mb_NoLeft : PySem.W.mroIn K C_NoLeft (.type "BaseException") = some true)
    (i_NoLeft_NoNumber : PySem.W.kitOne K (.ref C_NoLeft) (.ref C_NoNumber) = some false)
    (i_NoLeft_NoSale : PySem.W.kitOne K (.ref C_NoLeft) (.ref C_NoSale) = some false)
    (i_NoLeft_NoNet : PySem.W.kitOne K (.ref C_NoLeft) (.ref C_NoNet) = some false)
    (i_NoLeft_NoClass : PySem.W.kitOne K (.ref C_NoLeft) (.ref C_NoClass) = some false)
    (i_NoLeft_NoTime : PySem.W.kitOne K (.ref C_NoLeft) (.ref C_NoTime) = some false)
    (i_NoLeft_NoLeft : PySem.W.kitOne K (.ref C_NoLeft) (.ref C_NoLeft) = some true)
    (i_NoLeft_NoSingle : PySem.W.kitOne K (.ref C_NoLeft) (.ref C_NoSingle) = some false)
    (i_NoLeft_NoPlan : PySem.W.kitOne K (.ref C_NoLeft) (.ref C_NoPlan) = some false)
    (i_NoLeft_NoRun : PySem.W.kitOne K (.ref C_NoLeft) (.ref C_NoRun) = some false)
    (i_NoLeft_NoLimit : PySem.W.kitOne K (.ref C_NoLeft) (.ref C_NoLimit) = some false)
    (i_NoLeft_NoShow : PySem.W.kitOne K (.ref C_NoLeft) (.ref C_NoShow) = some false)
    (i_NoLeft_NoAmends : PySem.W.kitOne K (.ref C_NoLeft) (.ref C_NoAmends) = some false)
    (i_NoLeft_NoPrices : PySem.W.kitOne K (.ref C_NoLeft) (.ref C_NoPrices) = some false)
    (i_NoLeft_NoLine : PySem.W.kitOne K (.ref C_NoLeft) (.ref C_NoLine) = some false)
    (i_NoLeft_NoText : PySem.W.kitOne K (.ref C_NoLeft) (.ref C_NoText) = some false)
    (i_NoLeft_Over : PySem.W.kitOne K (.ref C_NoLeft) (.ref C_Over) = some false)
    (i_NoLeft_Nothing : PySem.W.kitOne K (.ref C_NoLeft) (.ref C_Nothing) = some false)
    (i_NoLeft_NoThing : PySem.W.kitOne K (.ref C_NoLeft) (.ref C_NoThing) = some true)
    (i_NoLeft_NotNow : PySem.W.kitOne K (.ref C_NoLeft) (.ref C_NotNow) = some false)
    (i_NoLeft_ValueError : PySem.W.kitOne K (.ref C_NoLeft) (.type "ValueError") = some true)
    (m_NoLeft : PySem.W.exmOne K (.ref C_NoLeft) (.ref C_SeatError) = some true)
    (ga_NoSingle : PySem.W.findIn K (.ref C_NoSingle) "__getattribute__" = some (some (.builtin "BaseException.__getattribute__")))
    (gt_NoSingle : PySem.W.findIn K (.ref C_NoSingle) "__getattr__" = some none)
    (gc_NoSingle : PySem.W.findIn K (.ref C_NoSingle) "__class__" = some (some (.builtin "object.__class__")))
    (mo_NoSingle : PySem.W.mroIn K C_NoSingle (.type "object") = some true)
    (mb_NoSingle : PySem.W.mroIn K C_NoSingle (.type "BaseException") = some true)
    (i_NoSingle_NoNumber : PySem.W.kitOne K (.ref C_NoSingle) (.ref C_NoNumber) = some false)
    (i_NoSingle_NoSale : PySem.W.kitOne K (.ref C_NoSingle) (.ref C_NoSale) = some false)
    (i_NoSingle_NoNet : PySem.W.kitOne K (.ref C_NoSingle) (.ref C_NoNet) = some false)
    (i_NoSingle_NoClass : PySem.W.kitOne K (.ref C_NoSingle) (.ref C_NoClass) = some false)
    (i_NoSingle_NoTime : PySem.W.kitOne K (.ref C_NoSingle) (.ref C_NoTime) = some false)
    (i_NoSingle_NoLeft : PySem.W.kitOne K (.ref C_NoSingle) (.ref C_NoLeft) = some false)
    (i_NoSingle_NoSingle : PySem.W.kitOne K (.ref C_NoSingle) (.ref C_NoSingle) = some true)
    (i_NoSingle_NoPlan : PySem.W.kitOne K (.ref C_NoSingle) (.ref C_NoPlan) = some false)
    (i_NoSingle_NoRun : PySem.W.kitOne K (.ref C_NoSingle) (.ref C_NoRun) = some false)
    (i_NoSingle_NoLimit : PySem.W.kitOne K (.ref C_NoSingle) (.ref C_NoLimit) = some false)
    (i_NoSingle_NoShow : PySem.W.kitOne K (.ref C_NoSingle) (.ref C_NoShow) = some false)
    (i_NoSingle_NoAmends : PySem.W.kitOne K (.ref C_NoSingle) (.ref C_NoAmends) = some false)
    (i_NoSingle_NoPrices : PySem.W.kitOne K (.ref C_NoSingle) (.ref C_NoPrices) = some false)
    (i_NoSingle_NoLine : PySem.W.kitOne K (.ref C_NoSingle) (.ref C_NoLine) = some false)
    (i_NoSingle_NoText : PySem.W.kitOne K (.ref C_NoSingle) (.ref C_NoText) = some false)
    (i_NoSingle_Over : PySem.W.kitOne K (.ref C_NoSingle) (.ref C_Over) = some false)
    (i_NoSingle_Nothing : PySem.W.kitOne K (.ref C_NoSingle) (.ref C_Nothing) = some false)
    (i_NoSingle_NoThing : PySem.W.kitOne K (.ref C_NoSingle) (.ref C_NoThing) = some true)
    (i_NoSingle_NotNow : PySem.W.kitOne K (.ref C_NoSingle) (.ref C_NotNow) = some false)
    (i_NoSingle_ValueError : PySem.W.kitOne K (.ref C_NoSingle) (.type "ValueError") = some true)
    (m_NoSingle : PySem.W.exmOne K (.ref C_NoSingle) (.ref C_SeatError) = some true)
    (sp_ : PySem.W.specialIn K (.builtin "object.__class__") "__get__" = some (some (.builtin "getset_descriptor.__get__")))
    (tk_ : PySem.W.takesIn K (.builtin "object.__class__") = some true)
    (hcd : PySem.W.codeHdIn K cc Pt = true)
    (hnt : PySem.W.noTabs K = true)
    : ∃ fd : FuncData, ((∀ p ∈ ([(Pt, "_law_words.<locals>.<lambda>")] : List (Addr × Str)), ∃ c, PySem.W.codeHdIn K c p.1 = true) ∧ (([(Pt, "_law_words.<locals>.<lambda>")] : List (Addr × Str)) = [] ∨ PySem.W.noTabs K = true)) ∧ (∀ (s : Shared) (v : Value), BindsTo s fd ⟨[v], []⟩ [("_law_script", v)]) ∧ ∀ base : Heap, ModB K mg base → FnOk l.prog w K mg base (CXE l.prog w) 16 fa fd ["_law_script"] (spD K (gLawT [(Pt, "_law_words.<locals>.<lambda>")])) := by
  have e := hfa.symm.trans (PySem.W.mg_of X G a33)
  cases e
  have T : Bl mg := ⟨PySem.W.mg_none_of X G z_ValueError, PySem.W.mg_none_of X G z_all, PySem.W.mg_none_of X G z_bool, PySem.W.mg_none_of X G z_enumerate, PySem.W.mg_none_of X G z_int, PySem.W.mg_none_of X G z_isinstance, PySem.W.mg_none_of X G z_len, PySem.W.mg_none_of X G z_list, PySem.W.mg_none_of X G z_max, PySem.W.mg_none_of X G z_min, PySem.W.mg_none_of X G z_range, PySem.W.mg_none_of X G z_repr, PySem.W.mg_none_of X G z_sum, PySem.W.mg_none_of X G z_tuple, ⟨tk_MOST_SEATS, PySem.W.mg_of X G v_MOST_SEATS⟩, ⟨tk_MOST_PERIODS, PySem.W.mg_of X G v_MOST_PERIODS⟩, ⟨tk_MOST_CASES, PySem.W.mg_of X G v_MOST_CASES⟩, ⟨tk_MOST_CLASSES, PySem.W.mg_of X G v_MOST_CLASSES⟩, ⟨tk_MOST_FARE, PySem.W.mg_of X G v_MOST_FARE⟩, ⟨tk_MOST_SIZE, PySem.W.mg_of X G v_MOST_SIZE⟩⟩
  have hX : XF K rows := by
    refine List.forall_mem_cons.mpr ⟨?_, List.forall_mem_cons.mpr ⟨?_, List.forall_mem_cons.mpr ⟨?_, List.forall_mem_cons.mpr ⟨?_, List.forall_mem_cons.mpr ⟨?_, fun _ z => nomatch z⟩⟩⟩⟩⟩
    · refine ⟨C_NoSale, n_NoSale, ⟨ga_NoSale, gt_NoSale, gc_NoSale, sp_, tk_, mo_NoSale, mb_NoSale⟩, ?_, ?_⟩
      · exact List.forall_mem_cons.mpr ⟨⟨C_NoNumber, n_NoNumber, i_NoSale_NoNumber⟩, List.forall_mem_cons.mpr ⟨⟨C_NoSale, n_NoSale, i_NoSale_NoSale⟩, List.forall_mem_cons.mpr ⟨⟨C_NoNet, n_NoNet, i_NoSale_NoNet⟩, List.forall_mem_cons.mpr ⟨⟨C_NoClass, n_NoClass, i_NoSale_NoClass⟩, List.forall_mem_cons.mpr ⟨⟨C_NoTime, n_NoTime, i_NoSale_NoTime⟩, List.forall_mem_cons.mpr ⟨⟨C_NoLeft, n_NoLeft, i_NoSale_NoLeft⟩, List.forall_mem_cons.mpr ⟨⟨C_NoSingle, n_NoSingle, i_NoSale_NoSingle⟩, List.forall_mem_cons.mpr ⟨⟨C_NoPlan, n_NoPlan, i_NoSale_NoPlan⟩, List.forall_mem_cons.mpr ⟨⟨C_NoRun, n_NoRun, i_NoSale_NoRun⟩, List.forall_mem_cons.mpr ⟨⟨C_NoLimit, n_NoLimit, i_NoSale_NoLimit⟩, List.forall_mem_cons.mpr ⟨⟨C_NoShow, n_NoShow, i_NoSale_NoShow⟩, List.forall_mem_cons.mpr ⟨⟨C_NoAmends, n_NoAmends, i_NoSale_NoAmends⟩, List.forall_mem_cons.mpr ⟨⟨C_NoPrices, n_NoPrices, i_NoSale_NoPrices⟩, List.forall_mem_cons.mpr ⟨⟨C_NoLine, n_NoLine, i_NoSale_NoLine⟩, List.forall_mem_cons.mpr ⟨⟨C_NoText, n_NoText, i_NoSale_NoText⟩, List.forall_mem_cons.mpr ⟨⟨C_Over, n_Over, i_NoSale_Over⟩, List.forall_mem_cons.mpr ⟨⟨C_Nothing, n_Nothing, i_NoSale_Nothing⟩, List.forall_mem_cons.mpr ⟨⟨C_NoThing, n_NoThing, i_NoSale_NoThing⟩, List.forall_mem_cons.mpr ⟨⟨C_NotNow, n_NotNow, i_NoSale_NotNow⟩, fun _ z => nomatch z⟩⟩⟩⟩⟩⟩⟩⟩⟩⟩⟩⟩⟩⟩⟩⟩⟩⟩⟩
      · exact List.forall_mem_cons.mpr ⟨i_NoSale_ValueError, fun _ z => nomatch z⟩
    · refine ⟨C_NoClass, n_NoClass, ⟨ga_NoClass, gt_NoClass, gc_NoClass, sp_, tk_, mo_NoClass, mb_NoClass⟩, ?_, ?_⟩
      · exact List.forall_mem_cons.mpr ⟨⟨C_NoNumber, n_NoNumber, i_NoClass_NoNumber⟩, List.forall_mem_cons.mpr ⟨⟨C_NoSale, n_NoSale, i_NoClass_NoSale⟩, List.forall_mem_cons.mpr ⟨⟨C_NoNet, n_NoNet, i_NoClass_NoNet⟩, List.forall_mem_cons.mpr ⟨⟨C_NoClass, n_NoClass, i_NoClass_NoClass⟩, List.forall_mem_cons.mpr ⟨⟨C_NoTime, n_NoTime, i_NoClass_NoTime⟩, List.forall_mem_cons.mpr ⟨⟨C_NoLeft, n_NoLeft, i_NoClass_NoLeft⟩, List.forall_mem_cons.mpr ⟨⟨C_NoSingle, n_NoSingle, i_NoClass_NoSingle⟩, List.forall_mem_cons.mpr ⟨⟨C_NoPlan, n_NoPlan, i_NoClass_NoPlan⟩, List.forall_mem_cons.mpr ⟨⟨C_NoRun, n_NoRun, i_NoClass_NoRun⟩, List.forall_mem_cons.mpr ⟨⟨C_NoLimit, n_NoLimit, i_NoClass_NoLimit⟩, List.forall_mem_cons.mpr ⟨⟨C_NoShow, n_NoShow, i_NoClass_NoShow⟩, List.forall_mem_cons.mpr ⟨⟨C_NoAmends, n_NoAmends, i_NoClass_NoAmends⟩, List.forall_mem_cons.mpr ⟨⟨C_NoPrices, n_NoPrices, i_NoClass_NoPrices⟩, List.forall_mem_cons.mpr ⟨⟨C_NoLine, n_NoLine, i_NoClass_NoLine⟩, List.forall_mem_cons.mpr ⟨⟨C_NoText, n_NoText, i_NoClass_NoText⟩, List.forall_mem_cons.mpr ⟨⟨C_Over, n_Over, i_NoClass_Over⟩, List.forall_mem_cons.mpr ⟨⟨C_Nothing, n_Nothing, i_NoClass_Nothing⟩, List.forall_mem_cons.mpr ⟨⟨C_NoThing, n_NoThing, i_NoClass_NoThing⟩, List.forall_mem_cons.mpr ⟨⟨C_NotNow, n_NotNow, i_NoClass_NotNow⟩, fun _ z => nomatch z⟩⟩⟩⟩⟩⟩⟩⟩⟩⟩⟩⟩⟩⟩⟩⟩⟩⟩⟩
      · exact List.forall_mem_cons.mpr ⟨i_NoClass_ValueError, fun _ z => nomatch z⟩
    · refine ⟨C_NoTime, n_NoTime, ⟨ga_NoTime, gt_NoTime, gc_NoTime, sp_, tk_, mo_NoTime, mb_NoTime⟩, ?_, ?_⟩
      · exact List.forall_mem_cons.mpr ⟨⟨C_NoNumber, n_NoNumber, i_NoTime_NoNumber⟩, List.forall_mem_cons.mpr ⟨⟨C_NoSale, n_NoSale, i_NoTime_NoSale⟩, List.forall_mem_cons.mpr ⟨⟨C_NoNet, n_NoNet, i_NoTime_NoNet⟩, List.forall_mem_cons.mpr ⟨⟨C_NoClass, n_NoClass, i_NoTime_NoClass⟩, List.forall_mem_cons.mpr ⟨⟨C_NoTime, n_NoTime, i_NoTime_NoTime⟩, List.forall_mem_cons.mpr ⟨⟨C_NoLeft, n_NoLeft, i_NoTime_NoLeft⟩, List.forall_mem_cons.mpr ⟨⟨C_NoSingle, n_NoSingle, i_NoTime_NoSingle⟩, List.forall_mem_cons.mpr ⟨⟨C_NoPlan, n_NoPlan, i_NoTime_NoPlan⟩, List.forall_mem_cons.mpr ⟨⟨C_NoRun, n_NoRun, i_NoTime_NoRun⟩, List.forall_mem_cons.mpr ⟨⟨C_NoLimit, n_NoLimit, i_NoTime_NoLimit⟩, List.forall_mem_cons.mpr ⟨⟨C_NoShow, n_NoShow, i_NoTime_NoShow⟩, List.forall_mem_cons.mpr ⟨⟨C_NoAmends, n_NoAmends, i_NoTime_NoAmends⟩, List.forall_mem_cons.mpr ⟨⟨C_NoPrices, n_NoPrices, i_NoTime_NoPrices⟩, List.forall_mem_cons.mpr ⟨⟨C_NoLine, n_NoLine, i_NoTime_NoLine⟩, List.forall_mem_cons.mpr ⟨⟨C_NoText, n_NoText, i_NoTime_NoText⟩, List.forall_mem_cons.mpr ⟨⟨C_Over, n_Over, i_NoTime_Over⟩, List.forall_mem_cons.mpr ⟨⟨C_Nothing, n_Nothing, i_NoTime_Nothing⟩, List.forall_mem_cons.mpr ⟨⟨C_NoThing, n_NoThing, i_NoTime_NoThing⟩, List.forall_mem_cons.mpr ⟨⟨C_NotNow, n_NotNow, i_NoTime_NotNow⟩, fun _ z => nomatch z⟩⟩⟩⟩⟩⟩⟩⟩⟩⟩⟩⟩⟩⟩⟩⟩⟩⟩⟩
      · exact List.forall_mem_cons.mpr ⟨i_NoTime_ValueError, fun _ z => nomatch z⟩
    · refine ⟨C_NoLeft, n_NoLeft, ⟨ga_NoLeft, gt_NoLeft, gc_NoLeft, sp_, tk_, mo_NoLeft, mb_NoLeft⟩, ?_, ?_⟩
      · exact List.forall_mem_cons.mpr ⟨⟨C_NoNumber, n_NoNumber, i_NoLeft_NoNumber⟩, List.forall_mem_cons.mpr ⟨⟨C_NoSale, n_NoSale, i_NoLeft_NoSale⟩, List.forall_mem_cons.mpr ⟨⟨C_NoNet, n_NoNet, i_NoLeft_NoNet⟩, List.forall_mem_cons.mpr ⟨⟨C_NoClass, n_NoClass, i_NoLeft_NoClass⟩, List.forall_mem_cons.mpr ⟨⟨C_NoTime, n_NoTime, i_NoLeft_NoTime⟩, List.forall_mem_cons.mpr ⟨⟨C_NoLeft, n_NoLeft, i_NoLeft_NoLeft⟩, List.forall_mem_cons.mpr ⟨⟨C_NoSingle, n_NoSingle, i_NoLeft_NoSingle⟩, List.forall_mem_cons.mpr ⟨⟨C_NoPlan, n_NoPlan, i_NoLeft_NoPlan⟩, List.forall_mem_cons.mpr ⟨⟨C_NoRun, n_NoRun, i_NoLeft_NoRun⟩, List.forall_mem_cons.mpr ⟨⟨C_NoLimit, n_NoLimit, i_NoLeft_NoLimit⟩, List.forall_mem_cons.mpr ⟨⟨C_NoShow, n_NoShow, i_NoLeft_NoShow⟩, List.forall_mem_cons.mpr ⟨⟨C_NoAmends, n_NoAmends, i_NoLeft_NoAmends⟩, List.forall_mem_cons.mpr ⟨⟨C_NoPrices, n_NoPrices, i_NoLeft_NoPrices⟩, List.forall_mem_cons.mpr ⟨⟨C_NoLine, n_NoLine, i_NoLeft_NoLine⟩, List.forall_mem_cons.mpr ⟨⟨C_NoText, n_NoText, i_NoLeft_NoText⟩, List.forall_mem_cons.mpr ⟨⟨C_Over, n_Over, i_NoLeft_Over⟩, List.forall_mem_cons.mpr ⟨⟨C_Nothing, n_Nothing, i_NoLeft_Nothing⟩, List.forall_mem_cons.mpr ⟨⟨C_NoThing, n_NoThing, i_NoLeft_NoThing⟩, List.forall_mem_cons.mpr ⟨⟨C_NotNow, n_NotNow, i_NoLeft_NotNow⟩, fun _ z => nomatch z⟩⟩⟩⟩⟩⟩⟩⟩⟩⟩⟩⟩⟩⟩⟩⟩⟩⟩⟩
      · exact List.forall_mem_cons.mpr ⟨i_NoLeft_ValueError, fun _ z => nomatch z⟩
    · refine ⟨C_NoSingle, n_NoSingle, ⟨ga_NoSingle, gt_NoSingle, gc_NoSingle, sp_, tk_, mo_NoSingle, mb_NoSingle⟩, ?_, ?_⟩
      · exact List.forall_mem_cons.mpr ⟨⟨C_NoNumber, n_NoNumber, i_NoSingle_NoNumber⟩, List.forall_mem_cons.mpr ⟨⟨C_NoSale, n_NoSale, i_NoSingle_NoSale⟩, List.forall_mem_cons.mpr ⟨⟨C_NoNet, n_NoNet, i_NoSingle_NoNet⟩, List.forall_mem_cons.mpr ⟨⟨C_NoClass, n_NoClass, i_NoSingle_NoClass⟩, List.forall_mem_cons.mpr ⟨⟨C_NoTime, n_NoTime, i_NoSingle_NoTime⟩, List.forall_mem_cons.mpr ⟨⟨C_NoLeft, n_NoLeft, i_NoSingle_NoLeft⟩, List.forall_mem_cons.mpr ⟨⟨C_NoSingle, n_NoSingle, i_NoSingle_NoSingle⟩, List.forall_mem_cons.mpr ⟨⟨C_NoPlan, n_NoPlan, i_NoSingle_NoPlan⟩, List.forall_mem_cons.mpr ⟨⟨C_NoRun, n_NoRun, i_NoSingle_NoRun⟩, List.forall_mem_cons.mpr ⟨⟨C_NoLimit, n_NoLimit, i_NoSingle_NoLimit⟩, List.forall_mem_cons.mpr ⟨⟨C_NoShow, n_NoShow, i_NoSingle_NoShow⟩, List.forall_mem_cons.mpr ⟨⟨C_NoAmends, n_NoAmends, i_NoSingle_NoAmends⟩, List.forall_mem_cons.mpr ⟨⟨C_NoPrices, n_NoPrices, i_NoSingle_NoPrices⟩, List.forall_mem_cons.mpr ⟨⟨C_NoLine, n_NoLine, i_NoSingle_NoLine⟩, List.forall_mem_cons.mpr ⟨⟨C_NoText, n_NoText, i_NoSingle_NoText⟩, List.forall_mem_cons.mpr ⟨⟨C_Over, n_Over, i_NoSingle_Over⟩, List.forall_mem_cons.mpr ⟨⟨C_Nothing, n_Nothing, i_NoSingle_Nothing⟩, List.forall_mem_cons.mpr ⟨⟨C_NoThing, n_NoThing, i_NoSingle_NoThing⟩, List.forall_mem_cons.mpr ⟨⟨C_NotNow, n_NotNow, i_NoSingle_NotNow⟩, fun _ z => nomatch z⟩⟩⟩⟩⟩⟩⟩⟩⟩⟩⟩⟩⟩⟩⟩⟩⟩⟩⟩
      · exact List.forall_mem_cons.mpr ⟨i_NoSingle_ValueError, fun _ z => nomatch z⟩
  have X_ : Fx K mg := ⟨⟨C_NoNumber, n_NoNumber, PySem.W.mg_of X G n_NoNumber⟩, ⟨C_NoSale, n_NoSale, PySem.W.mg_of X G n_NoSale⟩, ⟨C_NoNet, n_NoNet, PySem.W.mg_of X G n_NoNet⟩, ⟨C_NoClass, n_NoClass, PySem.W.mg_of X G n_NoClass⟩, ⟨C_NoTime, n_NoTime, PySem.W.mg_of X G n_NoTime⟩, ⟨C_NoLeft, n_NoLeft, PySem.W.mg_of X G n_NoLeft⟩, ⟨C_NoSingle, n_NoSingle, PySem.W.mg_of X G n_NoSingle⟩, ⟨C_NoPlan, n_NoPlan, PySem.W.mg_of X G n_NoPlan⟩, ⟨C_NoRun, n_NoRun, PySem.W.mg_of X G n_NoRun⟩, ⟨C_NoLimit, n_NoLimit, PySem.W.mg_of X G n_NoLimit⟩, ⟨C_NoShow, n_NoShow, PySem.W.mg_of X G n_NoShow⟩, ⟨C_NoAmends, n_NoAmends, PySem.W.mg_of X G n_NoAmends⟩, ⟨C_NoPrices, n_NoPrices, PySem.W.mg_of X G n_NoPrices⟩, ⟨C_NoLine, n_NoLine, PySem.W.mg_of X G n_NoLine⟩, ⟨C_NoText, n_NoText, PySem.W.mg_of X G n_NoText⟩, ⟨C_Over, n_Over, PySem.W.mg_of X G n_Over⟩, ⟨C_Nothing, n_Nothing, PySem.W.mg_of X G n_Nothing⟩, ⟨C_NoThing, n_NoThing, PySem.W.mg_of X G n_NoThing⟩, ⟨C_NotNow, n_NotNow, PySem.W.mg_of X G n_NotNow⟩, ⟨C_NoSale, n_NoSale, PySem.W.mg_of X G n_NoSale, x_NoSale⟩, ⟨C_NoClass, n_NoClass, PySem.W.mg_of X G n_NoClass, x_NoClass⟩, ⟨C_NoTime, n_NoTime, PySem.W.mg_of X G n_NoTime, x_NoTime⟩, ⟨C_NoSingle, n_NoSingle, PySem.W.mg_of X G n_NoSingle, x_NoSingle⟩, ⟨C_NoLeft, n_NoLeft, PySem.W.mg_of X G n_NoLeft, x_NoLeft⟩, ⟨C_NoNumber, n_NoNumber, PySem.W.mg_of X G n_NoNumber, x_NoNumber⟩, hX⟩
  have U0 := fun_mk (st := s_law_cell_at) l0 c0 k0
  have U1 := fun_mk (st := s_law_state) l1 c1 k1
  have U2 := fun_mk (st := s_law_take) l2 c2 k2
  have U3 := fun_mk (st := s_law_offers) l3 c3 k3
  have U4 := fun_mk (st := s_law_sale) l4 c4 k4
  have U5 := fun_mk (st := s_law_no_sales) l5 c5 k5
  have U6 := fun_mk (st := s_is_whole) l6 c6 k6
  have U7 := fun_mk (st := s_is_between) l7 c7 k7
  have U8 := fun_mk (st := s_is_class) l8 c8 k8
  have U9 := fun_mk (st := s_are_classes) l9 c9 k9
  have U10 := fun_mk (st := s_is_sale) l10 c10 k10
  have U11 := fun_mk (st := s_need_sale) l11 c11 k11
  have U12 := fun_mk (st := s_need_class) l12 c12 k12
  have U13 := funD_mk (st := s_need_time) l13 c13 k13 t13
  have U14 := fun_mk (st := s_can_sell) l14 c14 k14
  have U15 := fun_mk (st := s_sold_gain) l15 c15 k15
  have U16 := fun_mk (st := s_best_gain) l16 c16 k16
  have U17 := fun_mk (st := s_level_before) l17 c17 k17
  have U18 := fun_mk (st := s_levels_from) l18 c18 k18
  have U19 := fun_mk (st := s_nought_level) l19 c19 k19
  have U20 := fun_mk (st := s_worth_levels) l20 c20 k20
  have U21 := fun_mk (st := s_is_opened) l21 c21 k21
  have U22 := fun_mk (st := s_opened) l22 c22 k22
  have U23 := fun_mk (st := s_mark) l23 c23 k23
  have U24 := funD_mk (st := s_need_left) l24 c24 k24 t24
  have U25 := fun_mk (st := s_greatest_divisor) l25 c25 k25
  have U26 := fun_mk (st := s_can_divide) l26 c26 k26
  have U27 := fun_mk (st := s_fraction) l27 c27 k27
  have U28 := fun_mk (st := s_seat_worth) l28 c28 k28
  have U29 := fun_mk (st := s_law_word) l29 c29 k29
  have U30 := fun_mk (st := s_law_said) l30 c30 k30
  have U31 := fun_mk (st := s_law_words) l31 c31 k31
  have U32 := fun_mk (st := s_law_odd) l32 c32 k32
  have U33 := fun_mk (st := s_law) l33 c33 k33
  have b100 := U0.binds (ps := ["_law_script", "_law_k"]) fun _ _ _ _ _ _ us hl => match us, hl with | [_, _], _ => rfl
  have b101 := U1.binds (ps := ["_law_script", "_law_k"]) fun _ _ _ _ _ _ us hl => match us, hl with | [_, _], _ => rfl
  have b102 := U2.binds (ps := ["_law_state_here", "_law_far"]) fun _ _ _ _ _ _ us hl => match us, hl with | [_, _], _ => rfl
  have b103 := U3.binds (ps := ["_law_state_here", "_law_cases", "_law_size", "_law_fare"]) fun _ _ _ _ _ _ us hl => match us, hl with | [_, _, _, _], _ => rfl
  have b104 := U4.binds (ps := ["_law_state_here", "_law_seats", "_law_periods", "_law_size"]) fun _ _ _ _ _ _ us hl => match us, hl with | [_, _, _, _], _ => rfl
  have b105 := U5.binds (ps := ["_law_deal"]) fun _ _ _ _ _ _ us hl => match us, hl with | [_], _ => rfl
  have b106 := U6.binds (ps := ["thing"]) fun _ _ _ _ _ _ us hl => match us, hl with | [_], _ => rfl
  have b107 := U7.binds (ps := ["thing", "least", "most"]) fun _ _ _ _ _ _ us hl => match us, hl with | [_, _, _], _ => rfl
  have b108 := U8.binds (ps := ["thing"]) fun _ _ _ _ _ _ us hl => match us, hl with | [_], _ => rfl
  have b109 := U9.binds (ps := ["thing", "cases"]) fun _ _ _ _ _ _ us hl => match us, hl with | [_, _], _ => rfl
  have b110 := U10.binds (ps := ["thing"]) fun _ _ _ _ _ _ us hl => match us, hl with | [_], _ => rfl
  have b111 := U11.binds (ps := ["thing"]) fun _ _ _ _ _ _ us hl => match us, hl with | [_], _ => rfl
  have b112 := U12.binds (ps := ["sale", "number"]) fun _ _ _ _ _ _ us hl => match us, hl with | [_, _], _ => rfl
  have b113 := U13.binds (ps := ["sale", "time", "least"]) fun _ _ _ _ _ _ _ us hl => match us, hl with | [_, _, _], _ => ⟨_, rfl, rfl⟩
  have b213 := U13.bindsD (ps := ["sale", "time", "least"]) fun _ _ _ _ _ _ _ us hl => match us, hl with | [_, _], _ => ⟨_, rfl, rfl⟩
  have b114 := U14.binds (ps := ["kind", "left"]) fun _ _ _ _ _ _ us hl => match us, hl with | [_, _], _ => rfl
  have b115 := U15.binds (ps := ["kind", "left", "later"]) fun _ _ _ _ _ _ us hl => match us, hl with | [_, _, _], _ => rfl
  have b116 := U16.binds (ps := ["kind", "left", "later"]) fun _ _ _ _ _ _ us hl => match us, hl with | [_, _, _], _ => rfl
  have b117 := U17.binds (ps := ["cases", "classes", "later"]) fun _ _ _ _ _ _ us hl => match us, hl with | [_, _, _], _ => rfl
  have b118 := U18.binds (ps := ["cases", "classes", "last", "time"]) fun _ _ _ _ _ _ us hl => match us, hl with | [_, _, _, _], _ => rfl
  have b119 := U19.binds (ps := ["seats"]) fun _ _ _ _ _ _ us hl => match us, hl with | [_], _ => rfl
  have b120 := U20.binds (ps := ["sale", "time"]) fun _ _ _ _ _ _ us hl => match us, hl with | [_, _], _ => rfl
  have b121 := U21.binds (ps := ["kind", "left", "later"]) fun _ _ _ _ _ _ us hl => match us, hl with | [_, _, _], _ => rfl
  have b122 := U22.binds (ps := ["sale", "number", "time"]) fun _ _ _ _ _ _ us hl => match us, hl with | [_, _, _], _ => rfl
  have b123 := U23.binds (ps := ["sale", "number", "time"]) fun _ _ _ _ _ _ us hl => match us, hl with | [_, _, _], _ => rfl
  have b124 := U24.binds (ps := ["sale", "left", "least"]) fun _ _ _ _ _ _ _ us hl => match us, hl with | [_, _, _], _ => ⟨_, rfl, rfl⟩
  have b224 := U24.bindsD (ps := ["sale", "left", "least"]) fun _ _ _ _ _ _ _ us hl => match us, hl with | [_, _], _ => ⟨_, rfl, rfl⟩
  have b125 := U25.binds (ps := ["top", "bottom"]) fun _ _ _ _ _ _ us hl => match us, hl with | [_, _], _ => rfl
  have b126 := U26.binds (ps := ["top", "bottom"]) fun _ _ _ _ _ _ us hl => match us, hl with | [_, _], _ => rfl
  have b127 := U27.binds (ps := ["top", "bottom"]) fun _ _ _ _ _ _ us hl => match us, hl with | [_, _], _ => rfl
  have b128 := U28.binds (ps := ["sale", "time", "left"]) fun _ _ _ _ _ _ us hl => match us, hl with | [_, _, _], _ => rfl
  have b129 := U29.binds (ps := ["_law_e"]) fun _ _ _ _ _ _ us hl => match us, hl with | [_], _ => rfl
  have b130 := U30.binds (ps := ["_law_call"]) fun _ _ _ _ _ _ us hl => match us, hl with | [_], _ => rfl
  have b131 := U31.binds (ps := ["_law_deal", "_law_which", "_law_when", "_law_here"]) fun _ _ _ _ _ _ us hl => match us, hl with | [_, _, _, _], _ => rfl
  have b132 := U32.binds (ps := ["_law_state_here"]) fun _ _ _ _ _ _ us hl => match us, hl with | [_], _ => rfl
  have G0 : ∀ base, ModB K mg base → FnOk l.prog w K mg base (CXE l.prog w) 5 f0 _ ["_law_script", "_law_k"] (spD K g_law_cell_at) := fun base M => fn_deep U0 sc_law_cell_at (fun ds E S Q h => by obtain ⟨_, _, rfl, _⟩ := h; rfl) (fun cdv A outer s H E _ hr => body_law_cell_at T X_ M hr) (fun ds E S Q h => ok_law_cell_at ds E S Q h)
  have I_law_cell_at : ∀ base, ModB K mg base → FnI l.prog w K mg base 5 "_law_cell_at" 2 g_law_cell_at := fun base M => fnI_of U0 rfl (PySem.W.mg_of X G a0) b100 (G0 base M) mo_law_cell_at
  have G1 : ∀ base, ModB K mg base → FnOk l.prog w K mg base (CXE l.prog w) 6 f1 _ ["_law_script", "_law_k"] (spD K g_law_state) := fun base M => fn_deep U1 sc_law_state (fun ds E S Q h => by obtain ⟨_, _, rfl, _⟩ := h; rfl) (fun cdv A outer s H E _ hr => body_law_state T X_ M I_law_cell_at hr) (fun ds E S Q h => ok_law_state ds E S Q h)
  have I_law_state : ∀ base, ModB K mg base → FnI l.prog w K mg base 6 "_law_state" 2 g_law_state := fun base M => fnI_of U1 rfl (PySem.W.mg_of X G a1) b101 (G1 base M) mo_law_state
  have G2 : ∀ base, ModB K mg base → FnOk l.prog w K mg base (CXE l.prog w) 5 f2 _ ["_law_state_here", "_law_far"] (spD K g_law_take) := fun base M => fn_deep U2 sc_law_take (fun ds E S Q h => by obtain ⟨_, _, rfl, _⟩ := h; rfl) (fun cdv A outer s H E _ hr => body_law_take T X_ M hr) (fun ds E S Q h => ok_law_take ds E S Q h)
  have I_law_take : ∀ base, ModB K mg base → FnI l.prog w K mg base 5 "_law_take" 2 g_law_take := fun base M => fnI_of U2 rfl (PySem.W.mg_of X G a2) b102 (G2 base M) mo_law_take
  have G3 : ∀ base, ModB K mg base → FnOk l.prog w K mg base (CXE l.prog w) 6 f3 _ ["_law_state_here", "_law_cases", "_law_size", "_law_fare"] (spD K g_law_offers) := fun base M => fn_deep U3 sc_law_offers (fun ds E S Q h => by obtain ⟨_, _, _, _, rfl, _⟩ := h; rfl) (fun cdv A outer s H E _ hr => body_law_offers T X_ M I_law_take hr) (fun ds E S Q h => ok_law_offers ds E S Q h)
  have I_law_offers : ∀ base, ModB K mg base → FnI l.prog w K mg base 6 "_law_offers" 4 g_law_offers := fun base M => fnI_of U3 rfl (PySem.W.mg_of X G a3) b103 (G3 base M) mo_law_offers
  have G4 : ∀ base, ModB K mg base → FnOk l.prog w K mg base (CXE l.prog w) 7 f4 _ ["_law_state_here", "_law_seats", "_law_periods", "_law_size"] (spD K g_law_sale) := fun base M => fn_deep U4 sc_law_sale (fun ds E S Q h => by obtain ⟨_, _, _, _, rfl, _⟩ := h; rfl) (fun cdv A outer s H E _ hr => body_law_sale T X_ M I_law_take I_law_offers hr) (fun ds E S Q h => ok_law_sale ds E S Q h)
  have I_law_sale : ∀ base, ModB K mg base → FnI l.prog w K mg base 7 "_law_sale" 4 g_law_sale := fun base M => fnI_of U4 rfl (PySem.W.mg_of X G a4) b104 (G4 base M) mo_law_sale
  have G5 : ∀ base, ModB K mg base → FnOk l.prog w K mg base (CXE l.prog w) 5 f5 _ ["_law_deal"] (spD K g_law_no_sales) := fun base M => fn_deep U5 sc_law_no_sales (fun ds E S Q h => by obtain ⟨_, _, _, _, rfl, _⟩ := h; rfl) (fun cdv A outer s H E _ hr => body_law_no_sales T X_ M hr) (fun ds E S Q h => ok_law_no_sales ds E S Q h)
  have I_law_no_sales : ∀ base, ModB K mg base → FnI l.prog w K mg base 5 "_law_no_sales" 1 g_law_no_sales := fun base M => fnI_of U5 rfl (PySem.W.mg_of X G a5) b105 (G5 base M) mo_law_no_sales
  have G6 : ∀ base, ModB K mg base → FnOk l.prog w K mg base (CXE l.prog w) 5 f6 _ ["thing"] (spD K g_is_whole) := fun base M => fn_deep U6 sc_is_whole (fun ds E S Q h => by obtain ⟨_, rfl, _⟩ := h; rfl) (fun cdv A outer s H E _ hr => body_is_whole T X_ M hr) (fun ds E S Q h => ok_is_whole ds E S Q h)
  have I_is_whole : ∀ base, ModB K mg base → FnI l.prog w K mg base 5 "is_whole" 1 g_is_whole := fun base M => fnI_of U6 rfl (PySem.W.mg_of X G a6) b106 (G6 base M) mo_is_whole
  have G7 : ∀ base, ModB K mg base → FnOk l.prog w K mg base (CXE l.prog w) 6 f7 _ ["thing", "least", "most"] (spD K g_is_between) := fun base M => fn_deep U7 sc_is_between (fun ds E S Q h => by obtain ⟨_, _, _, rfl, _⟩ := h; rfl) (fun cdv A outer s H E _ hr => body_is_between T X_ M I_is_whole hr) (fun ds E S Q h => ok_is_between ds E S Q h)
  have I_is_between : ∀ base, ModB K mg base → FnI l.prog w K mg base 6 "is_between" 3 g_is_between := fun base M => fnI_of U7 rfl (PySem.W.mg_of X G a7) b107 (G7 base M) mo_is_between
  have G8 : ∀ base, ModB K mg base → FnOk l.prog w K mg base (CXE l.prog w) 7 f8 _ ["thing"] (spD K g_is_class) := fun base M => fn_deep U8 sc_is_class (fun ds E S Q h => by obtain ⟨_, rfl, _⟩ := h; rfl) (fun cdv A outer s H E _ hr => body_is_class T X_ M I_is_between I_is_whole hr) (fun ds E S Q h => ok_is_class ds E S Q h)
  have I_is_class : ∀ base, ModB K mg base → FnI l.prog w K mg base 7 "is_class" 1 g_is_class := fun base M => fnI_of U8 rfl (PySem.W.mg_of X G a8) b108 (G8 base M) mo_is_class
  have G9 : ∀ base, ModB K mg base → FnOk l.prog w K mg base (CXE l.prog w) 8 f9 _ ["thing", "cases"] (spD K g_are_classes) := fun base M => fn_deep U9 sc_are_classes (fun ds E S Q h => by obtain ⟨_, _, rfl, _⟩ := h; rfl) (fun cdv A outer s H E _ hr => body_are_classes T X_ M I_is_class hr) (fun ds E S Q h => ok_are_classes ds E S Q h)
  have I_are_classes : ∀ base, ModB K mg base → FnI l.prog w K mg base 8 "are_classes" 2 g_are_classes := fun base M => fnI_of U9 rfl (PySem.W.mg_of X G a9) b109 (G9 base M) mo_are_classes
  have G10 : ∀ base, ModB K mg base → FnOk l.prog w K mg base (CXE l.prog w) 9 f10 _ ["thing"] (spD K g_is_sale) := fun base M => fn_deep U10 sc_is_sale (fun ds E S Q h => by obtain ⟨_, rfl, _⟩ := h; rfl) (fun cdv A outer s H E _ hr => body_is_sale T X_ M I_is_between I_are_classes hr) (fun ds E S Q h => ok_is_sale ds E S Q h)
  have I_is_sale : ∀ base, ModB K mg base → FnI l.prog w K mg base 9 "is_sale" 1 g_is_sale := fun base M => fnI_of U10 rfl (PySem.W.mg_of X G a10) b110 (G10 base M) mo_is_sale
  have G11 : ∀ base, ModB K mg base → FnOk l.prog w K mg base (CXE l.prog w) 10 f11 _ ["thing"] (spD K g_need_sale) := fun base M => fn_deep U11 sc_need_sale (fun ds E S Q h => by obtain ⟨_, rfl, _⟩ := h; rfl) (fun cdv A outer s H E _ hr => body_need_sale T X_ M I_is_sale hr) (fun ds E S Q h => ok_need_sale ds E S Q h)
  have I_need_sale : ∀ base, ModB K mg base → FnI l.prog w K mg base 10 "need_sale" 1 g_need_sale := fun base M => fnI_of U11 rfl (PySem.W.mg_of X G a11) b111 (G11 base M) mo_need_sale
  have G12 : ∀ base, ModB K mg base → FnOk l.prog w K mg base (CXE l.prog w) 7 f12 _ ["sale", "number"] (spD K g_need_class) := fun base M => fn_deep U12 sc_need_class (fun ds E S Q h => by obtain ⟨_, _, _, _, _, rfl, _⟩ := h; rfl) (fun cdv A outer s H E _ hr => body_need_class T X_ M I_is_between hr) (fun ds E S Q h => ok_need_class ds E S Q h)
  have I_need_class : ∀ base, ModB K mg base → FnI l.prog w K mg base 7 "need_class" 2 g_need_class := fun base M => fnI_of U12 rfl (PySem.W.mg_of X G a12) b112 (G12 base M) mo_need_class
  have G13 : ∀ base, ModB K mg base → FnOk l.prog w K mg base (CXE l.prog w) 7 f13 _ ["sale", "time", "least"] (spD K g_need_time) := fun base M => fn_deepD U13 sc_need_time (fun ds E S Q h => by obtain ⟨_, _, _, _, _, _, rfl, _⟩ := h; rfl) (fun cdv A outer s H E _ hr => body_need_time T X_ M I_is_between hr) (fun ds E S Q h => ok_need_time ds E S Q h)
  have D_need_time : ∀ base, ModB K mg base → FnD l.prog w K mg base 7 "need_time" 3 0 g_need_time := fun base M => fnD_of U13 rfl (PySem.W.mg_of X G a13) b213 (G13 base M) mo_need_time
  have I_need_time : ∀ base, ModB K mg base → FnI l.prog w K mg base 7 "need_time" 3 g_need_time := fun base M => fnI_ofD U13 rfl (PySem.W.mg_of X G a13) b113 (G13 base M) mo_need_time
  have G14 : ∀ base, ModB K mg base → FnOk l.prog w K mg base (CXE l.prog w) 5 f14 _ ["kind", "left"] (spD K g_can_sell) := fun base M => fn_deep U14 sc_can_sell (fun ds E S Q h => by obtain ⟨_, _, rfl, _⟩ := h; rfl) (fun cdv A outer s H E _ hr => body_can_sell T X_ M hr) (fun ds E S Q h => ok_can_sell ds E S Q h)
  have I_can_sell : ∀ base, ModB K mg base → FnI l.prog w K mg base 5 "can_sell" 2 g_can_sell := fun base M => fnI_of U14 rfl (PySem.W.mg_of X G a14) b114 (G14 base M) mo_can_sell
  have G15 : ∀ base, ModB K mg base → FnOk l.prog w K mg base (CXE l.prog w) 5 f15 _ ["kind", "left", "later"] (spD K g_sold_gain) := fun base M => fn_deep U15 sc_sold_gain (fun ds E S Q h => by obtain ⟨_, _, _, _, _, _, rfl, _⟩ := h; rfl) (fun cdv A outer s H E _ hr => body_sold_gain T X_ M hr) (fun ds E S Q h => ok_sold_gain ds E S Q h)
  have I_sold_gain : ∀ base, ModB K mg base → FnI l.prog w K mg base 5 "sold_gain" 3 g_sold_gain := fun base M => fnI_of U15 rfl (PySem.W.mg_of X G a15) b115 (G15 base M) mo_sold_gain
  have G16 : ∀ base, ModB K mg base → FnOk l.prog w K mg base (CXE l.prog w) 6 f16 _ ["kind", "left", "later"] (spD K g_best_gain) := fun base M => fn_deep U16 sc_best_gain (fun ds E S Q h => by obtain ⟨_, _, _, _, _, _, rfl, _⟩ := h; rfl) (fun cdv A outer s H E _ hr => body_best_gain T X_ M I_can_sell I_sold_gain hr) (fun ds E S Q h => ok_best_gain ds E S Q h)
  have I_best_gain : ∀ base, ModB K mg base → FnI l.prog w K mg base 6 "best_gain" 3 g_best_gain := fun base M => fnI_of U16 rfl (PySem.W.mg_of X G a16) b116 (G16 base M) mo_best_gain
  have G17 : ∀ base, ModB K mg base → FnOk l.prog w K mg base (CXE l.prog w) 7 f17 _ ["cases", "classes", "later"] (spD K g_level_before) := fun base M => fn_deep U17 sc_level_before (fun ds E S Q h => by obtain ⟨_, _, _, _, _, _, rfl, _⟩ := h; rfl) (fun cdv A outer s H E _ hr => body_level_before T X_ M I_best_gain hr) (fun ds E S Q h => ok_level_before ds E S Q h)
  have I_level_before : ∀ base, ModB K mg base → FnI l.prog w K mg base 7 "level_before" 3 g_level_before := fun base M => fnI_of U17 rfl (PySem.W.mg_of X G a17) b117 (G17 base M) mo_level_before
  have G18 : ∀ base, ModB K mg base → FnOk l.prog w K mg base (CXE l.prog w) 8 f18 _ ["cases", "classes", "last", "time"] (spD K g_levels_from) := fun base M => fn_deep U18 sc_levels_from (fun ds E S Q h => by obtain ⟨_, _, _, _, _, _, rfl, _⟩ := h; rfl) (fun cdv A outer s H E _ hr => body_levels_from T X_ M I_level_before hr) (fun ds E S Q h => ok_levels_from ds E S Q h)
  have I_levels_from : ∀ base, ModB K mg base → FnI l.prog w K mg base 8 "levels_from" 4 g_levels_from := fun base M => fnI_of U18 rfl (PySem.W.mg_of X G a18) b118 (G18 base M) mo_levels_from
  have G19 : ∀ base, ModB K mg base → FnOk l.prog w K mg base (CXE l.prog w) 5 f19 _ ["seats"] (spD K g_nought_level) := fun base M => fn_deep U19 sc_nought_level (fun ds E S Q h => by obtain ⟨_, rfl, _⟩ := h; rfl) (fun cdv A outer s H E _ hr => body_nought_level T X_ M hr) (fun ds E S Q h => ok_nought_level ds E S Q h)
  have I_nought_level : ∀ base, ModB K mg base → FnI l.prog w K mg base 5 "nought_level" 1 g_nought_level := fun base M => fnI_of U19 rfl (PySem.W.mg_of X G a19) b119 (G19 base M) mo_nought_level
  have G20 : ∀ base, ModB K mg base → FnOk l.prog w K mg base (CXE l.prog w) 9 f20 _ ["sale", "time"] (spD K g_worth_levels) := fun base M => fn_deep U20 sc_worth_levels (fun ds E S Q h => by obtain ⟨_, _, _, _, _, rfl, _⟩ := h; rfl) (fun cdv A outer s H E _ hr => body_worth_levels T X_ M I_levels_from I_nought_level hr) (fun ds E S Q h => ok_worth_levels ds E S Q h)
  have I_worth_levels : ∀ base, ModB K mg base → FnI l.prog w K mg base 9 "worth_levels" 2 g_worth_levels := fun base M => fnI_of U20 rfl (PySem.W.mg_of X G a20) b120 (G20 base M) mo_worth_levels
  have G21 : ∀ base, ModB K mg base → FnOk l.prog w K mg base (CXE l.prog w) 6 f21 _ ["kind", "left", "later"] (spD K g_is_opened) := fun base M => fn_deep U21 sc_is_opened (fun ds E S Q h => by obtain ⟨_, _, _, _, _, _, rfl, _⟩ := h; rfl) (fun cdv A outer s H E _ hr => body_is_opened T X_ M I_can_sell I_sold_gain hr) (fun ds E S Q h => ok_is_opened ds E S Q h)
  have I_is_opened : ∀ base, ModB K mg base → FnI l.prog w K mg base 6 "is_opened" 3 g_is_opened := fun base M => fnI_of U21 rfl (PySem.W.mg_of X G a21) b121 (G21 base M) mo_is_opened
  have G22 : ∀ base, ModB K mg base → FnOk l.prog w K mg base (CXE l.prog w) 11 f22 _ ["sale", "number", "time"] (spD K g_opened) := fun base M => fn_deep U22 sc_opened (fun ds E S Q h => by obtain ⟨_, _, _, rfl, _⟩ := h; rfl) (fun cdv A outer s H E _ hr => body_opened T X_ M I_need_sale I_need_class I_need_time I_worth_levels I_is_opened hr) (fun ds E S Q h => ok_opened ds E S Q h)
  have I_opened : ∀ base, ModB K mg base → FnI l.prog w K mg base 11 "opened" 3 g_opened := fun base M => fnI_of U22 rfl (PySem.W.mg_of X G a22) b122 (G22 base M) mo_opened
  have G23 : ∀ base, ModB K mg base → FnOk l.prog w K mg base (CXE l.prog w) 12 f23 _ ["sale", "number", "time"] (spD K g_mark) := fun base M => fn_deep U23 sc_mark (fun ds E S Q h => by obtain ⟨_, _, _, rfl, _⟩ := h; rfl) (fun cdv A outer s H E _ hr => body_mark T X_ M I_opened hr) (fun ds E S Q h => ok_mark ds E S Q h)
  have I_mark : ∀ base, ModB K mg base → FnI l.prog w K mg base 12 "mark" 3 g_mark := fun base M => fnI_of U23 rfl (PySem.W.mg_of X G a23) b123 (G23 base M) mo_mark
  have G24 : ∀ base, ModB K mg base → FnOk l.prog w K mg base (CXE l.prog w) 7 f24 _ ["sale", "left", "least"] (spD K g_need_left) := fun base M => fn_deepD U24 sc_need_left (fun ds E S Q h => by obtain ⟨_, _, _, _, _, _, rfl, _⟩ := h; rfl) (fun cdv A outer s H E _ hr => body_need_left T X_ M I_is_between hr) (fun ds E S Q h => ok_need_left ds E S Q h)
  have D_need_left : ∀ base, ModB K mg base → FnD l.prog w K mg base 7 "need_left" 3 0 g_need_left := fun base M => fnD_of U24 rfl (PySem.W.mg_of X G a24) b224 (G24 base M) mo_need_left
  have I_need_left : ∀ base, ModB K mg base → FnI l.prog w K mg base 7 "need_left" 3 g_need_left := fun base M => fnI_ofD U24 rfl (PySem.W.mg_of X G a24) b124 (G24 base M) mo_need_left
  have G25 : ∀ base, ModB K mg base → FnOk l.prog w K mg base (CXE l.prog w) 5 f25 _ ["top", "bottom"] (spD K g_greatest_divisor) := fun base M => fn_deep U25 sc_greatest_divisor (fun ds E S Q h => by obtain ⟨_, _, rfl, _⟩ := h; rfl) (fun cdv A outer s H E _ hr => body_greatest_divisor T X_ M hr) (fun ds E S Q h => ok_greatest_divisor ds E S Q h)
  have I_greatest_divisor : ∀ base, ModB K mg base → FnI l.prog w K mg base 5 "greatest_divisor" 2 g_greatest_divisor := fun base M => fnI_of U25 rfl (PySem.W.mg_of X G a25) b125 (G25 base M) mo_greatest_divisor
  have G26 : ∀ base, ModB K mg base → FnOk l.prog w K mg base (CXE l.prog w) 6 f26 _ ["top", "bottom"] (spD K g_can_divide) := fun base M => fn_deep U26 sc_can_divide (fun ds E S Q h => by obtain ⟨_, _, rfl, _⟩ := h; rfl) (fun cdv A outer s H E _ hr => body_can_divide T X_ M I_is_whole hr) (fun ds E S Q h => ok_can_divide ds E S Q h)
  have I_can_divide : ∀ base, ModB K mg base → FnI l.prog w K mg base 6 "can_divide" 2 g_can_divide := fun base M => fnI_of U26 rfl (PySem.W.mg_of X G a26) b126 (G26 base M) mo_can_divide
  have G27 : ∀ base, ModB K mg base → FnOk l.prog w K mg base (CXE l.prog w) 7 f27 _ ["top", "bottom"] (spD K g_fraction) := fun base M => fn_deep U27 sc_fraction (fun ds E S Q h => by obtain ⟨_, _, rfl, _⟩ := h; rfl) (fun cdv A outer s H E _ hr => body_fraction T X_ M I_greatest_divisor I_can_divide hr) (fun ds E S Q h => ok_fraction ds E S Q h)
  have I_fraction : ∀ base, ModB K mg base → FnI l.prog w K mg base 7 "fraction" 2 g_fraction := fun base M => fnI_of U27 rfl (PySem.W.mg_of X G a27) b127 (G27 base M) mo_fraction
  have G28 : ∀ base, ModB K mg base → FnOk l.prog w K mg base (CXE l.prog w) 11 f28 _ ["sale", "time", "left"] (spD K g_seat_worth) := fun base M => fn_deep U28 sc_seat_worth (fun ds E S Q h => by obtain ⟨_, _, _, rfl, _⟩ := h; rfl) (fun cdv A outer s H E _ hr => body_seat_worth T X_ M I_need_sale I_need_left I_fraction I_worth_levels D_need_time hr) (fun ds E S Q h => ok_seat_worth ds E S Q h)
  have I_seat_worth : ∀ base, ModB K mg base → FnI l.prog w K mg base 11 "seat_worth" 3 g_seat_worth := fun base M => fnI_of U28 rfl (PySem.W.mg_of X G a28) b128 (G28 base M) mo_seat_worth
  have G29 : ∀ base, ModB K mg base → FnOk l.prog w K mg base (CXE l.prog w) 2 f29 _ ["_law_e"] (spD K (gWordS wd)) := fun base M => fn_deep U29 sc_law_word (fun ds E S Q h => by obtain ⟨_, _, rfl, _⟩ := h; rfl) (fun cdv A outer s H E _ hr => body_law_word T X_ M hr) (fun ds E S Q h => ok_law_word ds E S Q h)
  have I_law_word : ∀ base, ModB K mg base → FnI l.prog w K mg base 2 "_law_word" 1 (gWordS wd) := fun base M => fnI_of U29 rfl (PySem.W.mg_of X G a29) b129 (G29 base M) (mo_gWordS wd)
  have Sd : SaidI l.prog w K mg 13 "_law_said" wd := saidI_ofB (j := 2) U30 (said_txtB) (PySem.W.mg_of X G a30) (PySem.W.mg_of X G n_SeatError) b130 (by decide) (by decide) (fun y C wx hy hc => by
    unfold wd at hy
    split at hy
    · rename_i e; subst e; cases ClsAt.inj (n_NoSale : ClsAt K "NoSale" C_NoSale) hc; exact m_NoSale
    split at hy
    · rename_i e; subst e; cases ClsAt.inj (n_NoClass : ClsAt K "NoClass" C_NoClass) hc; exact m_NoClass
    split at hy
    · rename_i e; subst e; cases ClsAt.inj (n_NoTime : ClsAt K "NoTime" C_NoTime) hc; exact m_NoTime
    split at hy
    · rename_i e; subst e; cases ClsAt.inj (n_NoLeft : ClsAt K "NoLeft" C_NoLeft) hc; exact m_NoLeft
    split at hy
    · rename_i e; subst e; cases ClsAt.inj (n_NoSingle : ClsAt K "NoSingle" C_NoSingle) hc; exact m_NoSingle
    cases hy) I_law_word
  have G31 : ∀ base, ModB K mg base → FnOk l.prog w K mg base (CXE l.prog w) 15 f31 _ ["_law_deal", "_law_which", "_law_when", "_law_here"] (spD K (g_law_words Pt)) := fun base M => fn_deepM l31 c31 sc_law_words (fun ds E S Q h => by obtain ⟨_, _, _, _, _, _, _, rfl, _⟩ := h; rfl) (fun A outer s H E hr => body_law_words T X_ M I_opened I_mark I_seat_worth hcd Sd hr) (fun ds E S Q h => ok_law_words ds E S Q h)
  have I_law_words : ∀ base, ModB K mg base → FnI l.prog w K mg base 15 "_law_words" 4 (g_law_words Pt) := fun base M => fnI_of U31 rfl (PySem.W.mg_of X G a31) b131 (G31 base M) (mo_law_words Pt)
  have G32 : ∀ base, ModB K mg base → FnOk l.prog w K mg base (CXE l.prog w) 6 f32 _ ["_law_state_here"] (spD K g_law_odd) := fun base M => fn_deep U32 sc_law_odd (fun ds E S Q h => by obtain ⟨_, rfl, _⟩ := h; rfl) (fun cdv A outer s H E _ hr => body_law_odd T X_ M I_law_take hr) (fun ds E S Q h => ok_law_odd ds E S Q h)
  have I_law_odd : ∀ base, ModB K mg base → FnI l.prog w K mg base 6 "_law_odd" 1 g_law_odd := fun base M => fnI_of U32 rfl (PySem.W.mg_of X G a32) b132 (G32 base M) mo_law_odd
  refine ⟨PySem.W.fnOf "law" "law" (defArgs s_law) (defBody s_law) (defScope s_law) .none kV33 dc33 pm33 an33 cd33 ct33, ⟨fun p hp => by cases List.mem_singleton.mp hp; exact ⟨cc, hcd⟩, .inr hnt⟩, fun s v => .of_eq rfl, fun base M => ?_⟩
  exact fn_deep U33 sc_law (fun ds E S Q h => by obtain ⟨_, rfl, _⟩ := h; rfl) (fun cdv A outer s H E _ hr => body_law T X_ M I_law_state I_law_sale I_law_no_sales I_law_words I_law_odd hr) (fun ds E S Q h => ok_law ds E S Q h)
end K33

open PySem PySem.W PyProof.Rows
set_option maxRecDepth 100000 in
set_option maxHeartbeats 0 in
theorem PySem.Challenge.cw_seatworth_k33_marks_refuse_holds : PySem.Challenge.rw_seatworth_k33_marks_refuse.Holds := by
  w_on; o_law; k_head; (case hw => w_witness2)
  k_fill
  refine DD.walkT (l := PySem.Challenge.rw_seatworth_k33_marks_refuse) (k := 16) (x := "_law_script") (T := [(484, "_law_words.<locals>.<lambda>")]) (by decide +kernel) rfl rfl ⟨fun _ => rfl, by decide, by decide, rfl⟩ (fun w h Y => ⟨km_in_of Y, fun p hp => by cases List.mem_singleton.mp hp; exact km_tabs_of Y 484 (by decide)⟩) (fun p p' h1 h2 _ => by cases List.mem_singleton.mp h1; cases List.mem_singleton.mp h2; rfl) ?F
  case F =>
    intro w mg fa h KX G hmg
    refine' K33.all_mk 484 KX G hmg ?a0 ?l0 ?c0 ?k0 ?a1 ?l1 ?c1 ?k1 ?a2 ?l2 ?c2 ?k2 ?a3 ?l3 ?c3 ?k3 ?a4 ?l4 ?c4 ?k4 ?a5 ?l5 ?c5 ?k5 ?a6 ?l6 ?c6 ?k6 ?a7 ?l7 ?c7 ?k7 ?a8 ?l8 ?c8 ?k8 ?a9 ?l9 ?c9 ?k9 ?a10 ?l10 ?c10 ?k10 ?a11 ?l11 ?c11 ?k11 ?a12 ?l12 ?c12 ?k12 ?a13 ?l13 ?t13 ?c13 ?k13 ?a14 ?l14 ?c14 ?k14 ?a15 ?l15 ?c15 ?k15 ?a16 ?l16 ?c16 ?k16 ?a17 ?l17 ?c17 ?k17 ?a18 ?l18 ?c18 ?k18 ?a19 ?l19 ?c19 ?k19 ?a20 ?l20 ?c20 ?k20 ?a21 ?l21 ?c21 ?k21 ?a22 ?l22 ?c22 ?k22 ?a23 ?l23 ?c23 ?k23 ?a24 ?l24 ?t24 ?c24 ?k24 ?a25 ?l25 ?c25 ?k25 ?a26 ?l26 ?c26 ?k26 ?a27 ?l27 ?c27 ?k27 ?a28 ?l28 ?c28 ?k28 ?a29 ?l29 ?c29 ?k29 ?a30 ?l30 ?c30 ?k30 ?a31 ?l31 ?c31 ?k31 ?a32 ?l32 ?c32 ?k32 ?a33 ?l33 ?c33 ?k33 ?v_MOST_SEATS ?v_MOST_PERIODS ?v_MOST_CASES ?v_MOST_CLASSES ?v_MOST_FARE ?v_MOST_SIZE ?z_ValueError ?z_all ?z_bool ?z_enumerate ?z_int ?z_isinstance ?z_len ?z_list ?z_max ?z_min ?z_range ?z_repr ?z_sum ?z_tuple ?n_NoNumber ?n_NoSale ?n_NoNet ?n_NoClass ?n_NoTime ?n_NoLeft ?n_NoSingle ?n_NoPlan ?n_NoRun ?n_NoLimit ?n_NoShow ?n_NoAmends ?n_NoPrices ?n_NoLine ?n_NoText ?n_Over ?n_Nothing ?n_NoThing ?n_NotNow ?n_SeatError ?x_NoSale ?x_NoClass ?x_NoTime ?x_NoSingle ?x_NoLeft ?x_NoNumber ?ga_NoSale ?gt_NoSale ?gc_NoSale ?mo_NoSale ?mb_NoSale ?i_NoSale_NoNumber ?i_NoSale_NoSale ?i_NoSale_NoNet ?i_NoSale_NoClass ?i_NoSale_NoTime ?i_NoSale_NoLeft ?i_NoSale_NoSingle ?i_NoSale_NoPlan ?i_NoSale_NoRun ?i_NoSale_NoLimit ?i_NoSale_NoShow ?i_NoSale_NoAmends ?i_NoSale_NoPrices ?i_NoSale_NoLine ?i_NoSale_NoText ?i_NoSale_Over ?i_NoSale_Nothing ?i_NoSale_NoThing ?i_NoSale_NotNow ?i_NoSale_ValueError ?m_NoSale ?ga_NoClass ?gt_NoClass ?gc_NoClass ?mo_NoClass ?mb_NoClass ?i_NoClass_NoNumber ?i_NoClass_NoSale ?i_NoClass_NoNet ?i_NoClass_NoClass ?i_NoClass_NoTime ?i_NoClass_NoLeft ?i_NoClass_NoSingle ?i_NoClass_NoPlan ?i_NoClass_NoRun ?i_NoClass_NoLimit ?i_NoClass_NoShow ?i_NoClass_NoAmends ?i_NoClass_NoPrices ?i_NoClass_NoLine ?i_NoClass_NoText ?i_NoClass_Over ?i_NoClass_Nothing ?i_NoClass_NoThing ?i_NoClass_NotNow ?i_NoClass_ValueError ?m_NoClass ?ga_NoTime ?gt_NoTime ?gc_NoTime ?mo_NoTime ?mb_NoTime ?i_NoTime_NoNumber ?i_NoTime_NoSale ?i_NoTime_NoNet ?i_NoTime_NoClass ?i_NoTime_NoTime ?i_NoTime_NoLeft ?i_NoTime_NoSingle ?i_NoTime_NoPlan ?i_NoTime_NoRun ?i_NoTime_NoLimit ?i_NoTime_NoShow ?i_NoTime_NoAmends ?i_NoTime_NoPrices ?i_NoTime_NoLine ?i_NoTime_NoText ?i_NoTime_Over ?i_NoTime_Nothing ?i_NoTime_NoThing ?i_NoTime_NotNow ?i_NoTime_ValueError ?m_NoTime ?ga_NoLeft ?gt_NoLeft ?gc_NoLeft ?mo_NoLeft ?mb_NoLeft ?i_NoLeft_NoNumber ?i_NoLeft_NoSale ?i_NoLeft_NoNet ?i_NoLeft_NoClass ?i_NoLeft_NoTime ?i_NoLeft_NoLeft ?i_NoLeft_NoSingle ?i_NoLeft_NoPlan ?i_NoLeft_NoRun ?i_NoLeft_NoLimit ?i_NoLeft_NoShow ?i_NoLeft_NoAmends ?i_NoLeft_NoPrices ?i_NoLeft_NoLine ?i_NoLeft_NoText ?i_NoLeft_Over ?i_NoLeft_Nothing ?i_NoLeft_NoThing ?i_NoLeft_NotNow ?i_NoLeft_ValueError ?m_NoLeft ?ga_NoSingle ?gt_NoSingle ?gc_NoSingle ?mo_NoSingle ?mb_NoSingle ?i_NoSingle_NoNumber ?i_NoSingle_NoSale ?i_NoSingle_NoNet ?i_NoSingle_NoClass ?i_NoSingle_NoTime ?i_NoSingle_NoLeft ?i_NoSingle_NoSingle ?i_NoSingle_NoPlan ?i_NoSingle_NoRun ?i_NoSingle_NoLimit ?i_NoSingle_NoShow ?i_NoSingle_NoAmends ?i_NoSingle_NoPrices ?i_NoSingle_NoLine ?i_NoSingle_NoText ?i_NoSingle_Over ?i_NoSingle_Nothing ?i_NoSingle_NoThing ?i_NoSingle_NotNow ?i_NoSingle_ValueError ?m_NoSingle ?sp_ ?tk_ ?hcd ?hnt
    (case a0 => k_is)
    (case l0 => k_is)
    (case c0 => k_is)
    (case k0 => k_is)
    (case a1 => k_is)
    (case l1 => k_is)
    (case c1 => k_is)
    (case k1 => k_is)
    (case a2 => k_is)
    (case l2 => k_is)
    (case c2 => k_is)
    (case k2 => k_is)
    (case a3 => k_is)
    (case l3 => k_is)
    (case c3 => k_is)
    (case k3 => k_is)
    (case a4 => k_is)
    (case l4 => k_is)
    (case c4 => k_is)
    (case k4 => k_is)
    (case a5 => k_is)
    (case l5 => k_is)
    (case c5 => k_is)
    (case k5 => k_is)
    (case a6 => k_is)
    (case l6 => k_is)
    (case c6 => k_is)
    (case k6 => k_is)
    (case a7 => k_is)
    (case l7 => k_is)
    (case c7 => k_is)
    (case k7 => k_is)
    (case a8 => k_is)
    (case l8 => k_is)
    (case c8 => k_is)
    (case k8 => k_is)
    (case a9 => k_is)
    (case l9 => k_is)
    (case c9 => k_is)
    (case k9 => k_is)
    (case a10 => k_is)
    (case l10 => k_is)
    (case c10 => k_is)
    (case k10 => k_is)
    (case a11 => k_is)
    (case l11 => k_is)
    (case c11 => k_is)
    (case k11 => k_is)
    (case a12 => k_is)
    (case l12 => k_is)
    (case c12 => k_is)
    (case k12 => k_is)
    (case a13 => k_is)
    (case l13 => k_is)
    (case t13 => k_is)
    (case c13 => k_is)
    (case k13 => k_is)
    (case a14 => k_is)
    (case l14 => k_is)
    (case c14 => k_is)
    (case k14 => k_is)
    (case a15 => k_is)
    (case l15 => k_is)
    (case c15 => k_is)
    (case k15 => k_is)
    (case a16 => k_is)
    (case l16 => k_is)
    (case c16 => k_is)
    (case k16 => k_is)
    (case a17 => k_is)
    (case l17 => k_is)
    (case c17 => k_is)
    (case k17 => k_is)
    (case a18 => k_is)
    (case l18 => k_is)
    (case c18 => k_is)
    (case k18 => k_is)
    (case a19 => k_is)
    (case l19 => k_is)
    (case c19 => k_is)
    (case k19 => k_is)
    (case a20 => k_is)
    (case l20 => k_is)
    (case c20 => k_is)
    (case k20 => k_is)
    (case a21 => k_is)
    (case l21 => k_is)
    (case c21 => k_is)
    (case k21 => k_is)
    (case a22 => k_is)
    (case l22 => k_is)
    (case c22 => k_is)
    (case k22 => k_is)
    (case a23 => k_is)
    (case l23 => k_is)
    (case c23 => k_is)
    (case k23 => k_is)
    (case a24 => k_is)
    (case l24 => k_is)
    (case t24 => k_is)
    (case c24 => k_is)
    (case k24 => k_is)
    (case a25 => k_is)
    (case l25 => k_is)
    (case c25 => k_is)
    (case k25 => k_is)
    (case a26 => k_is)
    (case l26 => k_is)
    (case c26 => k_is)
    (case k26 => k_is)
    (case a27 => k_is)
    (case l27 => k_is)
    (case c27 => k_is)
    (case k27 => k_is)
    (case a28 => k_is)
    (case l28 => k_is)
    (case c28 => k_is)
    (case k28 => k_is)
    (case a29 => k_is)
    (case l29 => k_is)
    (case c29 => k_is)
    (case k29 => k_is)
    (case a30 => k_is)
    (case l30 => k_is)
    (case c30 => k_is)
    (case k30 => k_is)
    (case a31 => k_is)
    (case l31 => k_is)
    (case c31 => k_is)
    (case k31 => k_is)
    (case a32 => k_is)
    (case l32 => k_is)
    (case c32 => k_is)
    (case k32 => k_is)
    (case a33 => k_is)
    (case l33 => k_is)
    (case c33 => k_is)
    (case k33 => k_is)
    (case v_MOST_SEATS => k_is)
    (case v_MOST_PERIODS => k_is)
    (case v_MOST_CASES => k_is)
    (case v_MOST_CLASSES => k_is)
    (case v_MOST_FARE => k_is)
    (case v_MOST_SIZE => k_is)
    (case z_ValueError => k_is)
    (case z_all => k_is)
    (case z_bool => k_is)
    (case z_enumerate => k_is)
    (case z_int => k_is)
    (case z_isinstance => k_is)
    (case z_len => k_is)
    (case z_list => k_is)
    (case z_max => k_is)
    (case z_min => k_is)
    (case z_range => k_is)
    (case z_repr => k_is)
    (case z_sum => k_is)
    (case z_tuple => k_is)
    (case n_NoNumber => k_is)
    (case n_NoSale => k_is)
    (case n_NoNet => k_is)
    (case n_NoClass => k_is)
    (case n_NoTime => k_is)
    (case n_NoLeft => k_is)
    (case n_NoSingle => k_is)
    (case n_NoPlan => k_is)
    (case n_NoRun => k_is)
    (case n_NoLimit => k_is)
    (case n_NoShow => k_is)
    (case n_NoAmends => k_is)
    (case n_NoPrices => k_is)
    (case n_NoLine => k_is)
    (case n_NoText => k_is)
    (case n_Over => k_is)
    (case n_Nothing => k_is)
    (case n_NoThing => k_is)
    (case n_NotNow => k_is)
    (case n_SeatError => k_is)
    (case x_NoSale => k_exc)
    (case x_NoClass => k_exc)
    (case x_NoTime => k_exc)
    (case x_NoSingle => k_exc)
    (case x_NoLeft => k_exc)
    (case x_NoNumber => k_exc)
    (case ga_NoSale => k_is)
    (case gt_NoSale => k_is)
    (case gc_NoSale => k_is)
    (case mo_NoSale => k_is)
    (case mb_NoSale => k_is)
    (case i_NoSale_NoNumber => kit_is)
    (case i_NoSale_NoSale => kit_is)
    (case i_NoSale_NoNet => kit_is)
    (case i_NoSale_NoClass => kit_is)
    (case i_NoSale_NoTime => kit_is)
    (case i_NoSale_NoLeft => kit_is)
    (case i_NoSale_NoSingle => kit_is)
    (case i_NoSale_NoPlan => kit_is)
    (case i_NoSale_NoRun => kit_is)
    (case i_NoSale_NoLimit => kit_is)
    (case i_NoSale_NoShow => kit_is)
    (case i_NoSale_NoAmends => kit_is)
    (case i_NoSale_NoPrices => kit_is)
    (case i_NoSale_NoLine => kit_is)
    (case i_NoSale_NoText => kit_is)
    (case i_NoSale_Over => kit_is)
    (case i_NoSale_Nothing => kit_is)
    (case i_NoSale_NoThing => kit_is)
    (case i_NoSale_NotNow => kit_is)
    (case i_NoSale_ValueError => kit_is)
    (case m_NoSale => kts_exm)
    (case ga_NoClass => k_is)
    (case gt_NoClass => k_is)
    (case gc_NoClass => k_is)
    (case mo_NoClass => k_is)
    (case mb_NoClass => k_is)
    (case i_NoClass_NoNumber => kit_is)
    (case i_NoClass_NoSale => kit_is)
    (case i_NoClass_NoNet => kit_is)
    (case i_NoClass_NoClass => kit_is)
    (case i_NoClass_NoTime => kit_is)
    (case i_NoClass_NoLeft => kit_is)
    (case i_NoClass_NoSingle => kit_is)
    (case i_NoClass_NoPlan => kit_is)
    (case i_NoClass_NoRun => kit_is)
    (case i_NoClass_NoLimit => kit_is)
    (case i_NoClass_NoShow => kit_is)
    (case i_NoClass_NoAmends => kit_is)
    (case i_NoClass_NoPrices => kit_is)
    (case i_NoClass_NoLine => kit_is)
    (case i_NoClass_NoText => kit_is)
    (case i_NoClass_Over => kit_is)
    (case i_NoClass_Nothing => kit_is)
    (case i_NoClass_NoThing => kit_is)
    (case i_NoClass_NotNow => kit_is)
    (case i_NoClass_ValueError => kit_is)
    (case m_NoClass => kts_exm)
    (case ga_NoTime => k_is)
    (case gt_NoTime => k_is)
    (case gc_NoTime => k_is)
    (case mo_NoTime => k_is)
    (case mb_NoTime => k_is)
    (case i_NoTime_NoNumber => kit_is)
    (case i_NoTime_NoSale => kit_is)
    (case i_NoTime_NoNet => kit_is)
    (case i_NoTime_NoClass => kit_is)
    (case i_NoTime_NoTime => kit_is)
    (case i_NoTime_NoLeft => kit_is)
    (case i_NoTime_NoSingle => kit_is)
    (case i_NoTime_NoPlan => kit_is)
    (case i_NoTime_NoRun => kit_is)
    (case i_NoTime_NoLimit => kit_is)
    (case i_NoTime_NoShow => kit_is)
    (case i_NoTime_NoAmends => kit_is)
    (case i_NoTime_NoPrices => kit_is)
    (case i_NoTime_NoLine => kit_is)
    (case i_NoTime_NoText => kit_is)
    (case i_NoTime_Over => kit_is)
    (case i_NoTime_Nothing => kit_is)
    (case i_NoTime_NoThing => kit_is)
    (case i_NoTime_NotNow => kit_is)
    (case i_NoTime_ValueError => kit_is)
    (case m_NoTime => kts_exm)
    (case ga_NoLeft => k_is)
    (case gt_NoLeft => k_is)
    (case gc_NoLeft => k_is)
    (case mo_NoLeft => k_is)
    (case mb_NoLeft => k_is)
    (case i_NoLeft_NoNumber => kit_is)
    (case i_NoLeft_NoSale => kit_is)
    (case i_NoLeft_NoNet => kit_is)
    (case i_NoLeft_NoClass => kit_is)
    (case i_NoLeft_NoTime => kit_is)
    (case i_NoLeft_NoLeft => kit_is)
    (case i_NoLeft_NoSingle => kit_is)
    (case i_NoLeft_NoPlan => kit_is)
    (case i_NoLeft_NoRun => kit_is)
    (case i_NoLeft_NoLimit => kit_is)
    (case i_NoLeft_NoShow => kit_is)
    (case i_NoLeft_NoAmends => kit_is)
    (case i_NoLeft_NoPrices => kit_is)
    (case i_NoLeft_NoLine => kit_is)
    (case i_NoLeft_NoText => kit_is)
    (case i_NoLeft_Over => kit_is)
    (case i_NoLeft_Nothing => kit_is)
    (case i_NoLeft_NoThing => kit_is)
    (case i_NoLeft_NotNow => kit_is)
    (case i_NoLeft_ValueError => kit_is)
    (case m_NoLeft => kts_exm)
    (case ga_NoSingle => k_is)
    (case gt_NoSingle => k_is)
    (case gc_NoSingle => k_is)
    (case mo_NoSingle => k_is)
    (case mb_NoSingle => k_is)
    (case i_NoSingle_NoNumber => kit_is)
    (case i_NoSingle_NoSale => kit_is)
    (case i_NoSingle_NoNet => kit_is)
    (case i_NoSingle_NoClass => kit_is)
    (case i_NoSingle_NoTime => kit_is)
    (case i_NoSingle_NoLeft => kit_is)
    (case i_NoSingle_NoSingle => kit_is)
    (case i_NoSingle_NoPlan => kit_is)
    (case i_NoSingle_NoRun => kit_is)
    (case i_NoSingle_NoLimit => kit_is)
    (case i_NoSingle_NoShow => kit_is)
    (case i_NoSingle_NoAmends => kit_is)
    (case i_NoSingle_NoPrices => kit_is)
    (case i_NoSingle_NoLine => kit_is)
    (case i_NoSingle_NoText => kit_is)
    (case i_NoSingle_Over => kit_is)
    (case i_NoSingle_Nothing => kit_is)
    (case i_NoSingle_NoThing => kit_is)
    (case i_NoSingle_NotNow => kit_is)
    (case i_NoSingle_ValueError => kit_is)
    (case m_NoSingle => kts_exm)
    (case sp_ => k_is)
    (case tk_ => k_is)
    (case hcd => kernel_rfl)
    (case hnt => kernel_rfl)
#print axioms PySem.Challenge.cw_seatworth_k33_marks_refuse_holds


