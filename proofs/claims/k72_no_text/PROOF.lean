import PyProof.Rows.All
import Wide.All
import OpenK.AllK
import Wide.FinOn
import Lean
import PyProof.EqAt
import PyProof.EqKinds
import PyProof.TupleCall
import PySem.Challenge.RW_quartersheet_k72_no_text
set_option Elab.async false
set_option linter.all false
set_option maxRecDepth 100000

namespace L2
open PySem PySem.Spec PyProof.Rows


abbrev Key := Sum Int Str
def keyIs : Key → Value → Bool
  | .inl k, v => Value.isInt k v
  | .inr x, v => Value.isStrOf x v
def keyH (w : World) : Key → Int
  | .inl k => hashInt k
  | .inr x => hashStr w x
theorem keyIs_shape : ∀ {k : Key} {v : Value}, keyIs k v = true → (∃ i t, k = Sum.inl i ∧ v = Value.int i t) ∨ (∃ x t, k = Sum.inr x ∧ v = Value.str x t)
  | .inl i, v, h => by
    obtain ⟨t, e⟩ := Value.isInt_shape (k := i) (v := v) h
    exact .inl ⟨i, t, rfl, e⟩
  | .inr x, v, h => by
    obtain ⟨t, e⟩ := Value.isStrOf_shape (x := x) (v := v) h
    exact .inr ⟨x, t, rfl, e⟩
theorem key_ll (a b : Int) : decide ((Sum.inl a : Key) = Sum.inl b) = (a == b) := by
  by_cases e : a = b
  · subst e; simp
  · have h : ¬ (Sum.inl a : Key) = Sum.inl b := fun q => e (Sum.inl.inj q)
    rw [decide_eq_false h]
    exact (beq_eq_false_iff_ne.mpr e).symm
theorem key_rr (a b : Str) : decide ((Sum.inr a : Key) = Sum.inr b) = decide (a = b) := by
  by_cases e : a = b
  · subst e; simp
  · have h : ¬ (Sum.inr a : Key) = Sum.inr b := fun q => e (Sum.inr.inj q)
    rw [decide_eq_false h, decide_eq_false e]
theorem key_lr (a : Int) (b : Str) : decide ((Sum.inl a : Key) = Sum.inr b) = false := decide_eq_false (fun q => nomatch q)
theorem key_rl (a : Str) (b : Int) : decide ((Sum.inr a : Key) = Sum.inl b) = false := decide_eq_false (fun q => nomatch q)

def mixKind (prog : Program) (w : World) : PySem.KeyKind prog w Key where
  is := keyIs
  hash := keyH w
  inj := fun v a b ha hb => by
    rcases keyIs_shape ha with ⟨i, t, rfl, rfl⟩ | ⟨x, t, rfl, rfl⟩
    · rcases keyIs_shape hb with ⟨j, u, rfl, e⟩ | ⟨y, u, rfl, e⟩
      · injection e with e1 _; rw [e1]
      · exact nomatch e
    · rcases keyIs_shape hb with ⟨j, u, rfl, e⟩ | ⟨y, u, rfl, e⟩
      · exact nomatch e
      · injection e with e1 _; rw [e1]
  byValue := fun k v h => by
    rcases keyIs_shape h with ⟨i, t, rfl, rfl⟩ | ⟨x, t, rfl, rfl⟩ <;> rfl
  pyHash := fun hv h => by
    rcases keyIs_shape hv with ⟨i, t, rfl, rfl⟩ | ⟨x, t, rfl, rfl⟩
    · exact wpAny_pyHash_int h
    · exact wpAny_pyHash_str h
  eqBool := fun hu hv h => by
    rcases keyIs_shape hu with ⟨i, t, rfl, rfl⟩ | ⟨x, t, rfl, rfl⟩
    · rcases keyIs_shape hv with ⟨j, u, rfl, rfl⟩ | ⟨y, u, rfl, rfl⟩
      · rw [key_ll] at h; exact wpAny_eqBool_int h
      · rw [key_lr] at h; exact SeqAt.EqAt.int_str i t y u _ _ _ _ h
    · rcases keyIs_shape hv with ⟨j, u, rfl, rfl⟩ | ⟨y, u, rfl, rfl⟩
      · rw [key_rl] at h; exact SeqAt.EqAt.str_int x t j u _ _ _ _ h
      · rw [key_rr] at h; exact wpAny_eqBool_str h
  «strs» := fun k x t v h => by
    rcases keyIs_shape h with ⟨i, u, rfl, e⟩ | ⟨y, u, rfl, e⟩
    · exact nomatch e
    · injection e with e1 _
      subst e1
      cases v <;> rfl

end L2

namespace L2
open PySem PySem.Spec PyProof.Rows


inductive V where
  | non | bl (b : Bool) | int (i : Int) | str (x : Str) | byt (b : Array UInt8) | flt (b : UInt64) | ref (a : Addr) | ty (n : String)
  deriving DecidableEq

def RelV : V → Value → Prop
  | .non, u => u = Value.none
  | .bl b, u => u = Value.bool b
  | .int i, u => ∃ t, u = Value.int i t
  | .str x, u => ∃ t, u = Value.str x t
  | .byt b, u => ∃ t, u = Value.bytes b t
  | .flt b, u => ∃ t, u = Value.float b t
  | .ref a, u => u = Value.ref a
  | .ty n, u => u = Value.type n

abbrev Vals : List V → List Value → Prop := Paired RelV
theorem Vals.length {xs : List V} {us : List Value} (r : Vals xs us) : xs.length = us.length := Paired.length r
theorem Vals.get : ∀ {xs : List V} {us : List Value} {i : Nat} {x : V}, Vals xs us → xs[i]? = some x → ∃ u, us[i]? = some u ∧ RelV x u
  | _, _, _, _, .nil, e => by simp at e
  | _, _, 0, _, .cons r _, e => by simp at e; subst e; exact ⟨_, rfl, r⟩
  | _, _, i + 1, x, .cons _ t, e => by
    obtain ⟨u, h1, h2⟩ := Vals.get (i := i) (x := x) t (by simpa using e)
    exact ⟨u, by simpa using h1, h2⟩
theorem Vals.set {x : V} {u : Value} (r : RelV x u) : ∀ {xs : List V} {us : List Value} (i : Nat), Vals xs us → Vals (xs.set i x) (us.set i u)
  | _, _, _, .nil => .nil
  | _, _, 0, .cons _ t => .cons r t
  | _, _, i + 1, .cons q t => .cons q (Vals.set r i t)
theorem Vals.append : ∀ {xs ys : List V} {us ws : List Value}, Vals xs us → Vals ys ws → Vals (xs ++ ys) (us ++ ws)
  | _, _, _, _, .nil, s => s
  | _, _, _, _, .cons r t, s => .cons r (Vals.append t s)
theorem Vals.take : ∀ {xs : List V} {us : List Value} (n : Nat), Vals xs us → Vals (xs.take n) (us.take n)
  | _, _, 0, _ => .nil
  | _, _, _ + 1, .nil => .nil
  | _, _, n + 1, .cons r t => .cons r (Vals.take n t)
theorem Vals.drop : ∀ {xs : List V} {us : List Value} (n : Nat), Vals xs us → Vals (xs.drop n) (us.drop n)
  | _, _, 0, r => r
  | _, _, _ + 1, .nil => .nil
  | _, _, n + 1, .cons _ t => Vals.drop n t
def RelO : Option V → Option Value → Prop
  | some v, some u => RelV v u
  | none, none => True
  | _, _ => False
def KV {κ : Type} : List (κ × V) → List (κ × Value) → Prop := Paired fun (p : κ × V) (q : κ × Value) => p.1 = q.1 ∧ RelV p.2 q.2


def kV : Key → V
  | .inl i => .int i
  | .inr x => .str x


inductive HO where
  
  | lst (xs : List V)
  
  | tup (xs : List V)
  
  | dK (kvs : List (Key × V)) | dT (kvs : List (List Key × V))
  
  | set (S : Int → Bool) (n : Nat)
  
  | ins (C dx : Addr) (fs : List (Str × V))
  
  | own (x : Addr)
  
  | xd (fs : List (Str × V))
  
  | met (f x : Addr)
  
  | rng (lo hi : Int)
  
  | frz (o : Obj) (u : HO)
  
  | tbl (ps : Array Value)
  
  | ext (φ : Heap → Prop)

abbrev Hp := Addr → Option HO
def upd (H : Hp) (a : Addr) (o : HO) : Hp := fun b => if b = a then some o else H b
theorem upd_same {H : Hp} {a : Addr} {o : HO} : upd H a o a = some o := by unfold upd; rw [if_pos rfl]
theorem upd_ne {H : Hp} {a b : Addr} {o : HO} (h : b ≠ a) : upd H a o b = H b := by unfold upd; rw [if_neg h]
theorem ne_of {H : Hp} {a b : Addr} {o u : HO} (h : H a = some o) (h' : H b = some u) (d : o ≠ u) : a ≠ b := by
  intro e; subst e; rw [h] at h'; exact d (Option.some.inj h')
theorem ne_of_none {H : Hp} {a b : Addr} {o : HO} (h : H a = some o) (h' : H b = none) : a ≠ b := by
  intro e; subst e; rw [h] at h'; cases h'

section
variable (P : Program) (w : World)
def ObjOk (H : Hp) (h : Heap) (a : Addr) : HO → Prop
  | .lst xs => xs.length ≤ sizeLine ∧ ∃ (its : List Value) (n : Nat), Vals xs its ∧ h.get? a = some { cls := .type "list", data := .seq its.toArray n }
  | .tup xs => xs.length ≤ sizeLine ∧ ∃ its : List Value, Vals xs its ∧ IsTup h a its.toArray
  | .dK kvs => kvs.length ≤ sizeLine ∧ (a == sysModules) = false ∧ ∃ vs, KV kvs vs ∧ h.DictOf (mixKind P w) a vs
  | .dT kvs => kvs.length ≤ sizeLine ∧ (a == sysModules) = false ∧ ∃ xs : List (List Key × Addr × Value),
      Paired (fun (p : List Key × V) (q : List Key × Addr × Value) => p.1 = q.1 ∧ H q.2.1 = some (.tup (p.1.map kV)) ∧ RelV p.2 q.2.2) kvs xs ∧
      ∃ o es ep, h.get? a = some o ∧ o.ExactDict ∧ o.data = .dict es ep ∧ es.toList = xs.map (entryOfKey (tupleKind (mixKind P w))) ∧ (xs.map (·.1)).Nodup
  | .set S n => h.SetOf (intKind P w) a S n
  | .ins C dx fs => H dx = some (.own a) ∧ fs.length ≤ 1000 ∧ dx ≠ a ∧ h.get? a = some (PySem.W.instObj C dx) ∧
      ∃ mA, h.Ns1 dx mA ∧ (∀ f, RelO (fs.lookup f) (mA f)) ∧ PySem.Within mA (fs.map (·.1))
  | .own _ => ∃ o, h.get? a = some o
  | .xd fs => ∃ mA, h.Ns1 a mA ∧ ∀ f, RelO (fs.lookup f) (mA f)
  | .rng lo hi => ∃ t u v, h.get? a = some { cls := .type "range", data := .fields #[.int lo t, .int hi u, .int 1 v] }
  | .frz o u => h.get? a = some o ∧ ObjOk H h a u
  | .tbl ps => h.get? a = some { cls := .none, data := .fields ps }
  | .met f x => h.get? a = some (PySem.W.methodObj (.ref f) (.ref x))
  | .ext φ => φ h ∧ (∃ o, h.get? a = some o) ∧ ∀ h1 h2 : Heap, φ h1 → (∀ o, h1.get? a = some o → h2.get? a = some o) → φ h2

def HOk (H : Hp) (h : Heap) : Prop := ∀ a o, H a = some o → ObjOk P w H h a o
end

section
variable {P : Program} {w : World} {H H' : Hp} {h h' : Heap} {a : Addr} {o : HO}
theorem ObjOk.lt (x : ObjOk P w H h a o) : a < h.objs.size := by
  cases o with
  | lst xs => obtain ⟨_, _, _, _, e⟩ := x; exact Heap.lt_size e
  | tup xs => obtain ⟨_, _, _, p⟩ := x; exact p.lt
  | dK kvs => obtain ⟨_, _, _, _, o, _, _, e, _⟩ := x; exact Heap.lt_size e
  | dT kvs => obtain ⟨_, _, _, _, o, _, _, e, _⟩ := x; exact Heap.lt_size e
  | set S n => obtain ⟨o, _, _, _, e, _⟩ := x; exact Heap.lt_size e
  | ins C dx fs => obtain ⟨_, _, _, e, _⟩ := x; exact Heap.lt_size e
  | own y => obtain ⟨_, e⟩ := x; exact Heap.lt_size e
  | xd fs => obtain ⟨_, ⟨_, _, _, e, _⟩, _⟩ := x; exact Heap.lt_size e
  | rng lo hi => obtain ⟨_, _, _, e⟩ := x; exact Heap.lt_size e
  | frz ob u => obtain ⟨e, _⟩ := x; exact Heap.lt_size e
  | tbl ps => exact Heap.lt_size (show h.get? a = some _ from x)
  | met f y => exact Heap.lt_size (show h.get? a = some _ from x)
  | ext φ => obtain ⟨_, ⟨_, e⟩, _⟩ := x; exact Heap.lt_size e
theorem Paired.mapP {α β : Type} {F G : α → β → Prop} : ∀ {l₁ : List α} {l₂ : List β}, Paired F l₁ l₂ → (∀ a b, F a b → G a b) → Paired G l₁ l₂
  | _, _, .nil, _ => .nil
  | _, _, .cons r t, f => .cons (f _ _ r) (Paired.mapP t f)
theorem ObjOk.stay (x : ObjOk P w H h a o) (k : ∀ b u, (b = a ∨ H b = some (.own a)) → h.get? b = some u → h'.get? b = some u)
    (ho : ∀ b, H b = some (.own a) → H' b = some (.own a)) (ht : ∀ b xs, H b = some (.tup xs) → H' b = some (.tup xs)) : ObjOk P w H' h' a o := by
  induction o with
  | lst xs => obtain ⟨z, its, n, r, e⟩ := x; exact ⟨z, its, n, r, k _ _ (.inl rfl) e⟩
  | tup xs => obtain ⟨z, its, r, ob, e, c⟩ := x; exact ⟨z, its, r, ob, k _ _ (.inl rfl) e, c⟩
  | dK kvs => obtain ⟨z, y, vs, r, ob, es, ep, e, c⟩ := x; exact ⟨z, y, vs, r, ob, es, ep, k _ _ (.inl rfl) e, c⟩
  | dT kvs =>
    obtain ⟨z, y, xs, r, ob, es, ep, e, c⟩ := x
    exact ⟨z, y, xs, Paired.mapP r fun p q z => ⟨z.1, ht _ _ z.2.1, z.2.2⟩, ob, es, ep, k _ _ (.inl rfl) e, c⟩
  | set S n => obtain ⟨ob, es, ep, t, e, c⟩ := x; exact ⟨ob, es, ep, t, k _ _ (.inl rfl) e, c⟩
  | ins C dx fs =>
    obtain ⟨d, z, ne, e, mA, ⟨od, es, ep, e2, c⟩, r⟩ := x
    exact ⟨ho _ d, z, ne, k _ _ (.inl rfl) e, mA, ⟨od, es, ep, k _ _ (.inr d) e2, c⟩, r⟩
  | own y => obtain ⟨ob, e⟩ := x; exact ⟨ob, k _ _ (.inl rfl) e⟩
  | xd fs => obtain ⟨mA, ⟨od, es, ep, e, c⟩, r⟩ := x; exact ⟨mA, ⟨od, es, ep, k _ _ (.inl rfl) e, c⟩, r⟩
  | rng lo hi => obtain ⟨t, u, v, e⟩ := x; exact ⟨t, u, v, k _ _ (.inl rfl) e⟩
  | frz ob u ih => obtain ⟨e, q⟩ := x; exact ⟨k _ _ (.inl rfl) e, ih q⟩
  | tbl ps =>
    have e : h.get? a = some { cls := .none, data := .fields ps } := x
    show h'.get? a = some { cls := .none, data := .fields ps }
    exact k a _ (.inl rfl) e
  | met f y =>
    have e : h.get? a = some (PySem.W.methodObj (.ref f) (.ref y)) := x
    show h'.get? a = some (PySem.W.methodObj (.ref f) (.ref y))
    exact k a _ (.inl rfl) e
  | ext φ => obtain ⟨p, ⟨o, e⟩, st⟩ := x; exact ⟨st _ _ p fun o q => k _ _ (.inl rfl) q, ⟨o, k _ _ (.inl rfl) e⟩, st⟩
theorem HOk.lt (x : HOk P w H h) (e : H a = some o) : a < h.objs.size := (x a o e).lt
theorem HOk.fresh (x : HOk P w H h) (e : h.objs.size ≤ a) : H a = none := by
  cases q : H a with
  | none => rfl
  | some u => exact absurd (Nat.lt_of_lt_of_le (x.lt q) e) (Nat.lt_irrefl _)

theorem HOk.kept (x : HOk P w H h) (k : ∀ b u, h.get? b = some u → h'.get? b = some u) : HOk P w H h' := fun a o e =>
  (x a o e).stay (fun b u _ q => k b u q) (fun _ q => q) fun _ _ q => q

theorem HOk.laid (x : HOk P w H h) (k : ∀ b u, h.get? b = some u → h'.get? b = some u) (hp : h.objs.size ≤ a) (new : ObjOk P w (upd H a o) h' a o) : HOk P w (upd H a o) h' := fun b u e => by
  have hn := x.fresh hp
  by_cases hb : b = a
  · subst hb; rw [upd_same] at e; cases e; exact new
  · rw [upd_ne hb] at e
    exact (x b u e).stay (fun c v _ q => k c v q) (fun c q => by rw [upd_ne (ne_of_none q hn)]; exact q) fun c xs q => by rw [upd_ne (ne_of_none q hn)]; exact q
end


def Rd (H : Hp) (a : Addr) (u : HO) : Prop := H a = some u ∨ ∃ o, H a = some (.frz o u)
theorem Rd.ok {P : Program} {w : World} {H : Hp} {h : Heap} {a : Addr} {u : HO} (r : Rd H a u) (x : HOk P w H h) : ObjOk P w H h a u := by
  rcases r with r | ⟨o, r⟩
  · exact x a u r
  · obtain ⟨_, q⟩ := x a _ r
    exact q

def Mut : Option HO → Prop
  | some (.lst _) => True
  | some (.dK _) => True
  | some (.dT _) => True
  | some (.set _ _) => True
  | some (.ins _ _ _) => True
  | some (.ext _) => True
  | _ => False
section
variable {P : Program} {w : World} {H : Hp} {h h' : Heap} {x e : Addr} {o' : HO}

theorem HOk.write (ok : HOk P w H h) (mu : Mut (H x)) (he : e = x ∨ H e = some (.own x)) (k : ∀ b u, b ≠ e → h.get? b = some u → h'.get? b = some u) (heo : ∃ u, h'.get? e = some u)
    (new : ObjOk P w (upd H x o') h' x o') : HOk P w (upd H x o') h' := fun b u q => by
  have nown : ∀ c y, H c = some (.own y) → c ≠ x := fun c y r z => by subst z; rw [r] at mu; exact mu
  have ntup : ∀ c xs, H c = some (.tup xs) → c ≠ x := fun c xs r z => by subst z; rw [r] at mu; exact mu
  by_cases hb : b = x
  · subst hb; rw [upd_same] at q; cases q; exact new
  · rw [upd_ne hb] at q
    by_cases hbe : b = e
    · have q' : H b = some (.own x) := by
        rcases he with z | z
        · exact absurd (hbe.trans z) hb
        · rw [hbe]; exact z
      rw [q] at q'; cases q'
      obtain ⟨v, hv⟩ := heo
      exact ⟨v, by rw [hbe]; exact hv⟩
    · refine (ok b u q).stay (fun c v hc r => k c v ?_ r) (fun c r => by rw [upd_ne (nown c b r)]; exact r) fun c xs r => by rw [upd_ne (ntup c xs r)]; exact r
      rcases hc with rfl | hc
      · exact hbe
      · rintro rfl
        rcases he with z | z
        · exact nown c b hc z
        · rw [hc] at z; cases z; exact hb rfl
end


structure Un (fs ex : List Addr) (H H' : Hp) (h h' : Heap) : Prop where
  keep : ∀ b o, h.get? b = some o → H b = none → b ∉ fs → b ∉ ex → h'.get? b = some o
  slot : ∀ b o, h.get? b = some o → H b = none → b ∈ fs → b ∉ ex → ∃ sl, h'.get? b = some { o with slots := sl }
  free : ∀ b o, h.get? b = some o → H b = none → b ∉ ex → H' b = none
  there : ∀ b o, h.get? b = some o → b ∉ ex → ∃ o', h'.get? b = some o'
  tups : ∀ b xs, H b = some (.tup xs) → H' b = some (.tup xs)
  frzs : ∀ b o u, H b = some (.frz o u) → H' b = some (.frz o u)
  tbls : ∀ b ps, H b = some (.tbl ps) → ∃ more, H' b = some (.tbl (ps ++ more))
section
variable {fs fs' ex ex' : List Addr} {H H1 H2 : Hp} {h h1 h2 h' : Heap} {a x e : Addr} {o : HO}
theorem Un.any (u : Un fs ex H H1 h h1) {b : Addr} {ob : Obj} (q : h.get? b = some ob) (n : H b = none) (hx : b ∉ ex) : ∃ sl, h1.get? b = some { ob with slots := sl } := by
  by_cases hb : b ∈ fs
  · exact u.slot b ob q n hb hx
  · exact ⟨ob.slots, u.keep b ob q n hb hx⟩
theorem Un.kept (k : ∀ b u, h.get? b = some u → h'.get? b = some u) : Un fs ex H H h h' :=
  ⟨fun b ob q _ _ _ => k b ob q, fun b ob q _ _ _ => ⟨ob.slots, k b ob q⟩, fun _ _ _ n _ => n, fun b ob q _ => ⟨ob, k b ob q⟩, fun _ _ q => q, fun _ _ _ q => q, fun _ ps q => ⟨#[], by rw [q]; simp⟩⟩
theorem Un.refl : Un fs ex H H h h := Un.kept fun _ _ q => q
theorem Un.laid (k : ∀ b u, h.get? b = some u → h'.get? b = some u) (hp : h.objs.size ≤ a) (hn : H a = none) : Un fs ex H (upd H a o) h h' where
  keep := fun b u q _ _ _ => k b u q
  slot := fun b u q _ _ _ => ⟨u.slots, k b u q⟩
  free := fun b u q n _ => by rw [upd_ne (Nat.ne_of_lt (Nat.lt_of_lt_of_le (Heap.lt_size q) hp))]; exact n
  there := fun b u q _ => ⟨u, k b u q⟩
  tups := fun b xs q => by rw [upd_ne (ne_of_none q hn)]; exact q
  frzs := fun b u xs q => by rw [upd_ne (ne_of_none q hn)]; exact q
  tbls := fun b ps q => ⟨#[], by rw [upd_ne (ne_of_none q hn), q]; simp⟩
theorem Un.write (mu : Mut (H x)) (he : e = x ∨ H e = some (.own x)) (k : ∀ b u, b ≠ e → h.get? b = some u → h'.get? b = some u) (heo : ∃ u, h'.get? e = some u) : Un fs ex H (upd H x o) h h' := by
  have hx : ∀ b, H b = none → b ≠ x := fun b n z => by subst z; rw [n] at mu; exact mu
  have hb : ∀ b, H b = none → b ≠ e := fun b n z => by
    subst z
    rcases he with r | r
    · exact hx b n r
    · rw [n] at r; cases r
  have hm : ∀ b u, H b = some u → ¬ Mut (some u) → b ≠ x := fun b u q nm z => by subst z; rw [q] at mu; exact nm mu
  refine ⟨fun b u q n _ _ => k b u (hb b n) q, fun b u q n _ _ => ⟨u.slots, k b u (hb b n) q⟩, fun b u q n _ => by rw [upd_ne (hx b n)]; exact n, fun b u q _ => ?_,
    fun b xs q => by rw [upd_ne (hm b _ q fun z => z)]; exact q, fun b u xs q => by rw [upd_ne (hm b _ q fun z => z)]; exact q, fun b ps q => ⟨#[], by rw [upd_ne (hm b _ q fun z => z), q]; simp⟩⟩
  by_cases hbe : b = e
  · subst hbe; exact heo
  · exact ⟨u, k b u hbe q⟩
end


def trk (h : Heap) (H : Hp) : List Addr := (List.range h.objs.size).filter fun a => (H a).isSome
def hidT (h : Heap) (H : Hp) : Heap := PySem.W.hideAll h (trk h H)
theorem hidT_size (h : Heap) (H : Hp) : (hidT h H).objs.size = h.objs.size := PySem.W.hideAll_size _ _
theorem hidT_get {h : Heap} {H : Hp} {b : Addr} {o : Obj} (e : h.get? b = some o) (n : H b = none) : (hidT h H).get? b = some o :=
  PySem.W.hideAll_get _ e fun hm => by
    have q : (H b).isSome = true := (List.mem_filter.mp hm).2
    rw [n] at q; simp at q
theorem of_hidT {h : Heap} {H : Hp} {b : Addr} {o : Obj} (e : (hidT h H).get? b = some o) : h.get? b = some o ∧ H b = none := by
  have e' : h.get? b = some o := PySem.W.of_hideAll (trk h H) e
  refine ⟨e', ?_⟩
  cases q : H b with
  | none => rfl
  | some x =>
    have hm : b ∈ trk h H := List.mem_filter.mpr ⟨List.mem_range.mpr (Heap.lt_size e'), by simp [q]⟩
    have z : (hidT h H).get? b = none := PySem.W.hideAll_none (trk h H) hm
    rw [z] at e; cases e


end L2

namespace L2
open PySem PySem.Spec PyProof.Rows


structure Mod (K : PySem.W.Frag) (mg : Str → Option Value) (base : Heap) : Prop where
  kin : K.In base
  glob : base.Ns mainGlobals mg
  blt : ∃ mb, base.Ns builtinsNs mb ∧ ∀ x : Str, x ≠ "__name__" → mb x = bootBuiltins x
  nolimit : base.NoLimit


structure Cx where
  prog : Program
  w : World
  K : PySem.W.Frag
  mg : Str → Option Value
  base : Heap
  A : Around
  N : List Str
  s₀ : Shared
  H₀ : Hp
  env : Env
  outer : List Env
  stack : List Env
  ex : List Addr
  fn : Str → Bool
  calm : Bool
  pn : List (Addr × Obj)
  xe : Value → Shared → Prop

def frs (l : List Env) : List Addr := l.filterMap (·.frame)
abbrev Cx.fs (X : Cx) : List Addr := frs X.outer

def Vis (sc : Scope) (x : Str) : Prop := sc.names.lookup x = some .local ∨ sc.names.lookup x = some .cell ∨ sc.names.lookup x = some .free
def Loc (sc : Scope) (x : Str) : Prop := sc.names.lookup x = some .local ∨ sc.names.lookup x = some .cell
def Look (env : Env) (h : Heap) (m : Str → Option Value) (x : Str) (u : Value) : Prop :=
  (env.kindOf x = some .local ∧ m x = some u) ∨ ((env.kindOf x = some .cell ∨ env.kindOf x = some .free) ∧ ∃ c, env.cells.lookup x = some c ∧ h.IsCell c (some u))

structure Cx.Ok (X : Cx) : Prop where
  mod : Mod X.K X.mg X.base
  kind : X.env.scope.kind = .function
  glob : X.env.globals = mainGlobals
  blt : X.env.builtins = builtinsNs
  above : X.s₀.heap.objs.size ≤ X.env.locals
  inj : ∀ x y c, X.env.cells.lookup x = some c → X.env.cells.lookup y = some c → x = y
  has : ∀ x, (X.env.kindOf x = some .cell ∨ X.env.kindOf x = some .free) → ∃ c, X.env.cells.lookup x = some c
  cab : ∀ x c, X.fn x = true → X.env.cells.lookup x = some c → X.s₀.heap.objs.size ≤ c
  hd : X.calm = true → X.A.handled = none
  frames : X.A.frames = some X.stack
  stk : X.stack = X.outer ∨ (X.stack = X.env :: X.outer ∧ X.env.frame = some X.env.locals)
  exf : ∀ b ∈ X.ex, b ≠ X.env.locals ∧ ∀ x c, X.env.cells.lookup x = some c → c ≠ b
  bs : ∀ b o, X.base.get? b = some o → X.s₀.heap.get? b = some o ∧ X.H₀ b = none
  bsz : X.base.objs.size ≤ X.s₀.heap.objs.size
  noex : ∀ b o, X.base.get? b = some o → b ∉ X.ex
  exfs : ∀ b ∈ X.ex, b ∉ X.fs
  funs : X.s₀.heap.FunFrames X.base X.outer
  frf : ∀ b ∈ X.fs, X.H₀ b = none

structure Inv (X : Cx) (pins : List (Addr × Obj)) (σ : List (Option V)) (H : Hp) (s : Shared) : Prop where
  ok : X.Ok
  os : s.os = X.s₀.os
  bare : AllBare s.gens
  base : Un X.fs X.ex X.H₀ H X.s₀.heap s.heap
  loc : ∃ m, s.heap.Ns X.env.locals m ∧ ∀ (i : Nat) (x : Str) (v : V), X.N[i]? = some x → σ[i]? = some (some v) → Vis X.env.scope x → ∃ u, RelV v u ∧ Look X.env s.heap m x u
  cell : ∀ x c, X.env.cells.lookup x = some c → ∃ v, s.heap.IsCell c v
  free : H X.env.locals = none
  freeC : ∀ x c, X.env.cells.lookup x = some c → H c = none
  pin : ∀ p ∈ X.pn ++ pins, s.heap.get? p.1 = some p.2 ∧ H p.1 = none ∧ p.1 ≠ X.env.locals ∧ p.1 ∉ X.fs ∧ ∀ v, p.2.data ≠ .cell v
  hok : HOk X.prog X.w H s.heap
  len : σ.length = X.N.length

section
variable {X : Cx} {pins : List (Addr × Obj)} {σ : List (Option V)} {H H' : Hp} {s : Shared} {h' : Heap}

theorem Cx.Ok.nofr (ok : X.Ok) {b : Addr} {o : Obj} (e : X.base.get? b = some o) : b ∉ X.fs := fun hb => by
  have := (ok.funs.mem hb).1
  rw [e] at this; cases this
theorem Inv.bs (I : Inv X pins σ H s) : ∀ b o, X.base.get? b = some o → s.heap.get? b = some o ∧ H b = none := fun b o e =>
  ⟨I.base.keep b o (I.ok.bs b o e).1 (I.ok.bs b o e).2 (I.ok.nofr e) (I.ok.noex b o e), I.base.free b o (I.ok.bs b o e).1 (I.ok.bs b o e).2 (I.ok.noex b o e)⟩
theorem Inv.bk (I : Inv X pins σ H s) : ∀ b o, X.base.get? b = some o → s.heap.get? b = some o := fun b o e => (I.bs b o e).1
theorem Inv.mod (I : Inv X pins σ H s) : Mod X.K X.mg X.base := I.ok.mod
theorem Inv.kIn (I : Inv X pins σ H s) : X.K.In s.heap := I.ok.mod.kin.keeps I.bk
theorem Inv.lt (I : Inv X pins σ H s) : X.env.locals < s.heap.objs.size := let ⟨_, hn, _⟩ := I.loc; hn.lt
theorem Inv.sz (I : Inv X pins σ H s) : X.s₀.heap.objs.size ≤ s.heap.objs.size := Nat.le_trans I.ok.above (Nat.le_of_lt I.lt)
theorem Inv.nofs (I : Inv X pins σ H s) {a : Addr} (h : s.heap.objs.size ≤ a) : a ∉ X.fs := fun hb => by
  obtain ⟨_, o, ho, _⟩ := I.ok.funs.mem hb
  exact absurd (Nat.lt_of_lt_of_le (Heap.lt_size ho) (Nat.le_trans I.sz h)) (Nat.lt_irrefl _)
theorem Inv.cne (I : Inv X pins σ H s) : ∀ x c, X.env.cells.lookup x = some c → c ≠ X.env.locals := fun x c e z => by
  obtain ⟨v, o, ho, hd⟩ := I.cell x c e
  obtain ⟨m, ⟨o', es, ep, ho', hd', _⟩, _⟩ := I.loc
  rw [z, ho'] at ho; cases ho; rw [hd'] at hd; cases hd
theorem Inv.funs (I : Inv X pins σ H s) : s.heap.FunFrames X.base X.outer := by
  have all : ∀ (l : List Env), (∀ b ∈ frs l, b ∈ X.fs) → X.s₀.heap.FunFrames X.base l → s.heap.FunFrames X.base l := by
    intro l
    induction l with
    | nil => intro _ _; trivial
    | cons env r ih =>
      intro hs hl
      obtain ⟨hk, ⟨L, o, hf, hn, ho, hd⟩, hr⟩ := hl
      have hL : L ∈ X.fs := hs L (by unfold frs; rw [List.filterMap_cons, hf]; exact List.mem_cons_self)
      obtain ⟨sl, e⟩ := I.base.slot L o ho (I.ok.frf L hL) hL fun z => I.ok.exfs L z hL
      exact ⟨hk, ⟨L, _, hf, hn, e, hd⟩, ih (fun b hb => hs b (by unfold frs; rw [List.filterMap_cons, hf]; exact List.mem_cons_of_mem _ hb)) hr⟩
  exact all X.outer (fun _ hb => hb) I.ok.funs


theorem Inv.stack (I : Inv X pins σ H s) : s.heap.FunFrames X.base X.stack := by
  rcases I.ok.stk with e | ⟨e, hf⟩
  · rw [e]; exact I.funs
  · rw [e]
    obtain ⟨m, hn, _⟩ := I.loc
    refine .cons (by rw [I.ok.kind]; decide) hf hn ?_ I.funs
    exact Heap.get?_none_of_le (Nat.le_trans I.ok.bsz I.ok.above)
theorem Inv.stkSub (I : Inv X pins σ H s) : ∀ b ∈ frs X.stack, b ∈ X.env.locals :: X.fs := fun b hb => by
  rcases I.ok.stk with e | ⟨e, hf⟩
  · rw [e] at hb; exact List.mem_cons_of_mem _ hb
  · rw [e] at hb
    unfold frs at hb
    rw [List.filterMap_cons, hf] at hb
    exact hb
theorem Inv.stkFree (I : Inv X pins σ H s) : ∀ b ∈ frs X.stack, H b = none := fun b hb => by
  rcases List.mem_cons.mp (I.stkSub b hb) with e | hb
  · rw [e]; exact I.free
  · obtain ⟨_, o, ho, _⟩ := I.ok.funs.mem hb
    exact I.base.free b o ho (I.ok.frf b hb) fun z => I.ok.exfs b z hb


theorem Inv.step {g' : Array GenState} {t' : Nat} {d' : Drawn} {ch : List Addr} (I : Inv X pins σ H s)
    (hch : ∀ b ∈ ch, (b ∈ X.ex ∨ X.s₀.heap.objs.size ≤ b) ∧ b ≠ X.env.locals ∧ (∀ x c, X.env.cells.lookup x = some c → c ≠ b) ∧ ∀ p ∈ X.pn ++ pins, p.1 ≠ b)
    (keep : ∀ b o, b ≠ X.env.locals → b ∉ X.fs → b ∉ ch → s.heap.get? b = some o → H b = none → h'.get? b = some o)
    (slot : ∀ b o, b ≠ X.env.locals → b ∈ X.fs → b ∉ ch → s.heap.get? b = some o → H b = none → ∃ sl, h'.get? b = some { o with slots := sl }) (free : ∀ b o, b ∉ ch → s.heap.get? b = some o → H b = none → H' b = none)
    (there : ∀ b o, b ∉ ch → s.heap.get? b = some o → ∃ o', h'.get? b = some o')
    (tups : ∀ b xs, H b = some (.tup xs) → H' b = some (.tup xs)) (frzs : ∀ b o u, H b = some (.frz o u) → H' b = some (.frz o u)) (tbls : ∀ b ps, H b = some (.tbl ps) → ∃ more, H' b = some (.tbl (ps ++ more)))
    (ns : ∀ m, s.heap.Ns X.env.locals m → h'.Ns X.env.locals m) (hok : HOk X.prog X.w H' h') (hg : AllBare g') :
    Inv X pins σ H' { s with heap := h', gens := g', drawn := d', toks := t' } := by
  have neL : ∀ b o, X.s₀.heap.get? b = some o → b ≠ X.env.locals := fun b o e => Nat.ne_of_lt (Nat.lt_of_lt_of_le (Heap.lt_size e) I.ok.above)
  have neC : ∀ b o, X.s₀.heap.get? b = some o → b ∉ X.ex → b ∉ ch := fun b o e hx hb => by
    rcases (hch b hb).1 with z | z
    · exact hx z
    · exact absurd (Nat.lt_of_lt_of_le (Heap.lt_size e) z) (Nat.lt_irrefl _)
  have cellK : ∀ x c, X.env.cells.lookup x = some c → ∀ v, s.heap.IsCell c v → h'.IsCell c v := fun x c e v ⟨o, ho, hd⟩ => by
    have nch : c ∉ ch := fun z => (hch c z).2.2.1 x c e rfl
    by_cases hc : c ∈ X.fs
    · obtain ⟨sl, q⟩ := slot c o (I.cne x c e) hc nch ho (I.freeC x c e)
      exact ⟨_, q, hd⟩
    · exact ⟨o, keep c o (I.cne x c e) hc nch ho (I.freeC x c e), hd⟩
  refine ⟨I.ok, I.os, hg, ⟨fun b o e n hb hx => ?_, fun b o e n hb hx => ?_, fun b o e n hx => ?_, fun b o e hx => ?_, fun b xs e => tups b xs (I.base.tups b xs e), fun b o xs e => frzs b o xs (I.base.frzs b o xs e), fun b ps e => ?_⟩, ?_, fun x c e => ?_, ?_, fun x c e => ?_, fun p hp => ?_, hok, I.len⟩
  · exact keep b o (neL b o e) hb (neC b o e hx) (I.base.keep b o e n hb hx) (I.base.free b o e n hx)
  · obtain ⟨sl, e1⟩ := I.base.slot b o e n hb hx
    obtain ⟨sl', e2⟩ := slot b _ (neL b o e) hb (neC b o e hx) e1 (I.base.free b o e n hx)
    exact ⟨sl', e2⟩
  · obtain ⟨o', e1⟩ := I.base.there b o e hx
    exact free b o' (neC b o e hx) e1 (I.base.free b o e n hx)
  · obtain ⟨o', e1⟩ := I.base.there b o e hx
    exact there b o' (neC b o e hx) e1
  · obtain ⟨m1, e1⟩ := I.base.tbls b ps e
    obtain ⟨m2, e2⟩ := tbls b _ e1
    exact ⟨m1 ++ m2, by rw [e2, Array.append_assoc]⟩
  · obtain ⟨m, hn, hl⟩ := I.loc
    refine ⟨m, ns m hn, fun i x v e1 e2 e3 => ?_⟩
    obtain ⟨u, r, l⟩ := hl i x v e1 e2 e3
    refine ⟨u, r, ?_⟩
    rcases l with l | ⟨k, c, e, z⟩
    · exact .inl l
    · exact .inr ⟨k, c, e, cellK x c e _ z⟩
  · obtain ⟨v, z⟩ := I.cell x c e
    exact ⟨v, cellK x c e v z⟩
  · obtain ⟨m, ⟨o, _, _, ho, _⟩, _⟩ := I.loc
    exact free _ o (fun z => (hch _ z).2.1 rfl) ho I.free
  · obtain ⟨v, o, ho, hd⟩ := I.cell x c e
    exact free c o (fun z => (hch c z).2.2.1 x c e rfl) ho (I.freeC x c e)
  · obtain ⟨e, n, ne, nf, d⟩ := I.pin p hp
    have nch : p.1 ∉ ch := fun z => (hch p.1 z).2.2.2 p hp rfl
    exact ⟨keep p.1 p.2 ne nf nch e n, free p.1 p.2 nch e n, ne, nf, d⟩

theorem Inv.un {t' : Nat} (I : Inv X pins σ H s) (u : Un X.fs [] H H' s.heap h') (hok : HOk X.prog X.w H' h') : Inv X pins σ H' { s with heap := h', toks := t' } := by
  obtain ⟨m, ⟨o, es, ep, ho, r⟩, _⟩ := id I.loc
  obtain ⟨sl, hL⟩ := u.any ho I.free (by simp)
  exact I.step (g' := s.gens) (d' := s.drawn) (ch := []) (fun _ z => nomatch z) (fun b o _ hb _ e n => u.keep b o e n hb (by simp)) (fun b o _ hb _ e n => u.slot b o e n hb (by simp)) (fun b o _ e n => u.free b o e n (by simp)) (fun b o _ e => u.there b o e (by simp)) u.tups u.frzs u.tbls (fun m' hm => by
    obtain ⟨o', es', ep', ho', r'⟩ := hm
    rw [ho] at ho'; cases ho'
    exact ⟨_, es', ep', hL, r'⟩) hok I.bare

theorem Inv.call {g' : Array GenState} {t' : Nat} {d' : Drawn} {ch : List Addr} (I : Inv X pins σ H s) (u : Un (frs X.stack) ch H H' s.heap h') (hok : HOk X.prog X.w H' h') (hg : AllBare g')
    (hch : ∀ b ∈ ch, (b ∈ X.ex ∨ X.s₀.heap.objs.size ≤ b) ∧ b ≠ X.env.locals ∧ (∀ x c, X.env.cells.lookup x = some c → c ≠ b) ∧ ∀ p ∈ X.pn ++ pins, p.1 ≠ b) :
    Inv X pins σ H' { s with heap := h', gens := g', drawn := d', toks := t' } := by
  obtain ⟨m, ⟨o, es, ep, ho, r⟩, _⟩ := id I.loc
  obtain ⟨sl, hL⟩ := u.any ho I.free fun z => (hch _ z).2.1 rfl
  exact I.step (ch := ch) hch (fun b o hL hb hc e n => u.keep b o e n (fun z => (List.mem_cons.mp (I.stkSub b z)).elim hL hb) hc) (fun b o _ _ hc e n => u.any e n hc) (fun b o hc e n => u.free b o e n hc) (fun b o hc e => u.there b o e hc) u.tups u.frzs u.tbls (fun m' hm => by
    obtain ⟨o', es', ep', ho', r'⟩ := hm
    rw [ho] at ho'; cases ho'
    exact ⟨_, es', ep', hL, r'⟩) hok hg

theorem Inv.turned {t' : Nat} {it : Addr} (I : Inv X pins σ H s) (k : ∀ b o, b ≠ it → s.heap.get? b = some o → h'.get? b = some o) (hn : H it = none) (hL : it ≠ X.env.locals)
    (h1 : it ∈ X.ex ∨ X.s₀.heap.objs.size ≤ it) (h2 : ∀ x c, X.env.cells.lookup x = some c → c ≠ it) (h3 : ∀ p ∈ X.pn ++ pins, p.1 ≠ it) : Inv X pins σ H { s with heap := h', toks := t' } := by
  have nit : ∀ b u, H b = some u → b ≠ it := fun b u e z => by rw [z, hn] at e; cases e
  refine I.step (g' := s.gens) (d' := s.drawn) (ch := [it]) (fun b hb => ?_) (fun b o _ _ hc e _ => k b o (fun z => hc (by simp [z])) e) (fun b o _ _ hc e _ => ⟨o.slots, k b o (fun z => hc (by simp [z])) e⟩) (fun _ _ _ _ n => n)
    (fun b o hc e => ⟨o, k b o (fun z => hc (by simp [z])) e⟩) (fun _ _ e => e) (fun _ _ _ e => e) (fun b ps e => ⟨#[], by rw [e]; simp⟩) (fun m hm => ?_) (fun b u e => ?_) I.bare
  · have e : b = it := by simpa using hb
    subst e
    exact ⟨h1, hL, h2, h3⟩
  · obtain ⟨o, es, ep, ho, r⟩ := hm
    exact ⟨o, es, ep, k _ o (Ne.symm hL) ho, r⟩
  · refine (I.hok b u e).stay (fun c v hc q => k c v ?_ q) (fun _ q => q) fun _ _ q => q
    rcases hc with z | z
    · rw [z]; exact nit b u e
    · exact nit c _ z
theorem Inv.tok (I : Inv X pins σ H s) (t : Nat) : Inv X pins σ H { s with toks := t } := I.un (h' := s.heap) (t' := t) Un.refl I.hok

theorem Inv.kept {t' : Nat} (I : Inv X pins σ H s) (k : ∀ b u, s.heap.get? b = some u → h'.get? b = some u) : Inv X pins σ H { s with heap := h', toks := t' } := I.un (Un.kept k) (I.hok.kept k)

theorem Inv.laid {a : Addr} {o : HO} {t' : Nat} (I : Inv X pins σ H s) (k : ∀ b u, s.heap.get? b = some u → h'.get? b = some u) (hp : s.heap.objs.size ≤ a) (new : ObjOk X.prog X.w (upd H a o) h' a o) :
    Inv X pins σ (upd H a o) { s with heap := h', toks := t' } := I.un (Un.laid k hp (I.hok.fresh hp)) (I.hok.laid k hp new)

theorem Inv.write {x e : Addr} {o : HO} {t' : Nat} (I : Inv X pins σ H s) (mu : Mut (H x)) (he : e = x ∨ H e = some (.own x)) (k : ∀ b u, b ≠ e → s.heap.get? b = some u → h'.get? b = some u) (heo : ∃ u, h'.get? e = some u)
    (new : ObjOk X.prog X.w (upd H x o) h' x o) : Inv X pins σ (upd H x o) { s with heap := h', toks := t' } := I.un (Un.write mu he k heo) (I.hok.write mu he k heo new)

theorem Inv.weak {σ' : List (Option V)} (I : Inv X pins σ H s) (hl : σ'.length = σ.length) (w : ∀ (i : Nat) v, σ'[i]? = some (some v) → σ[i]? = some (some v)) : Inv X pins σ' H s :=
  ⟨I.ok, I.os, I.bare, I.base, let ⟨m, hn, hl'⟩ := I.loc; ⟨m, hn, fun i x v e1 e2 e3 => hl' i x v e1 (w i v e2) e3⟩, I.cell, I.free, I.freeC, I.pin, I.hok, hl.trans I.len⟩
theorem Inv.pins_of {pins' : List (Addr × Obj)} (I : Inv X pins σ H s) (h : ∀ p ∈ pins', s.heap.get? p.1 = some p.2 ∧ H p.1 = none ∧ p.1 ≠ X.env.locals ∧ p.1 ∉ X.fs ∧ ∀ v, p.2.data ≠ .cell v) : Inv X pins' σ H s :=
  ⟨I.ok, I.os, I.bare, I.base, I.loc, I.cell, I.free, I.freeC, fun p hp => (List.mem_append.mp hp).elim (fun z => I.pin p (List.mem_append_left _ z)) (h p), I.hok, I.len⟩

theorem nodup_ix {N : List Str} (hN : N.Nodup) {i j : Nat} {x : Str} (a : N[i]? = some x) (b : N[j]? = some x) : i = j := by
  obtain ⟨h1, e1⟩ := List.getElem?_eq_some_iff.mp a
  obtain ⟨h2, e2⟩ := List.getElem?_eq_some_iff.mp b
  exact (List.getElem_inj hN).mp (e1.trans e2.symm)


theorem store_ok2 {M : Model} {A : Around} {E : Value → Shared → Prop} {i : Nat} {x : Str} {v : V} {u : Value} {Q : Unit → Shared → Prop} (I : Inv X pins σ H s) (hN : X.N.Nodup) (hi : X.N[i]? = some x) (hx : Loc X.env.scope x) (r : RelV v u)
    (h : ∀ s', Inv X pins (σ.set i (some v)) H s' → (∃ a, Heap.SameBut a s.heap s'.heap ∧ (a = X.env.locals ∨ X.env.cells.lookup x = some a)) → Q () s') (hf : X.fn x = true ∨ X.env.scope.names.lookup x = some .local := by first | exact .inl rfl | exact .inr rfl | assumption) : wpAny M A (storeName X.env x u) Q E s := by
  obtain ⟨m, hn, hl⟩ := id I.loc
  have hcls : (X.env.scope.kind == .class || (X.env.scope.kind == .module && X.env.locals != X.env.globals)) = false := by rw [I.ok.kind]; rfl
  have hiσ : i < σ.length := by rw [I.len]; exact (List.getElem?_eq_some_iff.mp hi).1
  have cne := I.cne
  have tracked : ∀ {a : Addr} {h' : Heap}, (∃ o, s.heap.get? a = some o ∧ H a = none) → Heap.SameBut a s.heap h' → HOk X.prog X.w H h' := fun {a h'} ha hs b ob e => by
    obtain ⟨_, _, hfree⟩ := ha
    refine (I.hok b ob e).stay (fun c w' hc q => (hs.2 c ?_).trans q) (fun _ q => q) fun _ _ q => q
    rintro rfl
    rcases hc with rfl | hc
    · rw [hfree] at e; cases e
    · rw [hfree] at hc; cases hc
  rcases hx with hk | hk
  · refine wpAny_storeName_local hk hn (fun h' hn' hs => ?_) hcls
    obtain ⟨oL, _, _, hoL, _⟩ := id hn
    refine h _ ⟨I.ok, I.os, I.bare, ⟨fun b o e n hb hx => ?_, fun b o e n hb hx => ?_, I.base.free, fun b o e hx => ?_, I.base.tups, I.base.frzs, I.base.tbls⟩, ⟨_, hn', fun j y v' e1 e2 e3 => ?_⟩, fun y c e => ?_, I.free, I.freeC, fun p hp => ?_, tracked ⟨oL, hoL, I.free⟩ hs, by simpa using I.len⟩ ⟨_, hs, .inl rfl⟩
    · exact (hs.2 b (Nat.ne_of_lt (Nat.lt_of_lt_of_le (Heap.lt_size e) I.ok.above))).trans (I.base.keep b o e n hb hx)
    · obtain ⟨sl, e1⟩ := I.base.slot b o e n hb hx
      exact ⟨sl, (hs.2 b (Nat.ne_of_lt (Nat.lt_of_lt_of_le (Heap.lt_size e) I.ok.above))).trans e1⟩
    · obtain ⟨o', e1⟩ := I.base.there b o e hx
      exact ⟨o', (hs.2 b (Nat.ne_of_lt (Nat.lt_of_lt_of_le (Heap.lt_size e) I.ok.above))).trans e1⟩
    · by_cases hj : j = i
      · subst hj
        rw [hi] at e1; cases e1
        rw [List.getElem?_set_self hiσ] at e2
        cases e2
        exact ⟨u, r, .inl ⟨hk, by simp⟩⟩
      · rw [List.getElem?_set_ne (Ne.symm hj)] at e2
        obtain ⟨u', r', q⟩ := hl j y v' e1 e2 e3
        refine ⟨u', r', ?_⟩
        rcases q with ⟨k, e⟩ | ⟨k, c, e, z⟩
        · refine .inl ⟨k, ?_⟩
          have : y ≠ x := fun e => hj (nodup_ix hN e1 (e ▸ hi))
          simp [this, e]
        · exact .inr ⟨k, c, e, z.sameBut hs (cne y c e)⟩
    · obtain ⟨w', z⟩ := I.cell y c e
      exact ⟨w', z.sameBut hs (cne y c e)⟩
    · obtain ⟨e, n, ne, nf, d⟩ := I.pin p hp
      exact ⟨(hs.2 p.1 ne).trans e, n, ne, nf, d⟩
  · have hfn : X.fn x = true := by
      rcases hf with z | z
      · exact z
      · rw [z] at hk; cases hk
    obtain ⟨c, hc⟩ := I.ok.has x (.inl hk)
    obtain ⟨w', z⟩ := I.cell x c hc
    refine wpAny_storeName_cell I.ok.kind hk hc z (fun h' hc' hs => ?_)
    obtain ⟨oc, hoc, hocd⟩ := id z
    refine h { s with heap := h' } ⟨I.ok, I.os, I.bare, ⟨fun b o e n hb hx => ?_, fun b o e n hb hx => ?_, I.base.free, fun b o e hx => ?_, I.base.tups, I.base.frzs, I.base.tbls⟩, ⟨m, hn.sameBut hs (Ne.symm (cne x c hc)), fun j y v' e1 e2 e3 => ?_⟩, fun y c' e => ?_, I.free, I.freeC, fun p hp => ?_, tracked ⟨oc, hoc, I.freeC x c hc⟩ hs, by simpa using I.len⟩ ⟨c, hs, .inr hc⟩
    · exact (hs.2 b (Nat.ne_of_lt (Nat.lt_of_lt_of_le (Heap.lt_size e) (I.ok.cab x c hfn hc)))).trans (I.base.keep b o e n hb hx)
    · obtain ⟨sl, e1⟩ := I.base.slot b o e n hb hx
      exact ⟨sl, (hs.2 b (Nat.ne_of_lt (Nat.lt_of_lt_of_le (Heap.lt_size e) (I.ok.cab x c hfn hc)))).trans e1⟩
    · obtain ⟨o', e1⟩ := I.base.there b o e hx
      exact ⟨o', (hs.2 b (Nat.ne_of_lt (Nat.lt_of_lt_of_le (Heap.lt_size e) (I.ok.cab x c hfn hc)))).trans e1⟩
    · by_cases hj : j = i
      · subst hj
        rw [hi] at e1; cases e1
        rw [List.getElem?_set_self hiσ] at e2
        cases e2
        exact ⟨u, r, .inr ⟨.inl hk, c, hc, hc'⟩⟩
      · rw [List.getElem?_set_ne (Ne.symm hj)] at e2
        obtain ⟨u', r', q⟩ := hl j y v' e1 e2 e3
        refine ⟨u', r', ?_⟩
        rcases q with q | ⟨k, c', e, z'⟩
        · exact .inl q
        · refine .inr ⟨k, c', e, z'.sameBut hs ?_⟩
          rintro rfl
          exact hj (nodup_ix hN e1 (I.ok.inj _ _ _ e hc ▸ hi))
    · by_cases hcc : c' = c
      · subst hcc; exact ⟨_, hc'⟩
      · obtain ⟨w2, z2⟩ := I.cell y c' e
        exact ⟨w2, z2.sameBut hs hcc⟩
    · obtain ⟨e, n, ne, nf, d⟩ := I.pin p hp
      refine ⟨(hs.2 p.1 ?_).trans e, n, ne, nf, d⟩
      intro q
      rw [q, hoc] at e
      have q' : oc = p.2 := Option.some.inj e
      exact d w' (by rw [← q']; exact hocd)
theorem store_ok {M : Model} {A : Around} {E : Value → Shared → Prop} {i : Nat} {x : Str} {v : V} {u : Value} {Q : Unit → Shared → Prop} (I : Inv X pins σ H s) (hN : X.N.Nodup) (hi : X.N[i]? = some x) (hx : Loc X.env.scope x) (r : RelV v u)
    (h : ∀ s', Inv X pins (σ.set i (some v)) H s' → Q () s') (hf : X.fn x = true ∨ X.env.scope.names.lookup x = some .local := by first | exact .inl rfl | exact .inr rfl | assumption) : wpAny M A (storeName X.env x u) Q E s :=
  store_ok2 I hN hi hx r (fun s' I' _ => h s' I') hf

theorem Inv.call' {s' : Shared} {ch : List Addr} (I : Inv X pins σ H s) (ho : s'.os = s.os) (u : Un (frs X.stack) ch H H' s.heap s'.heap) (hok : HOk X.prog X.w H' s'.heap) (hg : AllBare s'.gens)
    (hch : ∀ b ∈ ch, (b ∈ X.ex ∨ X.s₀.heap.objs.size ≤ b) ∧ b ≠ X.env.locals ∧ (∀ x c, X.env.cells.lookup x = some c → c ≠ b) ∧ ∀ p ∈ X.pn ++ pins, p.1 ≠ b) : Inv X pins σ H' s' := by
  obtain ⟨h', g', d', t', o'⟩ := s'
  have e : o' = s.os := ho
  subst e
  exact I.call (g' := g') (t' := t') (d' := d') u hok hg hch
end



abbrev XK := Value → Option Addr → Hp → Prop
abbrev St := List (Option V)
abbrev VK := V → Hp → Prop

abbrev TE := St → Hp → VK → Prop
abbrev TT := St → Hp → (Bool → Hp → Prop) → Prop
abbrev TA := St → Hp → (List V → Hp → Prop) → Prop

structure Ends where
  nx : St → Hp → Prop
  rt : VK
  bk : St → Hp → Prop := fun _ _ => False
  ct : St → Hp → Prop := fun _ _ => False
abbrev TS := Ends → St → Hp → Prop

def EP (X : Cx) (pins : List (Addr × Obj)) (σ : St) (Q : VK) (u : Value) (s' : Shared) : Prop := ∃ v H', Inv X pins σ H' s' ∧ RelV v u ∧ Q v H'
def TP (X : Cx) (pins : List (Addr × Obj)) (σ : St) (Q : Bool → Hp → Prop) (b : Bool) (s' : Shared) : Prop := ∃ H', Inv X pins σ H' s' ∧ Q b H'
def AP (X : Cx) (pins : List (Addr × Obj)) (σ : St) (Q : List V → Hp → Prop) (us : List Value) (s' : Shared) : Prop := ∃ vs H', Inv X pins σ H' s' ∧ Vals vs us ∧ Q vs H'
def SP (X : Cx) (pins : List (Addr × Obj)) (D : Ends) (f : Flow) (s' : Shared) : Prop :=
  match f with
  | .next => ∃ σ' H', Inv X pins σ' H' s' ∧ D.nx σ' H'
  | .brk => ∃ σ' H', Inv X pins σ' H' s' ∧ D.bk σ' H'
  | .cont => ∃ σ' H', Inv X pins σ' H' s' ∧ D.ct σ' H'
  | .ret u => ∃ v σ' H', Inv X pins σ' H' s' ∧ RelV v u ∧ D.rt v H'

def PE (X : Cx) (e : Expr) (t : TE) : Prop :=
  ∀ (pins : List (Addr × Obj)) (s : Shared) (σ : St) (H : Hp) (Q : VK), Inv X pins σ H s → t σ H Q → wpAny (model X.prog X.w) X.A (eval e X.env) (EP X pins σ Q) X.xe s
def PT (X : Cx) (e : Expr) (t : TT) : Prop :=
  ∀ (pins : List (Addr × Obj)) (s : Shared) (σ : St) (H : Hp) (Q : Bool → Hp → Prop), Inv X pins σ H s → t σ H Q → wpAny (model X.prog X.w) X.A (isTrue e X.env (eval e X.env)) (TP X pins σ Q) X.xe s

def PW (X : Cx) (e : Expr) (t : TT) : Prop :=
  ∀ (whole : Sem Value) (pins : List (Addr × Obj)) (s : Shared) (σ : St) (H : Hp) (Q : Bool → Hp → Prop), Inv X pins σ H s → t σ H Q → wpAny (model X.prog X.w) X.A (isTrue e X.env whole) (TP X pins σ Q) X.xe s
theorem PW.pt {X : Cx} {e : Expr} {t : TT} (h : PW X e t) : PT X e t := h _

def PA (X : Cx) (es : List Expr) (t : TA) : Prop :=
  ∀ (pos : Pos) (pins : List (Addr × Obj)) (s : Shared) (σ : St) (H : Hp) (Q : List V → Hp → Prop), Inv X pins σ H s → t σ H Q → wpAny (model X.prog X.w) X.A (spliced (backTo pos (starEach es X.env))) (AP X pins σ Q) X.xe s
def PS (X : Cx) (st : Stmt) (t : TS) : Prop :=
  ∀ (pins : List (Addr × Obj)) (s : Shared) (σ : St) (H : Hp) (D : Ends), Inv X pins σ H s → t D σ H → wpAny (model X.prog X.w) X.A (exec st X.env) (SP X pins D) X.xe s
def PSs (X : Cx) (st : List Stmt) (t : TS) : Prop :=
  ∀ (pins : List (Addr × Obj)) (s : Shared) (σ : St) (H : Hp) (D : Ends), Inv X pins σ H s → t D σ H → wpAny (model X.prog X.w) X.A (execs st X.env) (SP X pins D) X.xe s

theorem thn {α : Type} {t : Sem α} {Q Q' : α → Shared → Prop} {M : Model} {A : Around} {E : Value → Shared → Prop} {s : Shared} (h : wpAny M A t Q E s) (hQ : ∀ a s, Q a s → Q' a s) : wpAny M A t Q' E s := wpAny_mono h hQ fun _ _ x => x
end L2

namespace L2
open PySem PySem.Spec PyProof.Rows
section
variable {X : Cx}


def tVar (i : Nat) : TE := fun σ H Q => ∃ v, σ[i]? = some (some v) ∧ Q v H
def tC (v : V) : TE := fun _ H Q => Q v H
theorem pe_var {i : Nat} {x : Str} {pos : Pos} (hN : X.N[i]? = some x) (hv : Vis X.env.scope x) (hd : (x == ("__debug__" : Str)) = false := by decide) (hcd : (x == ("__classdict__" : Str)) = false := by decide) : PE X (.Name x pos) (tVar i) := by
  intro pins s σ H Q I h
  obtain ⟨v, e, h⟩ := h
  obtain ⟨m, hn, hl⟩ := I.loc
  obtain ⟨u, r, l⟩ := hl i x v hN e hv
  have fin : EP X pins σ Q u s := ⟨v, H, I, r, h⟩
  rcases l with ⟨hk, hm⟩ | ⟨hk, c, hc, hcell⟩
  · exact wpAny_Name (wpAny_loadName_local I.ok.kind hk hn hm fin) hd
  · rcases hk with hk | hk
    · exact wpAny_Name (wpAny_loadName_cell I.ok.kind hk hc hcell fin) hd
    · exact wpAny_Name (wpAny_loadName_free I.ok.kind hk hc hcell fin hcd) hd
theorem pe_int {i j pos} : PE X (.Constant (.int i) j pos) (tC (.int i)) := fun _ _ _ H _ I h => wpAny_Constant_int ⟨.int i, H, I.tok _, ⟨_, rfl⟩, h⟩
theorem pe_bl {b j pos} : PE X (.Constant (.bool b) j pos) (tC (.bl b)) := fun _ _ _ H _ I h => Constant_bool ⟨.bl b, H, I, rfl, h⟩
theorem pe_non {j pos} : PE X (.Constant .none j pos) (tC .non) := fun _ _ _ H _ I h => Constant_none ⟨.non, H, I, rfl, h⟩
theorem pe_str {x j pos} : PE X (.Constant (.str x) j pos) (tC (.str x)) := fun _ _ _ H _ I h => Calls.Constant_str ⟨.str x, H, I.tok _, ⟨_, rfl⟩, h⟩


def Gl (X : Cx) (x : Str) : Prop := X.env.kindOf x = some .globalImplicit
theorem ld_glob {E : Value → Shared → Prop} {pins : List (Addr × Obj)} {s : Shared} {σ : St} {H : Hp} {x : Str} {u : Value} {pos : Pos} {Q : Value → Shared → Prop} (I : Inv X pins σ H s) (hg : Gl X x) (hm : X.mg x = some u) (h : Q u s)
    (hd : (x == ("__debug__" : Str)) = false := by decide) : wpAny (model X.prog X.w) X.A (eval (.Name x pos) X.env) Q E s :=
  Calls.Name_function_global I.ok.kind hg (Calls.loadGlobal_global (by rw [I.ok.glob]; exact I.mod.glob.keeps I.bk) hm h) hd
theorem ld_blt {E : Value → Shared → Prop} {pins : List (Addr × Obj)} {s : Shared} {σ : St} {H : Hp} {x : Str} {u : Value} {pos : Pos} {Q : Value → Shared → Prop} (I : Inv X pins σ H s) (hg : Gl X x) (hm : X.mg x = none) (hv : bootBuiltins x = some u) (h : Q u s)
    (hn : x ≠ "__name__" := by decide) (hd : (x == ("__debug__" : Str)) = false := by decide) : wpAny (model X.prog X.w) X.A (eval (.Name x pos) X.env) Q E s := by
  obtain ⟨mb, h1, h2⟩ := I.mod.blt
  exact Calls.Name_function_global I.ok.kind hg (Calls.loadGlobal_builtin (by rw [I.ok.glob]; exact I.mod.glob.keeps I.bk) hm (by rw [I.ok.blt]; exact h1.keeps I.bk) ((h2 x hn).trans hv) h) hd

theorem pe_glob {x : Str} {v : V} {u : Value} {pos : Pos} (hg : Gl X x) (hm : X.mg x = some u) (r : RelV v u) (hd : (x == ("__debug__" : Str)) = false := by decide) : PE X (.Name x pos) (tC v) :=
  fun _ _ _ H _ I h => ld_glob I hg hm ⟨v, H, I, r, h⟩ hd
theorem pe_bltn {x : Str} {v : V} {u : Value} {pos : Pos} (hg : Gl X x) (hm : X.mg x = none) (hv : bootBuiltins x = some u) (r : RelV v u) (hn : x ≠ "__name__" := by decide) (hd : (x == ("__debug__" : Str)) = false := by decide) : PE X (.Name x pos) (tC v) :=
  fun _ _ _ H _ I h => ld_blt I hg hm hv ⟨v, H, I, r, h⟩ hn hd



variable {a b : Expr} {ta tb : TE} {pos : Pos}
def tB (t : TE) : TT := fun σ H Q => t σ H fun x H1 => ∃ c, x = .bl c ∧ Q c H1
theorem pt_val {e : Expr} {t : TE} (h : PE X e t) (he : ∀ whole, isTrue e X.env whole = (do let v ← whole; standAt e.pos; holding [v] (truthy v)) := by intro _; rfl) : PT X e (tB t) := by
  intro pins s σ H Q I hw
  refine isTrue_plain (thn (h pins s σ H _ I hw) fun v s1 ⟨x, H1, I1, r1, q1⟩ => ?_) (he _)
  obtain ⟨d, rfl, q⟩ := q1
  cases r1
  exact wpAny_truthy_bool ⟨H1, I1, q⟩


variable {tA tB' : TT} {rest : List Expr}
def tAnd (t u : TT) : TT := fun σ H Q => t σ H fun c H1 => if c = true then u σ H1 Q else Q false H1
def tOr (t u : TT) : TT := fun σ H Q => t σ H fun c H1 => if c = true then Q true H1 else u σ H1 Q
def tNot (t : TT) : TT := fun σ H Q => t σ H fun c H1 => Q (!c) H1
theorem pw_and1 (ha : PT X a tA) : PW X (.BoolOp .And [a] pos) tA := by
  intro wh pins s σ H Q I h
  refine isTrue_and (thn (ha pins s σ H Q I h) fun c s1 e => ?_)
  cases c with
  | true => exact isTrue_and_nil e
  | false => exact e
theorem pw_or1 (ha : PT X a tA) : PW X (.BoolOp .Or [a] pos) tA := by
  intro wh pins s σ H Q I h
  refine isTrue_or (thn (ha pins s σ H Q I h) fun c s1 e => ?_)
  cases c with
  | false => exact isTrue_or_nil e
  | true => exact e
theorem pw_and (ha : PT X a tA) (hb : PW X (.BoolOp .And (b :: rest) pos) tB') : PW X (.BoolOp .And (a :: b :: rest) pos) (tAnd tA tB') := by
  intro wh pins s σ H Q I h
  refine isTrue_and (thn (ha pins s σ H _ I h) fun c s1 ⟨H1, I1, q1⟩ => ?_)
  cases c with
  | true => exact hb wh pins s1 σ H1 Q I1 q1
  | false => exact ⟨H1, I1, q1⟩
theorem pw_or (ha : PT X a tA) (hb : PW X (.BoolOp .Or (b :: rest) pos) tB') : PW X (.BoolOp .Or (a :: b :: rest) pos) (tOr tA tB') := by
  intro wh pins s σ H Q I h
  refine isTrue_or (thn (ha pins s σ H _ I h) fun c s1 ⟨H1, I1, q1⟩ => ?_)
  cases c with
  | true => exact ⟨H1, I1, q1⟩
  | false => exact hb wh pins s1 σ H1 Q I1 q1
theorem pt_not (ha : PT X a tA) : PT X (.UnaryOp .Not a pos) (tNot tA) := by
  intro pins s σ H Q I h
  exact isTrue_not (ha pins s σ H (fun c H1 => Q (!c) H1) I h)

def tAndV (ta tb : TE) : TE := fun σ H Q => ta σ H fun x H1 => ∃ c, x = .bl c ∧ if c = true then tb σ H1 Q else Q (.bl false) H1
def tNotV (ta : TE) : TE := fun σ H Q => ta σ H fun x H1 => ∃ c, x = .bl c ∧ Q (.bl (!c)) H1
theorem pe_one {op} {t : TE} (h : PE X a t) : PE X (.BoolOp op [a] pos) t := fun pins s σ H Q I hw => BoolOp_one (h pins s σ H Q I hw)
theorem pe_and (ha : PE X a ta) (hb : PE X (.BoolOp .And (b :: rest) pos) tb) : PE X (.BoolOp .And (a :: b :: rest) pos) (tAndV ta tb) := by
  intro pins s σ H Q I h
  refine BoolOp_and (thn (ha pins s σ H _ I h) fun v s1 ⟨x, H1, I1, r1, q1⟩ => ?_)
  obtain ⟨c, rfl, q1⟩ := q1
  cases r1
  refine wpAny_truthy_bool ?_
  cases c with
  | true => exact hb pins s1 σ H1 Q I1 q1
  | false => exact ⟨.bl false, H1, I1, rfl, q1⟩
theorem pe_not (ha : PE X a ta) : PE X (.UnaryOp .Not a pos) (tNotV ta) := by
  intro pins s σ H Q I h
  refine UnaryOp_ (thn (ha pins s σ H _ I h) fun v s1 ⟨x, H1, I1, r1, q1⟩ => ?_)
  obtain ⟨c, rfl, q1⟩ := q1
  cases r1
  exact not_of (wpAny_truthy_bool ⟨.bl (!c), H1, I1, rfl, q1⟩)

end
end L2

namespace L2
open PySem PySem.Spec PyProof.Rows


def SqL (K : PySem.W.Frag) (H : Hp) (a : Addr) (xs : List V) : Prop :=
  Rd H a (.lst xs) ∨
    ∃ (o : Obj) (its : Array Value) (n : Nat), K.lookup a = some o ∧ o.cls = .type "list" ∧ o.dict = none ∧ o.data = .seq its n ∧ its.size ≤ sizeLine ∧ Vals xs its.toList
def SqT (K : PySem.W.Frag) (H : Hp) (a : Addr) (xs : List V) : Prop :=
  Rd H a (.tup xs) ∨
    ∃ (o : Obj) (its : Array Value) (n : Nat), K.lookup a = some o ∧ o.cls = .type "tuple" ∧ o.data = .seq its n ∧ its.size ≤ sizeLine ∧ Vals xs its.toList
def absV : Value → Option V
  | .none => some .non
  | .bool b => some (.bl b)
  | .int i _ => some (.int i)
  | .str x _ => some (.str x)
  | .bytes b _ => some (.byt b)
  | .float b _ => some (.flt b)
  | .ref a => some (.ref a)
  | .type n => some (.ty n)
  | _ => none
theorem RelV.abs {x : V} {u : Value} (r : RelV x u) : absV u = some x := by
  cases x with
  | non => cases r; rfl
  | bl _ => cases r; rfl
  | int _ => obtain ⟨t, rfl⟩ := r; rfl
  | str _ => obtain ⟨t, rfl⟩ := r; rfl
  | byt _ => obtain ⟨t, rfl⟩ := r; rfl
  | flt _ => obtain ⟨t, rfl⟩ := r; rfl
  | ref _ => cases r; rfl
  | ty _ => cases r; rfl
theorem RelV.inj {x y : V} {u : Value} (r : RelV x u) (q : RelV y u) : x = y := Option.some.inj (r.abs.symm.trans q.abs)
theorem Vals.inj : ∀ {xs ys : List V} {us : List Value}, Vals xs us → Vals ys us → xs = ys
  | _, _, _, .nil, .nil => rfl
  | _, _, _, .cons r t, .cons r' t' => by rw [r.inj r', Vals.inj t t']
section
variable {X : Cx} {pins : List (Addr × Obj)} {σ : St} {H : Hp} {s : Shared} {a : Addr} {xs ys : List V}
theorem SqL.of {K : PySem.W.Frag} (h : H a = some (.lst xs)) : SqL K H a xs := .inl (.inl h)
theorem SqT.of {K : PySem.W.Frag} (h : H a = some (.tup xs)) : SqT K H a xs := .inl (.inl h)
theorem Inv.list (I : Inv X pins σ H s) (h : SqL X.K H a xs) : ∃ its : List Value, Vals xs its ∧ PlainL s.heap a its.toArray ∧ xs.length ≤ sizeLine := by
  rcases h with h | ⟨o, its, n, hk, hc, hd, hs, hz, r⟩
  · obtain ⟨z, its, n, r, e⟩ := h.ok I.hok
    exact ⟨its, r, ⟨_, n, e, rfl, rfl, rfl⟩, z⟩
  · refine ⟨its.toList, r, ⟨o, n, I.kIn a o hk, hc, hd, by simpa using hs⟩, ?_⟩
    have e := r.length
    simp only [Array.length_toList] at e
    omega
theorem Inv.tuple (I : Inv X pins σ H s) (h : SqT X.K H a xs) : ∃ its : List Value, Vals xs its ∧ IsTup s.heap a its.toArray ∧ xs.length ≤ sizeLine := by
  rcases h with h | ⟨o, its, n, hk, hc, hs, hz, r⟩
  · obtain ⟨z, its, r, p⟩ := h.ok I.hok
    exact ⟨its, r, p, z⟩
  · refine ⟨its.toList, r, ⟨o, I.kIn a o hk, hc, n, by simpa using hs⟩, ?_⟩
    have e := r.length
    simp only [Array.length_toList] at e
    omega
theorem Inv.list_inj (I : Inv X pins σ H s) (h : SqL X.K H a xs) (h' : SqL X.K H a ys) : xs = ys := by
  obtain ⟨its, r, ⟨o, n, e, _, _, d⟩, _⟩ := I.list h
  obtain ⟨its', r', ⟨o', n', e', _, _, d'⟩, _⟩ := I.list h'
  rw [e] at e'; cases e'
  rw [d] at d'
  injection d' with d1 _
  have : its = its' := by simpa using congrArg Array.toList d1
  subst this
  exact r.inj r'
theorem Inv.tuple_inj (I : Inv X pins σ H s) (h : SqT X.K H a xs) (h' : SqT X.K H a ys) : xs = ys := by
  obtain ⟨its, r, ⟨o, e, _, n, d⟩, _⟩ := I.tuple h
  obtain ⟨its', r', ⟨o', e', _, n', d'⟩, _⟩ := I.tuple h'
  rw [e] at e'; cases e'
  rw [d] at d'
  injection d' with d1 _
  have : its = its' := by simpa using congrArg Array.toList d1
  subst this
  exact r.inj r'
end


abbrev Cx.wish (X : Cx) (E : Value → Shared → Prop) : Cx := { X with xe := E }

abbrev Cx.nox (X : Cx) : Cx := X.wish fun _ _ => False
theorem Cx.Ok.wish {X : Cx} (ok : X.Ok) (E : Value → Shared → Prop) : (X.wish E).Ok :=
  ⟨ok.mod, ok.kind, ok.glob, ok.blt, ok.above, ok.inj, ok.has, ok.cab, ok.hd, ok.frames, ok.stk, ok.exf, ok.bs, ok.bsz, ok.noex, ok.exfs, ok.funs, ok.frf⟩
theorem Cx.Ok.unwish {X : Cx} {E : Value → Shared → Prop} (ok : (X.wish E).Ok) : X.Ok :=
  ⟨ok.mod, ok.kind, ok.glob, ok.blt, ok.above, ok.inj, ok.has, ok.cab, ok.hd, ok.frames, ok.stk, ok.exf, ok.bs, ok.bsz, ok.noex, ok.exfs, ok.funs, ok.frf⟩
section
variable {X : Cx} {pins : List (Addr × Obj)} {σ : St} {H : Hp} {s : Shared} {E : Value → Shared → Prop}
theorem Inv.wish (I : Inv X pins σ H s) (E : Value → Shared → Prop) : Inv (X.wish E) pins σ H s := ⟨I.ok.wish E, I.os, I.bare, I.base, I.loc, I.cell, I.free, I.freeC, I.pin, I.hok, I.len⟩
theorem Inv.unwish (I : Inv (X.wish E) pins σ H s) : Inv X pins σ H s := ⟨I.ok.unwish, I.os, I.bare, I.base, I.loc, I.cell, I.free, I.freeC, I.pin, I.hok, I.len⟩
theorem SP.unwish {D : Ends} {f : Flow} {s' : Shared} (h : SP (X.wish E) pins D f s') : SP X pins D f s' := by
  cases f with
  | next => obtain ⟨σ', H', I, q⟩ := h; exact ⟨σ', H', I.unwish, q⟩
  | brk => obtain ⟨σ', H', I, q⟩ := h; exact ⟨σ', H', I.unwish, q⟩
  | cont => obtain ⟨σ', H', I, q⟩ := h; exact ⟨σ', H', I.unwish, q⟩
  | ret u => obtain ⟨v, σ', H', I, r, q⟩ := h; exact ⟨v, σ', H', I.unwish, r, q⟩
theorem PSs.nox {st : List Stmt} {t : TS} (h : PSs X.nox st t) : PSs X st t := fun pins s σ H D I hw =>
  wpAny_mono (h pins s σ H D (I.wish _) hw) (fun _ _ q => q.unwish) fun _ _ z => False.elim z
end


section
variable {X : Cx} {st : Stmt} {rest : List Stmt} {t u : TS} {e : Expr} {te : TE} {pos : Pos}
def tNext : TS := fun D σ H => D.nx σ H
def tSeq (t u : TS) : TS := fun D σ H => t { D with nx := u D } σ H
theorem pss_nil : PSs X [] tNext := fun _ _ σ H _ I h => wpAny_execs_nil ⟨σ, H, I, h⟩
theorem pss_cons (h1 : PS X st t) (h2 : PSs X rest u) : PSs X (st :: rest) (tSeq t u) := by
  intro pins s σ H D I h
  refine wpAny_execs_cons (thn (h1 pins s σ H { D with nx := u D } I h) fun f s1 q => ?_)
  cases f with
  | next =>
    obtain ⟨σ', H', I', q⟩ := q
    exact h2 pins s1 σ' H' D I' q
  | ret v => exact q
  | brk => exact q
  | cont => exact q
theorem pss_one (h1 : PS X st t) : PSs X [st] t := by
  intro pins s σ H D I h
  refine wpAny_execs_cons (thn (h1 pins s σ H D I h) fun f s1 q => ?_)
  cases f with
  | next => exact wpAny_execs_nil q
  | ret v => exact q
  | brk => exact q
  | cont => exact q
theorem Inv.quiet {pins : List (Addr × Obj)} {σ : St} {H : Hp} {s : Shared} (I : Inv X pins σ H s) : interactive X.env = false := by simp [interactive, I.ok.kind]

def tDrop (te : TE) : TS := fun D σ H => te σ H fun _ H1 => D.nx σ H1
theorem ps_expr (he : PE X e te) (hs : swapsWith e none pos.line X.env = pure false := by rfl) : PS X (.Expr e pos) (tDrop te) := by
  intro pins s σ H D I h
  exact wpAny_Expr_any (thn (he pins s σ H _ I h) fun v s1 ⟨x, H1, I1, r1, q1⟩ => ⟨σ, H1, I1, q1⟩) I.quiet hs
def tRet (te : TE) : TS := fun D σ H => te σ H D.rt
theorem ps_ret (he : PE X e te) : PS X (.Return (some e) pos) (tRet te) := by
  intro pins s σ H D I h
  exact wpAny_Return_some (thn (he pins s σ H _ I h) fun v s1 ⟨x, H1, I1, r1, q1⟩ => ⟨x, σ, H1, I1, r1, q1⟩)
def tIfS (c : TT) (t u : TS) : TS := fun D σ H => c σ H fun b H1 => if b = true then t D σ H1 else u D σ H1
theorem ps_if {c : Expr} {a b : List Stmt} {tc : TT} (hc : PT X c tc) (ha : PSs X a t) (hb : PSs X b u) : PS X (.If c a b pos) (tIfS tc t u) := by
  intro pins s σ H D I h
  refine wpAny_If (thn (hc pins s σ H _ I h) fun d s1 ⟨H1, I1, q1⟩ => ?_)
  cases d with
  | true => exact ha pins s1 σ H1 D I1 q1
  | false => exact hb pins s1 σ H1 D I1 q1

end


abbrev TG := V → St → Hp → (St → Hp → Prop) → Prop
def PG (X : Cx) (target : Expr) (t : TG) : Prop :=
  ∀ (pins : List (Addr × Obj)) (s : Shared) (σ : St) (H : Hp) (v : V) (u : Value) (Q : St → Hp → Prop), Inv X pins σ H s → RelV v u → t v σ H Q →
    wpAny (model X.prog X.w) X.A (assign target X.env u) (fun _ s' => ∃ σ' H', Inv X pins σ' H' s' ∧ Q σ' H') X.xe s

abbrev TSet := V → V → V → Hp → (Hp → Prop) → Prop
def PSet (X : Cx) (t : TSet) : Prop :=
  ∀ (pins : List (Addr × Obj)) (s : Shared) (σ : St) (H : Hp) (o i v : V) (ov iv u : Value) (Q : Hp → Prop), Inv X pins σ H s → RelV o ov → RelV i iv → RelV v u → t o i v H Q →
    wpAny (model X.prog X.w) X.A (setItem ov iv u) (fun _ s' => ∃ H', Inv X pins σ H' s' ∧ Q H') X.xe s

section
variable {X : Cx} {pos : Pos}
def gName (i : Nat) : TG := fun v σ H Q => Q (σ.set i (some v)) H
theorem pg_name {i : Nat} {x : Str} (hN : X.N.Nodup) (hi : X.N[i]? = some x) (hx : Loc X.env.scope x) (hf : X.fn x = true ∨ X.env.scope.names.lookup x = some .local := by first | exact .inl rfl | exact .inr rfl | assumption) : PG X (.Name x pos) (gName i) := by
  intro pins s σ H v u Q I r h
  exact wpAny_assign_Name (store_ok I hN hi hx r (fun s' I' => ⟨_, H, I', h⟩) hf)
def gSub (to ti : TE) (t : TSet) : TG := fun v σ H Q => to σ H fun o H1 => ti σ H1 fun i H2 => t o i v H2 fun H3 => Q σ H3
theorem pg_sub {o i : Expr} {to ti : TE} {t : TSet} (ho : PE X o to) (hi : PE X i ti) (hs : PSet X t)
    (ha : ∀ v, assign (.Subscript o i pos) X.env v = (do
      let ov ← holding [v] (eval o X.env)
      let iv ← holding [v, ov] (eval i X.env)
      standAt pos
      holding [v, ov, iv] (setItem ov iv v)
      release [v, ov, iv] []) := by intro _; rfl) : PG X (.Subscript o i pos) (gSub to ti t) := by
  intro pins s σ H v u Q I r h
  rw [ha]
  refine wpAny_bind (wpAny_holding (thn (ho pins s σ H _ I h) fun ov s1 ⟨x, H1, I1, r1, q1⟩ => ?_))
  refine wpAny_bind (wpAny_holding (thn (hi pins s1 σ H1 _ I1 q1) fun iv s2 ⟨y, H2, I2, r2, q2⟩ => ?_))
  refine wpAny_bind (wpAny_standAt (wpAny_bind (wpAny_holding (thn (hs pins s2 σ H2 x y v ov iv u _ I2 r1 r2 r q2) fun _ s3 ⟨H3, I3, q3⟩ => ?_))))
  exact wpAny_release ⟨σ, H3, I3, q3⟩

def tAsg (te : TE) (g : TG) : TS := fun D σ H => te σ H fun x H1 => g x σ H1 D.nx
theorem ps_asg {tg e : Expr} {te : TE} {g : TG} (he : PE X e te) (hg : PG X tg g) (hs : swapsWithSole [tg] e pos.line X.env = pure false := by rfl) (hw : swappedStores [tg] e X.env = pure none := by rfl)
    (h1 : (assignEach [tg] X.env).map (·.2) = [assign tg X.env] := by rfl) : PS X (.Assign [tg] e pos) (tAsg te g) := by
  intro pins s σ H D I h
  refine wpAny_Assign_stores (thn (he pins s σ H _ I h) fun v s1 ⟨x, H1, I1, r1, q1⟩ => ?_) hs hw
  rw [h1]
  exact thn (hg pins s1 σ H1 x v _ I1 r1 q1) fun _ s2 q => q

theorem ps_set {i : Nat} {x : Str} {e : Expr} {te : TE} {pos' : Pos} (hN : X.N.Nodup) (hi : X.N[i]? = some x) (hx : Loc X.env.scope x) (he : PE X e te) (hs : swapsWith e (some (.Name x pos')) pos.line X.env = pure false := by rfl) (hf : X.fn x = true ∨ X.env.scope.names.lookup x = some .local := by first | exact .inl rfl | exact .inr rfl | assumption) :
    PS X (.Assign [.Name x pos'] e pos) (tAsg te (gName i)) := by
  intro pins s σ H D I h
  refine wpAny_Assign_Name (thn (he pins s σ H _ I h) fun v s1 ⟨y, H1, I1, r1, q1⟩ => ?_) hs
  exact store_ok I1 hN hi hx r1 (fun s2 I2 => ⟨_, H1, I2, q1⟩) hf

end


section
variable {X : Cx} {pos : Pos}

end



structure It where
  go : Nat → Hp → Prop
  yld : Nat → Hp → V → Hp → Prop
  stop : Nat → Hp → Prop

def FpOk (X : Cx) (pins : List (Addr × Obj)) (H : Hp) (b : Addr) : Prop :=
  H b = none ∧ b ≠ X.env.locals ∧ b ∉ X.fs ∧ (b ∈ X.ex ∨ X.s₀.heap.objs.size ≤ b) ∧ (∀ x c, X.env.cells.lookup x = some c → c ≠ b) ∧ ∀ p ∈ X.pn ++ pins, p.1 ≠ b
theorem Inv.fpOk {X : Cx} {pins : List (Addr × Obj)} {σ : St} {H H' : Hp} {s : Shared} {b : Addr} (I : Inv X pins σ H s) (hb : s.heap.objs.size ≤ b) (hn : H' b = none) : FpOk X pins H' b := by
  refine ⟨hn, Nat.ne_of_gt (Nat.lt_of_lt_of_le I.lt hb), I.nofs hb, .inr (Nat.le_trans I.sz hb), fun x c e z => ?_, fun p hp z => ?_⟩
  · obtain ⟨v, q⟩ := I.cell x c e
    exact absurd (Nat.lt_of_lt_of_le q.lt (by rw [z]; exact hb)) (Nat.lt_irrefl _)
  · exact absurd (Nat.lt_of_lt_of_le (Heap.lt_size (I.pin p hp).1) (by rw [z]; exact hb)) (Nat.lt_irrefl _)
structure Turn (P : Program) (w : World) (K : PySem.W.Frag) (tg : Expr) (J : It) (fp : List Addr) (it : Addr) (tn : Nat → Heap → Prop) : Prop where
  mem : it ∈ fp
  obj : ∀ i h, tn i h → ∀ b ∈ fp, ∃ o, h.get? b = some o ∧ ∀ v, o.data ≠ .cell v
  keep : ∀ i h h', tn i h → (∀ b ∈ fp, ∀ o, h.get? b = some o → h'.get? b = some o) → tn i h'
  item : ∀ (X : Cx), X.prog = P → X.w = w → X.K = K → X.calm = true → ∀ (i : Nat) (pins : List (Addr × Obj)) (s : Shared) (σ : St) (H : Hp) (E : Value → Shared → Prop), Inv X pins σ H s → (∀ b ∈ fp, FpOk X pins H b) → tn i s.heap → J.go i H →
    wpAny (model P w) X.A (pyNext (.ref it)) (fun r s1 => ∃ u, r = some u ∧
      wpAny (model P w) X.A (letOwnedTupleGo tg (.ref it) u) (fun _ s2 => ∃ x H', Inv X pins σ H' s2 ∧ RelV x u ∧ J.yld i H x H' ∧ tn (i + 1) s2.heap ∧ ∀ b ∈ fp, H' b = none) E s1) E s
  done : ∀ (X : Cx), X.prog = P → X.w = w → X.K = K → X.calm = true → ∀ (i : Nat) (pins : List (Addr × Obj)) (s : Shared) (σ : St) (H : Hp) (E : Value → Shared → Prop), Inv X pins σ H s → (∀ b ∈ fp, FpOk X pins H b) → tn i s.heap → J.stop i H →
    wpAny (model P w) X.A (pyNext (.ref it)) (fun r s1 => r = none ∧ Inv X pins σ H s1) E s
  self : ∀ (A : Around) (i : Nat) (s : Shared) (Q : Value → Shared → Prop) (E : Value → Shared → Prop), tn i s.heap → Q (.ref it) s → wpAny (model P w) A (pyIter (.ref it)) Q E s
abbrev TI := St → Hp → (It → Hp → Prop) → Prop

def PIE (X : Cx) (pins : List (Addr × Obj)) (σ : St) (tg : Expr) (R : It → Hp → Prop) (itv : Value) (s2 : Shared) : Prop :=
  ∃ (it : Addr) (fp : List Addr) (tn : Nat → Heap → Prop) (J : It) (H' : Hp), itv = .ref it ∧ Inv X pins σ H' s2 ∧ Turn X.prog X.w X.K tg J fp it tn ∧ tn 0 s2.heap ∧ (∀ b ∈ fp, FpOk X pins H' b) ∧ R J H'
def PI (X : Cx) (tg iter : Expr) (wi : TI) : Prop :=
  ∀ (pins : List (Addr × Obj)) (s : Shared) (σ : St) (H : Hp) (R : It → Hp → Prop), Inv X pins σ H s → wi σ H R →
    wpAny (model X.prog X.w) X.A (eval iter X.env) (fun v s1 => wpAny (model X.prog X.w) X.A (pyIter v) (PIE X pins σ tg R) X.xe s1) X.xe s


theorem go_of {M : Model} {A : Around} {E : Value → Shared → Prop} {s : Shared} {tg : Expr} {it : Addr} {u : Value} {o : Obj} {n : String} {vs : Array Value} {Q : Unit → Shared → Prop} (ho : s.heap.get? it = some o) (hc : o.cls = .type n) (hd : o.data = .fields vs)
    (hn : ["enumerate", "zip", "dict_itemiterator", "dict_reverseitemiterator", "odict_iterator", "itertools.zip_longest", "itertools.pairwise"].contains n = false) (hQ : Q () s) : wpAny M A (letOwnedTupleGo tg (.ref it) u) Q E s := by
  unfold letOwnedTupleGo
  cases tg <;> first
    | exact wpAny_pure hQ
    | (cases u <;> first
        | exact wpAny_pure hQ
        | (refine wpAny_bind (wpAny_load ho ?_)
           rw [hc, hd]
           show wpAny M A (if (["enumerate", "zip", "dict_itemiterator", "dict_reverseitemiterator", "odict_iterator", "itertools.zip_longest", "itertools.pairwise"].contains n && vs[0]? == some (rawInt _)) = true then _ else _) Q E s
           rw [if_neg (by intro h; rw [hn, Bool.false_and] at h; cases h)]
           exact wpAny_pure hQ))


def Itl (K : PySem.W.Frag) (a : Addr) : It :=
  ⟨fun i H => ∃ xs x, SqL K H a xs ∧ xs[i]? = some x, fun i H x H' => H' = H ∧ ∀ xs, SqL K H a xs → xs[i]? = some x, fun i H => ∃ xs, SqL K H a xs ∧ xs.length ≤ i⟩
def Itt (K : PySem.W.Frag) (a : Addr) : It :=
  ⟨fun i H => ∃ xs x, SqT K H a xs ∧ xs[i]? = some x, fun i H x H' => H' = H ∧ ∀ xs, SqT K H a xs → xs[i]? = some x, fun i H => ∃ xs, SqT K H a xs ∧ xs.length ≤ i⟩

def Itr (lo : Int) (n : Nat) : It := ⟨fun i _ => i < n, fun i H x H' => H' = H ∧ x = .int (lo + i), fun i _ => n ≤ i⟩
theorem turn_list {P : Program} {w : World} {K : PySem.W.Frag} {tg : Expr} (a it : Addr) : Turn P w K tg (Itl K a) [it] it (fun i h => h.IsListIter it a i) where
  mem := by simp
  obj := fun i h st b hb => by
    have e : b = it := by simpa using hb
    subst e
    obtain ⟨o, e, c, d⟩ := st
    exact ⟨o, e, fun v z => by rw [d] at z; cases z⟩
  keep := fun i h h' st k => st.at fun o e => k it (by simp) o e
  item := by
    intro X hP hw hK hc i pins s σ H E I hf st hg
    subst hP hw hK
    obtain ⟨xs, x, hq, hx⟩ := hg
    obtain ⟨its, rv, p, hz⟩ := I.list hq
    obtain ⟨u, hu, ru⟩ := rv.get hx
    obtain ⟨f0, f1, f2, f3, f4, f5⟩ := hf it (by simp)
    refine wpAny_pyNext_list_item st p.isList (x := u) (by simpa using hu) fun h' st' sb => ?_
    have I1 : Inv X pins σ H { s with heap := h' } := I.turned (t' := s.toks) (fun b o hb e => (sb.2 b hb).trans e) f0 f1 f3 f4 f5
    obtain ⟨o, e, c, d⟩ := id st'
    exact ⟨u, rfl, go_of (s := { s with heap := h' }) e c d (by decide) ⟨x, H, I1, ru, ⟨rfl, fun ys hy => by rw [I.list_inj hy hq]; exact hx⟩, st', fun b hb => (hf b hb).1⟩⟩
  done := by
    intro X hP hw hK hc i pins s σ H E I hf st hg
    subst hP hw hK
    obtain ⟨xs, hq, hx⟩ := hg
    obtain ⟨its, rv, p, hz⟩ := I.list hq
    obtain ⟨f0, f1, f2, f3, f4, f5⟩ := hf it (by simp)
    have hl := rv.length
    exact wpAny_pyNext_list_end (I.ok.hd hc) st p.isList (by simp; omega) fun h' eb => ⟨rfl, I.turned (t' := s.toks) (fun b o hb e => eb b o hb e) f0 f1 f3 f4 f5⟩
  self := fun _ _ _ _ _ st h => wpAny_pyIter_listiter st h
theorem turn_tuple {P : Program} {w : World} {K : PySem.W.Frag} {tg : Expr} (a it : Addr) : Turn P w K tg (Itt K a) [it] it (fun i h => h.IsTupleIter it a i) where
  mem := by simp
  obj := fun i h st b hb => by
    have e : b = it := by simpa using hb
    subst e
    obtain ⟨o, e, c, d⟩ := st
    exact ⟨o, e, fun v z => by rw [d] at z; cases z⟩
  keep := fun i h h' st k => st.at fun o e => k it (by simp) o e
  item := by
    intro X hP hw hK hc i pins s σ H E I hf st hg
    subst hP hw hK
    obtain ⟨xs, x, hq, hx⟩ := hg
    obtain ⟨its, rv, p, hz⟩ := I.tuple hq
    obtain ⟨u, hu, ru⟩ := rv.get hx
    obtain ⟨f0, f1, f2, f3, f4, f5⟩ := hf it (by simp)
    refine wpAny_pyNext_tuple_item st (show s.heap.IsTuple a its.toArray from p) (x := u) (by simpa using hu) fun h' st' sb => ?_
    have I1 : Inv X pins σ H { s with heap := h' } := I.turned (t' := s.toks) (fun b o hb e => (sb.2 b hb).trans e) f0 f1 f3 f4 f5
    obtain ⟨o, e, c, d⟩ := id st'
    exact ⟨u, rfl, go_of (s := { s with heap := h' }) e c d (by decide) ⟨x, H, I1, ru, ⟨rfl, fun ys hy => by rw [I.tuple_inj hy hq]; exact hx⟩, st', fun b hb => (hf b hb).1⟩⟩
  done := by
    intro X hP hw hK hc i pins s σ H E I hf st hg
    subst hP hw hK
    obtain ⟨xs, hq, hx⟩ := hg
    obtain ⟨its, rv, p, hz⟩ := I.tuple hq
    obtain ⟨f0, f1, f2, f3, f4, f5⟩ := hf it (by simp)
    have hl := rv.length
    exact wpAny_pyNext_tuple_end (I.ok.hd hc) st (show s.heap.IsTuple a its.toArray from p) (by simp; omega) fun h' eb => ⟨rfl, I.turned (t' := s.toks) (fun b o hb e => eb b o hb e) f0 f1 f3 f4 f5⟩
  self := fun _ _ _ _ _ st h => wpAny_pyIter_tupleiter st h
theorem turn_range {P : Program} {w : World} {K : PySem.W.Frag} {tg : Expr} (it : Addr) (lo : Int) (n : Nat) : Turn P w K tg (Itr lo n) [it] it (fun i h => IsRangeIter h it (lo + (i : Nat) * 1) ((n : Int) - (i : Nat)) 1) where
  mem := by simp
  obj := fun i h st b hb => by
    have e : b = it := by simpa using hb
    subst e
    exact ⟨_, st, fun v z => by
      have z' : Data.fields _ = Data.cell v := z
      cases z'⟩
  keep := fun i h h' st k => k it (by simp) _ st
  item := by
    intro X hP hw hK hc i pins s σ H E I hf st hg
    subst hP hw hK
    obtain ⟨f0, f1, f2, f3, f4, f5⟩ := hf it (by simp)
    have W := Walks.range (prog := X.prog) (w := X.w) (I.ok.hd hc) it lo 1 n
    refine W.item i s _ _ hg st fun v h' tk hv st' kk => ?_
    obtain ⟨t, rfl⟩ := hv
    have I1 : Inv X pins σ H { s with heap := h', toks := tk } := I.turned (fun b o hb e => kk b o (by simpa using hb) e) f0 f1 f3 f4 f5
    refine ⟨_, rfl, go_of (s := { s with heap := h', toks := tk }) (n := "range_iterator") st' rfl rfl (by decide) ⟨.int (lo + i), H, I1, ⟨t, ?_⟩, ⟨rfl, rfl⟩, st', fun b hb => (hf b hb).1⟩⟩
    rw [Int.mul_one]
  done := by
    intro X hP hw hK hc i pins s σ H E I hf st hg
    subst hP hw hK
    obtain ⟨f0, f1, f2, f3, f4, f5⟩ := hf it (by simp)
    exact wpAny_pyNext_range_end (I.ok.hd hc) st (by have : n ≤ i := hg; omega) fun h' eb => ⟨rfl, I.turned (t' := s.toks) (fun b o hb e => eb b o hb e) f0 f1 f3 f4 f5⟩
  self := fun _ _ _ _ _ st h => wpAny_pyIter_rangeiter st h
end L2

namespace L2
open PySem PySem.Spec PyProof.Rows
section
variable {X : Cx} {tg : Expr}
def iList (K : PySem.W.Frag) (tl : TE) : TI := fun σ H R => tl σ H fun x H1 => ∃ a, x = .ref a ∧ (∃ xs, SqL K H1 a xs) ∧ R (Itl K a) H1
def iTup (K : PySem.W.Frag) (tl : TE) : TI := fun σ H R => tl σ H fun x H1 => ∃ a, x = .ref a ∧ (∃ xs, SqT K H1 a xs) ∧ R (Itt K a) H1
theorem pi_list {l : Expr} {tl : TE} (hl : PE X l tl) : PI X tg l (iList X.K tl) := by
  intro pins s σ H R I h
  refine thn (hl pins s σ H _ I h) fun v s1 ⟨x, H1, I1, r1, q1⟩ => ?_
  obtain ⟨a, e, ⟨xs, hq⟩, q⟩ := q1
  subst e
  cases r1
  obtain ⟨its, rv, p, hz⟩ := I1.list hq
  refine wpAny_pyIter_list p.isList ?_
  refine ⟨s1.heap.objs.size, [s1.heap.objs.size], _, _, H1, rfl, I1.kept (t' := s1.toks) fun b o e => Heap.get?_push_of_some _ e, turn_list a _, ⟨_, Heap.get?_push_size _ rfl, rfl, rfl⟩, fun b hb => ?_, q⟩
  have e : b = s1.heap.objs.size := by simpa using hb
  subst e
  exact I1.fpOk (Nat.le_refl _) (I1.hok.fresh (Nat.le_refl _))
theorem pi_tup {l : Expr} {tl : TE} (hl : PE X l tl) : PI X tg l (iTup X.K tl) := by
  intro pins s σ H R I h
  refine thn (hl pins s σ H _ I h) fun v s1 ⟨x, H1, I1, r1, q1⟩ => ?_
  obtain ⟨a, e, ⟨xs, hq⟩, q⟩ := q1
  subst e
  cases r1
  obtain ⟨its, rv, p, hz⟩ := I1.tuple hq
  refine wpAny_pyIter_tuple (show s1.heap.IsTuple a its.toArray from p) ?_
  refine ⟨s1.heap.objs.size, [s1.heap.objs.size], _, _, H1, rfl, I1.kept (t' := s1.toks) fun b o e => Heap.get?_push_of_some _ e, turn_tuple a _, ⟨_, Heap.get?_push_size _ rfl, rfl, rfl⟩, fun b hb => ?_, q⟩
  have e : b = s1.heap.objs.size := by simpa using hb
  subst e
  exact I1.fpOk (Nat.le_refl _) (I1.hok.fresh (Nat.le_refl _))

theorem range_it {pins : List (Addr × Obj)} {σ : St} {H : Hp} {s : Shared} {R : It → Hp → Prop} {E : Value → Shared → Prop} {lo hi : Int} {t u v : Tok} {tk : Nat} (I : Inv X pins σ H s) (h1 : -(2 ^ 62) ≤ lo) (h2 : lo < 2 ^ 62) (h3 : -(2 ^ 62) ≤ hi) (h4 : hi < 2 ^ 62)
    (q : R (Itr lo (hi - lo).toNat) H) : wpAny (model X.prog X.w) X.A (pyIter (.ref s.heap.objs.size)) (PIE X pins σ tg R) E { s with heap := s.heap.push { cls := .type "range", data := .fields #[.int lo t, .int hi u, .int 1 v] }, toks := tk } := by
  refine wpAny_pyIter_range (IsRange.new ..) (small_one h1 h2 h3 h4) ?_
  have I1 : Inv X pins σ H { s with heap := s.heap.push { cls := .type "range", data := .fields #[.int lo t, .int hi u, .int 1 v] }, toks := tk } := I.kept fun b o e => Heap.get?_push_of_some _ e
  refine ⟨(s.heap.push { cls := .type "range", data := .fields #[.int lo t, .int hi u, .int 1 v] }).objs.size, [(s.heap.push { cls := .type "range", data := .fields #[.int lo t, .int hi u, .int 1 v] }).objs.size], _, _, H, rfl,
    I1.kept (t' := tk) fun b o e => Heap.get?_push_of_some _ e, turn_range _ lo (hi - lo).toNat, ?_, fun b hb => ?_, q⟩
  · have e1 : lo + ((0 : Nat) : Int) * 1 = lo := by simp
    have e2 : (((hi - lo).toNat : Nat) : Int) - ((0 : Nat) : Int) = Builtin.Range.rangeSize lo hi 1 := by rw [rangeSize_one]; split <;> omega
    show IsRangeIter _ _ (lo + ((0 : Nat) : Int) * 1) ((((hi - lo).toNat : Nat) : Int) - ((0 : Nat) : Int)) 1
    rw [e1, e2]
    exact Heap.get?_push_size _ rfl
  · have e : b = (s.heap.push { cls := .type "range", data := .fields #[.int lo t, .int hi u, .int 1 v] }).objs.size := by simpa using hb
    subst e
    exact I1.fpOk (Nat.le_refl _) (I1.hok.fresh (Nat.le_refl _))
def iRng1 (ta : TA) : TI := fun σ H R => ta σ H fun vs H1 => ∃ j : Int, vs = [.int j] ∧ -(2 ^ 62) ≤ j ∧ j < 2 ^ 62 ∧ R (Itr 0 j.toNat) H1
theorem pi_range1 {a : Expr} {ta : TA} {p pos : Pos} (hg : Gl X "range") (hm : X.mg "range" = none) (ha : PA X [a] ta) (hs : starEach [a] X.env = [(false, eval a X.env)] := by rfl) : PI X tg (.Call (.Name "range" p) [a] [] pos) (iRng1 ta) := by
  intro pins s σ H R I h
  refine Call_ (ld_blt I hg hm boot_range (PyProof.Rows.callWith_type1 (thn (ha pos pins s σ H _ I h) fun us s1 ⟨vs, H1, I1, r1, q1⟩ => ?_) hs rfl))
  obtain ⟨j, e, q1, q2, q⟩ := q1
  subst e
  cases r1 with
  | cons r rr =>
    cases rr
    obtain ⟨t, rfl⟩ := r
    exact call_range_1 (range_it I1 (by omega) (by omega) q1 q2 (by simpa using q))
def tFor (wi : TI) (g : TG) (tb : TS) : TS := fun D σ H => wi σ H fun J H1 => ∃ W : Nat → Nat → St → Hp → Prop, (∃ m, W 0 m σ H1) ∧ ∀ i m σ H, W i m σ H →
  (J.stop i H ∧ D.nx σ H) ∨ (J.go i H ∧ ∃ N : St → Hp → Prop, (∀ σ' H', N σ' H' → ∃ m', m' < m ∧ W (i + 1) m' σ' H') ∧ ∀ x H', J.yld i H x H' → g x σ H' fun σ2 H2 => tb { D with nx := N, ct := N, bk := D.nx } σ2 H2)

def pinsAt (fp : List Addr) (h : Heap) : List (Addr × Obj) := fp.filterMap fun b => (h.get? b).map fun o => (b, o)
theorem mem_pinsAt {fp : List Addr} {h : Heap} {b : Addr} {o : Obj} (hb : b ∈ fp) (e : h.get? b = some o) : (b, o) ∈ pinsAt fp h := List.mem_filterMap.mpr ⟨b, hb, by rw [e]; rfl⟩
theorem of_pinsAt {fp : List Addr} {h : Heap} {p : Addr × Obj} (hp : p ∈ pinsAt fp h) : p.1 ∈ fp ∧ h.get? p.1 = some p.2 := by
  obtain ⟨b, hb, e⟩ := List.mem_filterMap.mp hp
  cases q : h.get? b with
  | none => rw [q] at e; cases e
  | some o =>
    rw [q] at e
    have e' : (b, o) = p := Option.some.inj e
    subst e'
    exact ⟨hb, q⟩
theorem Inv.pinned {pins : List (Addr × Obj)} {σ : St} {H : Hp} {s : Shared} {fp : List Addr} (I : Inv X pins σ H s) (hf : ∀ b ∈ fp, FpOk X pins H b) (ho : ∀ b ∈ fp, ∃ o, s.heap.get? b = some o ∧ ∀ v, o.data ≠ .cell v) : Inv X (pins ++ pinsAt fp s.heap) σ H s :=
  I.pins_of fun p hp => (List.mem_append.mp hp).elim (fun z => I.pin p (List.mem_append_right _ z)) fun z => by
    obtain ⟨hb, e⟩ := of_pinsAt z
    obtain ⟨f0, f1, f2, _⟩ := hf p.1 hb
    obtain ⟨o, e', d⟩ := ho p.1 hb
    rw [e] at e'; cases e'
    exact ⟨e, f0, f1, f2, d⟩
theorem Inv.unpinned {pins pl : List (Addr × Obj)} {σ : St} {H : Hp} {s : Shared} (I : Inv X (pins ++ pl) σ H s) : Inv X pins σ H s := I.pins_of fun p hp => I.pin p (List.mem_append_right _ (List.mem_append_left _ hp))
theorem ps_for {iter : Expr} {body : List Stmt} {wi : TI} {g : TG} {tb : TS} {pos : Pos} (hp : PassesOwn (model X.prog X.w) X.A X.env X.xe) (hc : X.calm = true) (hi : PI X tg iter wi) (hg : PG X tg g) (hb : PSs X body tb)
    (hs : ∀ x, foldedSetIterable iter X.env x = pure x := by intro _; rfl) : PS X (.For tg iter body [] pos) (tFor wi g tb) := by
  intro pins s σ H D I h
  refine wpAny_For (thn (hi pins s σ H _ I h) fun v s1 h1 => thn h1 fun itv s2 h2 => ?_) hs
  obtain ⟨it, fp, tn, J, H2, e, I2, T, st2, f2, W, ⟨m0, w0⟩, turn⟩ := h2
  subst e
  -- what stays true of the iterator's objects through the loop
  have stat : ∀ {H' : Hp}, (∀ b ∈ fp, H' b = none) → ∀ b ∈ fp, FpOk X pins H' b := fun hn b hb => ⟨hn b hb, (f2 b hb).2⟩
  refine codeAny_forLoop_any (fun n s' => ∃ i σ' H', Inv X pins σ' H' s' ∧ tn i s'.heap ∧ (∀ b ∈ fp, H' b = none) ∧ W i n σ' H') ?_ m0 ⟨0, σ, H2, I2, st2, fun b hb => (f2 b hb).1, w0⟩
  rintro n s3 ⟨i, σ3, H3, I3, st3, fr3, w3⟩
  rcases turn i n σ3 H3 w3 with ⟨stop, qn⟩ | ⟨go, N, hN, step⟩
  · refine wpAny_passesOwn hp (thn (T.done X rfl rfl rfl hc i pins s3 σ3 H3 X.xe I3 (stat fr3) st3 stop) fun r s4 ⟨hr, I4⟩ => ?_)
    subst hr
    exact wpAny_execs_nil ⟨σ3, H3, I4, qn⟩
  · refine wpAny_passesOwn hp (thn (T.item X rfl rfl rfl hc i pins s3 σ3 H3 X.xe I3 (stat fr3) st3 go) fun r s4 ⟨u, hr, h4⟩ => ?_)
    subst hr
    refine wpAny_passesOwn hp (thn h4 fun _ s5 ⟨x, H5, I5, r5, y5, st5, fr5⟩ => ?_)
    have I5' := I5.pinned (stat fr5) (T.obj _ _ st5)
    refine wpAny_passesOwn hp (thn (hg _ s5 σ3 H5 x u _ I5' r5 (step x H5 y5)) fun _ s6 ⟨σ6, H6, I6, q6⟩ => ?_)
    refine wpAny_passesOwn hp (thn (hb _ s6 σ6 H6 _ I6 q6) fun f s7 q7 => ?_)
    have again : ∀ {σ7 : St} {H7 : Hp}, Inv X (pins ++ pinsAt fp s5.heap) σ7 H7 s7 → N σ7 H7 → ∃ m, m < n ∧ ∃ i σ' H', Inv X pins σ' H' s7 ∧ tn i s7.heap ∧ (∀ b ∈ fp, H' b = none) ∧ W i m σ' H' := fun {σ7 H7} I7 n7 => by
      obtain ⟨m', hm, w7⟩ := hN σ7 H7 n7
      refine ⟨m', hm, i + 1, σ7, H7, I7.unpinned, T.keep _ _ _ st5 fun b hb o e => (I7.pin (b, o) (List.mem_append_right _ (List.mem_append_right _ (mem_pinsAt hb e)))).1, fun b hb => ?_, w7⟩
      obtain ⟨o, e, d⟩ := T.obj _ _ st5 b hb
      exact (I7.pin (b, o) (List.mem_append_right _ (List.mem_append_right _ (mem_pinsAt hb e)))).2.1
    cases f with
    | next => obtain ⟨σ7, H7, I7, n7⟩ := q7; exact again I7 n7
    | cont => obtain ⟨σ7, H7, I7, n7⟩ := q7; exact again I7 n7
    | brk => obtain ⟨σ7, H7, I7, q7⟩ := q7; exact ⟨σ7, H7, I7.unpinned, q7⟩
    | ret v => obtain ⟨x7, σ7, H7, I7, r7, q7⟩ := q7; exact ⟨x7, σ7, H7, I7.unpinned, r7, q7⟩
end



theorem for_list {K : PySem.W.Frag} {a : Addr} {xs : List V} {g : TG} {tb : TS} {D : Ends} {σ : St} {H : Hp} (Pv : Nat → St → Hp → Prop) (h0 : Pv 0 σ H) (hl : ∀ i σ H, i ≤ xs.length → Pv i σ H → SqL K H a xs)
    (hs : ∀ i x σ H, xs[i]? = some x → Pv i σ H → g x σ H fun σ2 H2 => tb { D with nx := Pv (i + 1), ct := Pv (i + 1), bk := D.nx } σ2 H2) (hd : ∀ σ H, Pv xs.length σ H → D.nx σ H) :
    ∃ W : Nat → Nat → St → Hp → Prop, (∃ m, W 0 m σ H) ∧ ∀ i m σ H, W i m σ H →
      ((Itl K a).stop i H ∧ D.nx σ H) ∨ ((Itl K a).go i H ∧ ∃ N : St → Hp → Prop, (∀ σ' H', N σ' H' → ∃ m', m' < m ∧ W (i + 1) m' σ' H') ∧ ∀ x H', (Itl K a).yld i H x H' → g x σ H' fun σ2 H2 => tb { D with nx := N, ct := N, bk := D.nx } σ2 H2) := by
  refine ⟨fun i m σ H => m = xs.length - i ∧ i ≤ xs.length ∧ Pv i σ H, ⟨xs.length, by simp, Nat.zero_le _, h0⟩, ?_⟩
  rintro i m σ H ⟨rfl, hi, p⟩
  have q := hl i σ H hi p
  by_cases hlt : i < xs.length
  · refine .inr ⟨⟨xs, xs[i], q, by simp [hlt]⟩, Pv (i + 1), fun σ' H' p' => ⟨xs.length - (i + 1), by omega, rfl, hlt, p'⟩, fun x H' y => ?_⟩
    obtain ⟨e, y⟩ := y
    subst e
    exact hs i x σ _ (y xs q) p
  · have e : i = xs.length := by omega
    subst e
    exact .inl ⟨⟨xs, q, Nat.le_refl _⟩, hd σ H p⟩
theorem for_range {lo : Int} {n : Nat} {g : TG} {tb : TS} {D : Ends} {σ : St} {H : Hp} (Pv : Nat → St → Hp → Prop) (h0 : Pv 0 σ H)
    (hs : ∀ i σ H, i < n → Pv i σ H → g (.int (lo + i)) σ H fun σ2 H2 => tb { D with nx := Pv (i + 1), ct := Pv (i + 1), bk := D.nx } σ2 H2) (hd : ∀ σ H, Pv n σ H → D.nx σ H) :
    ∃ W : Nat → Nat → St → Hp → Prop, (∃ m, W 0 m σ H) ∧ ∀ i m σ H, W i m σ H →
      ((Itr lo n).stop i H ∧ D.nx σ H) ∨ ((Itr lo n).go i H ∧ ∃ N : St → Hp → Prop, (∀ σ' H', N σ' H' → ∃ m', m' < m ∧ W (i + 1) m' σ' H') ∧ ∀ x H', (Itr lo n).yld i H x H' → g x σ H' fun σ2 H2 => tb { D with nx := N, ct := N, bk := D.nx } σ2 H2) := by
  refine ⟨fun i m σ H => m = n - i ∧ i ≤ n ∧ Pv i σ H, ⟨n, by simp, Nat.zero_le _, h0⟩, ?_⟩
  rintro i m σ H ⟨rfl, hi, p⟩
  by_cases hlt : i < n
  · refine .inr ⟨hlt, Pv (i + 1), fun σ' H' p' => ⟨n - (i + 1), by omega, rfl, hlt, p'⟩, fun x H' y => ?_⟩
    obtain ⟨e, y⟩ := y
    subst e y
    exact hs i σ _ hlt p
  · have e : i = n := by omega
    subst e
    exact .inl ⟨Nat.le_refl _, hd σ H p⟩

end L2

namespace L2
open PySem PySem.Spec PyProof.Rows

abbrev R2 := V → V → Hp → VK → Prop

def OpR (X : Cx) (f : Value → Value → Sem Value) (r : R2) : Prop :=
  ∀ (pins : List (Addr × Obj)) (s : Shared) (σ : St) (H : Hp) (x y : V) (v u : Value) (Q : VK), Inv X pins σ H s → RelV x v → RelV y u → r x y H Q →
    wpAny (model X.prog X.w) X.A (f v u) (EP X pins σ Q) X.xe s

def UnR (X : Cx) (f : Value → Sem Value) (r : V → Hp → VK → Prop) : Prop :=
  ∀ (pins : List (Addr × Obj)) (s : Shared) (σ : St) (H : Hp) (x : V) (v : Value) (Q : VK), Inv X pins σ H s → RelV x v → r x H Q →
    wpAny (model X.prog X.w) X.A (f v) (EP X pins σ Q) X.xe s

def CallR (X : Cx) (f : Value) (r : List V → Hp → VK → Prop) : Prop :=
  ∀ (pins : List (Addr × Obj)) (s : Shared) (σ : St) (H : Hp) (xs : List V) (us : List Value) (Q : VK), Inv X pins σ H s → Vals xs us → r xs H Q →
    wpAny (model X.prog X.w) X.A (call f us) (EP X pins σ Q) X.xe s

def tOp (r : R2) (ta tb : TE) : TE := fun σ H Q => ta σ H fun x H1 => tb σ H1 fun y H2 => r x y H2 Q
def tUn (r : V → Hp → VK → Prop) (ta : TE) : TE := fun σ H Q => ta σ H fun x H1 => r x H1 Q

def rI (C : Int → Int → Prop) (g : Int → Int → V) : R2 := fun x y H Q => ∃ i j, x = .int i ∧ y = .int j ∧ C i j ∧ Q (g i j) H
def rI0 (g : Int → Int → V) : R2 := fun x y H Q => ∃ i j, x = .int i ∧ y = .int j ∧ Q (g i j) H
def rU (g : Int → V) : V → Hp → VK → Prop := fun x H Q => ∃ i, x = .int i ∧ Q (g i) H

section
variable {X : Cx} {a b c : Expr} {ta tb tc : TE} {pos : Pos}

theorem binT (ha : PE X a ta) (hb : PE X b tb) {pins : List (Addr × Obj)} {s : Shared} {σ : St} {H : Hp} {R : V → V → Hp → Prop} (I : Inv X pins σ H s)
    (h : ta σ H fun x H1 => tb σ H1 fun y H2 => R x y H2) {Q : Value → Shared → Prop} {f : Value → Value → Sem Value}
    (hf : ∀ v u s2 x y H2, Inv X pins σ H2 s2 → RelV x v → RelV y u → R x y H2 → wpAny (model X.prog X.w) X.A (f v u) Q X.xe s2) :
    wpAny (model X.prog X.w) X.A (eval a X.env) (fun v s₁ => wpAny (model X.prog X.w) X.A (eval b X.env) (fun u s₂ => wpAny (model X.prog X.w) X.A (f v u) Q X.xe s₂) X.xe s₁) X.xe s := by
  refine thn (ha pins s σ H _ I h) fun v s1 ⟨x, H1, I1, r1, q1⟩ => ?_
  refine thn (hb pins s1 σ H1 _ I1 q1) fun u s2 ⟨y, H2, I2, r2, q2⟩ => ?_
  exact hf v u s2 x y H2 I2 r1 r2 q2

theorem pe_op {op : Operator} {r : R2} (ho : OpR X (binaryOp op) r) (ha : PE X a ta) (hb : PE X b tb) : PE X (.BinOp a op b pos) (tOp r ta tb) := by
  intro pins s σ H Q I h
  exact wpAny_BinOp (binT ha hb I h fun v u s2 x y H2 I2 rx ry q => ho pins s2 σ H2 x y v u Q I2 rx ry q)
theorem pe_un {op : UnaryOp} {r : V → Hp → VK → Prop} (ho : UnR X (unaryOp op) r) (ha : PE X a ta) : PE X (.UnaryOp op a pos) (tUn r ta) := by
  intro pins s σ H Q I h
  exact UnaryOp_ (thn (ha pins s σ H _ I h) fun v s1 ⟨x, H1, I1, r1, q1⟩ => ho pins s1 σ H1 x v Q I1 r1 q1)

theorem opI {f : Value → Value → Sem Value} {C : Int → Int → Prop} {g : Int → Int → Int}
    (rule : ∀ (i j : Int) (t u : Tok) (s : Shared) (Q : Value → Shared → Prop) (E : Value → Shared → Prop), C i j → Q (.int (g i j) s.toks) { s with toks := s.toks + 1 } → wpAny (model X.prog X.w) X.A (f (.int i t) (.int j u)) Q E s) :
    OpR X f (rI C fun i j => .int (g i j)) := by
  intro pins s σ H x y v u Q I rx ry h
  obtain ⟨i, j, rfl, rfl, hc, q⟩ := h
  obtain ⟨t, rfl⟩ := rx
  obtain ⟨t', rfl⟩ := ry
  exact rule i j t t' s _ _ hc ⟨.int (g i j), H, I.tok _, ⟨_, rfl⟩, q⟩
theorem opI0 {f : Value → Value → Sem Value} {g : Int → Int → Int}
    (rule : ∀ (i j : Int) (t u : Tok) (s : Shared) (Q : Value → Shared → Prop) (E : Value → Shared → Prop), Q (.int (g i j) s.toks) { s with toks := s.toks + 1 } → wpAny (model X.prog X.w) X.A (f (.int i t) (.int j u)) Q E s) :
    OpR X f (rI0 fun i j => .int (g i j)) := by
  intro pins s σ H x y v u Q I rx ry h
  obtain ⟨i, j, rfl, rfl, q⟩ := h
  obtain ⟨t, rfl⟩ := rx
  obtain ⟨t', rfl⟩ := ry
  exact rule i j t t' s _ _ ⟨.int (g i j), H, I.tok _, ⟨_, rfl⟩, q⟩
theorem opB0 {f : Value → Value → Sem Value} {g : Int → Int → Bool}
    (rule : ∀ (i j : Int) (t u : Tok) (s : Shared) (Q : Value → Shared → Prop) (E : Value → Shared → Prop), Q (.bool (g i j)) s → wpAny (model X.prog X.w) X.A (f (.int i t) (.int j u)) Q E s) :
    OpR X f (rI0 fun i j => .bl (g i j)) := by
  intro pins s σ H x y v u Q I rx ry h
  obtain ⟨i, j, rfl, rfl, q⟩ := h
  obtain ⟨t, rfl⟩ := rx
  obtain ⟨t', rfl⟩ := ry
  exact rule i j t t' s _ _ ⟨.bl (g i j), H, I, rfl, q⟩

def CMul (i j : Int) : Prop := (-(2 ^ 64) < i ∧ i < 2 ^ 64) ∨ (-(2 ^ 64) < j ∧ j < 2 ^ 64)
theorem CMul.ok {i j : Int} (h : CMul i j) : IntMulOk i j := by
  rcases h with ⟨h1, h2⟩ | ⟨h1, h2⟩
  · exact .of_left (intBits_le_64 h1 h2)
  · exact .of_right (intBits_le_64 h1 h2)
theorem op_add : OpR X (binaryOp .Add) (rI0 fun i j => .int (i + j)) := opI0 fun _ _ _ _ _ _ _ q => add_int q
theorem op_sub : OpR X (binaryOp .Sub) (rI0 fun i j => .int (i - j)) := opI0 fun _ _ _ _ _ _ _ q => sub_int q
theorem op_mul : OpR X (binaryOp .Mult) (rI CMul fun i j => .int (i * j)) := opI fun _ _ _ _ _ _ _ hc q => mul_int q hc.ok

theorem op_mod : OpR X (binaryOp .Mod) (rI (fun _ j => 0 < j) fun i j => .int (i % j)) := opI fun i j _ _ _ _ _ hc q => by
  have h1 : (0 : Int) < j := hc
  exact mod_int' (by omega) (by rw [Int.fmod_eq_emod_of_nonneg i (by omega)]; exact q)
theorem unI {f : Value → Sem Value} {g : Int → Int}
    (rule : ∀ (i : Int) (t : Tok) (s : Shared) (Q : Value → Shared → Prop) (E : Value → Shared → Prop), Q (.int (g i) s.toks) { s with toks := s.toks + 1 } → wpAny (model X.prog X.w) X.A (f (.int i t)) Q E s) :
    UnR X f (rU fun i => .int (g i)) := by
  intro pins s σ H x v Q I rx h
  obtain ⟨i, rfl, q⟩ := h
  obtain ⟨t, rfl⟩ := rx
  exact rule i t s _ _ ⟨.int (g i), H, I.tok _, ⟨_, rfl⟩, q⟩
theorem un_neg : UnR X (unaryOp .USub) (rU fun i => .int (-i)) := unI fun _ _ _ _ _ q => neg_int q
end



def scal : V → V → Bool
  | .non, .non => true | .non, .int _ => true | .int _, .non => true | .non, .bl _ => true | .bl _, .non => true | .non, .str _ => true | .str _, .non => true
  | .int _, .int _ => true | .bl _, .bl _ => true | .str _, .str _ => true | .byt _, .byt _ => true
  | .int _, .str _ => true | .str _, .int _ => true | .bl _, .str _ => true | .str _, .bl _ => true
  | _, _ => false
def rEq : R2 := fun x y H Q => scal x y = true ∧ Q (.bl (decide (x = y))) H
def rNe : R2 := fun x y H Q => scal x y = true ∧ Q (.bl (!decide (x = y))) H

theorem dec_int {i j : Int} : decide (V.int i = V.int j) = (i == j) := by
  rw [Bool.eq_iff_iff]
  simp
theorem dec_bl {i j : Bool} : decide (V.bl i = V.bl j) = (i == j) := by
  rw [Bool.eq_iff_iff]
  simp
theorem dec_str {i j : Str} : decide (V.str i = V.str j) = (i == j) := by
  rw [Bool.eq_iff_iff]
  simp
theorem dec_byt {i j : Array UInt8} : decide (V.byt i = V.byt j) = (i.toList == j.toList) := by
  rw [Bool.eq_iff_iff]
  cases i
  cases j
  simp

section
variable {X : Cx} {a b c : Expr} {ta tb tc : TE} {pos : Pos}
theorem fin_bl {pins : List (Addr × Obj)} {σ : St} {H : Hp} {s : Shared} {Q : VK} {k k' : Bool} (I : Inv X pins σ H s) (q : Q (.bl k) H) (e : k = k') : EP X pins σ Q (.bool k') s := by
  subst e
  exact ⟨.bl k, H, I, rfl, q⟩
theorem op_eq : OpR X (compareOp .Eq) rEq := by
  intro pins s σ H x y v u Q I rx ry h
  obtain ⟨hs, q⟩ := h
  cases x with
  | non =>
    cases rx
    cases y with
    | non => cases ry; exact PySem.EqNone.eq_none_none (fin_bl I q (by simp))
    | bl j => cases ry; exact PySem.EqNone.eq_none_bool (fin_bl I q (by simp))
    | int j => obtain ⟨t', rfl⟩ := ry; exact PySem.EqNone.eq_none_int (fin_bl I q (by simp))
    | str j => obtain ⟨t', rfl⟩ := ry; exact PySem.EqNone.eq_none_str (fin_bl I q (by simp))
    | _ => exact absurd (show false = true from hs) Bool.false_ne_true
  | bl i =>
    cases rx
    cases y with
    | non => cases ry; exact PySem.EqNone.eq_bool_none (fin_bl I q (by simp))
    | bl j => cases ry; exact eq_bool (fin_bl I q dec_bl)
    | str j => obtain ⟨t', rfl⟩ := ry; exact PySem.EqMixed.eq_bool_str (fin_bl I q (by simp))
    | _ => exact absurd (show false = true from hs) Bool.false_ne_true
  | int i =>
    obtain ⟨t, rfl⟩ := rx
    cases y with
    | non => cases ry; exact PySem.EqNone.eq_int_none (fin_bl I q (by simp))
    | int j => obtain ⟨t', rfl⟩ := ry; exact eq_int (fin_bl I q dec_int)
    | str j => obtain ⟨t', rfl⟩ := ry; exact PySem.EqMixed.eq_int_str (fin_bl I q (by simp))
    | _ => exact absurd (show false = true from hs) Bool.false_ne_true
  | str i =>
    obtain ⟨t, rfl⟩ := rx
    cases y with
    | non => cases ry; exact PySem.EqNone.eq_str_none (fin_bl I q (by simp))
    | bl j => cases ry; exact PySem.EqMixed.eq_str_bool (fin_bl I q (by simp))
    | int j => obtain ⟨t', rfl⟩ := ry; exact PySem.EqMixed.eq_str_int (fin_bl I q (by simp))
    | str j => obtain ⟨t', rfl⟩ := ry; exact eq_str (fin_bl I q dec_str)
    | _ => exact absurd (show false = true from hs) Bool.false_ne_true
  | byt i =>
    obtain ⟨t, rfl⟩ := rx
    cases y with
    | byt j => obtain ⟨t', rfl⟩ := ry; exact PySem.W.eq_bytes (fin_bl I q dec_byt)
    | _ => exact absurd (show false = true from hs) Bool.false_ne_true
  | _ => cases y <;> exact absurd (show false = true from hs) Bool.false_ne_true
theorem op_ne : OpR X (compareOp .NotEq) rNe := by
  intro pins s σ H x y v u Q I rx ry h
  obtain ⟨hs, q⟩ := h
  cases x with
  | non =>
    cases rx
    cases y with
    | non => cases ry; exact PySem.EqNone.ne_none_none (fin_bl I q (by simp))
    | bl j => cases ry; exact PySem.EqNone.ne_none_bool (fin_bl I q (by simp))
    | int j => obtain ⟨t', rfl⟩ := ry; exact PySem.EqNone.ne_none_int (fin_bl I q (by simp))
    | str j => obtain ⟨t', rfl⟩ := ry; exact PySem.EqNone.ne_none_str (fin_bl I q (by simp))
    | _ => exact absurd (show false = true from hs) Bool.false_ne_true
  | bl i =>
    cases rx
    cases y with
    | non => cases ry; exact PySem.EqNone.ne_bool_none (fin_bl I q (by simp))
    | bl j => cases ry; exact ne_bool (fin_bl I q (congrArg not dec_bl))
    | str j => obtain ⟨t', rfl⟩ := ry; exact PySem.EqMixed.ne_bool_str (fin_bl I q (by simp))
    | _ => exact absurd (show false = true from hs) Bool.false_ne_true
  | int i =>
    obtain ⟨t, rfl⟩ := rx
    cases y with
    | non => cases ry; exact PySem.EqNone.ne_int_none (fin_bl I q (by simp))
    | int j => obtain ⟨t', rfl⟩ := ry; exact ne_int (fin_bl I q (congrArg not dec_int))
    | str j => obtain ⟨t', rfl⟩ := ry; exact PySem.EqMixed.ne_int_str (fin_bl I q (by simp))
    | _ => exact absurd (show false = true from hs) Bool.false_ne_true
  | str i =>
    obtain ⟨t, rfl⟩ := rx
    cases y with
    | non => cases ry; exact PySem.EqNone.ne_str_none (fin_bl I q (by simp))
    | bl j => cases ry; exact PySem.EqMixed.ne_str_bool (fin_bl I q (by simp))
    | int j => obtain ⟨t', rfl⟩ := ry; exact PySem.EqMixed.ne_str_int (fin_bl I q (by simp))
    | str j => obtain ⟨t', rfl⟩ := ry; exact ne_str (fin_bl I q (congrArg not dec_str))
    | _ => exact absurd (show false = true from hs) Bool.false_ne_true
  | byt i =>
    obtain ⟨t, rfl⟩ := rx
    cases y with
    | byt j => obtain ⟨t', rfl⟩ := ry; exact PySem.W.ne_bytes (fin_bl I q (congrArg not dec_byt))
    | _ => exact absurd (show false = true from hs) Bool.false_ne_true
  | _ => cases y <;> exact absurd (show false = true from hs) Bool.false_ne_true

theorem op_lt : OpR X (compareOp .Lt) (rI0 fun i j => .bl (decide (i < j))) := opB0 fun _ _ _ _ _ _ _ q => lt_int q
theorem op_le : OpR X (compareOp .LtE) (rI0 fun i j => .bl (decide (i ≤ j))) := opB0 fun _ _ _ _ _ _ _ q => le_int q
theorem op_gt : OpR X (compareOp .Gt) (rI0 fun i j => .bl (decide (j < i))) := opB0 fun _ _ _ _ _ _ _ q => gt_int q
theorem op_ge : OpR X (compareOp .GtE) (rI0 fun i j => .bl (decide (j ≤ i))) := opB0 fun _ _ _ _ _ _ _ q => ge_int q
theorem op_in_str : OpR X (compareOp .In) (fun x y H Q => ∃ i j, x = .str i ∧ y = .str j ∧ Q (.bl (!(Builtin.Str.occurrences j i 0 j.length 1).isEmpty)) H) := by
  intro pins s σ H x y v u Q I rx ry h
  obtain ⟨i, j, rfl, rfl, q⟩ := h
  obtain ⟨t, rfl⟩ := rx
  obtain ⟨t', rfl⟩ := ry
  exact in_str (fin_bl I q rfl)


theorem op_isN : OpR X (compareOp .Is) (fun x y H Q => y = .non ∧ Q (.bl (decide (x = .non))) H) := by
  intro pins s σ H x y v u Q I rx ry h
  obtain ⟨rfl, q⟩ := h
  cases ry
  refine is_none_gen (fin_bl I q ?_)
  cases x <;> first
    | (cases rx; rfl)
    | (obtain ⟨t, rfl⟩ := rx; rfl)
theorem op_notN : OpR X (compareOp .IsNot) (fun x y H Q => y = .non ∧ Q (.bl (!decide (x = .non))) H) := by
  intro pins s σ H x y v u Q I rx ry h
  obtain ⟨rfl, q⟩ := h
  cases ry
  refine isnot_none_gen (fin_bl I q ?_)
  cases x <;> first
    | (cases rx; rfl)
    | (obtain ⟨t, rfl⟩ := rx; rfl)

theorem op_notin_str : OpR X (compareOp .NotIn) (fun x y H Q => ∃ i j, x = .str i ∧ y = .str j ∧ Q (.bl (!(!(Builtin.Str.occurrences j i 0 j.length 1).isEmpty))) H) := by
  intro pins s σ H x y v u Q I rx ry h
  obtain ⟨i, j, rfl, rfl, q⟩ := h
  obtain ⟨t, rfl⟩ := rx
  obtain ⟨t', rfl⟩ := ry
  exact notIn_str (fin_bl I q rfl)

theorem nomark (b : Expr) {op : CmpOp} (h : op ≠ .In := by decide) (h2 : op ≠ .NotIn := by decide) : behindInMarks op b = false := by
  have e1 : (op == CmpOp.In) = false := by cases op <;> first | rfl | exact absurd rfl h
  have e2 : (op == CmpOp.NotIn) = false := by cases op <;> first | rfl | exact absurd rfl h2
  cases b <;> simp [behindInMarks, e1, e2]

theorem pe_cmpR {op : CmpOp} {r : R2} (ho : OpR X (compareOp op) r) (ha : PE X a ta) (hb : PE X b tb) (hm : behindInMarks op b = false) : PE X (.Compare a [op] [b] pos) (tOp r ta tb) := by
  intro pins s σ H Q I h
  exact wpAny_Compare1 (binT ha hb I h fun v u s2 x y H2 I2 rx ry q => ho pins s2 σ H2 x y v u Q I2 rx ry q) hm

def tTest (t : TE) : TT := fun σ H Q => t σ H fun x H' => ∃ k, x = .bl k ∧ Q k H'
theorem pt_cmpR {op : CmpOp} {r : R2} (ho : OpR X (compareOp op) r) (ha : PE X a ta) (hb : PE X b tb) (hm : behindInMarks op b = false) : PT X (.Compare a [op] [b] pos) (tTest (tOp r ta tb)) := by
  intro pins s σ H Q I h
  refine wpAny_isTrue_Compare1 (thn (ha pins s σ H _ I h) fun v s1 ⟨x, H1, I1, r1, q1⟩ => thn (hb pins s1 σ H1 _ I1 q1) fun u s2 ⟨y, H2, I2, r2, q2⟩ =>
    thn (ho pins s2 σ H2 x y v u _ I2 r1 r2 q2) fun c s3 ⟨z, H3, I3, r3, k, e, q3⟩ => ?_) hm
  subst e
  cases r3
  exact wpAny_truthy_bool ⟨H3, I3, q3⟩

def tChain (r r' : R2) (ta tb tc : TE) : TE := fun σ H Q => ta σ H fun x H1 => tb σ H1 fun y H2 => r x y H2 fun z H3 => ∃ k, z = .bl k ∧
  (if k = true then tc σ H3 fun w' H4 => r' y w' H4 Q else Q (.bl false) H3)
theorem pe_chain {op op' : CmpOp} {r r' : R2} (ho : OpR X (compareOp op) r) (ho' : OpR X (compareOp op') r') (ha : PE X a ta) (hb : PE X b tb) (hc : PE X c tc)
    (hm : lastMarks [op, op'] [b, c] = false := by with_unfolding_all rfl) : PE X (.Compare a [op, op'] [b, c] pos) (tChain r r' ta tb tc) := by
  intro pins s σ H Q I h
  refine Compare_chain (thn (ha pins s σ H _ I h) fun v s1 ⟨x, H1, I1, r1, q1⟩ => chain_link (thn (hb pins s1 σ H1 _ I1 q1) fun u s2 ⟨y, H2, I2, r2, q2⟩ =>
    thn (ho pins s2 σ H2 x y v u _ I2 r1 r2 q2) fun d s3 ⟨z, H3, I3, r3, k, e, q3⟩ => ?_)) hm
  subst e
  cases r3
  refine wpAny_truthy_bool ?_
  cases k with
  | false => exact ite_ff ⟨.bl false, H3, I3, rfl, q3⟩
  | true => exact ite_tt (chain_last (thn (hc pins s3 σ H3 _ I3 q3) fun w' s4 ⟨z', H4, I4, r4, q4⟩ => ho' pins s4 σ H4 y z' u w' Q I4 r2 r4 q4))
theorem line63 : (sizeLine : Nat) < 2 ^ 63 := by rw [sizeLine_eq]; decide
theorem op_add_str : OpR X (binaryOp .Add) (fun x y H Q => ∃ i j, x = .str i ∧ y = .str j ∧ i.length + j.length ≤ sizeLine ∧ Q (.str (i ++ j)) H) := by
  intro pins s σ H x y v u Q I rx ry h
  obtain ⟨i, j, rfl, rfl, hz, q⟩ := h
  obtain ⟨t, rfl⟩ := rx
  obtain ⟨t', rfl⟩ := ry
  exact add_str (fun t' tk => ⟨.str (i ++ j), H, I.tok _, ⟨_, rfl⟩, q⟩) hz
theorem vals1 {x : V} {us : List Value} (r : Vals [x] us) : ∃ u, us = [u] ∧ RelV x u := by
  cases r with
  | cons r1 r2 => cases r2; exact ⟨_, rfl, r1⟩
theorem vals2 {x y : V} {us : List Value} (r : Vals [x, y] us) : ∃ u w', us = [u, w'] ∧ RelV x u ∧ RelV y w' := by
  cases r with
  | cons r1 r2 =>
    cases r2 with
    | cons r3 r4 => cases r4; exact ⟨_, _, rfl, r1, r3⟩
theorem call_str_int : CallR X (.type "str") (fun xs H Q => ∃ i, xs = [.int i] ∧ i.natAbs.log2 < 1920 ∧ Q (.str (toString i)) H) := by
  intro pins s σ H xs us Q I r h
  obtain ⟨i, rfl, hz, q⟩ := h
  obtain ⟨u, rfl, t, rfl⟩ := vals1 r
  exact PySem.P.str_of_int hz ⟨.str _, H, I.tok _, ⟨_, rfl⟩, q⟩
def LenV (K : PySem.W.Frag) (x : V) (H : Hp) (n : Nat) : Prop :=
  match x with
  | .str y => y.length ≤ sizeLine ∧ n = y.length
  | .byt y => y.size ≤ sizeLine ∧ n = y.size
  | .ref p => (∃ xs, SqL K H p xs ∧ n = xs.length) ∨ ∃ xs, SqT K H p xs ∧ n = xs.length
  | _ => False
theorem call_len : CallR X (.builtin "len") (fun xs H Q => ∃ x n, xs = [x] ∧ LenV X.K x H n ∧ Q (.int n) H) := by
  intro pins s σ H xs us Q I r h
  obtain ⟨x, n, rfl, e, q⟩ := h
  obtain ⟨u, rfl, rx⟩ := vals1 r
  have hl := line63
  have hs : sizeLine = 16777216 := sizeLine_eq
  cases x with
  | str y =>
    obtain ⟨t, rfl⟩ := rx
    obtain ⟨hy, e'⟩ : y.length ≤ sizeLine ∧ n = y.length := e
    subst e'
    exact len_str (by omega) ⟨.int _, H, I.tok _, ⟨_, rfl⟩, q⟩
  | byt y =>
    obtain ⟨t, rfl⟩ := rx
    obtain ⟨hy, e'⟩ : y.size ≤ sizeLine ∧ n = y.size := e
    subst e'
    exact PySem.W.len_bytes (by omega) ⟨.int _, H, I.tok _, ⟨_, rfl⟩, q⟩
  | ref p =>
    cases rx
    have e' : (∃ xs, SqL X.K H p xs ∧ n = xs.length) ∨ ∃ xs, SqT X.K H p xs ∧ n = xs.length := e
    rcases e' with ⟨xs, hx, e'⟩ | ⟨xs, hx, e'⟩
    · subst e'
      obtain ⟨its, r', pl, hz⟩ := I.list hx
      have hlen := r'.length
      exact Calls.call_len_list pl.isList (by simp only [List.size_toArray]; omega) ⟨.int xs.length, H, I.tok _, ⟨_, by simp only [List.size_toArray]; rw [hlen]⟩, q⟩
    · subst e'
      obtain ⟨its, r', pl, hz⟩ := I.tuple hx
      have hlen := r'.length
      exact len_tuple pl (by simp only [List.size_toArray]; omega) ⟨.int xs.length, H, I.tok _, ⟨_, by simp only [List.size_toArray]; rw [hlen]⟩, q⟩
  | _ => exact (show False from e).elim

end
end L2

namespace L2
open PySem PySem.Spec PyProof.Rows


structure ObjM (h : Heap) (x dx C : Addr) (mA : Str → Option Value) : Prop where
  obj : h.get? x = some (PySem.W.instObj C dx)
  ns : h.Ns1 dx mA
  ne : dx ≠ x

theorem lookIn_ns {h : Heap} {dx : Addr} {mA : Str → Option Value} (n : h.Ns1 dx mA) : ∃ od, h.get? dx = some od ∧ ∀ name, PySem.W.lookIn name od = some (mA name) := by
  obtain ⟨o, es, ep, ho, hd, hk, _, hm⟩ := n
  refine ⟨o, ho, fun name => ?_⟩
  have e := hm name
  unfold nsFind findBy at e
  rw [← Array.find?_toList] at e
  unfold PySem.W.lookIn
  rw [hd]
  dsimp only
  split
  · rename_i y q
    rw [q] at e
    exact congrArg some e
  · rename_i q
    rw [q] at e
    have a : es.toList.any (·.refKey) = false := by
      rw [List.any_eq_false]
      intro y hy
      obtain ⟨z, t, hkey⟩ := hk y (Array.mem_toList_iff.mp hy)
      simp [DictEntry.refKey, hkey]
    have a' : ¬ es.toList.any (·.refKey) = true := by rw [a]; exact Bool.false_ne_true
    rw [if_neg a']
    exact congrArg some e

theorem ObjM.look {h : Heap} {x dx C : Addr} {mA : Str → Option Value} (I : ObjM h x dx C mA) : ∃ od, PySem.W.InstAt h x (PySem.W.instObj C dx) C (some od) ∧ ∀ name, PySem.W.lookIn name od = some (mA name) :=
  let ⟨od, ho, hl⟩ := lookIn_ns I.ns
  ⟨od, ⟨I.obj, rfl, rfl, ho⟩, hl⟩

section
variable {prog : Program} {w : World} {A : Around} {E : Value → Shared → Prop} {s : Shared} {K : PySem.W.Frag} {x dx C f : Addr} {mA : Str → Option Value} {name : Str} {v : Value}

end


section
variable {P : Program} {w : World} {H H' : Hp} {h h' : Heap} {a C dx : Addr} {fs fs' : List (Str × V)}
theorem ins_get (hok : HOk P w H h) (e : H a = some (.ins C dx fs)) : ∃ mA, ObjM h a dx C mA ∧ (∀ f, RelO (fs.lookup f) (mA f)) ∧ PySem.Within mA (fs.map (·.1)) ∧ fs.length ≤ 1000 ∧ H dx = some (.own a) := by
  obtain ⟨d, z, ne, ob, mA, n, r, q⟩ := (show ObjOk P w H h a (.ins C dx fs) from hok a _ e)
  exact ⟨mA, ⟨ob, n, ne⟩, r, q, z, d⟩
end


structure Cls (K : PySem.W.Frag) (C : Addr) : Prop where
  pg : PySem.W.plainGet K C Str.empty = true
  hd : PySem.W.hasDictIn K C = true
  po : PySem.W.plainOver K C = true
  sa : PySem.W.findIn K (.ref C) "__setattr__" = some (some (.builtin "object.__setattr__"))
theorem Cls.get {K : PySem.W.Frag} {C : Addr} (c : Cls K C) (f : Str) : PySem.W.plainGet K C f = true := c.pg

section
variable {X : Cx} {pins : List (Addr × Obj)} {σ : St} {H : Hp} {s : Shared} {a C dx : Addr} {fs : List (Str × V)} {f : Str} {v : V} {A : Around} {E : Value → Shared → Prop}

end



section
variable {X : Cx} {o e value : Expr} {f : Str} {pos pos' tpos : Pos} {ta tv : TE}
end


section
variable {X : Cx} {pins : List (Addr × Obj)} {σ : St} {H : Hp} {s : Shared} {A : Around} {E : Value → Shared → Prop} {Q : Value → Shared → Prop} {c : Value} {b : Bool}

inductive TyOf (K : PySem.W.Frag) (H : Hp) : V → Value → Prop where
  | non : TyOf K H .non (.type "NoneType")
  | bl (x : Bool) : TyOf K H (.bl x) (.type "bool")
  | int (i : Int) : TyOf K H (.int i) (.type "int")
  | str (x : Str) : TyOf K H (.str x) (.type "str")
  | flt (x : UInt64) : TyOf K H (.flt x) (.type "float")
  | lst {a : Addr} {xs : List V} (e : H a = some (.lst xs)) : TyOf K H (.ref a) (.type "list")
  | frz {a : Addr} {o : Obj} {xs : List V} (e : H a = some (.frz o (.lst xs))) : TyOf K H (.ref a) (.type "list")
  | tup {a : Addr} {xs : List V} (e : H a = some (.tup xs)) : TyOf K H (.ref a) (.type "tuple")
  | dK {a : Addr} {kvs : List (Key × V)} (e : H a = some (.dK kvs)) : TyOf K H (.ref a) (.type "dict")
  | dT {a : Addr} {kvs : List (List Key × V)} (e : H a = some (.dT kvs)) : TyOf K H (.ref a) (.type "dict")
  | ins {a C dx : Addr} {fs : List (Str × V)} (e : H a = some (.ins C dx fs)) (cl : Cls K C) (ha : PySem.W.findIn K (.ref C) "__class__" = some (some (.builtin "object.__class__")))
      (hn : PySem.W.specialIn K (.builtin "object.__class__") "__get__" = some (some (.builtin "getset_descriptor.__get__"))) (htk : PySem.W.takesIn K (.builtin "object.__class__") = some true)
      (hm : PySem.W.mroIn K C (.type "object") = some true) : TyOf K H (.ref a) (.ref C)

theorem isinst_ok {x : V} {u t : Value} (I : Inv X pins σ H s) (rx : RelV x u) (ty : TyOf X.K H x t) (e : PySem.W.kitOne X.K t c = some b) (h : ∀ tk, Q (.bool b) { s with toks := tk }) :
    wpAny (model X.prog X.w) A (call (.builtin "isinstance") [u, c]) Q E s := by
  cases ty with
  | non => cases (show u = Value.none from rx); exact PySem.W.kia_one PySem.W.kitx_none I.kIn True.intro e (fun z => nomatch z) h
  | bl y => cases (show u = Value.bool y from rx); exact PySem.W.kia_one PySem.W.kitx_bool I.kIn True.intro e (fun z => nomatch z) h
  | int i => obtain ⟨t, q⟩ := (show ∃ t, u = Value.int i t from rx); cases q; exact PySem.W.kia_one PySem.W.kitx_int I.kIn True.intro e (fun z => nomatch z) h
  | str y => obtain ⟨t, q⟩ := (show ∃ t, u = Value.str y t from rx); cases q; exact PySem.W.kia_one PySem.W.kitx_str I.kIn True.intro e (fun z => nomatch z) h
  | flt y => obtain ⟨t, q⟩ := (show ∃ t, u = Value.float y t from rx); cases q; exact PySem.W.kia_one PySem.W.kitx_float I.kIn True.intro e (fun z => nomatch z) h
  | @lst a xs ea =>
    cases (show u = Value.ref a from rx)
    obtain ⟨_, _, n, _, h1⟩ := (show ObjOk X.prog X.w H s.heap a (.lst xs) from I.hok a _ ea)
    exact PySem.W.kia_one PySem.W.kitx_list I.kIn ⟨_, h1, rfl⟩ e (fun z => nomatch z) h
  | @frz a ob xs ea =>
    cases (show u = Value.ref a from rx)
    obtain ⟨_, _, _, n, _, h1⟩ := (show ObjOk X.prog X.w H s.heap a (.frz ob (.lst xs)) from I.hok a _ ea)
    exact PySem.W.kia_one PySem.W.kitx_list I.kIn ⟨_, h1, rfl⟩ e (fun z => nomatch z) h
  | @tup a xs ea =>
    cases (show u = Value.ref a from rx)
    obtain ⟨_, _, _, p⟩ := (show ObjOk X.prog X.w H s.heap a (.tup xs) from I.hok a _ ea)
    obtain ⟨o, h1, h2, _⟩ := p
    exact PySem.W.kia_one PySem.W.kitx_tuple I.kIn ⟨o, h1, h2⟩ e (fun z => nomatch z) h
  | @dK a kvs ea =>
    cases (show u = Value.ref a from rx)
    obtain ⟨_, _, vs, _, p⟩ := (show ObjOk X.prog X.w H s.heap a (.dK kvs) from I.hok a _ ea)
    obtain ⟨o, es, ep, h1, h2, _⟩ := p
    exact PySem.W.kia_one PySem.W.kitx_dict I.kIn ⟨o, h1, h2.1⟩ e (fun z => nomatch z) h
  | @dT a kvs ea =>
    cases (show u = Value.ref a from rx)
    obtain ⟨_, _, xs, _, o, es, ep, h1, h2, _⟩ := (show ObjOk X.prog X.w H s.heap a (.dT kvs) from I.hok a _ ea)
    exact PySem.W.kia_one PySem.W.kitx_dict I.kIn ⟨o, h1, h2.1⟩ e (fun z => nomatch z) h
  | @ins a C dx fs ea cl ha hn htk hm =>
    cases (show u = Value.ref a from rx)
    obtain ⟨mA, O, _⟩ := ins_get I.hok ea
    obtain ⟨od, J, _⟩ := O.look
    exact PySem.W.kia_one (PySem.W.kitx_own (cl.get _) cl.hd ha hn htk hm) I.kIn J e (fun z => nomatch z) h
end
end L2

namespace L2
open PySem PySem.Spec PyProof.Rows


structure Room (k : Nat) (A : Around) : Prop where
  hd : A.handled = none
  dp : A.depth + 3 * k + 5 < recursionLimit
  un : A.units + 16 * k + 200 < cLine
theorem Room.mono {j k : Nat} {A : Around} (r : Room k A) (h : j ≤ k) : Room j A := ⟨r.hd, by have := r.dp; omega, by have := r.un; omega⟩
theorem Room.deeper {k : Nat} {A : Around} (r : Room (k + 1) A) (env : Env) : Room k (A.deeper env) :=
  ⟨r.hd, by have := r.dp; show A.depth + 1 + 3 * k + 5 < _; omega, by have := r.un; show A.units + 3 + 16 * k + 200 < _; omega⟩
theorem Room.depth {k : Nat} {A : Around} (r : Room k A) : A.depth < recursionLimit := by have := r.dp; omega
theorem Room.units {k : Nat} {A : Around} (r : Room k A) : A.units + 64 < cLine := by have := r.un; omega
def tNil : TA := fun _ H Q => Q [] H
def tCons (ta : TE) (tr : TA) : TA := fun σ H Q => ta σ H fun x H1 => tr σ H1 fun xs H2 => Q (x :: xs) H2
section
variable {X : Cx} {e : Expr} {es : List Expr} {te : TE} {t : TA} {pos : Pos}
theorem pa_nil : PA X [] tNil := fun _ _ _ _ H Q I h => Calls.spliced_nil ⟨[], H, I, .nil, h⟩
theorem pa_cons (ha : PE X e te) (hr : PA X es t) (hs : starEach (e :: es) X.env = (false, eval e X.env) :: starEach es X.env := by rfl) : PA X (e :: es) (tCons te t) := by
  intro pos pins s σ H Q I h
  rw [hs]
  show wpAny _ _ (spliced ((false, eval e X.env) :: backTo pos (starEach es X.env))) _ _ s
  refine Calls.spliced_cons (thn (ha pins s σ H _ I h) fun u s1 ⟨x, H1, I1, r1, q1⟩ => ?_)
  exact thn (hr pos pins s1 σ H1 _ I1 q1) fun us s2 ⟨xs, H2, I2, r2, q2⟩ => ⟨x :: xs, H2, I2, .cons r1 r2, q2⟩


def tTup (t : TA) : TE := fun σ H Q => t σ H fun xs H1 => xs.length ≤ sizeLine ∧ ∀ p, H1 p = none → Q (.ref p) (upd H1 p (.tup xs))
def tLst (t : TA) : TE := fun σ H Q => t σ H fun xs H1 => xs.length ≤ sizeLine ∧ ∀ p, H1 p = none → Q (.ref p) (upd H1 p (.lst xs))
theorem pe_tup {x1} (h : PA X es t) : PE X (.Tuple es x1 pos) (tTup t) := by
  intro pins s σ H Q I hq
  refine wpAny_Tuple_spliced (thn (h pos pins s σ H _ I hq) fun us s1 ⟨xs, H1, I1, r, z, q⟩ => ⟨by rw [← r.length]; exact z, ?_⟩)
  have hf : H1 s1.heap.objs.size = none := I1.hok.fresh (Nat.le_refl _)
  refine ⟨.ref s1.heap.objs.size, upd H1 s1.heap.objs.size (.tup xs), I1.laid (t' := s1.toks) (fun b u e => Heap.get?_push_of_some _ e) (Nat.le_refl _) ?_, rfl, q _ hf⟩
  exact ⟨z, us, r, ⟨_, Heap.get?_push_size _ rfl, rfl, _, rfl⟩⟩
theorem pe_lst (h : PA X es t) : PE X (.List es pos) (tLst t) := by
  intro pins s σ H Q I hq
  refine wpAny_List_spliced (thn (h pos pins s σ H _ I hq) fun us s1 ⟨xs, H1, I1, r, z, q⟩ => ⟨by rw [← r.length]; exact z, ?_⟩)
  have hf : H1 s1.heap.objs.size = none := I1.hok.fresh (Nat.le_refl _)
  refine ⟨.ref s1.heap.objs.size, upd H1 s1.heap.objs.size (.lst xs), I1.laid (t' := s1.toks) (fun b u e => Heap.get?_push_of_some _ e) (Nat.le_refl _) ?_, rfl, q _ hf⟩
  exact ⟨z, us, 0, r, Heap.get?_push_size _ rfl⟩
end



abbrev Sp := List V → Hp → VK → XK → Prop

abbrev CXT := List Env → Hp → Shared → XK → Value → Shared → Prop


structure Env0 (P : Program) (w : World) (K : PySem.W.Frag) (mg : Str → Option Value) (base : Heap) (A : Around) (outer : List Env) (s : Shared) (H : Hp) : Prop where
  frames : A.frames = some outer
  mod : Mod K mg base
  bs : ∀ b o, base.get? b = some o → s.heap.get? b = some o ∧ H b = none
  bsz : base.objs.size ≤ s.heap.objs.size
  funs : s.heap.FunFrames base outer
  frf : ∀ b ∈ frs outer, H b = none
  hok : HOk P w H s.heap
  bare : AllBare s.gens

def CE (outer : List Env) (P : Program) (w : World) (H : Hp) (s : Shared) (Q : VK) (u : Value) (s' : Shared) : Prop :=
  ∃ v H', s'.os = s.os ∧ AllBare s'.gens ∧ Un (frs outer) [] H H' s.heap s'.heap ∧ HOk P w H' s'.heap ∧ RelV v u ∧ Q v H'
def CR (CX : CXT) (outer : List Env) (P : Program) (w : World) (H : Hp) (s : Shared) (Q : VK) (E : XK) (r : Result) (s' : Shared) : Prop :=
  match r with
  | .ok (.ret u) => CE outer P w H s Q u s'
  | .ok _ => False
  | .error e => CX outer H s E e s'
structure FnOk (P : Program) (w : World) (K : PySem.W.Frag) (mg : Str → Option Value) (base : Heap) (CX : CXT) (k : Nat) (f : Addr) (fd : FuncData) (ps : List Str) (sp : Sp) : Prop where
  len : ∀ vs H Q E, sp vs H Q E → vs.length = ps.length
  run : ∀ (A : Around) (outer : List Env) (s : Shared) (H : Hp) (args : Args) (us : List Value) (vs : List V) (Q : VK) (E : XK), Room k A → Env0 P w K mg base A outer s H → BindsTo s fd args (ps.zip us) → Vals vs us → sp vs H Q E →
    codeAny (model P w) A (.call (.ref f) args) (CR CX outer P w H s Q E) s
section
variable {X : Cx} {pins : List (Addr × Obj)} {σ : St} {H : Hp} {s s' : Shared}

theorem Inv.env0 (I : Inv X pins σ H s) : Env0 X.prog X.w X.K X.mg X.base X.A X.stack s H :=
  ⟨I.ok.frames, I.ok.mod, I.bs, Nat.le_trans I.ok.bsz I.sz, I.stack, I.stkFree, I.hok, I.bare⟩

theorem Inv.after {Q : VK} {u : Value} (I : Inv X pins σ H s) (h : CE X.stack X.prog X.w H s Q u s') : EP X pins σ Q u s' := by
  obtain ⟨v, H', os, bare, un, hok, r, q⟩ := h
  obtain ⟨hh, g, d, t, os'⟩ := s'
  obtain rfl : os' = s.os := os
  exact ⟨v, H', I.call (h' := hh) (g' := g) (d' := d) (t' := t) (ch := []) un hok bare (fun b z => absurd z (by simp)), r, q⟩
end



def tCall (sp : Sp) (dvs : List V) (E : XK) (t : TA) : TE := fun σ H Q => t σ H fun vs H1 => sp (vs ++ dvs) H1 Q E

def Binds (K : PySem.W.Frag) (fd : FuncData) (ps : List Str) (ds : List Value) : Prop :=
  ∀ (s : Shared) (us : List Value), K.In s.heap → (us ++ ds).length = ps.length → BindsTo s fd ⟨us, []⟩ (ps.zip (us ++ ds))

theorem Binds.all {K : PySem.W.Frag} {fd : FuncData} {ps : List Str} (h : ∀ us : List Value, us.length = ps.length → bindArgs fd ⟨us, []⟩ = pure (ps.zip us)) : Binds K fd ps [] := fun s us _ hl => by
  rw [List.append_nil] at hl ⊢
  exact .of_eq (h us hl)


def Passes (CX : CXT) (X : Cx) (E : XK) : Prop := ∀ (pins : List (Addr × Obj)) (σ : St) (H : Hp) (s : Shared) (e : Value) (s' : Shared), Inv X pins σ H s → CX X.stack H s E e s' → X.xe e s'

section
variable {X : Cx} {CX : CXT} {k : Nat} {f C : Addr} {fd : FuncData} {ps : List Str} {sp : Sp} {dvs : List V} {ds : List Value} {E : XK} {x m : Str} {p pos apos : Pos} {e o : Expr} {es : List Expr} {ta : TE} {t : TA}


theorem run_fn {pins : List (Addr × Obj)} {σ : St} {H : Hp} {s : Shared} {Q : VK} {us : List Value} {vs : List V} (F : FnOk X.prog X.w X.K X.mg X.base CX k f fd ps sp) (hr : Room k X.A) (hb : Binds X.K fd ps ds) (hd : Vals dvs ds) (hx : Passes CX X E)
    (I : Inv X pins σ H s) (r : Vals vs us) (h : sp (vs ++ dvs) H Q E) : wpAny (model X.prog X.w) X.A (call (.ref f) us) (EP X pins σ Q) X.xe s := by
  have r2 : Vals (vs ++ dvs) (us ++ ds) := r.append hd
  have hl : (us ++ ds).length = ps.length := by rw [← r2.length]; exact F.len _ _ _ _ h
  refine wpAny_call (codeAny_mono (F.run X.A X.stack s H ⟨us, []⟩ (us ++ ds) (vs ++ dvs) Q E hr I.env0 (hb s us I.kIn hl) r2 h) fun r s' hq => ?_)
  cases r with
  | error e => exact hx pins σ H s e s' I hq
  | ok fl =>
    cases fl with
    | ret u => exact I.after hq
    | next => exact False.elim hq
    | brk => exact False.elim hq
    | cont => exact False.elim hq

theorem pe_call (F : FnOk X.prog X.w X.K X.mg X.base CX k f fd ps sp) (hr : Room k X.A) (hg : Gl X x) (hm : X.mg x = some (.ref f)) (hk : PySem.W.keepIn X.K (.ref f) = true) (hb : Binds X.K fd ps ds) (hd : Vals dvs ds) (hx : Passes CX X E)
    (ha : PA X (e :: es) t) (hdb : (x == ("__debug__" : Str)) = false := by decide) (he : starEach (e :: es) X.env = (false, eval e X.env) :: starEach es X.env := by rfl) (hpl : (backTo pos (starEach es X.env)).any (·.1) = false := by rfl) :
    PE X (.Call (.Name x p) (e :: es) [] pos) (tCall sp dvs E t) := by
  intro pins s σ H Q I h
  refine wpAny_Call_Name_kw (ld_glob I hg hm ?_ hdb)
  refine PySem.W.callWith_K (h₀ := X.base) I.ok.mod.kin hk (thn (ha pos pins s σ H _ I h) fun us s1 ⟨vs, H1, I1, r, q⟩ => ⟨I1.kIn, ?_⟩) he hpl
  exact run_fn F hr hb hd hx I1 r q
end



section
variable {X : Cx} {CX : CXT} {k : Nat} {f C : Addr} {fd : FuncData} {ps ks : List Str} {sp : Sp} {E : XK} {x m : Str} {p pos apos kpos : Pos} {e o : Expr} {es : List Expr} {kws : List Keyword} {te ta : TE} {t tk : TA} {nm : Option Str}
variable {g : List Value → List Value → List Value} {gV : List V → List V → List V}
end



structure FnScope (N P : List Str) (sc : Scope) : Prop where
  kind : sc.kind = .function
  co : sc.isCoroutine = false
  gen : sc.isGenerator = false
  nd : N.Nodup
  pre : N.take P.length = P
  par : ∀ x ∈ P, sc.names.lookup x = some .local ∨ sc.names.lookup x = some .cell
  nofree : ∀ y ∈ sc.names, y.2 ≠ .free

theorem bindL_out {kindOf : Str → Option NameKind} {x : Str} : ∀ {binds : List (Str × Value)} {m : Str → Option Value}, (∀ v, (x, v) ∉ binds) → bindL kindOf binds m x = m x
  | [], _, _ => rfl
  | (n, v) :: r, m, h => by
    unfold bindL
    rw [bindL_out fun w hw => h w (List.mem_cons_of_mem _ hw)]
    split
    · have : x ≠ n := by rintro rfl; exact h v List.mem_cons_self
      simp [this]
    · rfl
theorem bindC_out {kindOf : Str → Option NameKind} {x : Str} : ∀ {binds : List (Str × Value)} {m : Str → Option Value}, (∀ v, (x, v) ∉ binds) → bindC kindOf binds m x = m x
  | [], _, _ => rfl
  | (n, v) :: r, m, h => by
    unfold bindC
    rw [bindC_out fun w hw => h w (List.mem_cons_of_mem _ hw)]
    split
    · rfl
    · have : x ≠ n := by rintro rfl; exact h v List.mem_cons_self
      simp [this]
theorem bindL_get {kindOf : Str → Option NameKind} {x : Str} {v : Value} : ∀ {P : List Str} {vs : List Value} {i : Nat} {m : Str → Option Value}, P.Nodup → P[i]? = some x → vs[i]? = some v → kindOf x = some .local →
    bindL kindOf (P.zip vs) m x = some v
  | [], _, _, _, _, h, _, _ => by simp at h
  | _ :: _, [], _, _, _, _, h, _ => by simp at h
  | p :: P, w :: vs, 0, m, nd, h1, h2, hk => by
    simp at h1 h2; subst h1; subst h2
    show bindL kindOf ((p, w) :: P.zip vs) m p = _
    unfold bindL
    rw [bindL_out fun v hv => (List.nodup_cons.mp nd).1 (List.of_mem_zip hv).1, if_pos hk]
    simp
  | p :: P, w :: vs, i + 1, m, nd, h1, h2, hk => by
    show bindL kindOf ((p, w) :: P.zip vs) m x = _
    unfold bindL
    exact bindL_get (i := i) (List.nodup_cons.mp nd).2 (by simpa using h1) (by simpa using h2) hk
theorem bindC_get {kindOf : Str → Option NameKind} {x : Str} {v : Value} : ∀ {P : List Str} {vs : List Value} {i : Nat} {m : Str → Option Value}, P.Nodup → P[i]? = some x → vs[i]? = some v → kindOf x ≠ some .local →
    bindC kindOf (P.zip vs) m x = some v
  | [], _, _, _, _, h, _, _ => by simp at h
  | _ :: _, [], _, _, _, _, h, _ => by simp at h
  | p :: P, w :: vs, 0, m, nd, h1, h2, hk => by
    simp at h1 h2; subst h1; subst h2
    show bindC kindOf ((p, w) :: P.zip vs) m p = _
    unfold bindC
    rw [bindC_out fun v hv => (List.nodup_cons.mp nd).1 (List.of_mem_zip hv).1, if_neg hk]
    simp
  | p :: P, w :: vs, i + 1, m, nd, h1, h2, hk => by
    show bindC kindOf ((p, w) :: P.zip vs) m x = _
    unfold bindC
    exact bindC_get (i := i) (List.nodup_cons.mp nd).2 (by simpa using h1) (by simpa using h2) hk


def start (N : List Str) (vs : List V) : St := vs.map some ++ List.replicate (N.length - vs.length) none


def cxOf (CX : CXT) (P : Program) (w : World) (K : PySem.W.Frag) (mg : Str → Option Value) (base : Heap) (N : List Str) (qual : Str) (scope : Scope) (f : Addr) (cd : Value) (A : Around) (outer : List Env) (s : Shared) (H : Hp) (E : XK) : Cx where
  prog := P
  w := w
  K := K
  mg := mg
  base := base
  A := A.deeper (envOfC qual scope s.heap.objs.size f cd)
  N := N
  s₀ := s
  H₀ := H
  env := envOfC qual scope s.heap.objs.size f cd
  outer := outer
  stack := envOfC qual scope s.heap.objs.size f cd :: outer
  ex := []
  calm := true
  fn := fun _ => true
  pn := []
  xe := fun e s' => wpAny (model P w) (A.deeper (envOfC qual scope s.heap.objs.size f cd)) (leaving (envOfC qual scope s.heap.objs.size f cd) e) (fun _ s'' => CX outer H s E e s'') (fun e' s'' => CX outer H s E e' s'') s'

theorem cell_has {sc : Scope} {n : Nat} {x : Str} (h : sc.names.lookup x = some .cell) : ∃ c, (cellsFrom n sc.names []).lookup x = some c := by
  have q := PySem.W.cellsFrom_some sc.names n [] (.inl h)
  exact Option.isSome_iff_exists.mp q

theorem inv_start {CX : CXT} {P : Program} {w : World} {K : PySem.W.Frag} {mg : Str → Option Value} {base : Heap} {N ps : List Str} {qual : Str} {scope : Scope} {f : Addr} {cd : Value} {A : Around} {outer : List Env} {s s1 : Shared} {H : Hp} {E : XK} {us : List Value} {vs : List V}
    (S : FnScope N ps scope) (hd : A.handled = none) (e0 : Env0 P w K mg base A outer s H) (hl : vs.length = ps.length) (r : Vals vs us)
    (x : InCallC s s.heap.objs.size (bindL (envOfC qual scope s.heap.objs.size f cd).kindOf (ps.zip us) fun _ => none) (cellsFrom (s.heap.objs.size + 1) scope.names []) (bindC (envOfC qual scope s.heap.objs.size f cd).kindOf (ps.zip us) fun _ => none) s1) :
    Inv (cxOf CX P w K mg base N qual scope f cd A outer s H E) [] (start N vs) H s1 := by
  have hpl : ps.length ≤ N.length := by have := congrArg List.length S.pre; rw [List.length_take] at this; omega
  obtain ⟨h1, tk, rfl, hk⟩ := x.done
  have noA : ∀ b : Addr, b ∉ (cxOf CX P w K mg base N qual scope f cd A outer s H E).ex := fun b z => absurd (show b ∈ ([] : List Addr) from z) (by simp)
  refine ⟨⟨e0.mod, S.kind, rfl, rfl, Nat.le_refl _, fun y z c h1 h2 => ?_, fun y hy => ?_, fun y c _ h => ?_, fun _ => hd, Around.frames_deeper e0.frames, .inr ⟨rfl, rfl⟩, fun b z => absurd z (noA b), e0.bs, e0.bsz, fun b _ _ => noA b, fun b z => absurd z (noA b), e0.funs, e0.frf⟩,
    rfl, e0.bare, Un.kept hk, ⟨_, x.toInCall.ns, fun i y v h1 h2 h3 => ?_⟩, fun y c h => ⟨_, x.cell y c h⟩, e0.hok.fresh (Nat.le_refl _), fun y c h => ?_, fun p hp => absurd (show p ∈ ([] : List (Addr × Obj)) from hp) (by simp), e0.hok.kept hk, ?_⟩
  · exact name_of_addr x.apart (PySem.mem_of_lookup h1) (PySem.mem_of_lookup h2)
  · have hy : scope.names.lookup y = some .cell ∨ scope.names.lookup y = some .free := hy
    rcases hy with hy | hy
    · exact cell_has hy
    · exact absurd rfl (S.nofree _ (PySem.mem_of_lookup hy))
  · exact Nat.le_of_lt (x.above y c (PySem.mem_of_lookup h))
  · have hi : i < vs.length := by
      unfold start at h2
      by_cases hi : i < vs.length
      · exact hi
      · rw [List.getElem?_append_right (by simpa using hi)] at h2
        rw [List.getElem?_replicate] at h2
        split at h2 <;> cases h2
    have ha : vs[i]? = some v := by
      unfold start at h2
      rw [List.getElem?_append_left (by simpa using hi), List.getElem?_map] at h2
      cases e : vs[i]? with
      | none => rw [e] at h2; cases h2
      | some a => rw [e] at h2; cases h2; rfl
    obtain ⟨u, hu, rv⟩ := r.get ha
    have hp : ps[i]? = some y := by
      rw [← S.pre, List.getElem?_take_of_lt (by omega)]; exact h1
    have ndP : ps.Nodup := by rw [← S.pre]; exact S.nd.sublist (List.take_sublist _ _)
    refine ⟨u, rv, ?_⟩
    rcases S.par y (List.mem_of_getElem? hp) with k | k
    · exact .inl ⟨k, bindL_get ndP hp hu k⟩
    · obtain ⟨c, e⟩ := cell_has (n := s.heap.objs.size + 1) k
      refine .inr ⟨.inl k, c, e, ?_⟩
      have q := x.cell y c e
      rw [bindC_get ndP hp hu (by show scope.names.lookup y ≠ _; rw [k]; decide)] at q
      exact q
  · exact e0.hok.fresh (Nat.le_of_lt (x.above y c (PySem.mem_of_lookup h)))
  · unfold start
    show _ = N.length
    rw [List.length_append, List.length_map, List.length_replicate]
    omega


theorem fn_of {CX : CXT} {P : Program} {w : World} {K : PySem.W.Frag} {mg : Str → Option Value} {base : Heap} {k : Nat} {f : Addr} {name qual : Str} {params : Arguments} {body : List Stmt} {scope : Scope} {dV kV doc pm cdv ct oc : Value} {an od : Option Addr}
    {osl : Array (Option Value)} {N ps : List Str} {sp : Sp} (lk : K.lookup f = some ⟨oc, od, .func (PySem.W.fnOf name qual params body scope dV kV doc pm an cdv ct), osl⟩) (hcd : PySem.W.codeIn K cdv qual = true) (S : FnScope N ps scope)
    (len : ∀ vs H Q E, sp vs H Q E → vs.length = ps.length)
    (hbody : ∀ (A : Around) (outer : List Env) (s : Shared) (H : Hp) (vs : List V) (Q : VK) (E : XK), Room k (A.deeper (envOfC qual scope s.heap.objs.size f cdv)) → sp vs H Q E →
      ∃ t, PSs (cxOf CX P w K mg base N qual scope f cdv A outer s H E) body t ∧ t { nx := fun _ H' => Q .non H', rt := Q } (start N vs) H) :
    FnOk P w K mg base CX (k + 1) f (PySem.W.fnOf name qual params body scope dV kV doc pm an cdv ct) ps sp := by
  refine ⟨len, fun A outer s H args us vs Q E hr e0 hb r hsp => ?_⟩
  have hl := len _ _ _ _ hsp
  have KX : K.In s.heap := e0.mod.kin.keeps fun b o e => (e0.bs b o e).1
  have lim : s.heap.NoLimit := e0.mod.nolimit.keeps fun b o e => (e0.bs b o e).1
  have hkind : ∀ y ∈ ps.zip us, scope.names.lookup y.1 = some .local ∨ (scope.names.lookup y.1 = some .cell ∧ ((cellsFrom (s.heap.objs.size + 1) scope.names []).lookup y.1).isSome = true) := fun ⟨n, v⟩ hy => by
    rcases S.par n (List.of_mem_zip hy).1 with q | q
    · exact .inl q
    · exact .inr ⟨q, PySem.W.cellsFrom_some _ _ _ (.inl q)⟩
  refine codeAny_call_function hr.depth (KX _ _ lk) rfl S.co S.gen rfl (PySem.W.codeRec_of KX hcd) (hb _ _ _ _ ?_)
  refine wpAny_newFunctionEnv_cells S.kind hkind fun env he s1 x => ?_
  subst he
  refine ⟨lim.keeps x.toInCall.keep, codeAny_func ?_⟩
  obtain ⟨t, ht, hq⟩ := hbody A outer s H vs Q E (hr.deeper _) hsp
  have I : Inv (cxOf CX P w K mg base N qual scope f cdv A outer s H E) [] (start N vs) H s1 := inv_start S hr.hd e0 hl r x
  refine wpAny_mono (ht [] s1 (start N vs) H _ I hq) (fun fl s' hs => ?_) fun e s' hs => hs
  have fin : ∀ {σ' : St} {H' : Hp} {v : V} {u : Value}, Inv (cxOf CX P w K mg base N qual scope f cdv A outer s H E) [] σ' H' s' → RelV v u → Q v H' → CE outer P w H s Q u s' :=
    fun {σ' H' v u} J rv q => ⟨v, H', J.os, J.bare, J.base, J.hok, rv, q⟩
  cases fl with
  | ret u =>
    obtain ⟨v, σ', H', J, rv, q⟩ := hs
    exact fin J rv q
  | next =>
    obtain ⟨σ', H', J, q⟩ := hs
    exact fin (v := V.non) (u := Value.none) J rfl q
  | brk =>
    obtain ⟨_, _, _, q⟩ := hs
    exact False.elim q
  | cont =>
    obtain ⟨_, _, _, q⟩ := hs
    exact False.elim q
end L2

namespace L2
open PySem PySem.Spec PyProof.Rows
section
variable {X : Cx} {x : Str} {p pos : Pos} {e : Expr} {es : List Expr} {t : TA} {id T : String} {r : List V → Hp → VK → Prop}

def tCB (r : List V → Hp → VK → Prop) (t : TA) : TE := fun σ H Q => t σ H fun vs H1 => r vs H1 Q

theorem pe_callB (hc : CallR X (.builtin id) r) (hg : Gl X x) (hm : X.mg x = none) (hv : bootBuiltins x = some (.builtin id)) (ha : PA X (e :: es) t) (hn : x ≠ "__name__" := by decide) (hdb : (x == ("__debug__" : Str)) = false := by decide)
    (he : starEach (e :: es) X.env = (false, eval e X.env) :: starEach es X.env := by rfl) (hpl : (backTo pos (starEach es X.env)).any (·.1) = false := by rfl) : PE X (.Call (.Name x p) (e :: es) [] pos) (tCB r t) := by
  intro pins s σ H Q I h
  refine wpAny_Call_Name_kw (ld_blt I hg hm hv ?_ hn hdb)
  exact PyProof.Rows.callWith_builtin1 (thn (ha pos pins s σ H _ I h) fun us s1 ⟨vs, H1, I1, r1, q1⟩ => hc pins s1 σ H1 vs us Q I1 r1 q1) he hpl

theorem pe_callTy (hc : CallR X (.type T) r) (hg : Gl X x) (hm : X.mg x = none) (hv : bootBuiltins x = some (.type T)) (ha : PA X (e :: es) t) (hn : x ≠ "__name__" := by decide) (hdb : (x == ("__debug__" : Str)) = false := by decide)
    (he : starEach (e :: es) X.env = (false, eval e X.env) :: starEach es X.env := by rfl) (hpl : (backTo pos (starEach es X.env)).any (·.1) = false := by rfl) : PE X (.Call (.Name x p) (e :: es) [] pos) (tCB r t) := by
  intro pins s σ H Q I h
  refine wpAny_Call_Name_kw (ld_blt I hg hm hv ?_ hn hdb)
  exact PyProof.Rows.callWith_type1 (thn (ha pos pins s σ H _ I h) fun us s1 ⟨vs, H1, I1, r1, q1⟩ => hc pins s1 σ H1 vs us Q I1 r1 q1) he hpl

end
end L2

namespace HT
open PySem PyProof.Rows


section
open PySem.SeqAt
open PySem.AutoSeq1 (wpAny_loadPart')
open PySem.MeetsSeq PySem.MeetsSeq2 PySem.MeetsSeq3

end

section
variable {prog : Program} {w : World} {A : Around} {E : Value → Shared → Prop} {s : Shared}

def sIx (n d : Nat) : Option Int → Nat
  | none => d
  | some v => if v < 0 then (v + (n : Int)).toNat else min v.toNat n
end
end HT

namespace L2
open PySem PySem.Spec PyProof.Rows


abbrev TO := St → Hp → (Option Int → Hp → Prop) → Prop

def PO (X : Cx) (e : Option Expr) (t : TO) : Prop :=
  ∀ (pins : List (Addr × Obj)) (s : Shared) (σ : St) (H : Hp) (Q : Option Int → Hp → Prop), Inv X pins σ H s → t σ H Q →
    wpAny (model X.prog X.w) X.A (evalPart e X.env) (fun u s' => ∃ o H', Inv X pins σ H' s' ∧ IsPart u o ∧ Q o H') X.xe s
def tNoPart : TO := fun _ H Q => Q none H
def tPart (t : TE) : TO := fun σ H Q => t σ H fun x H1 => ∃ i, x = .int i ∧ Q (some i) H1

section
variable {X : Cx} {e : Expr} {te : TE} {lo hi : Option Expr} {tl th : TO} {pos p2 : Pos}

theorem po_none : PO X none tNoPart := by
  intro pins s σ H Q I h
  rw [evalPart_none]
  exact wpAny_pure ⟨none, H, I, .none, h⟩
theorem po_some (h : PE X e te) : PO X (some e) (tPart te) := by
  intro pins s σ H Q I hw
  rw [evalPart_some]
  refine thn (h pins s σ H _ I hw) fun u s1 ⟨x, H1, I1, r1, q1⟩ => ?_
  obtain ⟨i, rfl, q⟩ := q1
  obtain ⟨t, rfl⟩ := r1
  exact ⟨some i, H1, I1, .int i t, q⟩


def SlR (X : Cx) (r : V → Option Int → Option Int → Hp → VK → Prop) : Prop :=
  ∀ (pins : List (Addr × Obj)) (s : Shared) (σ : St) (H : Hp) (x : V) (v vl vu : Value) (lo hi : Option Int) (sl : Addr) (Q : VK), Inv X pins σ H s → RelV x v → s.heap.IsSliceOf sl vl vu .none → IsPart vl lo → IsPart vu hi → r x lo hi H Q →
    ∃ T id, typeLookup (.type T) "__getitem__" = pure (some (.builtin id)) ∧ s.TypeIs v T ∧ wpAny (model X.prog X.w) X.A (getItem v (.ref sl)) (EP X pins σ Q) X.xe s
def tSl (r : V → Option Int → Option Int → Hp → VK → Prop) (te : TE) (tl th : TO) : TE := fun σ H Q => te σ H fun x H1 => tl σ H1 fun l H2 => th σ H2 fun u H3 => r x l u H3 Q

theorem pe_slice {r : V → Option Int → Option Int → Hp → VK → Prop} (hr : SlR X r) (he : PE X e te) (hl : PO X lo tl) (hu : PO X hi th) : PE X (.Subscript e (.Slice lo hi none p2) pos) (tSl r te tl th) := by
  intro pins s σ H Q I h
  refine Subscript_ (thn (he pins s σ H _ I h) fun v s1 ⟨x, H1, I1, r1, q1⟩ => ?_)
  refine wpAny_Slice (thn (hl pins s1 σ H1 _ I1 q1) fun vl s2 ⟨l, H2, I2, pl, q2⟩ => thn (hu pins s2 σ H2 _ I2 q2) fun vu s3 ⟨u, H3, I3, pu, q3⟩ => ?_)
  rw [evalPart_none]
  refine wpAny_pure ?_
  have I4 : Inv X pins σ H3 { s3 with heap := s3.heap.push { cls := .type "slice", data := .fields #[vl, vu, .none] } } := I3.kept (t' := s3.toks) fun b ob q => Heap.get?_push_of_some _ q
  obtain ⟨T, id, hT, ht, hg⟩ := hr pins { s3 with heap := s3.heap.push { cls := .type "slice", data := .fields #[vl, vu, .none] } } σ H3 x v vl vu l u s3.heap.objs.size Q I4 r1 (Heap.IsSliceOf.new ..) pl pu q3
  show wpAny (model X.prog X.w) X.A (subscriptTail e (.Slice lo hi none p2) v (.ref s3.heap.objs.size)) (EP X pins σ Q) X.xe { s3 with heap := s3.heap.push { cls := .type "slice", data := .fields #[vl, vu, .none] } }
  exact tail_any (ops := [.ref s3.heap.objs.size, v]) ht hT hg (by with_unfolding_all rfl)


def cutV (xs : List V) (lo hi : Option Int) : List V := (xs.drop (HT.sIx xs.length 0 lo)).take (HT.sIx xs.length xs.length hi - HT.sIx xs.length 0 lo)
theorem cutV_length (xs : List V) (lo hi : Option Int) : (cutV xs lo hi).length ≤ xs.length := by
  unfold cutV
  rw [List.length_take, List.length_drop]
  omega

end
end L2

namespace L2
open PySem PySem.Spec PyProof.Rows



def ixN (n : Nat) (i : Int) : Option Nat := if 0 ≤ i then (if i < n then some i.toNat else none) else if -(n : Int) ≤ i then some (i + n).toNat else none
def atI {α : Type} (xs : List α) (i : Int) : Option α := (ixN xs.length i).bind fun j => xs[j]?
theorem ixN_seq {n : Nat} {i : Int} {j : Nat} (h : ixN n i = some j) : seqIndex? i n = some j ∧ j < n ∧ -(n : Int) ≤ i ∧ i < n := by
  unfold ixN at h
  by_cases h0 : 0 ≤ i
  · rw [if_pos h0] at h
    by_cases h1 : i < n
    · rw [if_pos h1] at h
      have e : i.toNat = j := Option.some.inj h
      exact ⟨by rw [seqIndex_of h0 h1, e], by omega, by omega, h1⟩
    · rw [if_neg h1] at h; cases h
  · rw [if_neg h0] at h
    by_cases h1 : -(n : Int) ≤ i
    · rw [if_pos h1] at h
      have e : (i + n).toNat = j := Option.some.inj h
      exact ⟨by rw [seqIndex_neg (by omega) h1, e], by omega, h1, by omega⟩
    · rw [if_neg h1] at h; cases h
theorem atI_get {α : Type} {xs : List α} {i : Int} {v : α} (h : atI xs i = some v) : ∃ j, seqIndex? i xs.length = some j ∧ xs[j]? = some v ∧ j < xs.length ∧ -(xs.length : Int) ≤ i ∧ i < xs.length := by
  unfold atI at h
  cases e : ixN xs.length i with
  | none => rw [e] at h; cases h
  | some j =>
    rw [e] at h
    obtain ⟨h1, h2, h3, h4⟩ := ixN_seq e
    exact ⟨j, h1, h, h2, h3, h4⟩
theorem atI_nat {α : Type} {xs : List α} {j : Nat} {v : α} (h : xs[j]? = some v) : atI xs (j : Int) = some v := by
  have hj : j < xs.length := (List.getElem?_eq_some_iff.mp h).1
  have e : ixN xs.length (j : Int) = some j := by
    unfold ixN
    rw [if_pos (by omega), if_pos (by omega)]; simp
  unfold atI; rw [e]; exact h
def PlainIx (b : Expr) : Prop := ∀ o i, subscripted b false o i = operate [o, i] (getItem o i)

def IxR (X : Cx) (r : R2) : Prop :=
  ∀ (value slice : Expr) (pins : List (Addr × Obj)) (s : Shared) (σ : St) (H : Hp) (x y : V) (v u : Value) (Q : VK), Inv X pins σ H s → RelV x v → RelV y u → r x y H Q →
    subscripted slice false v u = operate [v, u] (getItem v u) → wpAny (model X.prog X.w) X.A (subscriptTail value slice v u) (EP X pins σ Q) X.xe s

def MtR (X : Cx) (id : String) (r : V → List V → Hp → VK → Prop) : Prop :=
  ∀ (pins : List (Addr × Obj)) (s : Shared) (σ : St) (H : Hp) (x : V) (xs : List V) (v : Value) (us : List Value) (Q : VK), Inv X pins σ H s → RelV x v → Vals xs us → r x xs H Q →
    wpAny (model X.prog X.w) X.A (call (.builtin id) (v :: us)) (EP X pins σ Q) X.xe s
section
variable {X : Cx} {a b : Expr} {ta tb : TE} {pos : Pos}
theorem pe_ix {r : R2} (hr : IxR X r) (ha : PE X a ta) (hb : PE X b tb) (hs : PlainIx b) : PE X (.Subscript a b pos) (tOp r ta tb) := by
  intro pins s σ H Q I h
  exact Subscript_ (binT ha hb I h fun v u s2 x y H2 I2 rx ry q => hr a b pins s2 σ H2 x y v u Q I2 rx ry q (hs _ _))

def rIxL (K : PySem.W.Frag) : R2 := fun x y H Q => ∃ p xs i v, x = .ref p ∧ y = .int i ∧ SqL K H p xs ∧ atI xs i = some v ∧ Q v H
def rIxT (K : PySem.W.Frag) : R2 := fun x y H Q => ∃ p xs i v, x = .ref p ∧ y = .int i ∧ SqT K H p xs ∧ atI xs i = some v ∧ Q v H
def rIxS : R2 := fun x y H Q => ∃ z i c, x = .str z ∧ y = .int i ∧ z.length ≤ sizeLine ∧ atI z.cps.toList i = some c ∧ Q (.str ⟨#[c]⟩) H
theorem ix_list : IxR X (rIxL X.K) := by
  intro value slice pins s σ H x y v u Q I rx ry h hs
  obtain ⟨p, xs, i, z, rfl, rfl, hq, he, q⟩ := h
  cases rx
  obtain ⟨t, rfl⟩ := ry
  obtain ⟨its, r, pl, hz⟩ := I.list hq
  obtain ⟨j, h1, h2, h3, h4, h5⟩ := atI_get he
  obtain ⟨w, ew, rw'⟩ := r.get h2
  have hl := r.length
  have hn := line63
  have fin : EP X pins σ Q w s := ⟨z, H, I, rw', q⟩
  by_cases h0 : 0 ≤ i
  · have hj : i.toNat = j := by
      rw [seqIndex_of h0 h5] at h1
      exact Option.some.inj h1
    exact item_listR pl.isList h0 (by omega) (by rw [hj]; simpa using ew) fin hs
  · have hj : (i + (its.toArray.size : Int)).toNat = j := by
      rw [seqIndex_neg (by omega) h4] at h1
      rw [List.size_toArray, ← hl]
      exact Option.some.inj h1
    exact subscriptTail_builtinR (x := w) pl.isList.typeIs slot_list_getitem.lookup
      (wpAny_getItem_list_neg (Q := fun r s' => r = w ∧ EP X pins σ Q r s') pl.isList (by omega) (by rw [List.size_toArray] <;> omega) (by omega) (by rw [hj]; simpa using ew) ⟨rfl, fin⟩) hs
theorem ix_tup : IxR X (rIxT X.K) := by
  intro value slice pins s σ H x y v u Q I rx ry h hs
  obtain ⟨p, xs, i, z, rfl, rfl, hq, he, q⟩ := h
  cases rx
  obtain ⟨t, rfl⟩ := ry
  obtain ⟨its, r, pl, hz⟩ := I.tuple hq
  obtain ⟨j, h1, h2, h3, h4, h5⟩ := atI_get he
  obtain ⟨w, ew, rw'⟩ := r.get h2
  have hl := r.length
  have hn := line63
  have fin : EP X pins σ Q w s := ⟨z, H, I, rw', q⟩
  exact subscriptTail_builtinR (x := w) pl.typeIs slot_tuple_getitem.lookup
    (getItem_tuple (j := j) (Q := fun r s' => r = w ∧ EP X pins σ Q r s') pl (by omega) (by omega) (by rw [List.size_toArray, ← hl]; exact h1) (by simpa using ew) ⟨rfl, fin⟩) hs
theorem ix_str : IxR X rIxS := by
  intro value slice pins s σ H x y v u Q I rx ry h hs
  obtain ⟨z, i, c, rfl, rfl, hz, he, q⟩ := h
  obtain ⟨t, rfl⟩ := rx
  obtain ⟨t', rfl⟩ := ry
  obtain ⟨j, h1, h2, h3, h4, h5⟩ := atI_get he
  have hl : z.cps.toList.length = z.length := by simp [Str.length]
  rw [hl] at h1 h4 h5
  have hn := line63
  exact tail_any (typeIs_str s z t) slot_str_getitem.lookup (getItem_str (c := c) (by
    have e1 : decide (i < -(2 ^ 63 : Int)) = false := decide_eq_false (by omega)
    have e2 : decide (i ≥ 2 ^ 63) = false := decide_eq_false (by omega)
    rw [e1, e2, Bool.or_false]) (by rw [h1]; simpa using h2) ⟨.str ⟨#[c]⟩, H, I.tok _, ⟨_, rfl⟩, q⟩) hs

theorem mapSeq_set (its : List Value) (n j : Nat) (u : Value) : Obj.mapSeq (·.setIfInBounds j u) { cls := .type "list", data := .seq its.toArray n } = { cls := .type "list", data := .seq (its.set j u).toArray n } := by
  simp [Obj.mapSeq]
theorem Inv.lst {pins : List (Addr × Obj)} {σ : St} {H : Hp} {s : Shared} {p : Addr} {xs : List V} (I : Inv X pins σ H s) (h : H p = some (.lst xs)) :
    ∃ (its : List Value) (n : Nat), Vals xs its ∧ s.heap.get? p = some { cls := .type "list", data := .seq its.toArray n } ∧ xs.length ≤ sizeLine := by
  obtain ⟨z, its, n, r, e⟩ := I.hok p _ h
  exact ⟨its, n, r, e, z⟩

theorem Inv.lstUpd {pins : List (Addr × Obj)} {σ : St} {H : Hp} {s : Shared} {p : Addr} {xs ys : List V} {its its' : List Value} {n n' : Nat} {f : Obj → Obj} (I : Inv X pins σ H s) (h : H p = some (.lst xs))
    (ho : s.heap.get? p = some { cls := .type "list", data := .seq its.toArray n }) (hf : f { cls := .type "list", data := .seq its.toArray n } = { cls := .type "list", data := .seq its'.toArray n' }) (r : Vals ys its') (hz : ys.length ≤ sizeLine) (t : Nat) :
    Inv X pins σ (upd H p (.lst ys)) { s with heap := s.heap.update p f, toks := t } := by
  have e : (s.heap.update p f).get? p = some { cls := .type "list", data := .seq its'.toArray n' } := by
    rw [Heap.get?_update_self f ho (by rw [hf] <;> rfl), hf]
  refine I.write (x := p) (e := p) (by rw [h]; trivial) (.inl rfl) (fun b u hb q => (Heap.get?_update_other _ _ (Ne.symm hb)).trans q) ⟨_, e⟩ ?_
  exact ⟨hz, its', n', r, e⟩
def rSetL : V → V → V → Hp → (Hp → Prop) → Prop := fun o i v H Q => ∃ p xs k j, o = .ref p ∧ i = .int k ∧ H p = some (.lst xs) ∧ ixN xs.length k = some j ∧ Q (upd H p (.lst (xs.set j v)))
theorem set_list : PSet X rSetL := by
  intro pins s σ H o i v ov iv u Q I ro ri rv h
  obtain ⟨p, xs, k, j, rfl, rfl, hp, hj, q⟩ := h
  cases ro
  obtain ⟨t, rfl⟩ := ri
  obtain ⟨its, n, r, ho, hz⟩ := I.lst hp
  obtain ⟨h1, h2, h3, h4⟩ := ixN_seq hj
  have hl := r.length
  have hn := line63
  have I' : Inv X pins σ (upd H p (.lst (xs.set j v))) { s with heap := s.heap.update p (Obj.mapSeq (·.setIfInBounds j u)) } :=
    I.lstUpd hp ho (mapSeq_set its n j u) (r.set rv j) (by rw [List.length_set]; exact hz) s.toks
  by_cases h0 : 0 ≤ k
  · have hk : k.toNat = j := by
      rw [seqIndex_of h0 h4] at h1
      exact Option.some.inj h1
    exact PySem.W.ki_setAt ho h0 (by omega) (by rw [List.size_toArray, ← hl]; exact h4) (by rw [hk]; exact ⟨_, I', q⟩)
  · have hk : (k + (its.toArray.size : Int)).toNat = j := by
      rw [seqIndex_neg (by omega) h3] at h1
      rw [List.size_toArray, ← hl]
      exact Option.some.inj h1
    exact PySem.W.ki_setBack ho (by omega) (by rw [List.size_toArray, ← hl]; exact h3) (by omega) (by rw [hk]; exact ⟨_, I', q⟩)


theorem slice_bounds (lo hi : Option Int) (n : Nat) : (sliceBounds lo hi none n).1 = ((HT.sIx n 0 lo : Nat) : Int) ∧ (sliceBounds lo hi none n).2.1 = ((HT.sIx n n hi : Nat) : Int) ∧ (sliceBounds lo hi none n).2.2 = 1 := by
  refine ⟨?_, ?_, rfl⟩
  · cases lo with
    | none => simp [sliceBounds, HT.sIx]
    | some i =>
      simp only [sliceBounds, HT.sIx, Option.getD_none, show (1 : Int) > 0 by decide, if_true]
      by_cases h : i < 0
      · simp only [h, if_true] <;> omega
      · simp only [h, if_false] <;> omega
  · cases hi with
    | none => simp [sliceBounds, HT.sIx]
    | some i =>
      simp only [sliceBounds, HT.sIx, Option.getD_none, show (1 : Int) > 0 by decide, if_true]
      by_cases h : i < 0
      · simp only [h, if_true] <;> omega
      · simp only [h, if_false] <;> omega
theorem slicePick_cut (its : List Value) (lo hi : Option Int) : slicePick its.toArray lo hi none = ((its.drop (HT.sIx its.length 0 lo)).take (HT.sIx its.length its.length hi - HT.sIx its.length 0 lo)).toArray := by
  obtain ⟨h1, h2, h3⟩ := slice_bounds lo hi its.toArray.size
  unfold slicePick
  rw [h1, h2, h3]
  simp only [sliceRange_one, pick_run, List.size_toArray] <;> rfl

def rSlL (K : PySem.W.Frag) : V → Option Int → Option Int → Hp → VK → Prop := fun x lo hi H Q => ∃ a xs, x = .ref a ∧ SqL K H a xs ∧ ∀ p, H p = none → Q (.ref p) (upd H p (.lst (cutV xs lo hi)))
theorem sl_list : SlR X (rSlL X.K) := by
  intro pins s σ H x v vl vu lo hi sl Q I rx hs pl pu h
  obtain ⟨a, xs, rfl, hx, q⟩ := h
  cases rx
  obtain ⟨its, r, ht, hz⟩ := I.list hx
  have hlen := r.length
  refine ⟨"list", _, slot_list_getitem.lookup, ht.isList.typeIs, ?_⟩
  refine wpAny_getItem_list_slice ht.isList hs pl pu .none (by simp) ?_ (by rw [List.size_toArray] <;> omega)
  rw [slicePick_cut, ← hlen]
  refine ⟨.ref s.heap.objs.size, _, I.laid (t' := s.toks) (o := .lst (cutV xs lo hi)) (fun b ob q => Heap.get?_push_of_some _ q) (Nat.le_refl _) ?_, rfl, q _ (I.hok.fresh (Nat.le_refl _))⟩
  exact ⟨Nat.le_trans (cutV_length xs lo hi) hz, _, 0, (r.drop (HT.sIx xs.length 0 lo)).take (HT.sIx xs.length xs.length hi - HT.sIx xs.length 0 lo), Heap.get?_push_size _ rfl⟩


def flatV : V → Bool
  | .non => true
  | .bl _ => true
  | .int _ => true
  | .str _ => true
  | _ => false

def eqV : V → V → Bool
  | .non, .non => true
  | .bl a, .bl b => a == b
  | .bl a, .int b => (if a then 1 else 0) == b
  | .int a, .bl b => a == (if b then 1 else 0)
  | .int a, .int b => a == b
  | .str a, .str b => a == b
  | _, _ => false
theorem eqAt_V {A : Around} {s : Shared} {y x : V} {u v : Value} (ry : RelV y u) (rx : RelV x v) (fy : flatV y = true) (fx : flatV x = true) : SeqAt.EqAt A s u v (eqV y x) := by
  cases y with
  | non =>
    cases ry
    cases x with
    | non => cases rx; exact SeqAt.EqAt.same _
    | bl b => cases rx; exact SeqAt.EqAt.none_bool b
    | int b => obtain ⟨t, rfl⟩ := rx; exact SeqAt.EqAt.none_int b t
    | str b => obtain ⟨t, rfl⟩ := rx; exact SeqAt.EqAt.none_str b t
    | _ => exact absurd (show false = true from fx) Bool.false_ne_true
  | bl a =>
    cases ry
    cases x with
    | non => cases rx; exact SeqAt.EqAt.bool_none a
    | bl b => cases rx; exact SeqAt.EqAt.bool_bool a b
    | int b => obtain ⟨t, rfl⟩ := rx; exact SeqAt.EqAt.bool_int a b t
    | str b => obtain ⟨t, rfl⟩ := rx; exact SeqAt.EqAt.bool_str a b t
    | _ => exact absurd (show false = true from fx) Bool.false_ne_true
  | int a =>
    obtain ⟨t', rfl⟩ := ry
    cases x with
    | non => cases rx; exact SeqAt.EqAt.int_none a t'
    | bl b => cases rx; exact SeqAt.EqAt.int_bool a t' b
    | int b => obtain ⟨t, rfl⟩ := rx; exact SeqAt.EqAt.int_int a t' b t
    | str b => obtain ⟨t, rfl⟩ := rx; exact SeqAt.EqAt.int_str a t' b t
    | _ => exact absurd (show false = true from fx) Bool.false_ne_true
  | str a =>
    obtain ⟨t', rfl⟩ := ry
    cases x with
    | non => cases rx; exact SeqAt.EqAt.str_none a t'
    | bl b => cases rx; exact SeqAt.EqAt.str_bool a t' b
    | int b => obtain ⟨t, rfl⟩ := rx; exact SeqAt.EqAt.str_int a t' b t
    | str b => obtain ⟨t, rfl⟩ := rx; exact SeqAt.EqAt.str_str a t' b t
    | _ => exact absurd (show false = true from fx) Bool.false_ne_true
  | _ => exact absurd (show false = true from fy) Bool.false_ne_true

def eqU (x : V) (u : Value) : Bool := match u with
  | .none => eqV .non x
  | .bool b => eqV (.bl b) x
  | .int i _ => eqV (.int i) x
  | .str z _ => eqV (.str z) x
  | _ => false
theorem eqU_of {x y : V} {u : Value} (r : RelV y u) (f : flatV y = true) : eqU x u = eqV y x := by
  cases y with
  | non => cases r; rfl
  | bl b => cases r; rfl
  | int i => obtain ⟨t, rfl⟩ := r; rfl
  | str z => obtain ⟨t, rfl⟩ := r; rfl
  | _ => exact absurd (show false = true from f) Bool.false_ne_true
theorem any_eqU {x : V} : ∀ {xs : List V} {us : List Value}, Vals xs us → xs.all flatV = true → us.any (eqU x) = xs.any fun y => eqV y x
  | _, _, .nil, _ => rfl
  | y :: xs, u :: us, .cons r t, f => by
    rw [List.all_cons, Bool.and_eq_true] at f
    rw [List.any_cons, List.any_cons, eqU_of r f.1, any_eqU t f.2]
theorem mem_eqAt {A : Around} {s : Shared} {x : V} {v : Value} (rx : RelV x v) (fx : flatV x = true) : ∀ {xs : List V} {us : List Value}, Vals xs us → xs.all flatV = true → ∀ u ∈ us, SeqAt.EqAt A s u v (eqU x u)
  | _, _, .nil, _ => fun u hu => by cases hu
  | y :: xs, u :: us, .cons r t, f => fun u' hu => by
    rw [List.all_cons, Bool.and_eq_true] at f
    rcases List.mem_cons.mp hu with rfl | hu
    · rw [eqU_of r f.1]; exact eqAt_V r rx f.1 fx
    · exact mem_eqAt rx fx t f.2 u' hu
def inV (x : V) (xs : List V) : Bool := xs.any fun y => eqV y x

def rIn (K : PySem.W.Frag) (neg : Bool) : R2 := fun x y H Q => ∃ p xs, y = .ref p ∧ (SqL K H p xs ∨ SqT K H p xs) ∧ flatV x = true ∧ xs.all flatV = true ∧ Q (.bl (if neg then !inV x xs else inV x xs)) H
theorem op_in_seq : OpR X (compareOp .In) (rIn X.K false) := by
  intro pins s σ H x y v u Q I rx ry h
  obtain ⟨p, xs, rfl, hq, fx, fs, q⟩ := h
  cases ry
  rcases hq with hq | hq
  · obtain ⟨its, r, pl, hz⟩ := I.list hq
    refine SeqAt.in_listAt (eqU x) pl.isList (fun w hw => mem_eqAt rx fx r fs w (by simpa using hw)) ⟨.bl _, H, I, rfl, ?_⟩
    rw [show its.toArray.any (eqU x) = its.any (eqU x) by simp, any_eqU r fs]
    exact q
  · obtain ⟨its, r, pl, hz⟩ := I.tuple hq
    refine SeqAt.in_tupleAt (eqU x) pl (fun w hw => mem_eqAt rx fx r fs w (by simpa using hw)) ⟨.bl _, H, I, rfl, ?_⟩
    rw [show its.toArray.any (eqU x) = its.any (eqU x) by simp, any_eqU r fs]
    exact q
theorem op_notIn_seq : OpR X (compareOp .NotIn) (rIn X.K true) := by
  intro pins s σ H x y v u Q I rx ry h
  obtain ⟨p, xs, rfl, hq, fx, fs, q⟩ := h
  cases ry
  rcases hq with hq | hq
  · obtain ⟨its, r, pl, hz⟩ := I.list hq
    refine SeqAt.notIn_listAt (eqU x) pl.isList (fun w hw => mem_eqAt rx fx r fs w (by simpa using hw)) ⟨.bl _, H, I, rfl, ?_⟩
    rw [show its.toArray.any (eqU x) = its.any (eqU x) by simp, any_eqU r fs]
    exact q
  · obtain ⟨its, r, pl, hz⟩ := I.tuple hq
    refine SeqAt.notIn_tupleAt (eqU x) pl (fun w hw => mem_eqAt rx fx r fs w (by simpa using hw)) ⟨.bl _, H, I, rfl, ?_⟩
    rw [show its.toArray.any (eqU x) = its.any (eqU x) by simp, any_eqU r fs]
    exact q
theorem call_list_of : CallR X (.type "list") (fun xs H Q => ∃ p ys, xs = [.ref p] ∧ (SqL X.K H p ys ∨ SqT X.K H p ys) ∧ ∀ l, H l = none → Q (.ref l) (upd H l (.lst ys))) := by
  intro pins s σ H xs us Q I r h
  obtain ⟨p, ys, rfl, hq, q⟩ := h
  obtain ⟨u, rfl, rx⟩ := vals1 r
  cases rx
  have fin : ∀ (its : List Value), Vals ys its → ys.length ≤ sizeLine → ∀ (h' : Heap) (c' : Nat), (∀ b o', s.heap.get? b = some o' → h'.get? b = some o') →
      h'.get? s.heap.objs.size = some { cls := .type "list", dict := none, data := .seq its.toArray c', slots := #[] } → EP X pins σ Q (.ref s.heap.objs.size) { s with heap := h' } := fun its r' hz h' c' kp e =>
    ⟨.ref s.heap.objs.size, _, I.laid (t' := s.toks) kp (Nat.le_refl _) (show ObjOk X.prog X.w _ h' _ (.lst ys) from ⟨hz, its, c', r', e⟩), rfl, q _ (I.hok.fresh (Nat.le_refl _))⟩
  rcases hq with hq | hq
  · obtain ⟨its, r', pl, hz⟩ := I.list hq
    have hlen := r'.length
    obtain ⟨o, ho, hc, n, hd⟩ := pl.isList
    exact call_list_seq p (.inl rfl) ho hc hd (fun h' c' kp e => fin its r' hz h' c' kp e) (by simp only [List.size_toArray] <;> omega)
  · obtain ⟨its, r', pl, hz⟩ := I.tuple hq
    have hlen := r'.length
    obtain ⟨o, ho, hc, n, hd⟩ := pl
    exact call_list_seq p (.inr rfl) ho hc hd (fun h' c' kp e => fin its r' hz h' c' kp e) (by simp only [List.size_toArray] <;> omega)
theorem call_tuple_of : CallR X (.type "tuple") (fun xs H Q => ∃ p ys, xs = [.ref p] ∧ ((SqL X.K H p ys ∧ ∀ l, H l = none → Q (.ref l) (upd H l (.tup ys))) ∨ (SqT X.K H p ys ∧ Q (.ref p) H))) := by
  intro pins s σ H xs us Q I r h
  obtain ⟨p, ys, rfl, h⟩ := h
  obtain ⟨u, rfl, rx⟩ := vals1 r
  cases rx
  rcases h with ⟨hq, q⟩ | ⟨hq, q⟩
  · obtain ⟨its, r', pl, hz⟩ := I.list hq
    have hlen := r'.length
    refine call_tuple_list pl.isList (fun h' kp => ?_) (by simp only [List.size_toArray] <;> omega)
    have I1 : Inv X pins σ H { s with heap := h' } := I.kept (t' := s.toks) kp
    have I2 : Inv X pins σ (upd H h'.objs.size (.tup ys)) { s with heap := h'.push { cls := .type "tuple", data := .seq its.toArray } } :=
      I1.laid (t' := s.toks) (fun b o e => Heap.get?_push_of_some _ e) (Nat.le_refl _) (show ObjOk X.prog X.w _ _ _ (.tup ys) from ⟨hz, its, r', IsTup.new _ _⟩)
    exact ⟨.ref h'.objs.size, _, I2, rfl, q _ (I1.hok.fresh (Nat.le_refl _))⟩
  · obtain ⟨its, r', pl, hz⟩ := I.tuple hq
    exact call_tuple_same pl ⟨.ref p, H, I, rfl, q⟩



def tyV (K : PySem.W.Frag) (T : String) (x : V) (H : Hp) : Prop := match x with
  | .str _ => T = "str"
  | .int _ => T = "int"
  | .ref p => (T = "list" ∧ ∃ xs, SqL K H p xs) ∨ (T = "tuple" ∧ ∃ o, K.lookup p = some o ∧ o.cls = .type "tuple" ∧ o.dict = none) ∨
      (T = "dict" ∧ ((∃ kvs, H p = some (.dK kvs)) ∨ ∃ kvs, H p = some (.dT kvs))) ∨ (T = "set" ∧ ∃ S n, H p = some (.set S n))
  | _ => False
theorem tyV_is {pins : List (Addr × Obj)} {σ : St} {H : Hp} {s : Shared} {T : String} {x : V} {v : Value} (I : Inv X pins σ H s) (r : RelV x v) (ty : tyV X.K T x H) :
    s.TypeIs v T ∧ ∀ a, v = .ref a → ∃ ob, s.heap.get? a = some ob ∧ ob.dict = none := by
  cases x with
  | str z =>
    obtain ⟨t, rfl⟩ := r
    cases (show T = "str" from ty)
    exact ⟨typeIs_str s z t, fun _ e => nomatch e⟩
  | int i =>
    obtain ⟨t, rfl⟩ := r
    cases (show T = "int" from ty)
    exact ⟨typeIs_int s i t, fun _ e => nomatch e⟩
  | ref p =>
    cases r
    rcases ty with ⟨rfl, xs, hq⟩ | ⟨rfl, o, hk, hc, hd⟩ | ⟨rfl, hk⟩ | ⟨rfl, S, n, hk⟩
    · obtain ⟨its, _, pl, _⟩ := I.list hq
      refine ⟨pl.isList.typeIs, fun a e => ?_⟩
      cases e
      obtain ⟨o, n, e, c, hd, _⟩ := pl
      exact ⟨o, e, hd⟩
    · refine ⟨⟨o, I.kIn p o hk, hc⟩, fun a e => ?_⟩
      cases e
      exact ⟨o, I.kIn _ o hk, hd⟩
    · have z : ∃ o, s.heap.get? p = some o ∧ o.ExactDict := by
        rcases hk with ⟨kvs, hk⟩ | ⟨kvs, hk⟩
        · obtain ⟨_, _, _, _, o, _, _, e, ex, _⟩ := I.hok p _ hk
          exact ⟨o, e, ex⟩
        · obtain ⟨_, _, _, _, o, _, _, e, ex, _⟩ := I.hok p _ hk
          exact ⟨o, e, ex⟩
      obtain ⟨o, e, ex⟩ := z
      refine ⟨⟨o, e, ex.1⟩, fun a e2 => ?_⟩
      cases e2
      exact ⟨o, e, ex.2.1⟩
    · obtain ⟨o, _, _, _, e, ex, _⟩ := I.hok p _ hk
      refine ⟨⟨o, e, ex.1⟩, fun a e2 => ?_⟩
      cases e2
      exact ⟨o, e, ex.2.1⟩
  | _ => exact False.elim ty
def tBM (K : PySem.W.Frag) (T : String) (r : V → List V → Hp → VK → Prop) (to : TE) (t : TA) : TE := fun σ H Q => to σ H fun x H1 => tyV K T x H1 ∧ t σ H1 fun xs H2 => r x xs H2 Q
variable {o e : Expr} {es : List Expr} {to : TE} {t : TA} {name : Str} {apos cpos : Pos} {T id : String} {r : V → List V → Hp → VK → Prop}
theorem pe_bm (pa : PlainAttrs T) (slot : Slot T name id) (hty : typeOf (.builtin id) = pure (.type "method_descriptor")) (hm : MtR X id r) (ho : PE X o to) (ha : PA X (e :: es) t)
    (hbase : attributeBase o name X.env (eval o X.env) = eval o X.env := by rfl)
    (hfew : ((backTo cpos (starEach (e :: es) X.env)).all (fun x => !x.1) && (backToKw cpos (keywordEach [] X.env)).all (fun x => x.1.isSome)
      && decide ((e :: es).length + ([] : List Keyword).length + (if ([] : List Keyword).isEmpty then 0 else 1) < 30)) = true := by rfl)
    (hline : (apos.endLine == cpos.line) = true := by rfl) (hs : starEach (e :: es) X.env = (false, eval e X.env) :: starEach es X.env := by rfl) (hplain : (backTo cpos (starEach es X.env)).any (·.1) = false := by rfl) :
    PE X (.Call (.Attribute o name apos) (e :: es) [] cpos) (tBM X.K T r to t) := by
  intro pins s σ H Q I h
  refine wpAny_Call_method_late hbase hfew hline rfl (thn (ho pins s σ H _ I h) fun v s1 ⟨x, H1, I1, r1, ty, q1⟩ => ?_)
  obtain ⟨h1, h2⟩ := tyV_is I1 r1 ty
  refine ⟨T, id, pa, slot, hty, h1, h2, ?_⟩
  have hA := ha cpos pins s1 σ H1 _ I1 q1
  rw [hs] at hA ⊢
  refine Calls.callWith_builtin (by show (false || (backTo cpos (starEach es X.env)).any (·.1)) = false; rw [hplain] <;> rfl) (Calls.evalArgs_plain ?_)
  exact thn hA fun us s2 ⟨vs, H2, I2, r2, q2⟩ => hm pins s2 σ H2 x vs v us Q I2 r1 r2 q2

end
end L2

namespace L2
open PySem PySem.Spec PyProof.Rows

def MtM (X : Cx) (id : String) (r : V → List V → Hp → VK → Prop) : Prop :=
  ∀ (pins : List (Addr × Obj)) (s : Shared) (σ : St) (H : Hp) (x : V) (xs : List V) (v : Value) (us : List Value) (Q : VK), Inv X pins σ H s → RelV x v → Vals xs us → r x xs H Q →
    wpAny (model X.prog X.w) X.A (call (.builtin id) (v :: us)) (EP X pins σ Q) X.xe s


theorem Vals.one : ∀ {x : V} {us : List Value}, Vals [x] us → ∃ u, us = [u] ∧ RelV x u
  | _, _, .cons r .nil => ⟨_, rfl, r⟩
section
variable {X : Cx} {pins : List (Addr × Obj)} {σ : St} {H : Hp} {s : Shared} {l b : Addr} {xs ys zs : List V}


theorem Inv.lset {its its' : List Value} {n : Nat} {f : Array Value → Array Value} {t' : Nat} (I : Inv X pins σ H s) (hH : H l = some (.lst xs))
    (e : s.heap.get? l = some { cls := .type "list", data := .seq its.toArray n }) (hf : f its.toArray = its'.toArray) (hv : Vals ys its') (hz : ys.length ≤ sizeLine) :
    Inv X pins σ (upd H l (.lst ys)) { s with heap := s.heap.update l (Obj.mapSeq f), toks := t' } := by
  have q := PySem.IsL.update e f
  rw [hf] at q
  refine I.write (x := l) (e := l) (by rw [hH]; exact trivial) (.inl rfl) (fun b' u hb hu => (Heap.get?_update_other s.heap (Obj.mapSeq f) (Ne.symm hb)).trans hu) ⟨_, q⟩ ?_
  exact ⟨hz, its', _, hv, q⟩
theorem Inv.lnew {its : List Value} {t' : Nat} (I : Inv X pins σ H s) (hv : Vals ys its) (hz : ys.length ≤ sizeLine) :
    Inv X pins σ (upd H s.heap.objs.size (.lst ys)) { s with heap := s.heap.push { cls := .type "list", data := .seq its.toArray }, toks := t' } :=
  I.laid (fun _ _ q => Heap.get?_push_of_some _ q) (Nat.le_refl _) ⟨hz, its, 0, hv, Heap.get?_push_size _ rfl⟩
theorem Inv.fresh (I : Inv X pins σ H s) : H s.heap.objs.size = none := I.hok.fresh (Nat.le_refl _)
theorem Inv.lstM (I : Inv X pins σ H s) (hH : H l = some (.lst xs)) : xs.length ≤ sizeLine ∧ ∃ (its : List Value) (n : Nat), Vals xs its ∧ xs.length = its.length ∧ s.heap.get? l = some { cls := .type "list", data := .seq its.toArray n } := by
  obtain ⟨z, its, n, r, e⟩ := I.hok l _ hH
  exact ⟨z, its, n, r, r.length, e⟩

end

section
variable {X : Cx}


def rAppend : V → List V → Hp → VK → Prop := fun x vs H Q => ∃ l xs y, x = .ref l ∧ vs = [y] ∧ H l = some (.lst xs) ∧ xs.length < sizeLine ∧ Q .non (upd H l (.lst (xs ++ [y])))
theorem mt_append : MtM X "list.append" rAppend := by
  intro pins s σ H x vs v us Q I rx rv h
  obtain ⟨l, xs, y, rfl, rfl, hH, hz, q⟩ := h
  cases rx
  obtain ⟨u, rfl, ru⟩ := rv.one
  obtain ⟨z, its, n, r, hl, e⟩ := I.lstM hH
  refine call_meets F.slot_list_append ⟨_, e, rfl⟩ F.entry_list_append (F.args_list_append_2 _ _) (PySem.list_append l its.toArray n u (by rw [List.size_toArray]; omega)) ⟨e, ?_⟩
  refine ⟨.non, _, I.lset (its' := its ++ [u]) hH e (by simp) (r.append (.cons ru .nil)) ?_, rfl, q⟩
  rw [List.length_append, List.length_singleton]
  omega

def rCat : R2 := fun x y H Q => ∃ l b xs zs, x = .ref l ∧ y = .ref b ∧ H l = some (.lst xs) ∧ H b = some (.lst zs) ∧ xs.length + zs.length ≤ sizeLine ∧ ∀ p, H p = none → Q (.ref p) (upd H p (.lst (xs ++ zs)))
theorem op_cat : OpR X (binaryOp .Add) rCat := by
  intro pins s σ H x y v u Q I rx ry h
  obtain ⟨l, b, xs, zs, rfl, rfl, hH, hB, hz, q⟩ := h
  cases rx
  cases ry
  obtain ⟨z, its, n, r, hl, e⟩ := I.lstM hH
  obtain ⟨z2, its2, n2, r2, hl2, e2⟩ := I.lstM hB
  refine PySem.P.add_list e e2 ?_ (by rw [List.size_toArray, List.size_toArray]; omega)
  have ea : its.toArray ++ its2.toArray = (its ++ its2).toArray := by simp
  rw [ea]
  exact ⟨.ref _, _, I.lnew (t' := s.toks) (r.append r2) (by rw [List.length_append]; omega), rfl, q _ I.fresh⟩

end


section
variable {prog : Program} {w : World} {A : Around} {E : Value → Shared → Prop} {s : Shared}
set_option maxRecDepth 100000 in

end

section
variable {X : Cx}

end
end L2

namespace Att
open PySem PySem.W PySem.Calls PyProof.Rows


theorem ints_of_wellAll {P : Params} {h : Heap} : ∀ (ns : List Int) (vs : List Value), WellAll P h vs (ns.map WData.int) → IntsAre vs ns := by
  intro ns
  induction ns with
  | nil =>
    intro vs w
    rw [List.map_nil] at w
    cases w
    exact .nil
  | cons n ns ih =>
    intro vs w
    rw [List.map_cons] at w
    cases w with
    | cons a b =>
      cases a
      exact .cons _ _ (ih _ b)

theorem script_of {l : OpenLaw} {n : Nat} (hn : l.most = some n) {P : Params} {h : Heap} {args : List WData} {vals : List Value}
    (hpre : l.row.toRowW.claim.pre args = true) (hwl : WellAll P h vals args) :
    ∃ a vs ns, vals = [Value.ref a] ∧ args = [WData.list (ns.map WData.int)] ∧ h.get? a = some { cls := .type "list", data := .seq vs.toArray } ∧ IntsAre vs ns ∧ ns.length ≤ n := by
  have hsh : WShape.hasAll [] args [.list .int] = true := (pre_splitW hpre).1
  have hc : l.pre.holds [] { args := args } = true := (pre_splitW hpre).2
  obtain ⟨d, r, rfl, h1, h2⟩ := hasAllW_cons hsh
  obtain rfl := hasAllW_nil h2
  obtain ⟨xs, rfl, h3⟩ := hasW_list h1
  obtain ⟨ns, rfl⟩ := items_int h3
  have hlen : ns.length ≤ n := by
    unfold OpenLaw.pre at hc
    have h4 : (WTm.not (.lt (.lit (.int (n : Int))) (.len (.arg 0)))).holds [] { args := [.list (ns.map .int)] } = true := by
      have h4 := (holds_andW hc).1
      rw [hn] at h4
      exact h4
    have h5 := condW_of h4 (w_not (w_lt w_lit (w_len_list (w_arg rfl))))
    rw [List.length_map] at h5
    refine Nat.le_of_not_lt fun q => ?_
    have q' : (n : Int) < ((ns.length : Nat) : Int) := by omega
    first
      | (rw [decide_eq_true q'] at h5; exact absurd h5 (by decide))
      | (simp at h5; omega)
  cases hwl with
  | cons w1 w2 =>
    cases w2
    cases w1 with
    | list ho hall => exact ⟨_, _, ns, rfl, rfl, ho, ints_of_wellAll ns _ hall, hlen⟩

theorem post_true (l : OpenLaw) (args : List WData) : l.row.toRowW.claim.post args (.bool true) args = true :=
  postW_of (r := l.row.toRowW) (X := (true == true))
    (show WShape.has [] (.bool true) .bool = true by first | rfl | decide | simp [WShape.has, WShape.arms, WShape.armsAll])
    (show (WTm.eq .res (.lit (.bool true))).value [] { args := args, res := some (.bool true), after := args } = some (.bool (true == true)) from w_eq_bool (w_res rfl) w_lit) rfl


theorem attach_call {l : OpenLaw} {n : Nat} {q : Program} {loose : List Str} {XP : (Str → Option Value) → Heap → Prop} {YP : World → Heap → Prop} {d : DefRec}
    (hn : l.most = some n) (hdf : d.params.defaults = [])
    (call : ∀ (w : World) (s₀ s₁ : Shared) (mg mb : Str → Option Value) (fa : Addr) (o : Obj) (pm cd doc : Value) (a : Addr) (vs : List Value) (ns : List Int),
      Ground q loose [] XP w s₀ mg mb s₁.heap → YP w s₁.heap →
      s₁.heap.get? fa = some o → o.data = .func (docDef d.name d.params d.body d.scope pm cd doc) → s₁.heap.CodeRec cd d.name → mg d.name = some (.ref fa) →
      s₁.heap.get? a = some { cls := .type "list", data := .seq vs.toArray } → IntsAre vs ns → ns.length ≤ n → s₁.gens = #[] →
      codeAny (model l.prog w) callerA (.call (.ref fa) ⟨[.ref a], []⟩) (fun r s' => r = .ok (.ret (.bool true)) ∧ OldK s₁.heap s'.heap ∧ s'.os = s₁.os ∧ AllBare s'.gens) s₁) :
    WalkO q loose XP YP l.row.toRowW d [] (fun f vs => PySem.call f vs) := by
  intro w s₀ s₁ mg mb G Y fa o pm cd doc dV kV ho hd hcd hD hmg hg args vals as hpre hlay hrd hwl hlo
  obtain rfl : dV = .none := Dflts.none hD hdf
  obtain rfl : kV = .none := Dflts.noKw hD
  obtain ⟨a, vs, ns, rfl, rfl, hobj, hints, hlen⟩ := script_of hn hpre hwl
  refine enter_call (codeAny_mono (call w s₀ s₁ mg mb fa o pm cd doc a vs ns G Y ho (fd_plain hd) hcd hmg hobj hints hlen hg) fun r s' hq => ?_)
  obtain ⟨rfl, h2, h3, h4⟩ := hq
  exact ⟨.inl ⟨.bool true, .bool true, [], rfl, fun _ => rfl, .bool true, post_true l _, fun _ => ⟨List.Pairwise.nil, fun _ hm => (nomatch hm)⟩⟩, h2, h3, h4⟩


section
variable {prog : Program} {w : World} {A : Around} {E : Value → Shared → Prop} {s : Shared} {K : Frag}


end
end Att

namespace L2
open PySem PySem.Spec PyProof.Rows

theorem vals_ints : ∀ {vs : List Value} {ns : List Int}, IntsAre vs ns → Vals (ns.map V.int) vs
  | _, _, .nil => .nil
  | _, _, .cons n t h => .cons ⟨t, rfl⟩ (vals_ints h)


def Only (H : Hp) : Prop := ∀ b, H b = none ∨ ∃ o xs, H b = some (.frz o (.lst xs))


theorem law_call {P : Program} {w : World} {K : PySem.W.Frag} {mg mb : Str → Option Value} {CX : CXT} {k : Nat} {fa a : Addr} {fd : FuncData} {x : Str} {sp : Sp} {s₁ : Shared} {vs : List Value} {ns : List Int}
    (KX : K.In s₁.heap) (hns : s₁.heap.Ns mainGlobals mg) (hb : s₁.heap.Ns builtinsNs mb) (hbb : ∀ x : Str, x ≠ "__name__" → mb x = bootBuiltins x) (hlim : s₁.heap.NoLimit) (hg : s₁.gens = #[])
    (ha : s₁.heap.get? a = some { cls := .type "list", data := .seq vs.toArray }) (hi : IntsAre vs ns) (hl : ns.length ≤ sizeLine) (hr : Room k callerA)
    (F : ∀ base : Heap, K.In base → base.Ns mainGlobals mg → FnOk P w K mg base CX k fa fd [x] sp) (hbind : ∀ (s : Shared) (u : Value), BindsTo s fd ⟨[u], []⟩ [(x, u)])
    (hsp : ∀ H : Hp, Only H → SqL K H a (ns.map V.int) → sp [.ref a] H (fun v _ => v = .bl true) fun _ _ _ => False)
    (hCX : ∀ H e s', CX [] H s₁ (fun _ _ _ => False) e s' → False) :
    codeAny (model P w) callerA (.call (.ref fa) ⟨[.ref a], []⟩) (fun r s' => r = .ok (.ret (.bool true)) ∧ OldK s₁.heap s'.heap ∧ s'.os = s₁.os ∧ AllBare s'.gens) s₁ := by
  have rv := vals_ints hi
  have lenV := hi.length
  -- from an abstract heap in which nothing but the script may be tracked
  have core : ∀ H : Hp, Only H → SqL K H a (ns.map V.int) → HOk P w H s₁.heap → (∀ b, H b ≠ none → b = a) → (H a ≠ none → K.lookup a = none) →
      codeAny (model P w) callerA (.call (.ref fa) ⟨[.ref a], []⟩) (fun r s' => r = .ok (.ret (.bool true)) ∧ OldK s₁.heap s'.heap ∧ s'.os = s₁.os ∧ AllBare s'.gens) s₁ := by
    intro H hO hS hok hA hK
    have base_of : ∀ {b : Addr} {o : Obj}, s₁.heap.get? b = some o → H b = none → (hidT s₁.heap H).get? b = some o := fun e n => hidT_get e n
    have noA : ∀ {b : Addr} {o : Obj} {es : Array DictEntry} {ep : Nat}, s₁.heap.get? b = some o → o.data = .dict es ep → H b = none := fun {b o es ep} e d => by
      cases q : H b with
      | none => rfl
      | some u =>
        have e' : b = a := hA b (by rw [q]; simp)
        subst e'
        rw [ha] at e; cases e
        have d' : Data.seq vs.toArray _ = Data.dict es ep := d
        cases d'
    have nsK : ∀ {b : Addr} {m : Str → Option Value}, s₁.heap.Ns b m → (hidT s₁.heap H).Ns b m := fun {b m} ⟨o, es, ep, e, d, r⟩ => ⟨o, es, ep, base_of e (noA e d), d, r⟩
    have hKb : K.In (hidT s₁.heap H) := fun b o e => base_of (KX b o e) (by
      cases q : H b with
      | none => rfl
      | some u =>
        have e' : b = a := hA b (by rw [q]; simp)
        subst e'
        rw [hK (by rw [q]; simp)] at e; cases e)
    have hM : Mod K mg (hidT s₁.heap H) := ⟨hKb, nsK hns, ⟨mb, nsK hb, hbb⟩, let ⟨mc, h1, h2⟩ := hlim; ⟨mc, nsK h1, h2⟩⟩
    have e0 : Env0 P w K mg (hidT s₁.heap H) callerA [] s₁ H := ⟨rfl, hM, fun b o e => of_hidT e, Nat.le_of_eq (hidT_size _ _), trivial, fun b hb => absurd (show b ∈ ([] : List Addr) from hb) (by simp), hok, .of_eq hg⟩
    refine codeAny_mono ((F _ hKb (nsK hns)).run callerA [] s₁ H ⟨[.ref a], []⟩ [.ref a] [.ref a] _ _ hr e0 (hbind s₁ (.ref a)) (.cons rfl .nil) (hsp H hO hS)) fun r s' h => ?_
    cases r with
    | error e => exact (hCX H e s' h).elim
    | ok fl =>
      cases fl with
      | next => exact False.elim h
      | brk => exact False.elim h
      | cont => exact False.elim h
      | ret u =>
        obtain ⟨v, H', os, bare, un, hok', r', q⟩ := h
        have q' : v = .bl true := q
        subst q'
        obtain rfl : u = Value.bool true := r'
        refine ⟨rfl, OldK.of_keep fun b o e => ?_, os, bare⟩
        cases q : H b with
        | none => exact un.keep b o e q (by intro z; exact absurd (show b ∈ ([] : List Addr) from z) (by simp)) (by simp)
        | some u =>
          rcases hO b with z | ⟨ob, xs, z⟩
          · rw [q] at z; cases z
          · have z2 := un.frzs b ob _ z
            obtain ⟨e1, _⟩ := hok b _ z
            obtain ⟨e2, _⟩ := hok' b _ z2
            rw [e] at e1; cases e1
            exact e2
  cases hk : K.lookup a with
  | some o =>
    -- the script is one of the module's own objects
    have e := KX a o hk
    rw [ha] at e
    cases e
    refine core (fun _ => none) (fun _ => .inl rfl) (.inr ⟨_, vs.toArray, _, hk, rfl, rfl, rfl, by rw [List.size_toArray, lenV]; exact hl, by simpa using rv⟩) (fun b u z => by have z' : (none : Option HO) = some u := z; cases z') (fun b z => absurd rfl z) fun z => absurd rfl z
  | none =>
    refine core (fun b => if b = a then some (.frz { cls := .type "list", data := .seq vs.toArray } (.lst (ns.map V.int))) else none) (fun b => ?_) (.inl (.inr ⟨{ cls := .type "list", data := .seq vs.toArray }, if_pos rfl⟩)) (fun b u z => ?_) (fun b z => ?_) fun _ => hk
    · by_cases hb : b = a
      · exact .inr ⟨_, _, if_pos hb⟩
      · exact .inl (if_neg hb)
    · by_cases hb : b = a
      · have z' := (if_pos hb).symm.trans z
        cases z'
        subst hb
        exact ⟨ha, by rw [List.length_map]; exact hl, vs, _, rv, ha⟩
      · have z' := (if_neg hb).symm.trans z
        cases z'
    · by_cases hb : b = a
      · exact hb
      · exact absurd (if_neg hb) z
end L2

namespace L2
open PySem PySem.Spec PyProof.Rows

theorem walk_of {l : PySem.W.OpenLaw} {n k : Nat} {q : Program} {loose : List Str} {XP : (Str → Option Value) → Heap → Prop} {YP : World → Heap → Prop} {d : DefRec} {K : Params → PySem.W.Frag} {CX : World → CXT} {sp : World → Sp} {x : Str}
    (hn : l.most = some n) (hn2 : n ≤ sizeLine) (hdf : d.params.defaults = []) (hr : Room k callerA)
    (hY : ∀ (w : World) (h : Heap), YP w h → (K w.params).In h)
    (F : ∀ (w : World) (mg : Str → Option Value) (fa : Addr) (h : Heap), (K w.params).In h → h.Ns mainGlobals mg → mg d.name = some (.ref fa) →
      ∃ fd : FuncData, (∀ (s : Shared) (u : Value), BindsTo s fd ⟨[u], []⟩ [(x, u)]) ∧
        ∀ base : Heap, (K w.params).In base → base.Ns mainGlobals mg → FnOk l.prog w (K w.params) mg base (CX w) k fa fd [x] (sp w))
    (hsp : ∀ (w : World) (H : Hp) (a : Addr) (ns : List Int), ns.length ≤ n → Only H → SqL (K w.params) H a (ns.map V.int) → sp w [.ref a] H (fun v _ => v = .bl true) fun _ _ _ => False)
    (hCX : ∀ (w : World) (H : Hp) (s : Shared) (e : Value) (s' : Shared), CX w [] H s (fun _ _ _ => False) e s' → False) :
    PySem.W.WalkO q loose XP YP l.row.toRowW d [] (fun f vs => PySem.call f vs) := by
  refine Att.attach_call hn hdf fun w s₀ s₁ mg mb fa o pm cd doc a vs ns G Y ho hd hcd hmg hobj hints hlen hg => ?_
  have KX := hY w _ Y
  obtain ⟨fd, hb, hF⟩ := F w mg fa _ KX G.T.g hmg
  exact law_call KX G.T.g G.T.b G.T.builtins G.T.nolimit hg hobj hints (Nat.le_trans hlen hn2) hr hF hb (fun H hO hS => hsp w H a ns hlen hO hS) fun H e s' => hCX w H s₁ e s'

end L2




namespace L2
open PySem PySem.Spec PyProof.Rows



def defArgs (s : Stmt) : Arguments := match s with
  | .FunctionDef _ a _ _ _ _ _ _ _ _ => a
  | _ => { posonlyargs := [], args := [], vararg := none, kwonlyargs := [], kw_defaults := [], kwarg := none, defaults := [] }
def defBody (s : Stmt) : List Stmt := match s with
  | .FunctionDef _ _ b _ _ _ _ _ _ _ => b
  | _ => []
def defScope (s : Stmt) : Scope := match s with
  | .FunctionDef _ _ _ _ _ _ sc _ _ _ => sc
  | _ => { kind := .function, names := [], isGenerator := false, isCoroutine := false }


abbrev E0 : XK := fun _ _ _ => False
section
variable {P : Program} {w : World} {K : PySem.W.Frag} {mg : Str → Option Value} {base : Heap}

end
theorem small1000 {n : Nat} (h : n ≤ 1000) : n < sizeLine := Nat.lt_of_le_of_lt h (by decide)


section
variable {X : Cx}
theorem pv (i : Nat) {x : Str} {pos : Pos} (hN : X.N[i]? = some x := by rfl) (hv : Vis X.env.scope x := by first | exact Or.inl rfl | exact Or.inr (Or.inl rfl) | exact Or.inr (Or.inr rfl)) (hd : (x == ("__debug__" : Str)) = false := by decide)
    (hcd : (x == ("__classdict__" : Str)) = false := by decide) : PE X (.Name x pos) (tVar i) := pe_var hN hv hd hcd
end


theorem iteF {A B : Prop} (h : B) : if false = true then A else B := by
  rw [if_neg Bool.false_ne_true]
  exact h
theorem iteT {A B : Prop} (h : A) : if true = true then A else B := by
  rw [if_pos rfl]
  exact h
theorem ite2 {c A B : Prop} [Decidable c] (h1 : c → A) (h2 : ¬ c → B) : if c then A else B := by
  by_cases h : c
  · rw [if_pos h]
    exact h1 h
  · rw [if_neg h]
    exact h2 h
theorem iteNS {c A B : Prop} [Decidable c] (hc : c) (h : B) : if (!decide c) = true then A else B := by
  rw [decide_eq_true hc]
  exact iteF h



def Same (H H' : Hp) : Prop := ∀ b o, H b = some o → H' b = some o
theorem Same.refl (H : Hp) : Same H H := fun _ _ h => h
theorem Same.trans {H H1 H2 : Hp} (a : Same H H1) (b : Same H1 H2) : Same H H2 := fun c o h => b c o (a c o h)
theorem Same.seq {K : PySem.W.Frag} {H H' : Hp} {a : Addr} {xs : List V} (e : Same H H') (h : SqL K H a xs) : SqL K H' a xs := by
  rcases h with (h | ⟨o, h⟩) | h
  · exact .inl (.inl (e _ _ h))
  · exact .inl (.inr ⟨o, e _ _ h⟩)
  · exact .inr h

end L2
namespace L2
open PySem PySem.Spec PyProof.Rows


section
variable {κ : Type} [DecidableEq κ]
end



section
variable {P : Program} {w : World} {H : Hp} {h : Heap} {a : Addr}
end


section
variable {X : Cx} {pins : List (Addr × Obj)} {σ : St} {H : Hp} {s : Shared} {a : Addr} {y v : V} {u r : Value} {o : Option V} {A : Around} {E : Value → Shared → Prop}

theorem Inv.big (I : Inv X pins σ H s) : sysModules < s.heap.objs.size := by
  have h : mainGlobals < s.heap.objs.size := (I.mod.glob.keeps I.bk).lt
  exact Nat.lt_trans (by decide) h


end

section
variable {X : Cx} {pins : List (Addr × Obj)} {σ : St} {H : Hp} {s : Shared} {a : Addr} {kvs : List (Key × V)} {k : Key} {u : Value} {A : Around} {E : Value → Shared → Prop}

end




section
variable {X : Cx} {o i e value : Expr} {pos pos' tpos : Pos} {td ty tv : TE}
end



theorem dk_empty {P : Program} {w : World} {H : Hp} (h : Heap) (hb : sysModules < h.objs.size) : ObjOk P w H (h.push { cls := .type "dict", data := .dict #[] }) h.objs.size (.dK []) :=
  ⟨Nat.zero_le _, beq_eq_false_iff_ne.mpr (Ne.symm (Nat.ne_of_lt hb)), [], .nil, Heap.DictOf.new h⟩
def tDNewK : TE := fun _ H Q => ∀ p, H p = none → Q (.ref p) (upd H p (.dK []))
section
variable {X : Cx} {pos : Pos}
theorem pe_dnewK : PE X (.Dict [] [] pos) tDNewK := fun pins s σ H Q I h =>
  wpAny_Dict_empty ⟨.ref s.heap.objs.size, _, I.laid (a := s.heap.objs.size) (o := .dK []) (t' := s.toks) (fun _ _ q => Heap.get?_push_of_some _ q) (Nat.le_refl _) (dk_empty s.heap I.big), rfl, h _ (I.hok.fresh (Nat.le_refl _))⟩
end


section
variable {X : Cx} {pins : List (Addr × Obj)} {σ : St} {H : Hp} {s : Shared} {a : Addr} {y d : V} {u r : Value} {o : Option V} {A : Around} {E : Value → Shared → Prop}

end

section
variable {X : Cx} {o e f : Expr} {apos cpos : Pos} {td ty tx : TE}
end


section
variable {X : Cx} {pins : List (Addr × Obj)} {σ : St} {H : Hp} {s : Shared} {a : Addr} {kvs : List (Key × V)} {A : Around} {E : Value → Shared → Prop}
end


section
variable {X : Cx} {pins : List (Addr × Obj)} {σ : St} {H : Hp} {s : Shared} {a : Addr} {y : V} {u : Value} {A : Around} {E : Value → Shared → Prop}

end
end L2
namespace L2
open PySem PySem.Spec PyProof.Rows
section
variable {κ : Type} [DecidableEq κ]
end
end L2

set_option maxHeartbeats 4000000
namespace L2
open PySem PySem.Spec PyProof.Rows


def Itg (n : Nat) (g : Nat → V) : It := ⟨fun i _ => i < n, fun i H x H' => H' = H ∧ x = g i, fun i _ => n ≤ i⟩
theorem turn_walk {P : Program} {w : World} {K : PySem.W.Frag} {tg : Expr} {it : Addr} {n : Nat} {Pn : Nat → Value → Prop} {St : Nat → Heap → Prop} {g : Nat → V}
    (W : ∀ A : Around, A.handled = none → Walks P w A it [it] [it] n Pn St) (hv : ∀ i v, Pn i v → RelV (g i) v)
    (hk : ∀ i h h', St i h → (∀ o, h.get? it = some o → h'.get? it = some o) → St i h')
    (hself : ∀ (A : Around) (i : Nat) (s : Shared) (Q : Value → Shared → Prop) (E : Value → Shared → Prop), St i s.heap → Q (.ref it) s → wpAny (model P w) A (pyIter (.ref it)) Q E s)
    (ho : ∀ i h, St i h → ∃ o c vs, h.get? it = some o ∧ o.cls = .type c ∧ o.data = .fields vs ∧
      ["enumerate", "zip", "dict_itemiterator", "dict_reverseitemiterator", "odict_iterator", "itertools.zip_longest", "itertools.pairwise"].contains c = false) :
    Turn P w K tg (Itg n g) [it] it (fun i h => i ≤ n ∧ St i h) where
  mem := by simp
  obj := fun i h st b hb => by
    have e : b = it := by simpa using hb
    subst e
    obtain ⟨o, c, vs, e, _, d, _⟩ := ho i h st.2
    exact ⟨o, e, fun v z => by rw [d] at z; cases z⟩
  keep := fun i h h' st k => ⟨st.1, hk i h h' st.2 fun o e => k it (by simp) o e⟩
  item := by
    intro X hP hw hK hc i pins s σ H E I hf st hg
    subst hP hw hK
    obtain ⟨f0, f1, f2, f3, f4, f5⟩ := hf it (by simp)
    refine (W X.A (I.ok.hd hc)).item i s _ _ hg st.2 fun v h' tk hP st' kk => ?_
    have I1 : Inv X pins σ H { s with heap := h', toks := tk } := I.turned (fun b o hb e => kk b o (by simpa using hb) e) f0 f1 f3 f4 f5
    obtain ⟨o, c, vs, e, hcls, d, hn⟩ := ho _ _ st'
    exact ⟨v, rfl, go_of (s := { s with heap := h', toks := tk }) e hcls d hn ⟨g i, H, I1, hv i v hP, ⟨rfl, rfl⟩, ⟨hg, st'⟩, fun b hb => (hf b hb).1⟩⟩
  done := by
    intro X hP hw hK hc i pins s σ H E I hf st hg
    subst hP hw hK
    obtain ⟨f0, f1, f2, f3, f4, f5⟩ := hf it (by simp)
    have hg' : n ≤ i := hg
    have e : i = n := Nat.le_antisymm st.1 hg'
    subst e
    exact (W X.A (I.ok.hd hc)).done s _ _ st.2 fun h' tk kk => ⟨rfl, I.turned (fun b o hb e => kk b o (by simpa using hb) e) f0 f1 f3 f4 f5⟩
  self := fun A i s Q E st h => hself A i s Q E st.2 h
section
variable {X : Cx} {tg : Expr}

def sgn (z : Str) (i : Nat) : Str := ⟨#[z.cps.getD i 0]⟩
def iStr (tl : TE) : TI := fun σ H R => tl σ H fun x H1 => ∃ z, x = .str z ∧ R (Itg z.length fun i => .str (sgn z i)) H1
theorem sgn_of {z : Str} {i : Nat} {v : Value} (h : SignAt z i v) : RelV (.str (sgn z i)) v := by
  obtain ⟨c, u, hc, rfl⟩ := h
  refine ⟨u, ?_⟩
  have e : z.cps.getD i 0 = c := by simp [Array.getD_eq_getD_getElem?, hc]
  unfold sgn
  rw [e]
theorem pi_str {l : Expr} {tl : TE} (hl : PE X l tl) : PI X tg l (iStr tl) := by
  intro pins s σ H R I h
  refine thn (hl pins s σ H _ I h) fun v s1 ⟨x, H1, I1, r1, q1⟩ => ?_
  obtain ⟨z, e, q⟩ := q1
  subst e
  obtain ⟨t, rfl⟩ := r1
  have fp : ∀ b ∈ [s1.heap.objs.size], FpOk X pins H1 b := fun b hb => by
    have e : b = s1.heap.objs.size := by simpa using hb
    subst e
    exact I1.fpOk (Nat.le_refl _) (I1.hok.fresh (Nat.le_refl _))
  cases ha : z.cps.all (· < 128)
  · refine wpAny_pyIter_wide ha ?_
    refine ⟨s1.heap.objs.size, [s1.heap.objs.size], _, _, H1, rfl, I1.kept (t' := s1.toks) fun b o e => Heap.get?_push_of_some _ e,
      turn_walk (St := fun i h => h.IsStrIter s1.heap.objs.size "str_iterator" z t i) (fun A hA => Walks.strWide hA _ z t) (fun i v => sgn_of) (fun i h h' st k => let ⟨o, ho, r⟩ := st; ⟨o, k o ho, r⟩) (fun A i s Q E st hQ => wpAny_pyIter_striter_wide st hQ)
        (fun i h st => let ⟨o, ho, hc, hd⟩ := st; ⟨o, _, _, ho, hc, hd, by decide⟩), ⟨Nat.zero_le _, ⟨_, Heap.get?_push_size _ rfl, rfl, rfl⟩⟩, fp, q⟩
  · refine wpAny_pyIter_ascii ha ?_
    refine ⟨s1.heap.objs.size, [s1.heap.objs.size], _, _, H1, rfl, I1.kept (t' := s1.toks) fun b o e => Heap.get?_push_of_some _ e,
      turn_walk (St := fun i h => h.IsStrIter s1.heap.objs.size "str_ascii_iterator" z t i) (fun A hA => Walks.strAscii hA _ z t) (fun i v => sgn_of) (fun i h h' st k => let ⟨o, ho, r⟩ := st; ⟨o, k o ho, r⟩) (fun A i s Q E st hQ => wpAny_pyIter_striter_ascii st hQ)
        (fun i h st => let ⟨o, ho, hc, hd⟩ := st; ⟨o, _, _, ho, hc, hd, by decide⟩), ⟨Nat.zero_le _, ⟨_, Heap.get?_push_size _ rfl, rfl, rfl⟩⟩, fp, q⟩


end


section
variable {X : Cx}
theorem call_int_str : CallR X (.type "int") (fun xs H Q => ∃ z n, xs = [.str z] ∧ PySem.intText? z = some n ∧ z.length ≤ 640 ∧ Q (.int n) H) := by
  intro pins s σ H xs us Q I r h
  obtain ⟨z, n, rfl, hn, hl, q⟩ := h
  obtain ⟨u, rfl, t, rfl⟩ := vals1 r
  exact PySem.W.KIN.call_text hn hl ⟨.int n, H, I.tok _, ⟨_, rfl⟩, q⟩
theorem strsAre_of : ∀ {ys : List Str} {us : List Value}, Vals (ys.map V.str) us → StrsAre us ys
  | [], us, r => by rw [List.map_nil] at r; cases r; exact .nil
  | y :: ys, us, r => by
    rw [List.map_cons] at r
    cases r with
    | cons r1 r2 =>
      obtain ⟨t, e⟩ := r1
      subst e
      exact .cons y t (strsAre_of r2)
def rJoin (K : PySem.W.Frag) : V → List V → Hp → VK → Prop := fun x vs H Q => ∃ z a ys, x = .str z ∧ vs = [.ref a] ∧ SqL K H a (ys.map V.str) ∧ (ys.map (·.length)).sum + ys.length * z.length ≤ 16777216 ∧ Q (.str (Txt.join z ys)) H
theorem mt_join : MtR X "str.join" (rJoin X.K) := by
  intro pins s σ H x vs v us Q I rx rv h
  obtain ⟨z, a, ys, rfl, rfl, hS, hz, q⟩ := h
  obtain ⟨t, rfl⟩ := rx
  obtain ⟨u, rfl, ru⟩ := rv.one
  cases ru
  obtain ⟨its, r, pl, _⟩ := I.list hS
  exact join_list pl.isList (by simpa using strsAre_of r) hz fun t' k => ⟨.str _, H, I.tok _, ⟨_, rfl⟩, q⟩
def rSlS : V → Option Int → Option Int → Hp → VK → Prop := fun x lo hi H Q => ∃ z, x = .str z ∧ z.length ≤ sizeLine ∧ Q (.str (Txt.slice z lo hi)) H
theorem sl_str : SlR X rSlS := by
  intro pins s σ H x v vl vu lo hi sl Q I rx hs pl pu h
  obtain ⟨z, rfl, hz, q⟩ := h
  obtain ⟨t, rfl⟩ := rx
  refine ⟨"str", _, F.slot_str_getitem.lookup, typeIs_str _ _ _, ?_⟩
  obtain ⟨o, e1, e2, e3⟩ := hs
  have fin : ∀ (z' : Str) (t' : Tok) (k : Nat), z' = Txt.slice z lo hi → EP X pins σ Q (.str z' t') { s with toks := k } := fun z' t' k e => by
    subst e
    exact ⟨.str _, H, I.tok _, ⟨_, rfl⟩, q⟩
  cases pl with
  | none =>
    cases pu with
    | none => exact wpAny_getItem_str_slice (l := none) (u := none) (st := none) ⟨o, e1, e2, e3⟩ rfl (post_val_or_str ⟨Nat.le_trans (Txt.slice_le z _ _) hz, fun t' k => fin _ t' k rfl⟩)
    | int j uj => exact wpAny_getItem_str_slice (l := none) (u := some (j, uj)) (st := none) ⟨o, e1, e2, e3⟩ rfl (post_val_or_str ⟨Nat.le_trans (Txt.slice_le z _ _) hz, fun t' k => fin _ t' k rfl⟩)
  | int i ui =>
    cases pu with
    | none => exact wpAny_getItem_str_slice (l := some (i, ui)) (u := none) (st := none) ⟨o, e1, e2, e3⟩ rfl (post_val_or_str ⟨Nat.le_trans (Txt.slice_le z _ _) hz, fun t' k => fin _ t' k rfl⟩)
    | int j uj => exact wpAny_getItem_str_slice (l := some (i, ui)) (u := some (j, uj)) (st := none) ⟨o, e1, e2, e3⟩ rfl (post_val_or_str ⟨Nat.le_trans (Txt.slice_le z _ _) hz, fun t' k => fin _ t' k rfl⟩)


def rIsiT (K : PySem.W.Frag) (T : String) : List V → Hp → VK → Prop := fun xs H Q => ∃ x t b, xs = [x, .ty T] ∧ TyOf K H x t ∧ PySem.W.kitOne K t (.type T) = some b ∧ Q (.bl b) H
theorem call_isiT (T : String) : CallR X (.builtin "isinstance") (rIsiT X.K T) := by
  intro pins s σ H xs us Q I r h
  obtain ⟨x, t, b, rfl, ty, hk, q⟩ := h
  obtain ⟨u, c, rfl, rx, rc⟩ := vals2 r
  cases (show c = .type T from rc)
  exact isinst_ok I rx ty hk fun tk => ⟨.bl b, H, I.tok _, rfl, q⟩
end
end L2

namespace L2
open PySem PySem.Spec PyProof.Rows


section
variable {prog : Program} {w : World} {A : Around} {R : Result → Shared → Prop} {s : Shared}
theorem compLoop_go {elt target iter : Expr} {scope : Scope} {pos : Pos} {it acc : Value} {env : Env} (I : Nat → Shared → Prop)
    (turn : ∀ n s, I n s → wpAny (model prog w) A (pyNext it) (fun r s1 => match r with
      | none => R (.ok .next) s1
      | some v => wpAny (model prog w) A (letOwnedTupleGo target it v) (fun _ s2 => wpAny (model prog w) A (assign target env v) (fun _ s3 =>
          wpAny (model prog w) A (eval elt env) (fun x s4 =>
            wpAny (model prog w) A (call (.builtin "list.append") [acc, x]) (fun _ s5 => ∃ m, m < n ∧ I m s5) (notedBy (model prog w) A env fun e s' => R (.error e) s') s4) (notedBy (model prog w) A env fun e s' => R (.error e) s') s3)
          (notedBy (model prog w) A env fun e s' => R (.error e) s') s2) (notedBy (model prog w) A env fun e s' => R (.error e) s') s1) (notedBy (model prog w) A env fun e s' => R (.error e) s') s)
    (n : Nat) (h : I n s) :
    codeAny (model prog w) A (.compLoop (.ListComp elt [⟨target, iter, [], 0⟩] scope pos) 0 it acc env) R s := by
  refine codeAny_loop rfl I (fun n s hI => ?_) n h
  show wpAny _ A ((compTurn (.ListComp elt [⟨target, iter, [], 0⟩] scope pos) 0 it acc env).onRaise (fun x => do noteFrame x env; theTreesLotGoes x)) _ _ s
  refine wpAny_noted ?_
  rw [compTurn_list]
  refine wpAny_bind (wpAny_standAt (wpAny_bind (wpAny_mono (turn n s hI) (fun r s1 h1 => ?_) fun _ _ h' => h')))
  cases r with
  | none => exact wpAny_pure h1
  | some v =>
    refine wpAny_bind (wpAny_mono h1 (fun _ s2 h2 => wpAny_bind (wpAny_mono h2 (fun _ s3 h3 => ?_) fun _ _ h' => h')) fun _ _ h' => h')
    refine wpAny_bind (wpAny_tests_nil ?_)
    exact wpAny_bind (wpAny_bind (wpAny_mono h3 (fun x s4 h4 => wpAny_bind (wpAny_mono h4 (fun _ s5 h5 => wpAny_pure (wpAny_pure ⟨rfl, h5⟩)) fun _ _ h' => h')) fun _ _ h' => h'))
end

section
variable {X : Cx} {elt tg iter : Expr} {scope : Scope} {pos : Pos} {N' : List Str} {wi : TI} {g : TG} {te : TE}
theorem HOk.but {P : Program} {w : World} {H : Hp} {h h' : Heap} {C : Addr} (x : HOk P w H h) (n : H C = none) (k : ∀ b u, b ≠ C → h.get? b = some u → h'.get? b = some u) : HOk P w H h' := fun a o e =>
  (x a o e).stay (fun b u hb q => k b u (by
    rcases hb with z | z
    · rw [z]; intro z2; rw [z2, n] at e; cases e
    · intro z2; rw [z2, n] at z; cases z) q) (fun _ q => q) fun _ _ q => q
end

section
variable {X : Cx}
theorem boolsAre_of : ∀ {bs : List Bool} {us : List Value}, Vals (bs.map V.bl) us → LSm.BoolsAre us bs
  | [], us, r => by rw [List.map_nil] at r; cases r; exact .nil
  | b :: bs, us, r => by
    rw [List.map_cons] at r
    cases r with
    | cons r1 r2 =>
      cases (show _ = Value.bool b from r1)
      exact .cons b (boolsAre_of r2)
theorem call_all (hc : X.calm = true) : CallR X (.builtin "all") (fun xs H Q => ∃ (a : Addr) (bs : List Bool), xs = [.ref a] ∧ SqL X.K H a (bs.map V.bl) ∧ Q (.bl (bs.all id)) H) := by
  intro pins s σ H xs us Q I r h
  obtain ⟨a, bs, rfl, hS, q⟩ := h
  obtain ⟨u, rfl, ru⟩ := vals1 r
  cases ru
  obtain ⟨its, rv, pl, _⟩ := I.list hS
  have hb := boolsAre_of rv
  have hlt : a < s.heap.objs.size := by obtain ⟨_, e, _⟩ := pl.isList; exact Heap.lt_size e
  refine call_all_walk (wpAny_pyIter_list pl.isList ?_)
  refine ⟨s.heap.objs.size, [s.heap.objs.size, a], [s.heap.objs.size], its.toArray.size, _, _, fun i => (bs[i]?).getD true, rfl, Walks.list (A := X.A.in1) (I.ok.hd hc) _ a (Nat.ne_of_lt hlt) its.toArray,
    ⟨⟨_, Heap.get?_push_size _ rfl, rfl, rfl⟩, pl.isList.push _⟩, fun i v s' Q' E' hP hQ => ?_, fun h' tk hk => ?_⟩
  · obtain ⟨b, e, rfl⟩ := hb.get i v (by simpa using hP)
    simp only [e, Option.getD_some] at hQ
    exact wpAny_truthy_bool hQ
  · have e : ((List.range its.toArray.size).all fun i => (bs[i]?).getD true) = bs.all id := by
      rw [List.size_toArray, hb.length]; exact LSm.range_all bs
    rw [e]
    exact ⟨.bl _, H, I.kept (LSm.kept_iter hk), rfl, q⟩


theorem mt_index : MtR X "str.index" (fun x vs H Q => ∃ z y i rest, x = .str z ∧ vs = [.str y] ∧ Builtin.Str.occurrences z y 0 z.length 1 = i :: rest ∧ Q (.int (i : Nat)) H) := by
  intro pins s σ H x vs v us Q I rx rv h
  obtain ⟨z, y, i, rest, rfl, rfl, ho, q⟩ := h
  obtain ⟨t, rfl⟩ := rx
  obtain ⟨u, rfl, tu, rfl⟩ := rv.one
  exact SC.index ho ⟨.int _, H, I.tok _, ⟨_, rfl⟩, q⟩
end
end L2

namespace L2
open PySem PySem.Spec PyProof.Rows



def Quiet (CX : CXT) : Prop := ∀ outer H s e s', CX outer H s E0 e s' → False
theorem passQ {CX : CXT} {X : Cx} (q : Quiet CX) : Passes CX X E0 := fun _ _ _ _ _ _ _ h => (q _ _ _ _ _ h).elim
structure Fok (P : Program) (w : World) (K : PySem.W.Frag) (mg : Str → Option Value) (base : Heap) (CX : CXT) (j : Nat) (x : Str) (ps : List Str) (dvs : List V) (sp : Sp) : Prop where
  ex : ∃ f fd ds, FnOk P w K mg base CX j f fd ps sp ∧ Binds K fd ps ds ∧ Vals dvs ds ∧ PySem.W.keepIn K (.ref f) = true ∧ mg x = some (.ref f)
section
variable {X : Cx} {CX : CXT} {j k : Nat} {ps : List Str} {sp : Sp} {dvs : List V} {E : XK} {x : Str} {p pos : Pos} {e : Expr} {es : List Expr} {t : TA}

theorem pe_callX (F : Fok X.prog X.w X.K X.mg X.base CX j x ps dvs sp) (hr : Room k X.A) (hx : Passes CX X E) (ha : PA X (e :: es) t) (hj : j ≤ k := by decide) (hg : Gl X x := by rfl)
    (hdb : (x == ("__debug__" : Str)) = false := by decide) (he : starEach (e :: es) X.env = (false, eval e X.env) :: starEach es X.env := by rfl) (hpl : (backTo pos (starEach es X.env)).any (·.1) = false := by rfl) :
    PE X (.Call (.Name x p) (e :: es) [] pos) (tCall sp dvs E t) := by
  obtain ⟨f, fd, ds, G, b, v, kp, m⟩ := F.ex
  exact pe_call G (hr.mono hj) hg m kp b v hx ha hdb he hpl
theorem pe_callF (F : Fok X.prog X.w X.K X.mg X.base CX j x ps dvs sp) (q : Quiet CX) (hr : Room k X.A) (ha : PA X (e :: es) t) (hj : j ≤ k := by decide) (hg : Gl X x := by rfl)
    (hdb : (x == ("__debug__" : Str)) = false := by decide) (he : starEach (e :: es) X.env = (false, eval e X.env) :: starEach es X.env := by rfl) (hpl : (backTo pos (starEach es X.env)).any (·.1) = false := by rfl) :
    PE X (.Call (.Name x p) (e :: es) [] pos) (tCall sp dvs E0 t) := pe_callX F hr (passQ q) ha hj hg hdb he hpl
end
section
variable {P : Program} {w : World} {K : PySem.W.Frag} {mg : Str → Option Value} {base : Heap}

structure FunD (K : PySem.W.Frag) (x qual : Str) (st : Stmt) (f : Addr) (fd : FuncData) (dV : Value) : Prop where
  ex : ∃ (oc : Value) (od : Option Addr) (kV doc pm : Value) (an : Option Addr) (cdv ct : Value) (osl : Array (Option Value)),
    fd = PySem.W.fnOf x qual (defArgs st) (defBody st) (defScope st) dV kV doc pm an cdv ct ∧ K.lookup f = some ⟨oc, od, .func fd, osl⟩ ∧ PySem.W.codeIn K cdv qual = true
  kp : PySem.W.keepIn K (.ref f) = true
theorem funD_mk {x qual : Str} {st : Stmt} {f : Addr} {oc : Value} {od an : Option Addr} {osl : Array (Option Value)} {dV kV doc pm cdv ct : Value} (l : K.lookup f = some ⟨oc, od, .func (PySem.W.fnOf x qual (defArgs st) (defBody st) (defScope st) dV kV doc pm an cdv ct), osl⟩)
    (c : PySem.W.codeIn K cdv qual = true) (k : PySem.W.keepIn K (.ref f) = true) : FunD K x qual st f (PySem.W.fnOf x qual (defArgs st) (defBody st) (defScope st) dV kV doc pm an cdv ct) dV := ⟨⟨oc, od, kV, doc, pm, an, cdv, ct, osl, rfl, l, c⟩, k⟩

theorem FunD.ok {x qual : Str} {st : Stmt} {f : Addr} {fd : FuncData} {dV : Value} {N ps : List Str} {k : Nat} {sp : Sp} {CX : CXT} (F : FunD K x qual st f fd dV) (S : FnScope N ps (defScope st)) (len : ∀ vs H Q E, sp vs H Q E → vs.length = ps.length)
    (hbody : ∀ (cdv : Value) (A : Around) (outer : List Env) (s : Shared) (H : Hp) (vs : List V) (Q : VK) (E : XK), Room k (A.deeper (envOfC qual (defScope st) s.heap.objs.size f cdv)) → sp vs H Q E →
      ∃ t, PSs (cxOf CX P w K mg base N qual (defScope st) f cdv A outer s H E).nox (defBody st) t ∧ t { nx := fun _ H' => Q .non H', rt := Q } (start N vs) H) : FnOk P w K mg base CX (k + 1) f fd ps sp := by
  obtain ⟨oc, od, kV, doc, pm, an, cdv, ct, osl, rfl, lk, hcd⟩ := F.ex
  refine fn_of lk hcd S len fun A outer s H vs Q E hr hsp => ?_
  obtain ⟨t, h, q⟩ := hbody cdv A outer s H vs Q E hr hsp
  exact ⟨t, h.nox, q⟩

theorem FunD.okX {x qual : Str} {st : Stmt} {f : Addr} {fd : FuncData} {dV : Value} {N ps : List Str} {k : Nat} {sp : Sp} {CX : CXT} (F : FunD K x qual st f fd dV) (S : FnScope N ps (defScope st)) (len : ∀ vs H Q E, sp vs H Q E → vs.length = ps.length)
    (hbody : ∀ (cdv : Value) (A : Around) (outer : List Env) (s : Shared) (H : Hp) (vs : List V) (Q : VK) (E : XK), Room k (A.deeper (envOfC qual (defScope st) s.heap.objs.size f cdv)) → sp vs H Q E →
      ∃ t, PSs (cxOf CX P w K mg base N qual (defScope st) f cdv A outer s H E) (defBody st) t ∧ t { nx := fun _ H' => Q .non H', rt := Q } (start N vs) H) : FnOk P w K mg base CX (k + 1) f fd ps sp := by
  obtain ⟨oc, od, kV, doc, pm, an, cdv, ct, osl, rfl, lk, hcd⟩ := F.ex
  exact fn_of lk hcd S len fun A outer s H vs Q E hr hsp => hbody cdv A outer s H vs Q E hr hsp

theorem FunD.binds {x qual : Str} {st : Stmt} {f : Addr} {fd : FuncData} {dV : Value} {ps : List Str} (F : FunD K x qual st f fd dV)
    (h : ∀ (kV doc pm : Value) (an : Option Addr) (cdv ct : Value) (us : List Value), us.length = ps.length → bindArgs (PySem.W.fnOf x qual (defArgs st) (defBody st) (defScope st) dV kV doc pm an cdv ct) ⟨us, []⟩ = pure (ps.zip us)) : Binds K fd ps [] := by
  obtain ⟨oc, od, kV, doc, pm, an, cdv, ct, osl, rfl, lk, hcd⟩ := F.ex
  exact .all (h kV doc pm an cdv ct)

theorem fok {CX : CXT} {j : Nat} {x qual : Str} {st : Stmt} {f : Addr} {fd : FuncData} {dV : Value} {ps : List Str} {sp : Sp} (F : FunD K x qual st f fd dV) (G : FnOk P w K mg base CX j f fd ps sp) (b : Binds K fd ps []) (m : mg x = some (.ref f)) :
    Fok P w K mg base CX j x ps [] sp := ⟨f, fd, [], G, b, .nil, F.kp, m⟩

end


section
variable {X : Cx}
def CDivW (i j : Int) : Prop := 0 < j ∧ j < 2 ^ 1000
theorem op_fdivW : OpR X (binaryOp .FloorDiv) (rI CDivW fun i j => .int (i / j)) := opI fun i j _ _ _ _ _ hc q => by
  have h1 : (0 : Int) < j := hc.1
  have h2 : j < 2 ^ 1000 := hc.2
  refine floordiv_int (by omega) (by rw [Int.fdiv_eq_ediv_of_nonneg i (by omega)]; exact q) (.inl (PyProof.noPylong_of_log2 ?_))
  have e : j.natAbs.log2 < 1000 := by
    refine (Nat.log2_lt (by omega)).mpr ?_
    have e2 : ((j.natAbs : Nat) : Int) = j := by omega
    have e3 : ((2 ^ 1000 : Nat) : Int) = (2 : Int) ^ 1000 := by rw [Int.natCast_pow]; rfl
    omega
  omega
theorem cdivW {i j : Int} (h0 : 0 < j) (h1 : j < 1000000000000000000000000) : CDivW i j := ⟨h0, Int.lt_trans h1 (by decide +kernel)⟩
end
theorem bt_int : bootBuiltins "int" = some (.type "int") := by decide +kernel
theorem bt_str : bootBuiltins "str" = some (.type "str") := by decide +kernel
theorem bt_bool : bootBuiltins "bool" = some (.type "bool") := by decide +kernel
theorem bt_list : bootBuiltins "list" = some (.type "list") := by decide +kernel
theorem bt_tuple : bootBuiltins "tuple" = some (.type "tuple") := by decide +kernel
theorem bb_isinstance : bootBuiltins "isinstance" = some (.builtin "isinstance") := by decide +kernel
theorem bb_all : bootBuiltins "all" = some (.builtin "all") := by decide +kernel
theorem bb_len : bootBuiltins "len" = some (.builtin "len") := by decide +kernel
section
variable {K : PySem.W.Frag}
theorem kit_ii : PySem.W.kitOne K (.type "int") (.type "int") = some true := by kernel_rfl
theorem kit_ib : PySem.W.kitOne K (.type "int") (.type "bool") = some false := by kernel_rfl
theorem kit_is : PySem.W.kitOne K (.type "int") (.type "str") = some false := by kernel_rfl
theorem kit_ss : PySem.W.kitOne K (.type "str") (.type "str") = some true := by kernel_rfl
theorem kit_bi : PySem.W.kitOne K (.type "bool") (.type "int") = some true := by kernel_rfl
theorem kit_bb : PySem.W.kitOne K (.type "bool") (.type "bool") = some true := by kernel_rfl
theorem kit_bs : PySem.W.kitOne K (.type "bool") (.type "str") = some false := by kernel_rfl
theorem kit_tt : PySem.W.kitOne K (.type "tuple") (.type "tuple") = some true := by kernel_rfl
theorem kit_ns : PySem.W.kitOne K (.type "NoneType") (.type "str") = some false := by kernel_rfl
theorem kit_ls : PySem.W.kitOne K (.type "list") (.type "str") = some false := by kernel_rfl
theorem kit_ts : PySem.W.kitOne K (.type "tuple") (.type "str") = some false := by kernel_rfl
theorem kit_ds : PySem.W.kitOne K (.type "dict") (.type "str") = some false := by kernel_rfl
end
end L2

namespace L2
open PySem PySem.Spec PyProof.Rows


section
variable {prog : Program} {w : World} {A : Around} {E : Value → Shared → Prop} {s : Shared}
end
end L2

namespace L2
open PySem PySem.Spec PyProof.Rows

end L2

namespace L2
open PySem PySem.Spec PyProof.Rows
section
variable {prog : Program} {w : World} {A : Around} {E : Value → Shared → Prop} {s : Shared}
end

section
variable {X : Cx} {pins : List (Addr × Obj)} {σ : St} {H : Hp} {s : Shared} {h' : Heap}
end
section
variable {X : Cx}
end
end L2

namespace L2
open PySem PySem.Spec PyProof.Rows


end L2

namespace L2
open PySem PySem.Spec PyProof.Rows

end L2

namespace L2
open PySem PySem.Spec PyProof.Rows


theorem ObjOk.there {P : Program} {w : World} {H : Hp} {h : Heap} {a : Addr} {o : HO} (x : ObjOk P w H h a o) : ∃ u, h.get? a = some u := by
  cases o with
  | lst xs => obtain ⟨_, _, _, _, e⟩ := x; exact ⟨_, e⟩
  | tup xs => obtain ⟨_, _, _, o, e, _⟩ := x; exact ⟨_, e⟩
  | dK kvs => obtain ⟨_, _, _, _, o, _, _, e, _⟩ := x; exact ⟨_, e⟩
  | dT kvs => obtain ⟨_, _, _, _, o, _, _, e, _⟩ := x; exact ⟨_, e⟩
  | set S n => obtain ⟨o, _, _, _, e, _⟩ := x; exact ⟨_, e⟩
  | ins C dx fs => obtain ⟨_, _, _, e, _⟩ := x; exact ⟨_, e⟩
  | own y => exact x
  | xd fs => obtain ⟨_, ⟨_, _, _, e, _⟩, _⟩ := x; exact ⟨_, e⟩
  | rng lo hi => obtain ⟨_, _, _, e⟩ := x; exact ⟨_, e⟩
  | frz ob u => obtain ⟨e, _⟩ := x; exact ⟨_, e⟩
  | tbl ps => exact ⟨_, (show h.get? a = some _ from x)⟩
  | met f y => exact ⟨_, (show h.get? a = some _ from x)⟩
  | ext φ => obtain ⟨_, e, _⟩ := x; exact e
theorem HOk.not {P : Program} {w : World} {H : Hp} {h : Heap} {a : Addr} (x : HOk P w H h) (e : h.get? a = none) : H a = none := by
  cases q : H a with
  | none => rfl
  | some o =>
    obtain ⟨u, z⟩ := (x a o q).there
    rw [e] at z; cases z

structure Fly (h0 : Heap) (H : Hp) (h : Heap) (e : Addr) (cls : Value) : Prop where
  ex : ∃ oe vs a0 T oT ts, h.get? e = some oe ∧ (oe.cls = cls ∧ vs[0]? = some a0) ∧ oe.data = .fields vs ∧ vs[1]? = some (.ref T) ∧ (h0.get? T = none ∧ H T = none) ∧ T ≠ e ∧ h.get? T = some oT ∧ oT.data = .fields ts ∧ ts[3]? = some .none
  new : h0.get? e = none
  un : H e = none
def CXe (P : Program) (w : World) : CXT := fun outer H s E ev s' => ∃ e cls H', ev = .ref e ∧ s'.os = s.os ∧ AllBare s'.gens ∧ Un (frs outer) [] H H' s.heap s'.heap ∧ HOk P w H' s'.heap ∧ Fly s.heap H' s'.heap e cls ∧ E cls none H'
theorem quietE {P : Program} {w : World} : Quiet (CXe P w) := fun _ _ _ _ _ ⟨_, _, _, _, _, _, _, _, _, h⟩ => h

theorem rebase {h b b' : Heap} : ∀ {l : List Env}, h.FunFrames b l → (∀ a ∈ frs l, b'.get? a = none) → h.FunFrames b' l
  | [], _, _ => trivial
  | env :: r, ⟨hk, ⟨L, o, hf, hn, ho, hd⟩, hr⟩, k => by
    have e : frs (env :: r) = L :: frs r := by unfold frs; rw [List.filterMap_cons, hf]
    rw [e] at k
    exact ⟨hk, ⟨L, o, hf, k L List.mem_cons_self, ho, hd⟩, rebase hr fun a ha => k a (List.mem_cons_of_mem _ ha)⟩

abbrev less (h : Heap) (l : List Addr) : Heap := PySem.W.hideAll h l
theorem less_stays (h : Heap) (l : List Addr) : (less h l).StaysIn h := fun _ _ e => PySem.W.of_hideAll l e

section
variable {P : Program} {w : World} {H H' : Hp} {h h' h'' bs : Heap} {l : List Env} {hid : List Addr}

theorem un_upto (u : Un (frs l) [] H H' h h') (ok : HOk P w H' h') (fr : h'.FunFrames bs l) (fre : ∀ b ∈ frs l, H' b = none) (hh : ∀ b ∈ hid, h.get? b = none ∧ H' b = none)
    (st : (less h' (hid ++ frs l)).StaysIn h'') (up : h'.UpToSlots h'') : Un (frs l) [] H H' h h'' ∧ HOk P w H' h'' := by
  have kp : ∀ b o, h'.get? b = some o → b ∉ hid → b ∉ frs l → h''.get? b = some o := fun b o e n1 n2 => st b o (PySem.W.hideAll_get _ e fun z => (List.mem_append.mp z).elim n1 n2)
  have nh : ∀ b o, h.get? b = some o → b ∉ hid := fun b o e z => by rw [(hh b z).1] at e; cases e
  have fs : ∀ b o, h'.get? b = some o → b ∈ frs l → ∃ sl, h''.get? b = some { o with slots := sl } := fun b o e hb => by
    obtain ⟨_, o', e', nf⟩ := fr.mem hb
    rw [e] at e'; cases e'
    exact up b o e nf
  refine ⟨⟨fun b o e n hb hx => kp b o (u.keep b o e n hb hx) (nh b o e) hb, fun b o e n hb hx => ?_, u.free, fun b o e hx => ?_, u.tups, u.frzs, u.tbls⟩, fun a o e => ?_⟩
  · obtain ⟨sl, e1⟩ := u.slot b o e n hb hx
    obtain ⟨sl', e2⟩ := fs b _ e1 hb
    exact ⟨sl', e2⟩
  · obtain ⟨o', e1⟩ := u.there b o e hx
    by_cases hb : b ∈ frs l
    · obtain ⟨sl', e2⟩ := fs b _ e1 hb
      exact ⟨_, e2⟩
    · exact ⟨o', kp b o' e1 (nh b o e) hb⟩
  · refine (ok a o e).stay (fun b v hb q => ?_) (fun _ q => q) fun _ _ q => q
    have tr : ∃ v, H' b = some v := by
      rcases hb with z | z
      · exact ⟨o, z ▸ e⟩
      · exact ⟨_, z⟩
    obtain ⟨v', tr⟩ := tr
    refine kp b v q (fun z => ?_) fun z => ?_
    · rw [(hh b z).2] at tr; cases tr
    · rw [fre b z] at tr; cases tr

theorem entry_new (u : Un (frs l) [] H H' h h') (ok : HOk P w H' h') (fr : h'.FunFrames bs l) (hh : ∀ b ∈ hid, h.get? b = none ∧ H' b = none) (up : h'.UpToSlots h'') {T : Addr} {oT : Obj} {ts : Array Value}
    (e : h''.get? T = some oT) (d : oT.data = .fields ts) (n : (less h' (hid ++ frs l)).get? T = none) : h.get? T = none ∧ H' T = none := by
  have nf : T ∉ frs l := fun z => by
    obtain ⟨_, o', e', nf⟩ := fr.mem z
    obtain ⟨sl, q⟩ := up T o' e' nf
    rw [e] at q
    cases q
    exact nf ts d
  by_cases hb : T ∈ hid
  · exact hh T hb
  · have z : h'.get? T = none := by
      cases q : h'.get? T with
      | none => rfl
      | some o =>
        have z : (less h' (hid ++ frs l)).get? T = some o := PySem.W.hideAll_get _ q fun z => (List.mem_append.mp z).elim hb nf
        rw [n] at z; cases z
    refine ⟨?_, ok.not z⟩
    cases q : h.get? T with
    | none => rfl
    | some o =>
      obtain ⟨o', q'⟩ := u.there T o q (by simp)
      rw [z] at q'; cases q'
end
theorem back {fs : List Addr} {H H' : Hp} {h h' : Heap} (u : Un fs [] H H' h h') {a : Addr} (e : h'.get? a = none) : h.get? a = none := by
  cases q : h.get? a with
  | none => rfl
  | some o =>
    obtain ⟨o', q'⟩ := u.there a o q (by simp)
    rw [e] at q'; cases q'


section
variable {P : Program} {w : World} {K : PySem.W.Frag} {mg : Str → Option Value} {base : Heap} {N : List Str} {qual : Str} {scope : Scope} {f : Addr} {cd : Value} {A : Around} {outer : List Env} {s0 : Shared} {H0 : Hp} {E : XK}

theorem leave_made {pins : List (Addr × Obj)} {σ : St} {H : Hp} {s : Shared} {h' : Heap} {e : Addr} {cls : Value} {args : List Value} (I : Inv (cxOf (CXe P w) P w K mg base N qual scope f cd A outer s0 H0 E) pins σ H s)
    (hx : Heap.MadeExcOf s.heap h' e cls args) (q : E cls none H) : (cxOf (CXe P w) P w K mg base N qual scope f cd A outer s0 H0 E).xe (.ref e) { s with heap := h' } := by
  have fr : s.heap.FunFrames _ (cxOf (CXe P w) P w K mg base N qual scope f cd A outer s0 H0 E).stack := I.stack
  have kin := I.stkFree
  refine wpAny_leaves_madeW (base := less s.heap ([] ++ frs (cxOf (CXe P w) P w K mg base N qual scope f cd A outer s0 H0 E).stack)) (h := s.heap) (L := s0.heap.objs.size) I.ok.frames rfl (less_stays _ _)
    (rebase fr fun a ha => PySem.W.hideAll_none _ (List.mem_append_right _ ha)) hx fun h'' t x1 x2 x3 x4 => ?_
  have up : s.heap.UpToSlots h'' := (Heap.UpToSlots.of_keeps hx.keeps).trans x4
  obtain ⟨y1, y2, y3, oe, vs, T, oT, ts, z1, z2, z3, z4, z5, z6, z7, z8, z9⟩ := x1
  obtain ⟨u, ok⟩ := un_upto (H := H) (hid := []) Un.refl I.hok fr kin (fun b z => by cases z) y1 up
  have J := I.call' (s' := { s with heap := h'' }) (ch := []) rfl u ok I.bare (fun b z => by cases z)
  obtain ⟨n1, n2⟩ := entry_new (H := H) (hid := []) Un.refl I.hok fr (fun b z => by cases z) up z7 z8 z5
  exact ⟨e, cls, H, rfl, J.os, J.bare, J.base, ok, ⟨⟨oe, vs, _, T, oT, ts, z1, z2, z3, z4, ⟨back I.base n1, n2⟩, z6, z7, z8, z9⟩, back I.base hx.new, I.hok.not hx.new⟩, q⟩

theorem leave_on {pins : List (Addr × Obj)} {σ : St} {H : Hp} {s s' : Shared} {e : Value} (I : Inv (cxOf (CXe P w) P w K mg base N qual scope f cd A outer s0 H0 E) pins σ H s)
    (c : CXe P w (cxOf (CXe P w) P w K mg base N qual scope f cd A outer s0 H0 E).stack H s E e s') : (cxOf (CXe P w) P w K mg base N qual scope f cd A outer s0 H0 E).xe e s' := by
  obtain ⟨ea, cls, H', rfl, c1, c2, c3, c4, ⟨⟨oe, vs, a0, T, oT, ts, f1, f2, f3, f4, f5, f6, f7, f8, f9⟩, fn, fu⟩, q⟩ := c
  have J := I.call' (s' := s') (ch := []) c1 c3 c4 c2 (fun b z => by cases z)
  have fr : s'.heap.FunFrames _ (cxOf (CXe P w) P w K mg base N qual scope f cd A outer s0 H0 E).stack := J.stack
  have hh : ∀ b ∈ [ea, T], s.heap.get? b = none ∧ H' b = none := fun b hb => by
    rcases List.mem_cons.mp hb with rfl | hb
    · exact ⟨fn, fu⟩
    · rcases List.mem_cons.mp hb with rfl | hb
      · exact f5
      · cases hb
  refine wpAny_leaves_onW (base := less s'.heap ([ea, T] ++ frs (cxOf (CXe P w) P w K mg base N qual scope f cd A outer s0 H0 E).stack)) (L := s0.heap.objs.size) (cls := cls) (a0 := a0) I.ok.frames rfl
    ⟨less_stays _ _, PySem.W.hideAll_none _ (by simp), rebase fr fun a ha => PySem.W.hideAll_none _ (List.mem_append_right _ ha), oe, vs, T, oT, ts, f1, f2, f3, f4, PySem.W.hideAll_none _ (by simp), f6, f7, f8, f9⟩ fun h'' x1 x4 => ?_
  obtain ⟨y1, y2, y3, oe', vs', T', oT', ts', z1, z2, z3, z4, z5, z6, z7, z8, z9⟩ := x1
  obtain ⟨u, ok⟩ := un_upto c3 c4 fr J.stkFree hh y1 x4
  have J' := I.call' (s' := { s' with heap := h'' }) (ch := []) c1 u ok c2 (fun b z => by cases z)
  obtain ⟨n1, n2⟩ := entry_new c3 c4 fr hh x4 z7 z8 z5
  exact ⟨ea, cls, H', rfl, J'.os, J'.bare, J'.base, ok, ⟨⟨oe', vs', _, T', oT', ts', z1, z2, z3, z4, ⟨back I.base n1, n2⟩, z6, z7, z8, z9⟩, back I.base fn, fu⟩, q⟩
theorem passE : Passes (CXe P w) (cxOf (CXe P w) P w K mg base N qual scope f cd A outer s0 H0 E) E := fun _ _ _ _ _ _ I c => leave_on I c
end
end L2

namespace L2
open PySem PySem.Spec PyProof.Rows


abbrev bmV : List Value := [.type "ValueError", .type "Exception", .type "BaseException", .type "object"]
structure OwnX (K : PySem.W.Frag) (mg : Str → Option Value) (x : Str) (C : Addr) : Prop where
  m : mg x = some (.ref C)
  ok : PySem.W.excIn K C bmV "ValueError.__new__" = true
theorem own_obj {K : PySem.W.Frag} {h : Heap} {C : Addr} {bmB : List Value} {newId : String} (X : K.In h) (q : PySem.W.excIn K C bmB newId = true) :
    ∃ bm N nm qn bs hd sn sub ab col dd k0 k1 k2 k3 k5 mN, h.get? C = some (excClassObj nm qn C N bs bm hd sn sub ab col dd k0 k1 k2 k3 k5 newId) ∧ h.Ns N mN ∧ mN "__init__" = none ∧ OwnTail h bmB bm := by
  unfold PySem.W.excIn at q
  split at q
  · rename_i dct cdt slo hob
    split at q
    · rename_i C2 bmx j0 j1 j2 j3 nw j5 hmr hsl
      simp only [Bool.and_eq_true, beq_iff_eq, Bool.not_eq_true'] at q
      obtain ⟨⟨⟨⟨⟨q1, q2⟩, q3⟩, q4⟩, q5⟩, q6⟩ := q
      subst q1 q2
      obtain ⟨nm, bs, mro, ns, qn, hd, sn, sub, ab, col, del⟩ := cdt
      dsimp only at hmr q3 q5 q6
      subst hmr q3
      have es : slo = #[j0, j1, j2, j3, some (.builtin nw), j5] := by
        obtain ⟨l⟩ := slo
        simp only at hsl
        rw [hsl]
      subst es
      exact ⟨bmx, ns, nm, qn, bs, hd, sn, sub, ab, col, dct, j0, j1, j2, j3, j5, _, X _ _ hob, .of_isNs (PySem.W.isNs_of_in X q5), PySem.W.nsMap_none_of_in X q5 q6, PySem.W.tail_of_in X q4⟩
    · cases q
  · cases q

def Raises (X : Cx) (E : XK) : Prop := ∀ (pins : List (Addr × Obj)) (σ : St) (H : Hp) (s : Shared) (h' : Heap) (e : Addr) (cls : Value) (args : List Value), Inv X pins σ H s → Heap.MadeExcOf s.heap h' e cls args → E cls none H → X.xe (.ref e) { s with heap := h' }
theorem raisesE {P : Program} {w : World} {K : PySem.W.Frag} {mg : Str → Option Value} {base : Heap} {N : List Str} {qual : Str} {scope : Scope} {f : Addr} {cd : Value} {A : Around} {outer : List Env} {s0 : Shared} {H0 : Hp} {E : XK} :
    Raises (cxOf (CXe P w) P w K mg base N qual scope f cd A outer s0 H0 E) E := fun _ _ _ _ _ _ _ _ I hx q => leave_made I hx q
def tRaise (te : TE) (cls : Value) (E : XK) : TS := fun _ σ H => te σ H fun _ H1 => E cls none H1
section
variable {X : Cx}
theorem ps_raise {x : Str} {C : Addr} {np cpos pos : Pos} {e : Expr} {te : TE} {E : XK} (o : OwnX X.K X.mg x C) (hE : Raises X E) (ha : PE X e te) (hc : X.calm = true := by rfl) (hg : Gl X x := by rfl) (hd : (x == ("__debug__" : Str)) = false := by decide)
    (he : starEach [e] X.env = (false, eval e X.env) :: starEach [] X.env := by rfl) : PS X (.Raise (some (.Call (.Name x np) [e] [] cpos)) none pos) (tRaise te (.ref C) E) := by
  intro pins s σ H D I h
  obtain ⟨bm, N, nm, qn, bs, hdt, sn, sub, ab, col, dd, k0, k1, k2, k3, k5, mN, hC, hN, hni, T⟩ := own_obj I.mod.kin o.ok
  refine wpAny_Raise_call_subT (C := C) (nm := nm) (q := qn) (N := N) (bs := bs) (bm := bm) (hdct := hdt) (sn := sn) (sub := sub) (ab := ab) (col := col) (dd := dd) (k0 := k0) (k1 := k1) (k2 := k2) (k3 := k3) (k5 := k5) (mN := mN)
    F.excBase_ValueError (T.hasType F.excBase_ValueError.hasBase) (I.ok.hd hc) (by rw [he]; rfl) hni (ld_glob I hg o.m ⟨rfl, ?_⟩ hd)
  have ha' := pa_cons ha pa_nil he cpos pins s σ H (fun vs H1 => vs.length = 1 ∧ E (.ref C) none H1) I (by
    refine (?_ : tCons te tNil σ H _)
    exact (show te σ H _ from by
      have e1 : (fun x H1 => tNil σ H1 fun xs H2 => (x :: xs).length = 1 ∧ E (Value.ref C) none H2) = fun (_ : V) H1 => E (Value.ref C) none H1 := by
        funext x H1; simp [tNil]
      rw [e1]; exact h))
  rw [he] at ha' ⊢
  refine Calls.evalArgs_plain (wpAny_mono ha' (fun us s2 z => ?_) fun _ _ y => y)
  obtain ⟨vs, H1, I2, r, hl, q⟩ := z
  refine ⟨rfl, by rw [← r.length, hl]; decide, I2.bk _ _ hC, hN.keeps I2.bk, T.keeps I2.bk, fun h' e hm => hE pins σ H1 s2 h' e _ us I2 hm q⟩
end


def ExcIs (e : Addr) (cls : Value) (h : Heap) : Prop := ∃ o vs, h.get? e = some o ∧ o.cls = cls ∧ o.data = .fields vs
structure ExcC (K : PySem.W.Frag) (C : Addr) : Prop where
  ga : PySem.W.findIn K (.ref C) "__getattribute__" = some (some (.builtin "BaseException.__getattribute__"))
  gt : PySem.W.findIn K (.ref C) "__getattr__" = some none
  ca : PySem.W.findIn K (.ref C) "__class__" = some (some (.builtin "object.__class__"))
  m1 : PySem.W.subIn K (.ref C) (.type "object") = some true
  m2 : PySem.W.subIn K (.ref C) (.type "BaseException") = some true
  cl : (PySem.W.clsIn K C).isSome = true
section
variable {prog : Program} {w : World} {A : Around} {E : Value → Shared → Prop} {h : Heap} {g : Array GenState} {d : Drawn} {t : Nat} {os : OsState} {a C : Addr} {o : Obj} {vs : Array Value}
theorem xcls_get {R : Result → Shared → Prop} (hx : h.get? a = some o) (hc : o.cls = .ref C) (S : PySem.W.Looks (model prog w) h (isSubtype (.ref C) (.type "object")) true) (hq : R (.ok (.ret (.ref C))) ⟨h, g, d, t, os⟩) :
    codeAny (model prog w) A (.call (.builtin "getset_descriptor.__get__") ⟨[.builtin "object.__class__", .ref a, .ref C], []⟩) R ⟨h, g, d, t, os⟩ := by
  have hT5 : (⟨h, g, d, t, os⟩ : Shared).TypeIs (.builtin "object.__class__") "getset_descriptor" := F.typeOf_object_class
  have S' : PySem.W.Looks (model prog w) h (isSubtype (.ref C) (.type (".".intercalate ("object.__class__".cutAt '.').dropLast))) true := by rw [F.owner_object_class]; exact S
  refine codeAny_call_builtin F.slot_gs_get.plain F.entry_gs_get (F.slot_gs_get.check _ _ _ _ _ _ _ _ hT5 (F.args_gs_get _ _ _) ?_)
  repeat (any_goals (first | assumption | (with_reducible refine wpAny_loadPart_at hx ?_; rw [hc]) | with_reducible refine S'.at ?_ | wp_step))
  refine ⟨Code.quiet_builtin _ (by decide +kernel), codeAny_builtin F.entry_object_class ?_⟩
  repeat (any_goals (first | assumption | (with_reducible refine wpAny_loadPart_at hx ?_; rw [hc]) | wp_step))
theorem xcls_entry {tk : Tok} {Q : Fin → Shared → Prop} (hx : h.get? a = some o) (hc : o.cls = .ref C) (S : PySem.W.Looks (model prog w) h (isSubtype (.ref C) (.type "object")) true)
    (L : PySem.W.Looks (model prog w) h (typeLookup (.ref C) "__class__") (some (.builtin "object.__class__"))) (hq : Q (.done (.ret (.ref C))) ⟨h, g, d, t, os⟩) :
    wpAny (model prog w) A (Builtin.«object.__getattribute__» ⟨[.ref a, .str "__class__" tk], []⟩) Q E ⟨h, g, d, t, os⟩ := by
  have hT5 : (⟨h, g, d, t, os⟩ : Shared).TypeIs (.builtin "object.__class__") "getset_descriptor" := F.typeOf_object_class
  have f5 := F.typeOf_object_class
  have f6 := F.slot_gs_get.lookup
  have f7 := F.slot_gs_set.lookup
  repeat (any_goals (first | assumption | (with_reducible refine wpAny_loadPart_at hx ?_; rw [hc]) | with_reducible refine L.at ?_ | wp_step))
  refine xcls_get hx hc S ?_
  repeat (any_goals (first | assumption | wp_step))
theorem xcls_check {M : Model} {nv : Value} {Q : Unit → Shared → Prop} (hx : h.get? a = some o) (hc : o.cls = .ref C) (S : PySem.W.Looks M h (isSubtype (.ref C) (.type "BaseException")) true) (hq : Q () ⟨h, g, d, t, os⟩) :
    wpAny M A (checkBuiltinCall "BaseException.__getattribute__" ⟨[.ref a, nv], []⟩) Q E ⟨h, g, d, t, os⟩ := by
  have hk : builtinKind "BaseException.__getattribute__" = some .slot := by decide +kernel
  have hs : splitId "BaseException.__getattribute__" = some ("BaseException", "__getattribute__") := by decide +kernel
  have ha := F.args_bexc_ga (.ref a) nv
  simp only [checkBuiltinCall, hk, hs]
  refine wpAny_bind ?_
  unfold isInstance
  repeat (first | (with_reducible refine wpAny_loadPart_at hx ?_; rw [hc]) | with_reducible refine S.at ?_ | wp_step)
  exact hq
theorem xcls_by {tk : Tok} {Q : Value → Shared → Prop} (hx : h.get? a = some o) (hc : o.cls = .ref C) (S : PySem.W.Looks (model prog w) h (isSubtype (.ref C) (.type "object")) true) (S2 : PySem.W.Looks (model prog w) h (isSubtype (.ref C) (.type "BaseException")) true)
    (L : PySem.W.Looks (model prog w) h (typeLookup (.ref C) "__class__") (some (.builtin "object.__class__"))) (L1 : PySem.W.Looks (model prog w) h (typeLookup (.ref C) "__getattribute__") (some (.builtin "BaseException.__getattribute__")))
    (L2 : PySem.W.Looks (model prog w) h (typeLookup (.ref C) "__getattr__") none) (sl : Slot "ValueError" "__getattribute__" "BaseException.__getattribute__") (hq : Q (.ref C) ⟨h, g, d, t, os⟩) : wpAny (model prog w) A (getAttrBy (.ref a) (.str "__class__" tk) false) Q E ⟨h, g, d, t, os⟩ := by
  have f3 := sl.bind (.ref a)
  have hx2 : (Value.builtin "BaseException.__getattribute__" == Value.builtin "object.__getattribute__") = false := by decide +kernel
  have hx1 : (onTheHeap (Value.ref C) && Value.builtin "BaseException.__getattribute__" == Value.builtin "object.__getattribute__") = false := by rw [hx2]; rfl
  repeat (any_goals (first | assumption | (with_reducible refine wpAny_loadPart_at hx ?_; rw [hc]) | with_reducible refine L1.at ?_ | with_reducible refine L2.at ?_ | wp_step))
  refine codeAny_call_builtin sl.plain F.entry_bexc_ga (xcls_check hx hc S2 (xcls_entry hx hc S L ?_))
  repeat (any_goals (first | assumption | wp_step))
theorem xcls_attr {Q : Option Value → Shared → Prop} (hx : h.get? a = some o) (hc : o.cls = .ref C) (S : PySem.W.Looks (model prog w) h (isSubtype (.ref C) (.type "object")) true) (S2 : PySem.W.Looks (model prog w) h (isSubtype (.ref C) (.type "BaseException")) true)
    (L : PySem.W.Looks (model prog w) h (typeLookup (.ref C) "__class__") (some (.builtin "object.__class__"))) (L1 : PySem.W.Looks (model prog w) h (typeLookup (.ref C) "__getattribute__") (some (.builtin "BaseException.__getattribute__")))
    (L2 : PySem.W.Looks (model prog w) h (typeLookup (.ref C) "__getattr__") none) (sl : Slot "ValueError" "__getattribute__" "BaseException.__getattribute__") (hq : Q (some (.ref C)) ⟨h, g, d, t + 1, os⟩) : wpAny (model prog w) A (getAttr? (.ref a) "__class__") Q E ⟨h, g, d, t, os⟩ := by
  unfold getAttr? getAttrBy?
  repeat (any_goals (first | assumption | with_reducible apply xcls_by hx hc S S2 L L1 L2 sl | wp_step))
end
end L2

namespace L2
open PySem PySem.Spec PyProof.Rows
theorem kitx_exc {K : PySem.W.Frag} {e C : Addr} (c : ExcC K C) (sl : Slot "ValueError" "__getattribute__" "BaseException.__getattribute__") : PySem.W.KitX K (.ref e) (.ref C) (ExcIs e (.ref C)) where
  ty := fun M h _ p => by
    obtain ⟨o, vs, h1, h2, _⟩ := p
    exact h2 ▸ (PySem.W.Looks.ld h1).andThen .now
  it := fun M h X _ => by
    have z := c.cl
    unfold PySem.W.clsIn at z
    split at z
    · rename_i c' d' cd' sl' ho
      intro A' Q' E' s' k q
      unfold isType loadHead
      exact wpAny_bind (wpAny_loadPart (k _ _ (X _ _ ho)) (wpAny_pure q))
    · cases z
  ne := fun h tp dd its n sl X htp => by
    have z := c.cl
    refine Bool.eq_false_iff.mpr fun q => ?_
    have e : C = tp := Value.ref.inj (beq_iff_eq.mp q)
    subst e
    unfold PySem.W.clsIn at z
    split at z
    · rename_i c' d' cd' sl' ho
      have y := (X _ _ ho).symm.trans htp
      cases y
    · cases z
  ca := fun {prog w A E Q s} X p k => by
    obtain ⟨o, vs, h1, h2, _⟩ := p
    obtain ⟨hh, g, d, t, os⟩ := s
    exact xcls_attr h1 h2 (PySem.W.looks_subIn X c.m1) (PySem.W.looks_subIn X c.m2) (PySem.W.looks_findIn X c.ca) (PySem.W.looks_findIn X c.ga) (PySem.W.looks_findIn X c.gt) sl k
section
variable {X : Cx}

def rIsxT (K : PySem.W.Frag) (T : String) : List V → Hp → VK → Prop := fun xs H Q => ∃ e C b, xs = [.ref e, .ty T] ∧ H e = some (.ext (ExcIs e (.ref C))) ∧ ExcC K C ∧ PySem.W.kitOne K (.ref C) (.type T) = some b ∧ Q (.bl b) H
def rIsxC (K : PySem.W.Frag) : List V → Hp → VK → Prop := fun xs H Q => ∃ e C D b, xs = [.ref e, .ref D] ∧ H e = some (.ext (ExcIs e (.ref C))) ∧ ExcC K C ∧ PySem.W.kitOne K (.ref C) (.ref D) = some b ∧ Q (.bl b) H
theorem call_isxT {K : PySem.W.Frag} (T : String) (hK : X.K = K := by rfl) : CallR X (.builtin "isinstance") (rIsxT K T) := by
  subst hK
  intro pins s σ H xs us Q I r h
  obtain ⟨e, C, b, rfl, he, c, hk, q⟩ := h
  obtain ⟨u, c', rfl, rx, rc⟩ := vals2 r
  cases (show c' = .type T from rc)
  cases (show u = .ref e from rx)
  exact PySem.W.kia_one (kitx_exc c F.attr_ValueError.ga) I.kIn (I.hok e _ he).1 hk (fun z => nomatch z) fun tk => ⟨.bl b, H, I.tok _, rfl, q⟩
theorem call_isxC {K : PySem.W.Frag} (hK : X.K = K := by rfl) : CallR X (.builtin "isinstance") (rIsxC K) := by
  subst hK
  intro pins s σ H xs us Q I r h
  obtain ⟨e, C, D, b, rfl, he, c, hk, q⟩ := h
  obtain ⟨u, c', rfl, rx, rc⟩ := vals2 r
  cases (show c' = .ref D from rc)
  cases (show u = .ref e from rx)
  exact PySem.W.kia_one (kitx_exc c F.attr_ValueError.ga) I.kIn (I.hok e _ he).1 hk (fun z => nomatch z) fun tk => ⟨.bl b, H, I.tok _, rfl, q⟩
end


abbrev Xs (X : Cx) (e : Addr) : Cx := { X with A := X.A.mark (some (.ref e)), calm := false, xe := fun _ _ => False }
abbrev Xb (X : Cx) (W : Value → Shared → Prop) (pn : List (Addr × Obj)) : Cx := { X with xe := W, pn := pn }
section
variable {X : Cx} {pins : List (Addr × Obj)} {σ : St} {H : Hp} {s : Shared}
theorem Inv.toXs (I : Inv X pins σ H s) (e : Addr) : Inv (Xs X e) pins σ H s :=
  ⟨⟨I.ok.mod, I.ok.kind, I.ok.glob, I.ok.blt, I.ok.above, I.ok.inj, I.ok.has, I.ok.cab, (fun z => nomatch z), I.ok.frames, I.ok.stk, I.ok.exf, I.ok.bs, I.ok.bsz, I.ok.noex, I.ok.exfs, I.ok.funs, I.ok.frf⟩, I.os, I.bare, I.base, I.loc, I.cell, I.free, I.freeC, I.pin, I.hok, I.len⟩
theorem Inv.ofXs {e : Addr} (I : Inv (Xs X e) pins σ H s) (ok : X.Ok) : Inv X pins σ H s := ⟨ok, I.os, I.bare, I.base, I.loc, I.cell, I.free, I.freeC, I.pin, I.hok, I.len⟩
theorem Inv.toXb (I : Inv X pins σ H s) (W : Value → Shared → Prop) : Inv (Xb X W (X.pn ++ pins)) [] σ H s :=
  ⟨⟨I.ok.mod, I.ok.kind, I.ok.glob, I.ok.blt, I.ok.above, I.ok.inj, I.ok.has, I.ok.cab, I.ok.hd, I.ok.frames, I.ok.stk, I.ok.exf, I.ok.bs, I.ok.bsz, I.ok.noex, I.ok.exfs, I.ok.funs, I.ok.frf⟩, I.os, I.bare, I.base, I.loc, I.cell, I.free, I.freeC, fun p hp => I.pin p (by simpa using hp), I.hok, I.len⟩
theorem Inv.ofXb {W : Value → Shared → Prop} {pins' : List (Addr × Obj)} (ok : X.Ok) (I : Inv (Xb X W (X.pn ++ pins)) pins' σ H s) : Inv X pins σ H s :=
  ⟨ok, I.os, I.bare, I.base, I.loc, I.cell, I.free, I.freeC, fun p hp => I.pin p (List.mem_append_left _ hp), I.hok, I.len⟩
theorem SP.ofXb {W : Value → Shared → Prop} {pins' : List (Addr × Obj)} {D : Ends} {f : Flow} (ok : X.Ok) (h : SP (Xb X W (X.pn ++ pins)) pins' D f s) : SP X pins D f s := by
  cases f with
  | next => obtain ⟨σ', H', I, q⟩ := h; exact ⟨σ', H', I.ofXb ok, q⟩
  | brk => obtain ⟨σ', H', I, q⟩ := h; exact ⟨σ', H', I.ofXb ok, q⟩
  | cont => obtain ⟨σ', H', I, q⟩ := h; exact ⟨σ', H', I.ofXb ok, q⟩
  | ret u => obtain ⟨v, σ', H', I, r, q⟩ := h; exact ⟨v, σ', H', I.ofXb ok, r, q⟩

theorem Inv.track {a : Addr} {o : HO} (I : Inv X pins σ H s) (new : X.s₀.heap.get? a = none) (hx : H a = none) (h1 : a ≠ X.env.locals) (h2 : ∀ x c, X.env.cells.lookup x = some c → c ≠ a) (h3 : ∀ p ∈ X.pn ++ pins, p.1 ≠ a)
    (ok : ObjOk X.prog X.w (upd H a o) s.heap a o) : Inv X pins σ (upd H a o) s := by
  refine ⟨I.ok, I.os, I.bare, ⟨I.base.keep, I.base.slot, fun b u e n hb => ?_, I.base.there, fun b xs e => ?_, fun b u v e => ?_, fun b ps e => ?_⟩, I.loc, I.cell, ?_, fun x c e => ?_, fun p hp => ?_, fun b u e => ?_, I.len⟩
  · have ne : b ≠ a := fun z => by rw [z, new] at e; cases e
    rw [upd_ne ne]; exact I.base.free b u e n hb
  · have z := I.base.tups b xs e
    rw [upd_ne (ne_of_none z hx)]; exact z
  · have z := I.base.frzs b u v e
    rw [upd_ne (ne_of_none z hx)]; exact z
  · obtain ⟨more, z⟩ := I.base.tbls b ps e
    exact ⟨more, by rw [upd_ne (ne_of_none z hx)]; exact z⟩
  · rw [upd_ne (Ne.symm h1)]; exact I.free
  · rw [upd_ne (h2 x c e)]; exact I.freeC x c e
  · obtain ⟨a1, a2, a3⟩ := I.pin p hp
    exact ⟨a1, by rw [upd_ne (h3 p hp)]; exact a2, a3⟩
  · by_cases hb : b = a
    · subst hb; rw [upd_same] at e; cases e; exact ok
    · rw [upd_ne hb] at e
      exact (I.hok b u e).stay (fun _ _ _ q => q) (fun c q => by rw [upd_ne (ne_of_none q hx)]; exact q) fun c xs q => by rw [upd_ne (ne_of_none q hx)]; exact q

theorem Inv.nameless {h' : Heap} {m' : Str → Option Value} {t' : Nat} (I : Inv X pins σ H s) (hn : h'.Ns X.env.locals m') (hs : Heap.SameBut X.env.locals s.heap h') :
    Inv X pins (List.replicate X.N.length none) H { s with heap := h', toks := t' } := by
  have neL : ∀ b o, X.s₀.heap.get? b = some o → b ≠ X.env.locals := fun b o e => Nat.ne_of_lt (Nat.lt_of_lt_of_le (Heap.lt_size e) I.ok.above)
  refine ⟨I.ok, I.os, I.bare, ⟨fun b o e n hb hx => ?_, fun b o e n hb hx => ?_, I.base.free, fun b o e hx => ?_, I.base.tups, I.base.frzs, I.base.tbls⟩, ⟨m', hn, fun i x v e1 e2 e3 => ?_⟩, fun x c e => ?_, I.free, I.freeC, fun p hp => ?_, fun b u e => ?_, by simp⟩
  · exact (hs.2 b (neL b o e)).trans (I.base.keep b o e n hb hx)
  · obtain ⟨sl, e1⟩ := I.base.slot b o e n hb hx
    exact ⟨sl, (hs.2 b (neL b o e)).trans e1⟩
  · obtain ⟨o', e1⟩ := I.base.there b o e hx
    exact ⟨o', (hs.2 b (neL b o e)).trans e1⟩
  · rw [List.getElem?_replicate] at e2
    split at e2 <;> cases e2
  · obtain ⟨v, z⟩ := I.cell x c e
    exact ⟨v, z.sameBut hs (I.cne x c e)⟩
  · obtain ⟨a1, a2, a3, a4⟩ := I.pin p hp
    exact ⟨(hs.2 p.1 a3).trans a1, a2, a3, a4⟩
  · refine (I.hok b u e).stay (fun c v hc q => (hs.2 c ?_).trans q) (fun _ q => q) fun _ _ q => q
    rintro rfl
    rcases hc with rfl | hc
    · rw [I.free] at e; cases e
    · rw [I.free] at hc; cases hc
end
end L2

namespace L2
open PySem PySem.Spec PyProof.Rows
abbrev retOnly (D : Ends) : Ends := { nx := fun _ _ => False, rt := D.rt }
def tTry (K : PySem.W.Frag) (C : Value) (i : Nat) (tb : (Value → St → Hp → Prop) → TS) (ts : TS) : TS := fun D σ H =>
  tb (fun cls σ' H' => PySem.W.exmOne K cls C = some true ∧ ∀ e, H' e = none → ts (retOnly D) (σ'.set i (some (.ref e))) (upd H' e (.ext (ExcIs e cls)))) D σ H

def PassT (X : Cx) (W : Value → Shared → Prop) (pn : List (Addr × Obj)) (R : Value → St → Hp → Prop) : Prop :=
  ∀ (pins : List (Addr × Obj)) (σ : St) (H : Hp) (s : Shared) (e : Value) (s' : Shared), Inv (Xb X W pn) pins σ H s → CXe X.prog X.w X.stack H s (fun cls _ H' => R cls σ H') e s' → W e s'
section
variable {X : Cx}
theorem ps_try {body suite : List Stmt} {b₀ : Stmt} {cx n : Str} {np hp pos : Pos} {i : Nat} {C : Value} {tb : (Value → St → Hp → Prop) → TS} {ts : TS} (hnd : X.N.Nodup) (hi : X.N[i]? = some n) (hl : X.env.kindOf n = some .local)
    (hex : X.ex = []) (hst : X.stack = X.env :: X.outer) (hf : X.env.frame = some X.env.locals) (hm : X.mg cx = some C) (hg : Gl X cx) (hd : (cx == ("__debug__" : Str)) = false)
    (hb : ∀ W pn R, PassT X W pn R → PSs (Xb X W pn) body (tb R)) (hs : ∀ e, PSs (Xs X e) (b₀ :: suite) ts) :
    PS X (.Try body [.ExceptHandler (some (.Name cx np)) (some n) (b₀ :: suite) hp] [] [] pos) (tTry X.K C i tb ts) := by
  intro pins s σ H D I h
  refine wpAny_Try_except ?_
  have key := hb (fun e s₁ => wpAny (model X.prog X.w) X.A (noteFrame e X.env) (fun _ s₂ => wpAny (model X.prog X.w) X.A (setFlight e none) (fun _ s₃ =>
      wpAny (model X.prog X.w) X.A (handleBy e X.env [.ExceptHandler (some (.Name cx np)) (some n) (b₀ :: suite) hp]) (SP X pins D) X.xe s₃) X.xe s₂) X.xe s₁) (X.pn ++ pins) _ (?_) [] s σ H D (I.toXb _) h
  · refine wpAny_mono key (fun f s₁ q => ?_) fun _ _ z => z
    have q' := q.ofXb I.ok
    cases f with
    | next => exact wpAny_execs_nil q'
    | brk => exact q'
    | cont => exact q'
    | ret u => exact q'
  · intro pins' σ' H1 s1 e s' I' c
    have I1 : Inv X pins σ' H1 s1 := I'.ofXb I.ok
    obtain ⟨ea, cls, H', rfl, c1, c2, c3, c4, ⟨⟨oe, vs, a0, T, oT, ts', f1, f2, f3, f4, f5, f6, f7, f8, f9⟩, fn, fu⟩, hx, q⟩ := c
    have J := I1.call' (s' := s') (ch := []) c1 c3 c4 c2 (fun b z => by cases z)
    have fr : s'.heap.FunFrames _ X.stack := J.stack
    have fr' := fr
    rw [hst] at fr'
    have hh : ∀ b ∈ [ea, T], s1.heap.get? b = none ∧ H' b = none := fun b hb => by
      rcases List.mem_cons.mp hb with rfl | hb
      · exact ⟨fn, fu⟩
      · rcases List.mem_cons.mp hb with rfl | hb
        · exact f5
        · cases hb
    have hfr : X.A.frames = some (X.env :: X.outer) := by rw [← hst]; exact I.ok.frames
    have stp : ∀ h'' : Heap, (less s'.heap ([ea, T] ++ frs X.stack)).StaysIn h'' → s'.heap.UpToSlots h'' → Inv X pins σ' H' { s' with heap := h'' } := fun h'' y1 y2 => by
      obtain ⟨u, ok⟩ := un_upto c3 c4 fr J.stkFree hh y1 y2
      exact I1.call' (s' := { s' with heap := h'' }) (ch := []) c1 u ok c2 (fun b z => by cases z)
    refine wpAny_looks_onW (base := less s'.heap ([ea, T] ++ frs X.stack)) (L := X.env.locals) (cls := cls) (a0 := a0) hfr hf
      ⟨less_stays _ _, PySem.W.hideAll_none _ (by simp), rebase fr' fun a ha => PySem.W.hideAll_none _ (List.mem_append_right _ (by rw [hst]; exact ha)), oe, vs, T, oT, ts', f1, f2, f3, f4, PySem.W.hideAll_none _ (by simp), f6, f7, f8, f9⟩ fun h1 g1 up1 => ?_
    refine wpAny_landsW g1 fun h2 g2 up2 => ?_
    have up12 := up1.trans up2
    have J2 := stp h2 g2.1 up12
    have Js := J2.toXs ea
    refine wpAny_handleBy_cons (codeAny_handlers_test (ld_glob (X := Xs X ea) Js hg hm ?_ hd)) (by intro z; cases z)
    have LT : PySem.W.Looks (model X.prog X.w) h2 (typeOf (.ref ea)) cls := by
      obtain ⟨_, _, _, oe2, vs2, T2, oT2, ts2, z1, z2, _⟩ := g2
      exact z2.1 ▸ (PySem.W.Looks.ld z1).andThen .now
    refine (PySem.W.exm_one (K := X.K) J2.kIn LT hx).here ?_
    refine codeAny_handlers_suite_as (lands_againW g2 fun h3 g3 up3 => ?_)
    have J3 := stp h3 g3.1 (up12.trans up3)
    obtain ⟨_, _, _, oe3, vs3, T3, oT3, ts3, z1, z2, z3, _⟩ := g3
    have old : ∀ b o, s1.heap.get? b = some o → b ≠ ea := fun b o e z => by rw [z, fn] at e; cases e
    have b0 : Un X.fs [] X.H₀ H1 X.s₀.heap s1.heap := by
      have z := I1.base
      rw [hex] at z
      exact z
    have J4 : Inv X pins σ' (upd H' ea (.ext (ExcIs ea cls))) { s' with heap := h3 } := by
      refine J3.track (back b0 fn) fu ?_ (fun x c e => ?_) (fun p hp' => ?_) ⟨⟨oe3, vs3, z1, z2.1, z3⟩, ⟨oe3, z1⟩, fun h1 h2 ⟨o, v, a1, a2, a3⟩ k => ⟨o, v, k o a1, a2, a3⟩⟩
      · obtain ⟨m, ⟨o, _, _, ho, _⟩, _⟩ := I1.loc
        exact Ne.symm (old _ o ho)
      · obtain ⟨v, o, ho, _⟩ := I1.cell x c e
        exact old c o ho
      · exact old _ _ (I1.pin p hp').1
    refine store_ok (X := Xs X ea) (J4.toXs ea) hnd hi (.inl hl) (v := .ref ea) rfl (fun s5 J5 => ?_) (.inr hl)
    refine wpAny_mono (hs ea pins s5 _ _ _ J5 (q ea fu)) (fun f s6 z => ?_) fun _ _ z => False.elim z
    cases f with
    | next => obtain ⟨_, _, _, z⟩ := z; exact False.elim z
    | brk => obtain ⟨_, _, _, z⟩ := z; exact False.elim z
    | cont => obtain ⟨_, _, _, z⟩ := z; exact False.elim z
    | ret u =>
      obtain ⟨v, σ6, H6, J6, r6, q6⟩ := z
      have J6' := J6.ofXs I.ok
      obtain ⟨m, hn, _⟩ := J6'.loc
      refine wpAny_nameGoes hl hn (by rw [I.ok.kind]; rfl) fun h7 m7 hn7 sb => ?_
      exact ⟨v, _, H6, J6'.nameless hn7 sb, r6, q6⟩

def tCallS (sp : Sp) (dvs : List V) (R : Value → St → Hp → Prop) (t : TA) : TE := fun σ H Q => t σ H fun vs H1 => sp (vs ++ dvs) H1 Q (fun cls _ H' => R cls σ H')
theorem pe_callS {W : Value → Shared → Prop} {pn : List (Addr × Obj)} {R : Value → St → Hp → Prop} {j k : Nat} {x : Str} {ps : List Str} {dvs : List V} {sp : Sp} {p pos : Pos} {e : Expr} {es : List Expr} {t : TA}
    (F : Fok X.prog X.w X.K X.mg X.base (CXe X.prog X.w) j x ps dvs sp) (hr : Room k X.A) (pt : PassT X W pn R) (ha : PA (Xb X W pn) (e :: es) t) (hj : j ≤ k := by decide) (hg : Gl X x := by rfl)
    (hdb : (x == ("__debug__" : Str)) = false := by decide) (he : starEach (e :: es) X.env = (false, eval e X.env) :: starEach es X.env := by rfl) (hpl : (backTo pos (starEach es X.env)).any (·.1) = false := by rfl) :
    PE (Xb X W pn) (.Call (.Name x p) (e :: es) [] pos) (tCallS sp dvs R t) := by
  obtain ⟨f, fd, ds, G, b, v, kp, m⟩ := F.ex
  intro pins s σ H Q I h
  refine wpAny_Call_Name_kw (ld_glob I hg m ?_ hdb)
  refine PySem.W.callWith_K (h₀ := X.base) I.ok.mod.kin kp (thn (ha pos pins s σ H _ I h) fun us s1 ⟨vs, H1, I1, r, q⟩ => ⟨I1.kIn, ?_⟩) he hpl
  have r2 : Vals (vs ++ dvs) (us ++ ds) := r.append v
  have hl : (us ++ ds).length = ps.length := by rw [← r2.length]; exact G.len _ _ _ _ q
  refine wpAny_call (codeAny_mono (G.run X.A X.stack s1 H1 ⟨us, []⟩ (us ++ ds) (vs ++ dvs) Q _ (hr.mono hj) I1.env0 (b s1 us I1.kIn hl) r2 q) fun r s' hq => ?_)
  cases r with
  | error e => exact pt pins σ H1 s1 e s' I1 hq
  | ok fl =>
    cases fl with
    | ret u => exact I1.after hq
    | next => exact False.elim hq
    | brk => exact False.elim hq
    | cont => exact False.elim hq
end
end L2

namespace L2
open PySem PySem.Spec PyProof.Rows

section
variable {prog : Program} {w : World} {A : Around} {E : Value → Shared → Prop} {s : Shared} {x : Str} {t : Tok}
end
section
variable {X : Cx} {tg : Expr}
end
end L2

namespace L2
open PySem PySem.Spec PyProof.Rows

def clo (env : Env) (xs : List Str) : List (Str × Addr) := xs.map fun x => (x, (env.cells.lookup x).getD 0)
def CapsOk (env : Env) (scope : Scope) (xs caps : List Str) : Prop := ∀ x ∈ caps, env.kindOf x = some .cell ∧ (relabel scope env).names.lookup x = some .cell ∧ x ∈ xs
theorem capsOk_nil {env : Env} {scope : Scope} {xs : List Str} : CapsOk env scope xs [] := fun _ h => by cases h
theorem capsOk_cons {env : Env} {scope : Scope} {xs : List Str} {x : Str} {r : List Str} (h1 : env.kindOf x = some .cell) (h2 : (relabel scope env).names.lookup x = some .cell) (h3 : x ∈ xs) (h : CapsOk env scope xs r) : CapsOk env scope xs (x :: r) := fun y hy => by
  rcases List.mem_cons.mp hy with rfl | hy
  · exact ⟨h1, h2, h3⟩
  · exact h y hy
theorem clo_of {env : Env} {x : Str} {c : Addr} : ∀ {xs : List Str}, x ∈ xs → env.cells.lookup x = some c → (clo env xs).lookup x = some c
  | [], h, _ => by cases h
  | y :: r, h, e => by
    unfold clo
    rw [List.map_cons, List.lookup_cons]
    by_cases z : x = y
    · subst z; simp [e]
    · have zb : (x == y) = false := by simpa using z
      rw [zb]
      rcases List.mem_cons.mp h with q | q
      · exact absurd q z
      · exact clo_of q e
theorem clo_has {env : Env} {x : Str} : ∀ {xs : List Str}, x ∈ xs → ∃ c, (clo env xs).lookup x = some c
  | [], h => by cases h
  | y :: r, h => by
    unfold clo
    rw [List.map_cons, List.lookup_cons]
    by_cases z : x = y
    · subst z; exact ⟨_, by simp; rfl⟩
    · have zb : (x == y) = false := by simpa using z
      rw [zb]
      rcases List.mem_cons.mp h with q | q
      · exact absurd q z
      · exact clo_has q
theorem clo_sub {env : Env} {x : Str} {c : Addr} {xs : List Str} (hin : (xs.all fun x => (env.cells.lookup x).isSome) = true) (e : (clo env xs).lookup x = some c) : env.cells.lookup x = some c := by
  induction xs with
  | nil => cases e
  | cons y r ih =>
    unfold clo at e
    rw [List.map_cons, List.lookup_cons] at e
    rw [List.all_cons, Bool.and_eq_true] at hin
    by_cases z : x = y
    · subst z
      obtain ⟨a, ha⟩ := Option.isSome_iff_exists.mp hin.1
      rw [ha] at e ⊢
      simpa using e
    · have zb : (x == y) = false := by simpa using z
      rw [zb] at e
      exact ih hin.2 e
theorem caps_len {σ : St} {vs : List V} {is : List Nat} {N N' caps : List Str} {k : Nat} (hvs : is.map (fun i => σ[i]?) = vs.map fun v => some (some v)) (his : is.map (N[·]?) = caps.map some) (hN : N'.drop k = caps) (hk : k ≤ N'.length) :
    (List.replicate k (none : Option V) ++ vs.map some).length = N'.length := by
  have h1 := congrArg List.length hvs
  have h2 := congrArg List.length his
  have h3 := congrArg List.length hN
  simp only [List.length_map, List.length_drop, List.length_append, List.length_replicate] at *
  omega
theorem caps_at {σ : St} {vs : List V} {is : List Nat} {N N' caps : List Str} {k i : Nat} {x : Str} {v : V} (hvs : is.map (fun i => σ[i]?) = vs.map fun v => some (some v)) (his : is.map (N[·]?) = caps.map some) (hN : N'.drop k = caps)
    (e1 : N'[i]? = some x) (e2 : (List.replicate k (none : Option V) ++ vs.map some)[i]? = some (some v)) : ∃ j : Nat, N[j]? = some x ∧ x ∈ caps ∧ σ[j]? = some (some v) := by
  have hik : k ≤ i := by
    by_cases h : k ≤ i
    · exact h
    · rw [List.getElem?_append_left (by simpa using h), List.getElem?_replicate] at e2
      split at e2 <;> cases e2
  rw [List.getElem?_append_right (by simpa using hik), List.length_replicate] at e2
  have e1' : caps[i - k]? = some x := by rw [← hN, List.getElem?_drop, Nat.add_sub_cancel' hik]; exact e1
  have ev : vs[i - k]? = some v := by
    rw [List.getElem?_map] at e2
    cases z : vs[i - k]? with
    | none => rw [z] at e2; cases e2
    | some a => rw [z] at e2; cases e2; rfl
  have q1 := congrArg (·[i - k]?) hvs
  have q2 := congrArg (·[i - k]?) his
  simp only [List.getElem?_map, ev, e1', Option.map_some] at q1 q2
  cases z : is[i - k]? with
  | none => rw [z] at q1; cases q1
  | some j =>
    rw [z] at q1 q2
    exact ⟨j, Option.some.inj q2, List.mem_of_getElem? e1', Option.some.inj q1⟩
theorem caps_keep {σ : St} {vs : List V} {k : Nat} (h : σ.drop k = vs.map some) (i : Nat) (v : V) (e : (List.replicate k (none : Option V) ++ vs.map some)[i]? = some (some v)) : σ[i]? = some (some v) := by
  have hik : k ≤ i := by
    by_cases h : k ≤ i
    · exact h
    · rw [List.getElem?_append_left (by simpa using h), List.getElem?_replicate] at e
      split at e <;> cases e
  rw [List.getElem?_append_right (by simpa using hik), List.length_replicate, ← h, List.getElem?_drop, Nat.add_sub_cancel' hik] at e
  exact e
theorem all_of {names : List (Str × NameKind)} {xs : List Str} (h : (names.all fun y => !(y.2 == .cell || y.2 == .free) || xs.contains y.1) = true) : ∀ y ∈ names, (y.2 = .cell ∨ y.2 = .free) → y.1 ∈ xs := fun y hy hk => by
  have z := List.all_eq_true.mp h y hy
  rcases hk with e | e
  · rw [e] at z
    exact List.contains_iff_mem.mp (by simpa using z)
  · rw [e] at z
    exact List.contains_iff_mem.mp (by simpa using z)
def cxCompC (X : Cx) (N' : List Str) (scope : Scope) (xs : List Str) (C : Addr) (s0 : Shared) (H0 : Hp) (fp : List Addr) (pins : List (Addr × Obj)) : Cx where
  prog := X.prog
  w := X.w
  K := X.K
  mg := X.mg
  base := X.base
  A := X.A
  N := N'
  s₀ := s0
  H₀ := H0
  env := compEnvC scope (clo X.env xs) C X.env
  outer := X.stack
  stack := X.stack
  ex := fp
  fn := fun _ => false
  calm := X.calm
  pn := X.pn ++ pins
  xe := fun _ _ => False

def compKC (σ0 : St) (k : Nat) (cs : St) (g : TG) (te : TE) (Q : VK) : It → Hp → Prop := fun J H1 => ∀ D, H1 D = none → ∃ W : Nat → Nat → List V → Hp → Prop, (∃ m, W 0 m [] (upd H1 D (.lst []))) ∧
  ∀ i m ys H2, W i m ys H2 → H2 D = some (.lst ys) ∧ ((J.stop i H2 ∧ Q (.ref D) H2) ∨ (J.go i H2 ∧ ys.length < sizeLine ∧
    ∀ x H', J.yld i H2 x H' → g x σ0 H' fun σ2 H3 => σ2.drop k = cs ∧ te σ2 H3 fun y H4 => H4 D = some (.lst ys) ∧ ∃ m', m' < m ∧ W (i + 1) m' (ys ++ [y]) (upd H4 D (.lst (ys ++ [y])))))
def tCompC (is : List Nat) (k : Nat) (wi : TI) (g : TG) (te : TE) : TE := fun σ H Q => ∃ vs : List V, is.map (fun i => σ[i]?) = vs.map (fun v => some (some v)) ∧ wi σ H (compKC (List.replicate k none ++ vs.map some) k (vs.map some) g te Q)
section
variable {X : Cx} {elt tg iter cnd : Expr} {scope : Scope} {pos : Pos} {N' : List Str} {wi : TI} {g : TG} {te : TE} {tt : TT}
theorem pe_compC (xs caps : List Str) (is : List Nat) (k : Nat) (hclos : closureFor scope X.env = pure (clo X.env xs)) (hin : (xs.all fun x => (X.env.cells.lookup x).isSome) = true) (hcap : CapsOk X.env scope xs caps) (his : is.map (X.N[·]?) = caps.map some) (hN : N'.drop k = caps) (hk : k ≤ N'.length)
    (hallB : ((relabel scope X.env).names.all fun y => !(y.2 == .cell || y.2 == .free) || xs.contains y.1) = true) (hcell : ∀ y ∈ scope.names, y.2 ≠ .cell) (hkind : scope.kind = .function) (hnames : ∀ y ∈ scope.names, y.2 = .local → scope.names.lookup y.1 = some .local)
    (hcalm : X.calm = true) (hi : PI X tg iter wi) (hg : ∀ C s0 H0 fp pins, PG (cxCompC X N' scope xs C s0 H0 fp pins) tg g) (he : ∀ C s0 H0 fp pins, PE (cxCompC X N' scope xs C s0 H0 fp pins) elt te)
    (hs : ∀ x, foldedSetIterable iter X.env x = pure x := by intro _; rfl) : PE X (.ListComp elt [⟨tg, iter, [], 0⟩] scope pos) (tCompC is k wi g te) := by
  intro pins s σ H Q I h
  have hall := all_of hallB
  obtain ⟨vs, hvs, h⟩ := h
  rw [eval_ListComp]
  refine wpAny_comprehension_free (use := none) rfl hs hclos hkind hnames (thn (hi pins s σ H _ I h) fun v s1 h1 => thn h1 fun itv s2 h2 => ?_)
  obtain ⟨it, fp, tn, J, H2, e, I2, T, st2, f2, hW⟩ := h2
  subst e
  refine wpAny_newObj_type (wpAny_newFunctionEnv hcell (by intro y hy; simp at hy) (fun h₁ hns₁ hsb₁ => ?_) hkind)
  dsimp only at hns₁ hsb₁ ⊢
  generalize hH2 : s2.heap.push { cls := .type "list", dict := none, data := .seq ([] : List Value).toArray } = P2 at hns₁ hsb₁ ⊢
  have hC : P2.objs.size = s2.heap.objs.size + 1 := by rw [← hH2, Heap.size_push]
  have below : ∀ b, b < s2.heap.objs.size → b ≠ P2.objs.size ∧ b ≠ s2.heap.objs.size := fun b hb => ⟨by rw [hC]; exact Nat.ne_of_lt (Nat.lt_succ_of_lt hb), Nat.ne_of_lt hb⟩
  have hDC : s2.heap.objs.size ≠ P2.objs.size := by rw [hC]; exact Nat.ne_of_lt (Nat.lt_succ_self _)
  have old : ∀ b o, s2.heap.get? b = some o → h₁.get? b = some o := fun b o e => hsb₁.extBut b o (below b (Heap.lt_size e)).1 (Heap.get?_push_of_some _ (hH2 ▸ Heap.get?_push_of_some _ e))
  have hD : h₁.get? s2.heap.objs.size = some { cls := .type "list", dict := none, data := .seq ([] : List Value).toArray } := hsb₁.extBut _ _ hDC (Heap.get?_push_of_some _ (hH2 ▸ Heap.get?_push_size _ rfl))
  have frD : H2 s2.heap.objs.size = none := I2.hok.fresh (Nat.le_refl _)
  have frC : H2 P2.objs.size = none := I2.hok.fresh (by rw [hC]; exact Nat.le_succ _)
  have hfp : ∀ b ∈ fp, b < s2.heap.objs.size := fun b hb => by
    obtain ⟨o, e, _⟩ := T.obj _ _ st2 b hb
    exact Heap.lt_size e
  have nst : ∀ b, b ≠ X.env.locals → b ∉ X.fs → b ∉ frs X.stack := fun b n1 n2 z => by
    rcases List.mem_cons.mp (I2.stkSub b z) with e | e
    · exact n1 e
    · exact n2 e
  obtain ⟨W, ⟨m0, w0⟩, turn⟩ := hW s2.heap.objs.size frD
  have csub : ∀ (x : Str) (c : Addr), (clo X.env xs).lookup x = some c → X.env.cells.lookup x = some c := fun x c e => clo_sub hin e
  have cold : ∀ (x : Str) (c : Addr), (clo X.env xs).lookup x = some c → ∃ v, s2.heap.IsCell c v := fun x c e => I2.cell x c (csub x c e)
  have clt : ∀ (x : Str) (c : Addr), (clo X.env xs).lookup x = some c → c < s2.heap.objs.size := fun x c e => by
    obtain ⟨v, o, ho, _⟩ := cold x c e
    exact Heap.lt_size ho
  have ok' : (cxCompC X N' scope xs P2.objs.size s2 H2 fp pins).Ok := by
    refine ⟨I2.ok.mod, hkind, I2.ok.glob, I2.ok.blt, ?_, fun x y c e e' => I2.ok.inj x y c (csub x c e) (csub y c e'), fun x hx => ?_, (fun x c z _ => by cases z), I2.ok.hd, I2.ok.frames, .inl rfl, fun b hb => ⟨(below b (hfp b hb)).1, fun x c e => (f2 b hb).2.2.2.2.1 x c (csub x c e)⟩, I2.bs, Nat.le_trans I2.ok.bsz I2.sz, fun b o e hb => ?_, fun b hb => nst b (f2 b hb).2.1 (f2 b hb).2.2.1, I2.stack, I2.stkFree⟩
    · show s2.heap.objs.size ≤ P2.objs.size
      rw [hC]; exact Nat.le_succ _
    · have hx' : (relabel scope X.env).names.lookup x = some .cell ∨ (relabel scope X.env).names.lookup x = some .free := hx
      rcases hx' with z | z
      · exact clo_has (hall _ (PySem.mem_of_lookup z) (.inl rfl))
      · exact clo_has (hall _ (PySem.mem_of_lookup z) (.inr rfl))
    · rcases (f2 b hb).2.2.2.1 with z | z
      · exact I2.ok.noex b o e z
      · exact absurd (Nat.lt_of_lt_of_le (Heap.lt_size (I2.ok.bs b o e).1) z) (Nat.lt_irrefl _)
  have I' : Inv (cxCompC X N' scope xs P2.objs.size s2 H2 fp pins) [] (List.replicate k none ++ vs.map some) (upd H2 s2.heap.objs.size (.lst [])) { s2 with heap := h₁, toks := s2.toks + ([] : List (Str × Value)).length } := by
    refine ⟨ok', rfl, I2.bare, Un.laid old (Nat.le_refl _) frD, ⟨_, hns₁, fun i x v e1 e2 e3 => ?_⟩, fun x c e => ?_, ?_, fun x c e => ?_, fun p hp => ?_, I2.hok.laid old (Nat.le_refl _) ⟨by simp, [], 0, .nil, hD⟩, ?_⟩
    · obtain ⟨j, ej, hj1, hj2⟩ := caps_at hvs his hN e1 e2
      obtain ⟨hc1, hc2, hc3⟩ := hcap x hj1
      obtain ⟨m, hn, hl⟩ := I2.loc
      obtain ⟨u, r, l⟩ := hl j x v ej hj2 (.inr (.inl hc1))
      refine ⟨u, r, .inr ⟨.inl hc2, ?_⟩⟩
      rcases l with ⟨z, _⟩ | ⟨_, c, ec, ⟨o, ho, hd⟩⟩
      · rw [show X.env.kindOf x = some .cell from hc1] at z; cases z
      · exact ⟨c, clo_of hc3 ec, o, old _ _ ho, hd⟩
    · obtain ⟨v, o, ho, hd⟩ := cold x c e
      exact ⟨v, o, old _ _ ho, hd⟩
    · show upd H2 s2.heap.objs.size (.lst []) P2.objs.size = none
      rw [upd_ne (Ne.symm hDC)]; exact frC
    · show upd H2 s2.heap.objs.size (.lst []) c = none
      rw [upd_ne (below _ (clt x c e)).2]; exact I2.freeC x c (csub x c e)
    · have hp' : p ∈ X.pn ++ pins := by
        rcases List.mem_append.mp hp with z | z
        · exact z
        · cases z
      obtain ⟨a1, a2, a3, a4, a5⟩ := I2.pin p hp'
      refine ⟨old _ _ a1, ?_, (below _ (Heap.lt_size a1)).1, nst _ a3 a4, a5⟩
      rw [upd_ne (below _ (Heap.lt_size a1)).2]; exact a2
    · show (List.replicate k none ++ vs.map some).length = N'.length
      exact caps_len hvs his hN hk
  have stat : ∀ {H' : Hp}, (∀ b ∈ fp, H' b = none) → ∀ b ∈ fp, FpOk (cxCompC X N' scope xs P2.objs.size s2 H2 fp pins) [] H' b := fun {H'} hn b hb =>
    ⟨hn b hb, (below b (hfp b hb)).1, nst b (f2 b hb).2.1 (f2 b hb).2.2.1, .inl hb, fun x c e => (f2 b hb).2.2.2.2.1 x c (csub x c e), fun p hp => (f2 b hb).2.2.2.2.2 p (by
      rcases List.mem_append.mp hp with z | z
      · exact z
      · cases z)⟩
  have fin : ∀ (ys : List V) (σ' : St) (H' : Hp) (s' : Shared), Inv (cxCompC X N' scope xs P2.objs.size s2 H2 fp pins) [] σ' H' s' → Q (.ref s2.heap.objs.size) H' →
      ∃ m, s'.heap.Ns P2.objs.size m ∧ ∀ h', Heap.SameBut P2.objs.size s'.heap h' → EP X pins σ Q (.ref s2.heap.objs.size) { s' with heap := h' } := by
    intro ys σ' H' s' J1 q
    obtain ⟨m, hm, _⟩ := id J1.loc
    refine ⟨m, hm, fun h' sb => ⟨.ref s2.heap.objs.size, H', ?_, rfl, q⟩⟩
    have ne : ∀ b o, s2.heap.get? b = some o → b ≠ P2.objs.size := fun b o e => (below b (Heap.lt_size e)).1
    refine I2.call' (s' := { s' with heap := h' }) (ch := fp) J1.os ⟨fun b o e n hb hx => ?_, fun b o e n hb hx => ?_, fun b o e n hx => J1.base.free b o e n hx, fun b o e hx => ?_, J1.base.tups, J1.base.frzs, J1.base.tbls⟩ (J1.hok.but J1.free fun b u hb q => (sb.2 b hb).trans q) J1.bare fun b hb => ⟨(f2 b hb).2.2.2.1, (f2 b hb).2.1, (f2 b hb).2.2.2.2.1, (f2 b hb).2.2.2.2.2⟩
    · exact (sb.2 b (ne b o e)).trans (J1.base.keep b o e n hb hx)
    · obtain ⟨sl, z⟩ := J1.base.slot b o e n hb hx
      exact ⟨sl, (sb.2 b (ne b o e)).trans z⟩
    · obtain ⟨o', z⟩ := J1.base.there b o e hx
      exact ⟨o', (sb.2 b (ne b o e)).trans z⟩
  have loop : codeAny (model X.prog X.w) X.A (.compLoop (.ListComp elt [⟨tg, iter, [], 0⟩] scope pos) 0 (.ref it) (.ref s2.heap.objs.size) (compEnvC scope (clo X.env xs) P2.objs.size X.env))
      (compPost (model X.prog X.w) X.A X.xe none (EP X pins σ Q) (.ref s2.heap.objs.size) P2.objs.size)
      { s2 with heap := h₁, toks := s2.toks + ([] : List (Str × Value)).length } := by
    refine compLoop_go (fun n s' => ∃ i ys σ' H', σ'.drop k = vs.map some ∧ Inv (cxCompC X N' scope xs P2.objs.size s2 H2 fp pins) [] σ' H' s' ∧ tn i s'.heap ∧ (∀ b ∈ fp, H' b = none) ∧ W i n ys H') ?_ m0
      ⟨0, [], List.replicate k none ++ vs.map some, _, by simp, I', T.keep _ _ _ st2 (fun b hb o e => old b o e), fun b hb => by rw [upd_ne (below b (hfp b hb)).2]; exact (f2 b hb).1, w0⟩
    rintro n s3 ⟨i, ys, σ3, H3, hd3, J3, st3, fr3, w3⟩
    obtain ⟨hl, q3⟩ := turn i n ys H3 w3
    rcases q3 with ⟨stop, q⟩ | ⟨go, hlt, step⟩
    · refine thn (T.done (cxCompC X N' scope xs P2.objs.size s2 H2 fp pins) rfl rfl rfl hcalm i [] s3 σ3 H3 _ J3 (stat fr3) st3 stop) fun r s4 ⟨hr, J4⟩ => ?_
      subst hr
      exact fin ys σ3 H3 s4 J4 q
    · refine thn (T.item (cxCompC X N' scope xs P2.objs.size s2 H2 fp pins) rfl rfl rfl hcalm i [] s3 σ3 H3 _ J3 (stat fr3) st3 go) fun r s4 ⟨u, hr, h4⟩ => ?_
      subst hr
      refine thn h4 fun _ s5 ⟨x, H5, J5, r5, y5, st5, fr5⟩ => ?_
      have J5' := J5.pinned (stat fr5) (T.obj _ _ st5)
      have J6 : Inv (cxCompC X N' scope xs P2.objs.size s2 H2 fp pins) ([] ++ pinsAt fp s5.heap) (List.replicate k none ++ vs.map some) H5 s5 := J5'.weak (by rw [J5'.len]; exact caps_len hvs his hN hk) (caps_keep hd3)
      refine wpAny_mono (hg _ _ _ _ _ _ s5 _ H5 x u _ J6 r5 (step x H5 y5)) (fun _ s6 ⟨σ6, H6, J7, hd6, q6⟩ => ?_) fun _ _ z => False.elim z
      refine wpAny_mono (he _ _ _ _ _ _ s6 σ6 H6 _ J7 q6) (fun yv s7 ⟨y, H7, J8, r7, q7⟩ => ?_) fun _ _ z => False.elim z
      obtain ⟨hl7, m', hm', w7⟩ := q7
      refine wpAny_mono (mt_append (X := cxCompC X N' scope xs P2.objs.size s2 H2 fp pins) _ s7 σ6 H7 (.ref s2.heap.objs.size) [y] (.ref s2.heap.objs.size) [yv] (fun v H8 => H8 = upd H7 s2.heap.objs.size (.lst (ys ++ [y]))) J8 rfl (.cons r7 .nil) ⟨_, ys, y, rfl, rfl, hl7, hlt, rfl⟩) (fun _ s8 ⟨v8, H8, J9, r8, e8⟩ => ?_) fun _ _ z => False.elim z
      subst e8
      have pk : ∀ b ∈ fp, ∀ o, s5.heap.get? b = some o → s8.heap.get? b = some o ∧ upd H7 s2.heap.objs.size (.lst (ys ++ [y])) b = none := fun b hb o e =>
        let z := J9.pin (b, o) (List.mem_append_right _ (List.mem_append_right _ (mem_pinsAt hb e)))
        ⟨z.1, z.2.1⟩
      refine ⟨m', hm', i + 1, ys ++ [y], σ6, _, hd6, J9.unpinned, T.keep _ _ _ st5 fun b hb o e => (pk b hb o e).1, fun b hb => ?_, w7⟩
      obtain ⟨o, e, _⟩ := T.obj _ _ st5 b hb
      exact (pk b hb o e).2
  exact codeAny_compStart_list loop (T.self X.A 0 { s2 with heap := h₁, toks := s2.toks + ([] : List (Str × Value)).length } _ _ (T.keep _ _ _ st2 fun b hb o e => old b o e) loop)
end
end L2

namespace L2
open PySem PySem.Spec PyProof.Rows

section
variable {X : Cx}
end
mutual
inductive Dat (H : Hp) : V → PyData → Prop
  | non : Dat H .non .none
  | bl (b : Bool) : Dat H (.bl b) (.bool b)
  | int (i : Int) : Dat H (.int i) (.int i)
  | str (x : Str) : Dat H (.str x) (.str x)
  | lst {a : Addr} {xs : List V} {ds : List PyData} : H a = some (.lst xs) → Dats H xs ds → Dat H (.ref a) (.list ds)
  | tup {a : Addr} {xs : List V} {ds : List PyData} : H a = some (.tup xs) → Dats H xs ds → Dat H (.ref a) (.tuple ds)
inductive Dats (H : Hp) : List V → List PyData → Prop
  | nil : Dats H [] []
  | cons {x : V} {xs : List V} {d : PyData} {ds : List PyData} : Dat H x d → Dats H xs ds → Dats H (x :: xs) (d :: ds)
end
section
variable {P : Program} {w : World} {H : Hp} {h : Heap}
mutual
theorem Dat.reads (ok : HOk P w H h) : ∀ {x : V} {d : PyData} {u : Value}, Dat H x d → RelV x u → ∃ as, Reads h u d as
  | _, _, u, .non, r => by cases (show u = Value.none from r); exact ⟨_, .none⟩
  | _, _, u, .bl b, r => by cases (show u = Value.bool b from r); exact ⟨_, .bool b⟩
  | _, _, u, .int i, r => by obtain ⟨t, rfl⟩ := r; exact ⟨_, .int i t⟩
  | _, _, u, .str x, r => by obtain ⟨t, rfl⟩ := r; exact ⟨_, .str x t⟩
  | _, _, u, .lst (a := a) e q, r => by
    cases (show u = Value.ref a from r)
    obtain ⟨_, its, n, rv, g⟩ := ok a _ e
    obtain ⟨as, rs⟩ := Dats.reads ok q rv
    exact ⟨_, .list g rfl rfl rs⟩
  | _, _, u, .tup (a := a) e q, r => by
    cases (show u = Value.ref a from r)
    obtain ⟨_, its, rv, o, g, c, n, dd⟩ := ok a _ e
    obtain ⟨as, rs⟩ := Dats.reads ok q rv
    exact ⟨_, .tuple g c dd rs⟩
theorem Dats.reads (ok : HOk P w H h) : ∀ {xs : List V} {ds : List PyData} {us : List Value}, Dats H xs ds → Vals xs us → ∃ as, ReadsAll h us ds as
  | _, _, _, .nil, .nil => ⟨_, .nil⟩
  | _, _, _, .cons p q, .cons r s => by
    obtain ⟨as, x⟩ := Dat.reads ok p r
    obtain ⟨bs, y⟩ := Dats.reads ok q s
    exact ⟨_, .cons x y⟩
end
end
def rEqD (neg : Bool) : R2 := fun x y H Q => ∃ d1 d2, Dat H x d1 ∧ Dat H y d2 ∧ SeqAt.shaped d1 = true ∧ SeqAt.shaped d2 = true ∧ Q (.bl (if neg then !PyData.eqv d1 d2 else PyData.eqv d1 d2)) H
section
variable {X : Cx}
theorem op_eqD {k : Nat} (hr : Room k X.A) : OpR X (compareOp .Eq) (rEqD false) := by
  intro pins s σ H x y v u Q I rx ry h
  obtain ⟨d1, d2, p, q, s1, s2, h⟩ := h
  obtain ⟨as, r1⟩ := p.reads I.hok rx
  obtain ⟨bs, r2⟩ := q.reads I.hok ry
  exact eq_dataH r1 r2 s1 s2 hr.units ⟨.bl _, H, I, rfl, h⟩
theorem op_neD {k : Nat} (hr : Room k X.A) : OpR X (compareOp .NotEq) (rEqD true) := by
  intro pins s σ H x y v u Q I rx ry h
  obtain ⟨d1, d2, p, q, s1, s2, h⟩ := h
  obtain ⟨as, r1⟩ := p.reads I.hok rx
  obtain ⟨bs, r2⟩ := q.reads I.hok ry
  exact ne_dataH r1 r2 s1 s2 hr.units ⟨.bl _, H, I, rfl, h⟩
end
end L2

namespace L2
open PySem PySem.Spec PyProof.Rows
section
variable {X : Cx}
end
section
variable {X : Cx} {K : PySem.W.Frag}

end

section
variable {K : PySem.W.Frag} {σ0 cs : St} {k : Nat} {g : TG} {te : TE} {tt : TT} {H1 : Hp} {Q : VK}
theorem compC_by {J : It} (n : Nat) (gv : Nat → V → Prop) (Pv : Addr → Nat → List V → Hp → Prop) (hn : n ≤ sizeLine)
    (hgo : ∀ D i ys H, i < n → Pv D i ys H → J.go i H) (hst : ∀ D ys H, Pv D n ys H → J.stop n H) (hy : ∀ D i ys H x H', i < n → Pv D i ys H → J.yld i H x H' → H' = H ∧ gv i x)
    (hl : ∀ D i ys H, Pv D i ys H → H D = some (.lst ys) ∧ ys.length ≤ i) (h0 : ∀ D, H1 D = none → Pv D 0 [] (upd H1 D (.lst [])))
    (hs : ∀ D i x ys H, i < n → gv i x → H1 D = none → Pv D i ys H → g x σ0 H fun σ2 H3 => σ2.drop k = cs ∧ te σ2 H3 fun y H4 => H4 D = some (.lst ys) ∧ Pv D (i + 1) (ys ++ [y]) (upd H4 D (.lst (ys ++ [y]))))
    (hd : ∀ D ys H, H1 D = none → Pv D n ys H → Q (.ref D) H) (mono : ∀ x σ H (R R' : St → Hp → Prop), (∀ σ' H', R σ' H' → R' σ' H') → g x σ H R → g x σ H R')
    (mono2 : ∀ σ H (R R' : VK), (∀ v H', R v H' → R' v H') → te σ H R → te σ H R') : compKC σ0 k cs g te Q J H1 := by
  intro D hD
  refine ⟨fun i m ys H => m = n - i ∧ i ≤ n ∧ Pv D i ys H, ⟨n, rfl, Nat.zero_le _, h0 D hD⟩, ?_⟩
  rintro i m ys H ⟨rfl, hi, p⟩
  obtain ⟨e1, e2⟩ := hl D i ys H p
  refine ⟨e1, ?_⟩
  by_cases hlt : i < n
  · refine .inr ⟨hgo D i ys H hlt p, by omega, fun x H' y => ?_⟩
    obtain ⟨rfl, hx⟩ := hy D i ys H x H' hlt p y
    refine mono _ _ _ _ _ (fun σ2 H3 ⟨z1, z2⟩ => ⟨z1, mono2 _ _ _ _ (fun v H4 ⟨z3, z4⟩ => ⟨z3, n - (i + 1), by omega, rfl, hlt, z4⟩) z2⟩) (hs D i x ys H' hlt hx hD p)
  · have e : i = n := by omega
    subst e
    exact .inl ⟨hst D ys H p, hd D ys H hD p⟩
theorem compC_list {a : Addr} (xs : List V) (Pv : Addr → Nat → List V → Hp → Prop) (hn : xs.length ≤ sizeLine) (hq : ∀ D i ys H, Pv D i ys H → SqL K H a xs)
    (hl : ∀ D i ys H, Pv D i ys H → H D = some (.lst ys) ∧ ys.length ≤ i) (h0 : ∀ D, H1 D = none → Pv D 0 [] (upd H1 D (.lst [])))
    (hs : ∀ D i x ys H, xs[i]? = some x → H1 D = none → Pv D i ys H → g x σ0 H fun σ2 H3 => σ2.drop k = cs ∧ te σ2 H3 fun y H4 => H4 D = some (.lst ys) ∧ Pv D (i + 1) (ys ++ [y]) (upd H4 D (.lst (ys ++ [y]))))
    (hd : ∀ D ys H, H1 D = none → Pv D xs.length ys H → Q (.ref D) H) (mono : ∀ x σ H (R R' : St → Hp → Prop), (∀ σ' H', R σ' H' → R' σ' H') → g x σ H R → g x σ H R')
    (mono2 : ∀ σ H (R R' : VK), (∀ v H', R v H' → R' v H') → te σ H R → te σ H R') : compKC σ0 k cs g te Q (Itl K a) H1 :=
  compC_by xs.length (fun i x => xs[i]? = some x) Pv hn (fun D i ys H hi p => ⟨xs, xs[i], hq D i ys H p, by simp [hi]⟩) (fun D ys H p => ⟨xs, hq D _ ys H p, Nat.le_refl _⟩)
    (fun D i ys H x H' hi p y => ⟨y.1, y.2 xs (hq D i ys H p)⟩) hl h0 (fun D i x ys H hi hx hD p => hs D i x ys H hx hD p) hd mono mono2
theorem compC_tup {a : Addr} (xs : List V) (Pv : Addr → Nat → List V → Hp → Prop) (hn : xs.length ≤ sizeLine) (hq : ∀ D i ys H, Pv D i ys H → SqT K H a xs)
    (hl : ∀ D i ys H, Pv D i ys H → H D = some (.lst ys) ∧ ys.length ≤ i) (h0 : ∀ D, H1 D = none → Pv D 0 [] (upd H1 D (.lst [])))
    (hs : ∀ D i x ys H, xs[i]? = some x → H1 D = none → Pv D i ys H → g x σ0 H fun σ2 H3 => σ2.drop k = cs ∧ te σ2 H3 fun y H4 => H4 D = some (.lst ys) ∧ Pv D (i + 1) (ys ++ [y]) (upd H4 D (.lst (ys ++ [y]))))
    (hd : ∀ D ys H, H1 D = none → Pv D xs.length ys H → Q (.ref D) H) (mono : ∀ x σ H (R R' : St → Hp → Prop), (∀ σ' H', R σ' H' → R' σ' H') → g x σ H R → g x σ H R')
    (mono2 : ∀ σ H (R R' : VK), (∀ v H', R v H' → R' v H') → te σ H R → te σ H R') : compKC σ0 k cs g te Q (Itt K a) H1 :=
  compC_by xs.length (fun i x => xs[i]? = some x) Pv hn (fun D i ys H hi p => ⟨xs, xs[i], hq D i ys H p, by simp [hi]⟩) (fun D ys H p => ⟨xs, hq D _ ys H p, Nat.le_refl _⟩)
    (fun D i ys H x H' hi p y => ⟨y.1, y.2 xs (hq D i ys H p)⟩) hl h0 (fun D i x ys H hi hx hD p => hs D i x ys H hx hD p) hd mono mono2
end
inductive Tr where
  | col (i : Int)
  | four (a b c d : Tr)
deriving DecidableEq
def Tr.data : Tr → PyData
  | .col i => .int i
  | .four a b c d => .tuple [a.data, b.data, c.data, d.data]
def Tr.deep : Tr → Nat
  | .col _ => 0
  | .four a b c d => max a.deep (max b.deep (max c.deep d.deep)) + 1
def Tr.isCol : Tr → Bool
  | .col _ => true
  | .four .. => false
inductive TrAt (H : Hp) : V → Tr → Prop
  | col (i : Int) : TrAt H (.int i) (.col i)
  | four {p : Addr} {a b c d : V} {ta tb tc td : Tr} : H p = some (.tup [a, b, c, d]) → TrAt H a ta → TrAt H b tb → TrAt H c tc → TrAt H d td → TrAt H (.ref p) (.four ta tb tc td)

def Tups (H H' : Hp) : Prop := ∀ b xs, H b = some (.tup xs) → H' b = some (.tup xs)
theorem Same.tups {H H' : Hp} (s : Same H H') : Tups H H' := fun b xs e => s b _ e
theorem Tups.trans {H H' H'' : Hp} (s : Tups H H') (t : Tups H' H'') : Tups H H'' := fun b xs e => t b xs (s b xs e)
theorem Tups.lst {H : Hp} {l : Addr} {xs ys : List V} (e : H l = some (.lst xs)) : Tups H (upd H l (.lst ys)) := fun b zs q => by
  rw [upd_ne (ne_of q e (by intro z; cases z))]; exact q
theorem TrAt.up {H H' : Hp} (s : Tups H H') : ∀ {v : V} {t : Tr}, TrAt H v t → TrAt H' v t
  | _, _, .col i => .col i
  | _, _, .four e a b c d => .four (s _ _ e) (TrAt.up s a) (TrAt.up s b) (TrAt.up s c) (TrAt.up s d)
theorem TrAt.dat {H : Hp} : ∀ {v : V} {t : Tr}, TrAt H v t → Dat H v t.data
  | _, _, .col i => .int i
  | _, _, .four e a b c d => .tup e (.cons a.dat (.cons b.dat (.cons c.dat (.cons d.dat .nil))))
theorem Tr.eqv : ∀ t u : Tr, PyData.eqv t.data u.data = decide (t = u)
  | .col i, .col j => by
    show (i == j) = _
    by_cases h : i = j <;> simp [h]
  | .col i, .four .. => by
    show false = _
    simp
  | .four .., .col j => by
    show false = _
    simp
  | .four a b c d, .four a' b' c' d' => by
    show (PyData.eqv a.data a'.data && (PyData.eqv b.data b'.data && (PyData.eqv c.data c'.data && (PyData.eqv d.data d'.data && true)))) = _
    rw [Tr.eqv a a', Tr.eqv b b', Tr.eqv c c', Tr.eqv d d']
    by_cases h1 : a = a' <;> by_cases h2 : b = b' <;> by_cases h3 : c = c' <;> by_cases h4 : d = d' <;> simp [h1, h2, h3, h4]
theorem Tr.lay : ∀ t : Tr, t.data.canLay0 = true
  | .col i => rfl
  | .four a b c d => by
    show (a.data.canLay0 && (b.data.canLay0 && (c.data.canLay0 && (d.data.canLay0 && true)))) = true
    rw [Tr.lay a, Tr.lay b, Tr.lay c, Tr.lay d]; rfl
theorem Tr.depth : ∀ t : Tr, t.data.depth = t.deep
  | .col i => rfl
  | .four a b c d => by
    show max a.data.depth (max b.data.depth (max c.data.depth (max d.data.depth 0))) + 1 = _
    rw [Tr.depth a, Tr.depth b, Tr.depth c, Tr.depth d, Nat.max_zero]; rfl
theorem Tr.shaped {t : Tr} (h : t.deep ≤ 64) : SeqAt.shaped t.data = true := by
  unfold SeqAt.shaped
  rw [Tr.lay, Tr.depth, decide_eq_true h]; rfl
theorem TrAt.ty {K : PySem.W.Frag} {H : Hp} {v : V} {t : Tr} (h : TrAt H v t) : TyOf K H v (if t.isCol then .type "int" else .type "tuple") := by
  cases h with
  | col i => exact .int i
  | four e => exact .tup e
end L2

namespace L2
open PySem PySem.Spec PyProof.Rows

section
variable {X : Cx} {elt tg iter cnd : Expr} {scope : Scope} {pos : Pos} {N' : List Str} {wi : TI} {g : TG} {te : TE} {tt : TT}
theorem ps_setC {y : Str} {py spos : Pos} {i0 : Nat} (xs caps : List Str) (is : List Nat) (k : Nat) (hclos : closureFor scope X.env = pure (clo X.env xs)) (hin : (xs.all fun x => (X.env.cells.lookup x).isSome) = true) (hcap : CapsOk X.env scope xs caps) (his : is.map (X.N[·]?) = caps.map some) (hN : N'.drop k = caps) (hk : k ≤ N'.length)
    (hallB : ((relabel scope X.env).names.all fun y => !(y.2 == .cell || y.2 == .free) || xs.contains y.1) = true) (hcell : ∀ y ∈ scope.names, y.2 ≠ .cell) (hkind : scope.kind = .function) (hnames : ∀ y ∈ scope.names, y.2 = .local → scope.names.lookup y.1 = some .local)
    (hcalm : X.calm = true) (hi : PI X tg iter wi) (hg : ∀ C s0 H0 fp pins, PG (cxCompC X N' scope xs C s0 H0 fp pins) tg g) (he : ∀ C s0 H0 fp pins, PE (cxCompC X N' scope xs C s0 H0 fp pins) elt te)
    (hNd : X.N.Nodup) (hi0 : X.N[i0]? = some y) (hy : Loc X.env.scope y) (hsw : swapsWith (.ListComp elt [⟨tg, iter, [], 0⟩] scope pos) (some (.Name y py)) spos.line X.env = pure true := by rfl) (hf : X.fn y = true ∨ X.env.scope.names.lookup y = some .local := by first | exact .inl rfl | exact .inr rfl | assumption)
    (hs : ∀ x, foldedSetIterable iter X.env x = pure x := by intro _; rfl) : PS X (.Assign [.Name y py] (.ListComp elt [⟨tg, iter, [], 0⟩] scope pos) spos) (tAsg (tCompC is k wi g te) (gName i0)) := by
  intro pins s σ H D0 I h
  have hall := all_of hallB
  obtain ⟨vs, hvs, h⟩ := h
  rw [exec_Assign_Name_used _ _ _ _ hsw]
  refine wpAny_bind (wpAny_standAt (wpAny_bind ?_))
  show wpAny _ X.A (do let _ ← comprehension (.ListComp elt [⟨tg, iter, [], 0⟩] scope pos) scope X.env _ (newList []) false (eval iter X.env) (some (assign (.Name y py) X.env))) _ _ s
  refine wpAny_bind (wpAny_mono (wpAny_comprehension_free (use := some (assign (.Name y py) X.env)) (Q := fun _ s' => SP X pins D0 .next s') rfl hs hclos hkind hnames (thn (hi pins s σ H _ I h) fun v s1 h1 => thn h1 fun itv s2 h2 => ?_)) (fun _ s' hq => wpAny_pure (wpAny_pure hq)) fun _ _ e => e)
  obtain ⟨it, fp, tn, J, H2, e, I2, T, st2, f2, hW⟩ := h2
  subst e
  refine wpAny_newObj_type (wpAny_newFunctionEnv hcell (by intro y hy; simp at hy) (fun h₁ hns₁ hsb₁ => ?_) hkind)
  dsimp only at hns₁ hsb₁ ⊢
  generalize hH2 : s2.heap.push { cls := .type "list", dict := none, data := .seq ([] : List Value).toArray } = P2 at hns₁ hsb₁ ⊢
  have hC : P2.objs.size = s2.heap.objs.size + 1 := by rw [← hH2, Heap.size_push]
  have below : ∀ b, b < s2.heap.objs.size → b ≠ P2.objs.size ∧ b ≠ s2.heap.objs.size := fun b hb => ⟨by rw [hC]; exact Nat.ne_of_lt (Nat.lt_succ_of_lt hb), Nat.ne_of_lt hb⟩
  have hDC : s2.heap.objs.size ≠ P2.objs.size := by rw [hC]; exact Nat.ne_of_lt (Nat.lt_succ_self _)
  have old : ∀ b o, s2.heap.get? b = some o → h₁.get? b = some o := fun b o e => hsb₁.extBut b o (below b (Heap.lt_size e)).1 (Heap.get?_push_of_some _ (hH2 ▸ Heap.get?_push_of_some _ e))
  have hD : h₁.get? s2.heap.objs.size = some { cls := .type "list", dict := none, data := .seq ([] : List Value).toArray } := hsb₁.extBut _ _ hDC (Heap.get?_push_of_some _ (hH2 ▸ Heap.get?_push_size _ rfl))
  have frD : H2 s2.heap.objs.size = none := I2.hok.fresh (Nat.le_refl _)
  have frC : H2 P2.objs.size = none := I2.hok.fresh (by rw [hC]; exact Nat.le_succ _)
  have hfp : ∀ b ∈ fp, b < s2.heap.objs.size := fun b hb => by
    obtain ⟨o, e, _⟩ := T.obj _ _ st2 b hb
    exact Heap.lt_size e
  have nst : ∀ b, b ≠ X.env.locals → b ∉ X.fs → b ∉ frs X.stack := fun b n1 n2 z => by
    rcases List.mem_cons.mp (I2.stkSub b z) with e | e
    · exact n1 e
    · exact n2 e
  obtain ⟨W, ⟨m0, w0⟩, turn⟩ := hW s2.heap.objs.size frD
  have csub : ∀ (x : Str) (c : Addr), (clo X.env xs).lookup x = some c → X.env.cells.lookup x = some c := fun x c e => clo_sub hin e
  have cold : ∀ (x : Str) (c : Addr), (clo X.env xs).lookup x = some c → ∃ v, s2.heap.IsCell c v := fun x c e => I2.cell x c (csub x c e)
  have clt : ∀ (x : Str) (c : Addr), (clo X.env xs).lookup x = some c → c < s2.heap.objs.size := fun x c e => by
    obtain ⟨v, o, ho, _⟩ := cold x c e
    exact Heap.lt_size ho
  have ok' : (cxCompC X N' scope xs P2.objs.size s2 H2 fp pins).Ok := by
    refine ⟨I2.ok.mod, hkind, I2.ok.glob, I2.ok.blt, ?_, fun x y c e e' => I2.ok.inj x y c (csub x c e) (csub y c e'), fun x hx => ?_, (fun x c z _ => by cases z), I2.ok.hd, I2.ok.frames, .inl rfl, fun b hb => ⟨(below b (hfp b hb)).1, fun x c e => (f2 b hb).2.2.2.2.1 x c (csub x c e)⟩, I2.bs, Nat.le_trans I2.ok.bsz I2.sz, fun b o e hb => ?_, fun b hb => nst b (f2 b hb).2.1 (f2 b hb).2.2.1, I2.stack, I2.stkFree⟩
    · show s2.heap.objs.size ≤ P2.objs.size
      rw [hC]; exact Nat.le_succ _
    · have hx' : (relabel scope X.env).names.lookup x = some .cell ∨ (relabel scope X.env).names.lookup x = some .free := hx
      rcases hx' with z | z
      · exact clo_has (hall _ (PySem.mem_of_lookup z) (.inl rfl))
      · exact clo_has (hall _ (PySem.mem_of_lookup z) (.inr rfl))
    · rcases (f2 b hb).2.2.2.1 with z | z
      · exact I2.ok.noex b o e z
      · exact absurd (Nat.lt_of_lt_of_le (Heap.lt_size (I2.ok.bs b o e).1) z) (Nat.lt_irrefl _)
  have I' : Inv (cxCompC X N' scope xs P2.objs.size s2 H2 fp pins) [] (List.replicate k none ++ vs.map some) (upd H2 s2.heap.objs.size (.lst [])) { s2 with heap := h₁, toks := s2.toks + ([] : List (Str × Value)).length } := by
    refine ⟨ok', rfl, I2.bare, Un.laid old (Nat.le_refl _) frD, ⟨_, hns₁, fun i x v e1 e2 e3 => ?_⟩, fun x c e => ?_, ?_, fun x c e => ?_, fun p hp => ?_, I2.hok.laid old (Nat.le_refl _) ⟨by simp, [], 0, .nil, hD⟩, ?_⟩
    · obtain ⟨j, ej, hj1, hj2⟩ := caps_at hvs his hN e1 e2
      obtain ⟨hc1, hc2, hc3⟩ := hcap x hj1
      obtain ⟨m, hn, hl⟩ := I2.loc
      obtain ⟨u, r, l⟩ := hl j x v ej hj2 (.inr (.inl hc1))
      refine ⟨u, r, .inr ⟨.inl hc2, ?_⟩⟩
      rcases l with ⟨z, _⟩ | ⟨_, c, ec, ⟨o, ho, hd⟩⟩
      · rw [show X.env.kindOf x = some .cell from hc1] at z; cases z
      · exact ⟨c, clo_of hc3 ec, o, old _ _ ho, hd⟩
    · obtain ⟨v, o, ho, hd⟩ := cold x c e
      exact ⟨v, o, old _ _ ho, hd⟩
    · show upd H2 s2.heap.objs.size (.lst []) P2.objs.size = none
      rw [upd_ne (Ne.symm hDC)]; exact frC
    · show upd H2 s2.heap.objs.size (.lst []) c = none
      rw [upd_ne (below _ (clt x c e)).2]; exact I2.freeC x c (csub x c e)
    · have hp' : p ∈ X.pn ++ pins := by
        rcases List.mem_append.mp hp with z | z
        · exact z
        · cases z
      obtain ⟨a1, a2, a3, a4, a5⟩ := I2.pin p hp'
      refine ⟨old _ _ a1, ?_, (below _ (Heap.lt_size a1)).1, nst _ a3 a4, a5⟩
      rw [upd_ne (below _ (Heap.lt_size a1)).2]; exact a2
    · show (List.replicate k none ++ vs.map some).length = N'.length
      exact caps_len hvs his hN hk
  have stat : ∀ {H' : Hp}, (∀ b ∈ fp, H' b = none) → ∀ b ∈ fp, FpOk (cxCompC X N' scope xs P2.objs.size s2 H2 fp pins) [] H' b := fun {H'} hn b hb =>
    ⟨hn b hb, (below b (hfp b hb)).1, nst b (f2 b hb).2.1 (f2 b hb).2.2.1, .inl hb, fun x c e => (f2 b hb).2.2.2.2.1 x c (csub x c e), fun p hp => (f2 b hb).2.2.2.2.2 p (by
      rcases List.mem_append.mp hp with z | z
      · exact z
      · cases z)⟩
  have fin : ∀ (ys : List V) (σ' : St) (H' : Hp) (s' : Shared), Inv (cxCompC X N' scope xs P2.objs.size s2 H2 fp pins) [] σ' H' s' → D0.nx (σ.set i0 (some (.ref s2.heap.objs.size))) H' →
      wpAny (model X.prog X.w) X.A (assign (.Name y py) X.env (.ref s2.heap.objs.size)) (fun _ s'' => ∃ m, s''.heap.Ns P2.objs.size m ∧ ∀ h', Heap.SameBut P2.objs.size s''.heap h' → SP X pins D0 .next { s'' with heap := h' }) X.xe s' := by
    intro ys σ' H' s' J1 q
    obtain ⟨m, hm, _⟩ := id J1.loc
    have J2 : Inv X pins σ H' s' := I2.call' (s' := s') (ch := fp) J1.os ⟨J1.base.keep, J1.base.slot, J1.base.free, J1.base.there, J1.base.tups, J1.base.frzs, J1.base.tbls⟩ J1.hok J1.bare fun b hb => ⟨(f2 b hb).2.2.2.1, (f2 b hb).2.1, (f2 b hb).2.2.2.2.1, (f2 b hb).2.2.2.2.2⟩
    have s0C : X.s₀.heap.objs.size ≤ P2.objs.size := Nat.le_trans I2.sz (by rw [hC]; exact Nat.le_succ _)
    have neL : P2.objs.size ≠ X.env.locals := Ne.symm (below _ I2.lt).1
    have neC : ∀ x c, X.env.cells.lookup x = some c → c ≠ P2.objs.size := fun x c e => by
      obtain ⟨v, o, ho, _⟩ := I2.cell x c e
      exact (below _ (Heap.lt_size ho)).1
    have neP : ∀ p ∈ X.pn ++ pins, p.1 ≠ P2.objs.size := fun p hp => (below _ (Heap.lt_size (I2.pin p hp).1)).1
    refine wpAny_assign_Name (store_ok2 J2 hNd hi0 hy (v := .ref s2.heap.objs.size) rfl (fun s5 J5 hsb => ?_) hf)
    obtain ⟨a, sb, ha⟩ := hsb
    have nea : P2.objs.size ≠ a := by
      rcases ha with rfl | ha
      · exact neL
      · exact Ne.symm (neC _ _ ha)
    refine ⟨m, hm.sameBut sb nea, fun h' sb' => ⟨_, H', ?_, q⟩⟩
    exact J5.turned (t' := s5.toks) (fun b o hb e => (sb'.2 b hb).trans e) J1.free neL (.inr s0C) neC neP
  have loop : codeAny (model X.prog X.w) X.A (.compLoop (.ListComp elt [⟨tg, iter, [], 0⟩] scope pos) 0 (.ref it) (.ref s2.heap.objs.size) (compEnvC scope (clo X.env xs) P2.objs.size X.env))
      (compPost (model X.prog X.w) X.A X.xe (some (assign (.Name y py) X.env)) (fun _ s' => SP X pins D0 .next s') (.ref s2.heap.objs.size) P2.objs.size)
      { s2 with heap := h₁, toks := s2.toks + ([] : List (Str × Value)).length } := by
    refine compLoop_go (fun n s' => ∃ i ys σ' H', σ'.drop k = vs.map some ∧ Inv (cxCompC X N' scope xs P2.objs.size s2 H2 fp pins) [] σ' H' s' ∧ tn i s'.heap ∧ (∀ b ∈ fp, H' b = none) ∧ W i n ys H') ?_ m0
      ⟨0, [], List.replicate k none ++ vs.map some, _, by simp, I', T.keep _ _ _ st2 (fun b hb o e => old b o e), fun b hb => by rw [upd_ne (below b (hfp b hb)).2]; exact (f2 b hb).1, w0⟩
    rintro n s3 ⟨i, ys, σ3, H3, hd3, J3, st3, fr3, w3⟩
    obtain ⟨hl, q3⟩ := turn i n ys H3 w3
    rcases q3 with ⟨stop, q⟩ | ⟨go, hlt, step⟩
    · refine thn (T.done (cxCompC X N' scope xs P2.objs.size s2 H2 fp pins) rfl rfl rfl hcalm i [] s3 σ3 H3 _ J3 (stat fr3) st3 stop) fun r s4 ⟨hr, J4⟩ => ?_
      subst hr
      exact fin ys σ3 H3 s4 J4 q
    · refine thn (T.item (cxCompC X N' scope xs P2.objs.size s2 H2 fp pins) rfl rfl rfl hcalm i [] s3 σ3 H3 _ J3 (stat fr3) st3 go) fun r s4 ⟨u, hr, h4⟩ => ?_
      subst hr
      refine thn h4 fun _ s5 ⟨x, H5, J5, r5, y5, st5, fr5⟩ => ?_
      have J5' := J5.pinned (stat fr5) (T.obj _ _ st5)
      have J6 : Inv (cxCompC X N' scope xs P2.objs.size s2 H2 fp pins) ([] ++ pinsAt fp s5.heap) (List.replicate k none ++ vs.map some) H5 s5 := J5'.weak (by rw [J5'.len]; exact caps_len hvs his hN hk) (caps_keep hd3)
      refine wpAny_mono (hg _ _ _ _ _ _ s5 _ H5 x u _ J6 r5 (step x H5 y5)) (fun _ s6 ⟨σ6, H6, J7, hd6, q6⟩ => ?_) fun _ _ z => False.elim z
      refine wpAny_mono (he _ _ _ _ _ _ s6 σ6 H6 _ J7 q6) (fun yv s7 ⟨y, H7, J8, r7, q7⟩ => ?_) fun _ _ z => False.elim z
      obtain ⟨hl7, m', hm', w7⟩ := q7
      refine wpAny_mono (mt_append (X := cxCompC X N' scope xs P2.objs.size s2 H2 fp pins) _ s7 σ6 H7 (.ref s2.heap.objs.size) [y] (.ref s2.heap.objs.size) [yv] (fun v H8 => H8 = upd H7 s2.heap.objs.size (.lst (ys ++ [y]))) J8 rfl (.cons r7 .nil) ⟨_, ys, y, rfl, rfl, hl7, hlt, rfl⟩) (fun _ s8 ⟨v8, H8, J9, r8, e8⟩ => ?_) fun _ _ z => False.elim z
      subst e8
      have pk : ∀ b ∈ fp, ∀ o, s5.heap.get? b = some o → s8.heap.get? b = some o ∧ upd H7 s2.heap.objs.size (.lst (ys ++ [y])) b = none := fun b hb o e =>
        let z := J9.pin (b, o) (List.mem_append_right _ (List.mem_append_right _ (mem_pinsAt hb e)))
        ⟨z.1, z.2.1⟩
      refine ⟨m', hm', i + 1, ys ++ [y], σ6, _, hd6, J9.unpinned, T.keep _ _ _ st5 fun b hb o e => (pk b hb o e).1, fun b hb => ?_, w7⟩
      obtain ⟨o, e, _⟩ := T.obj _ _ st5 b hb
      exact (pk b hb o e).2
  exact codeAny_compStart_list loop (T.self X.A 0 { s2 with heap := h₁, toks := s2.toks + ([] : List (Str × Value)).length } _ _ (T.keep _ _ _ st2 fun b hb o e => old b o e) loop)
end
end L2

namespace L2
open PySem PySem.Spec PyProof.Rows
section
variable {X : Cx}
theorem mt_find : MtR X "str.find" (fun x vs H Q => ∃ z y, x = .str z ∧ vs = [.str y] ∧ Q (.int (Txt.find z y)) H) := by
  intro pins s σ H x vs v us Q I rx rv h
  obtain ⟨z, y, rfl, rfl, q⟩ := h
  obtain ⟨t, rfl⟩ := rx
  obtain ⟨u, rfl, tu, rfl⟩ := rv.one
  exact SC.find ⟨.int _, H, I.tok _, ⟨_, rfl⟩, q⟩
end
end L2

namespace L2
open PySem PySem.Spec PyProof.Rows
section
variable {X : Cx} {pos : Pos}

end
end L2

namespace L2
open PySem PySem.Spec PyProof.Rows

def tCut (t : TS) : TS := fun D σ H => ∃ Pv : St → Hp → Prop, t { D with nx := Pv } σ H ∧ ∀ σ' H', Pv σ' H' → D.nx σ' H'
section
variable {X : Cx} {st : Stmt} {t : TS}
theorem ps_cut (h : PS X st t) : PS X st (tCut t) := by
  intro pins s σ H D I ⟨Pv, h1, h2⟩
  refine thn (h pins s σ H { D with nx := Pv } I h1) fun f s1 q => ?_
  cases f with
  | next =>
    obtain ⟨σ', H', I', q⟩ := q
    exact ⟨σ', H', I', h2 _ _ q⟩
  | ret v => exact q
  | brk => exact q
  | cont => exact q
end
end L2

namespace L2
open PySem PySem.Spec PyProof.Rows
section
variable {prog : Program} {w : World} {A : Around} {E : Value → Shared → Prop} {s : Shared}

end
section
variable {prog : Program} {w : World} {A : Around} {E : Value → Shared → Prop} {s : Shared}
end
section
variable {X : Cx} {tg : Expr}
end
end L2

namespace L2
open PySem PySem.Spec PyProof.Rows
section
variable {K : PySem.W.Frag} {σ0 cs : St} {k : Nat} {g : TG} {te : TE} {tt : TT} {H1 : Hp} {Q : VK}
end
section
variable {X : Cx} {K : PySem.W.Frag} {o e : Expr} {es : List Expr} {to : TE} {t : TA} {name : Str} {apos cpos : Pos} {T id : String} {r : V → List V → Hp → VK → Prop}
end
end L2

namespace L2
open PySem PySem.Spec PySem.Calls PyProof.Rows
section
variable {X : Cx}
theorem mt_partition : MtR X "str.partition" (fun x vs H Q => ∃ z y, x = .str z ∧ vs = [.str y] ∧ (y.length == 0) = false ∧ z.length ≤ sizeLine ∧
    ∀ p, H p = none → Q (.ref p) (upd H p (.tup [.str (Txt.partition z y).1, .str (Txt.partition z y).2.1, .str (Txt.partition z y).2.2]))) := by
  intro pins s σ H x vs v us Q I rx rv h
  obtain ⟨z, y, rfl, rfl, hy, hz, q⟩ := h
  obtain ⟨t, rfl⟩ := rx
  obtain ⟨u, rfl, tu, rfl⟩ := rv.one
  refine call_meets F.slot_str_partition (typeIs_str _ _ _) F.entry_str_partition (F.args_str_partition_2 _ _) (meets_str_partition z y t tu hy hz) ?_
  have hf : H s.heap.objs.size = none := I.hok.fresh (Nat.le_refl _)
  have q' := q _ hf
  unfold Txt.partition at q'
  revert q'
  cases Builtin.Str.occurrences z y 0 z.length 1 with
  | nil =>
    intro q'
    refine ⟨.ref s.heap.objs.size, upd H s.heap.objs.size (.tup [.str z, .str Str.empty, .str Str.empty]), I.laid (t' := s.toks + 1) (fun b u e => Heap.get?_push_of_some _ e) (Nat.le_refl _) ?_, rfl, q'⟩
    exact ⟨(by show 3 ≤ sizeLine; decide), _, .cons ⟨_, rfl⟩ (.cons ⟨_, rfl⟩ (.cons ⟨_, rfl⟩ .nil)), ⟨_, Heap.get?_push_size _ rfl, rfl, _, rfl⟩⟩
  | cons i r =>
    intro q'
    refine ⟨.ref s.heap.objs.size, upd H s.heap.objs.size (.tup [.str _, .str y, .str _]), I.laid (t' := s.toks + 1 + 1) (fun b u e => Heap.get?_push_of_some _ e) (Nat.le_refl _) ?_, rfl, q'⟩
    exact ⟨(by show 3 ≤ sizeLine; decide), _, .cons ⟨_, rfl⟩ (.cons ⟨_, rfl⟩ (.cons ⟨_, rfl⟩ .nil)), ⟨_, Heap.get?_push_size _ rfl, rfl, _, rfl⟩⟩
end
section
variable {K : PySem.W.Frag} {σ0 cs : St} {k : Nat} {g : TG} {te : TE} {tt : TT} {H1 : Hp} {Q : VK}
theorem compC_gen {n : Nat} {g' : Nat → V} (Pv : Addr → Nat → List V → Hp → Prop) (hn : n ≤ sizeLine)
    (hl : ∀ D i ys H, Pv D i ys H → H D = some (.lst ys) ∧ ys.length ≤ i) (h0 : ∀ D, H1 D = none → Pv D 0 [] (upd H1 D (.lst [])))
    (hs : ∀ D i ys H, i < n → H1 D = none → Pv D i ys H → g (g' i) σ0 H fun σ2 H3 => σ2.drop k = cs ∧ te σ2 H3 fun y H4 => H4 D = some (.lst ys) ∧ Pv D (i + 1) (ys ++ [y]) (upd H4 D (.lst (ys ++ [y]))))
    (hd : ∀ D ys H, H1 D = none → Pv D n ys H → Q (.ref D) H) (mono : ∀ x σ H (R R' : St → Hp → Prop), (∀ σ' H', R σ' H' → R' σ' H') → g x σ H R → g x σ H R')
    (mono2 : ∀ σ H (R R' : VK), (∀ v H', R v H' → R' v H') → te σ H R → te σ H R') : compKC σ0 k cs g te Q (Itg n g') H1 :=
  compC_by n (fun i x => x = g' i) Pv hn (fun D i ys H hi p => hi) (fun D ys H p => Nat.le_refl _)
    (fun D i ys H x H' hi p y => y) hl h0 (fun D i x ys H hi hx hD p => hx ▸ hs D i ys H hi hD p) hd mono mono2
theorem compC_range {lo : Int} {n : Nat} (Pv : Addr → Nat → List V → Hp → Prop) (hn : n ≤ sizeLine)
    (hl : ∀ D i ys H, Pv D i ys H → H D = some (.lst ys) ∧ ys.length ≤ i) (h0 : ∀ D, H1 D = none → Pv D 0 [] (upd H1 D (.lst [])))
    (hs : ∀ D i ys H, i < n → H1 D = none → Pv D i ys H → g (.int (lo + i)) σ0 H fun σ2 H3 => σ2.drop k = cs ∧ te σ2 H3 fun y H4 => H4 D = some (.lst ys) ∧ Pv D (i + 1) (ys ++ [y]) (upd H4 D (.lst (ys ++ [y]))))
    (hd : ∀ D ys H, H1 D = none → Pv D n ys H → Q (.ref D) H) (mono : ∀ x σ H (R R' : St → Hp → Prop), (∀ σ' H', R σ' H' → R' σ' H') → g x σ H R → g x σ H R')
    (mono2 : ∀ σ H (R R' : VK), (∀ v H', R v H' → R' v H') → te σ H R → te σ H R') : compKC σ0 k cs g te Q (Itr lo n) H1 :=
  compC_by n (fun i x => x = .int (lo + i)) Pv hn (fun D i ys H hi p => hi) (fun D ys H p => Nat.le_refl _)
    (fun D i ys H x H' hi p y => y) hl h0 (fun D i x ys H hi hx hD p => hx ▸ hs D i ys H hi hD p) hd mono mono2
end
end L2

namespace L2
open PySem PySem.Spec PySem.Calls PyProof.Rows
section
variable {X : Cx} {K : PySem.W.Frag}
theorem op_in_seqK (hK : X.K = K := by rfl) : OpR X (compareOp .In) (rIn K false) := hK ▸ op_in_seq
end
end L2

namespace L2
open PySem PySem.Spec PySem.Calls PyProof.Rows

structure RoomH (k : Nat) (A : Around) : Prop where
  dp : A.depth + 3 * k + 5 < recursionLimit
  un : A.units + 16 * k + 200 < cLine
theorem RoomH.mono {j k : Nat} {A : Around} (r : RoomH k A) (h : j ≤ k) : RoomH j A := ⟨by have := r.dp; omega, by have := r.un; omega⟩

theorem Room.inX {k : Nat} {X : Cx} {e : Addr} (r : Room k X.A) : RoomH k (Xs X e).A := ⟨r.dp, r.un⟩
structure FnOkH (P : Program) (w : World) (K : PySem.W.Frag) (mg : Str → Option Value) (base : Heap) (CX : CXT) (k : Nat) (f : Addr) (fd : FuncData) (ps : List Str) (sp : Sp) : Prop where
  len : ∀ vs H Q E, sp vs H Q E → vs.length = ps.length
  run : ∀ (A : Around) (outer : List Env) (s : Shared) (H : Hp) (args : Args) (us : List Value) (vs : List V) (Q : VK) (E : XK), RoomH k A → Env0 P w K mg base A outer s H → BindsTo s fd args (ps.zip us) → Vals vs us → sp vs H Q E →
    codeAny (model P w) A (.call (.ref f) args) (CR CX outer P w H s Q E) s
abbrev cxH (CX : CXT) (P : Program) (w : World) (K : PySem.W.Frag) (mg : Str → Option Value) (base : Heap) (N : List Str) (qual : Str) (scope : Scope) (f : Addr) (cd : Value) (A : Around) (outer : List Env) (s : Shared) (H : Hp) (E : XK) : Cx :=
  { cxOf CX P w K mg base N qual scope f cd A outer s H E with calm := false }
theorem inv_startH {CX : CXT} {P : Program} {w : World} {K : PySem.W.Frag} {mg : Str → Option Value} {base : Heap} {N ps : List Str} {qual : Str} {scope : Scope} {f : Addr} {cd : Value} {A : Around} {outer : List Env} {s s1 : Shared} {H : Hp} {E : XK} {us : List Value} {vs : List V}
    (S : FnScope N ps scope) (e0 : Env0 P w K mg base A outer s H) (hl : vs.length = ps.length) (r : Vals vs us)
    (x : InCallC s s.heap.objs.size (bindL (envOfC qual scope s.heap.objs.size f cd).kindOf (ps.zip us) fun _ => none) (cellsFrom (s.heap.objs.size + 1) scope.names []) (bindC (envOfC qual scope s.heap.objs.size f cd).kindOf (ps.zip us) fun _ => none) s1) :
    Inv (cxH CX P w K mg base N qual scope f cd A outer s H E) [] (start N vs) H s1 := by
  have e0' : Env0 P w K mg base { A with handled := none } outer s H := ⟨e0.frames, e0.mod, e0.bs, e0.bsz, e0.funs, e0.frf, e0.hok, e0.bare⟩
  have I : Inv (cxOf CX P w K mg base N qual scope f cd { A with handled := none } outer s H E) [] (start N vs) H s1 := inv_start S rfl e0' hl r x
  exact ⟨⟨I.ok.mod, I.ok.kind, I.ok.glob, I.ok.blt, I.ok.above, I.ok.inj, I.ok.has, I.ok.cab, (fun z => nomatch z), Around.frames_deeper e0.frames, I.ok.stk, I.ok.exf, I.ok.bs, I.ok.bsz, I.ok.noex, I.ok.exfs, I.ok.funs, I.ok.frf⟩, I.os, I.bare, I.base, I.loc, I.cell, I.free, I.freeC, I.pin, I.hok, I.len⟩
theorem fnH_of {CX : CXT} {P : Program} {w : World} {K : PySem.W.Frag} {mg : Str → Option Value} {base : Heap} {k : Nat} {f : Addr} {name qual : Str} {params : Arguments} {body : List Stmt} {scope : Scope} {dV kV doc pm cdv ct oc : Value} {an od : Option Addr}
    {osl : Array (Option Value)} {N ps : List Str} {sp : Sp} (lk : K.lookup f = some ⟨oc, od, .func (PySem.W.fnOf name qual params body scope dV kV doc pm an cdv ct), osl⟩) (hcd : PySem.W.codeIn K cdv qual = true) (S : FnScope N ps scope)
    (len : ∀ vs H Q E, sp vs H Q E → vs.length = ps.length)
    (hbody : ∀ (A : Around) (outer : List Env) (s : Shared) (H : Hp) (vs : List V) (Q : VK) (E : XK), RoomH k (A.deeper (envOfC qual scope s.heap.objs.size f cdv)) → sp vs H Q E →
      ∃ t, PSs (cxH CX P w K mg base N qual scope f cdv A outer s H E) body t ∧ t { nx := fun _ H' => Q .non H', rt := Q } (start N vs) H) :
    FnOkH P w K mg base CX (k + 1) f (PySem.W.fnOf name qual params body scope dV kV doc pm an cdv ct) ps sp := by
  refine ⟨len, fun A outer s H args us vs Q E hr e0 hb r hsp => ?_⟩
  have hl := len _ _ _ _ hsp
  have KX : K.In s.heap := e0.mod.kin.keeps fun b o e => (e0.bs b o e).1
  have lim : s.heap.NoLimit := e0.mod.nolimit.keeps fun b o e => (e0.bs b o e).1
  have hkind : ∀ y ∈ ps.zip us, scope.names.lookup y.1 = some .local ∨ (scope.names.lookup y.1 = some .cell ∧ ((cellsFrom (s.heap.objs.size + 1) scope.names []).lookup y.1).isSome = true) := fun ⟨n, v⟩ hy => by
    rcases S.par n (List.of_mem_zip hy).1 with q | q
    · exact .inl q
    · exact .inr ⟨q, PySem.W.cellsFrom_some _ _ _ (.inl q)⟩
  have dpt : A.depth < recursionLimit := by have := hr.dp; omega
  have rd : RoomH k (A.deeper (envOfC qual scope s.heap.objs.size f cdv)) := ⟨by have := hr.dp; show A.depth + 1 + 3 * k + 5 < _; omega, by have := hr.un; show A.units + 3 + 16 * k + 200 < _; omega⟩
  refine codeAny_call_function dpt (KX _ _ lk) rfl S.co S.gen rfl (PySem.W.codeRec_of KX hcd) (hb _ _ _ _ ?_)
  refine wpAny_newFunctionEnv_cells S.kind hkind fun env he s1 x => ?_
  subst he
  refine ⟨lim.keeps x.toInCall.keep, codeAny_func ?_⟩
  obtain ⟨t, ht, hq⟩ := hbody A outer s H vs Q E rd hsp
  have I : Inv (cxH CX P w K mg base N qual scope f cdv A outer s H E) [] (start N vs) H s1 := inv_startH S e0 hl r x
  refine wpAny_mono (ht [] s1 (start N vs) H _ I hq) (fun fl s' hs => ?_) fun e s' hs => hs
  have fin : ∀ {σ' : St} {H' : Hp} {v : V} {u : Value}, Inv (cxH CX P w K mg base N qual scope f cdv A outer s H E) [] σ' H' s' → RelV v u → Q v H' → CE outer P w H s Q u s' :=
    fun {σ' H' v u} J rv q => ⟨v, H', J.os, J.bare, J.base, J.hok, rv, q⟩
  cases fl with
  | ret u =>
    obtain ⟨v, σ', H', J, rv, q⟩ := hs
    exact fin J rv q
  | next =>
    obtain ⟨σ', H', J, q⟩ := hs
    exact fin (v := V.non) (u := Value.none) J rfl q
  | brk =>
    obtain ⟨_, _, _, q⟩ := hs
    exact False.elim q
  | cont =>
    obtain ⟨_, _, _, q⟩ := hs
    exact False.elim q
section
variable {P : Program} {w : World} {K : PySem.W.Frag} {mg : Str → Option Value} {base : Heap}
theorem FunD.okH {x qual : Str} {st : Stmt} {f : Addr} {fd : FuncData} {dV : Value} {N ps : List Str} {k : Nat} {sp : Sp} {CX : CXT} (F : FunD K x qual st f fd dV) (S : FnScope N ps (defScope st)) (len : ∀ vs H Q E, sp vs H Q E → vs.length = ps.length)
    (hbody : ∀ (cdv : Value) (A : Around) (outer : List Env) (s : Shared) (H : Hp) (vs : List V) (Q : VK) (E : XK), RoomH k (A.deeper (envOfC qual (defScope st) s.heap.objs.size f cdv)) → sp vs H Q E →
      ∃ t, PSs (cxH CX P w K mg base N qual (defScope st) f cdv A outer s H E).nox (defBody st) t ∧ t { nx := fun _ H' => Q .non H', rt := Q } (start N vs) H) : FnOkH P w K mg base CX (k + 1) f fd ps sp := by
  obtain ⟨oc, od, kV, doc, pm, an, cdv, ct, osl, rfl, lk, hcd⟩ := F.ex
  refine fnH_of lk hcd S len fun A outer s H vs Q E hr hsp => ?_
  obtain ⟨t, h, q⟩ := hbody cdv A outer s H vs Q E hr hsp
  exact ⟨t, h.nox, q⟩
structure FokH (P : Program) (w : World) (K : PySem.W.Frag) (mg : Str → Option Value) (base : Heap) (CX : CXT) (j : Nat) (x : Str) (ps : List Str) (sp : Sp) : Prop where
  ex : ∃ f fd, FnOkH P w K mg base CX j f fd ps sp ∧ Binds K fd ps [] ∧ PySem.W.keepIn K (.ref f) = true ∧ mg x = some (.ref f)
theorem fokH {CX : CXT} {j : Nat} {x qual : Str} {st : Stmt} {f : Addr} {fd : FuncData} {dV : Value} {ps : List Str} {sp : Sp} (F : FunD K x qual st f fd dV) (G : FnOkH P w K mg base CX j f fd ps sp) (b : Binds K fd ps []) (m : mg x = some (.ref f)) :
    FokH P w K mg base CX j x ps sp := ⟨f, fd, G, b, F.kp, m⟩
end
section
variable {X : Cx} {CX : CXT} {j k : Nat} {ps : List Str} {sp : Sp} {x : Str} {p pos : Pos} {e : Expr} {es : List Expr} {t : TA}
theorem pe_callH (F : FokH X.prog X.w X.K X.mg X.base CX j x ps sp) (q : Quiet CX) (hr : RoomH k X.A) (ha : PA X (e :: es) t) (hj : j ≤ k := by decide) (hg : Gl X x := by rfl)
    (hdb : (x == ("__debug__" : Str)) = false := by decide) (he : starEach (e :: es) X.env = (false, eval e X.env) :: starEach es X.env := by rfl) (hpl : (backTo pos (starEach es X.env)).any (·.1) = false := by rfl) :
    PE X (.Call (.Name x p) (e :: es) [] pos) (tCall sp [] E0 t) := by
  obtain ⟨f, fd, G, b, kp, m⟩ := F.ex
  intro pins s σ H Q I h
  refine wpAny_Call_Name_kw (ld_glob I hg m ?_ hdb)
  refine PySem.W.callWith_K (h₀ := X.base) I.ok.mod.kin kp (thn (ha pos pins s σ H _ I h) fun us s1 ⟨vs, H1, I1, r, z⟩ => ⟨I1.kIn, ?_⟩) he hpl
  have r2 : Vals (vs ++ []) (us ++ []) := by simpa using r
  have hl : (us ++ ([] : List Value)).length = ps.length := by rw [← r2.length]; exact G.len _ _ _ _ z
  refine wpAny_call (codeAny_mono (G.run X.A X.stack s1 H1 ⟨us, []⟩ (us ++ []) (vs ++ []) Q E0 (hr.mono hj) I1.env0 (b s1 us I1.kIn hl) r2 z) fun r s' hq => ?_)
  cases r with
  | error e => exact (q _ _ _ _ _ hq).elim
  | ok fl =>
    cases fl with
    | ret u => exact I1.after hq
    | next => exact False.elim hq
    | brk => exact False.elim hq
    | cont => exact False.elim hq

theorem Vals.getD {xs : List V} {us : List Value} (r : Vals xs us) {i : Nat} (h : i < us.length) : ∃ y, xs[i]? = some y ∧ RelV y us[i] := by
  have h' : i < xs.length := by rw [r.length]; exact h
  obtain ⟨u, hu, ru⟩ := r.get (List.getElem?_eq_getElem h')
  exact ⟨_, List.getElem?_eq_getElem h', by rw [List.getElem?_eq_getElem h] at hu; cases hu; exact ru⟩
theorem mt_indexL : MtR X "list.index" (fun x vs H Q => ∃ (l : Addr) (y : V) (xs : List V) (j : Nat) (w : V), x = .ref l ∧ vs = [y] ∧ H l = some (.lst xs) ∧ flatV y = true ∧ xs.all flatV = true ∧ xs[j]? = some w ∧ eqV w y = true ∧ (∀ (i : Nat) (v : V), i < j → xs[i]? = some v → eqV v y = false) ∧ Q (.int (j : Int)) H) := by
  intro pins s σ H x vs v us Q I rx rv h
  obtain ⟨l, y, xs, j, wv, rfl, rfl, hH, fy, fx, hj, hit, hno, q⟩ := h
  cases rx
  obtain ⟨u, rfl, ru⟩ := rv.one
  obtain ⟨z, its, n, r, hl, e⟩ := I.lstM hH
  have flat : ∀ (i : Nat) (v : V), xs[i]? = some v → flatV v = true := fun i v hv => List.all_eq_true.mp fx v (List.mem_of_getElem? hv)
  have hjl : j < xs.length := by
    rcases Nat.lt_or_ge j xs.length with h | h
    · exact h
    · rw [List.getElem?_eq_none h] at hj; cases hj
  have hj' : j < its.toArray.size := by rw [List.size_toArray]; omega
  have key : ∀ m (hm : m < its.toArray.size), ∃ v, xs[m]? = some v ∧ eqU y its.toArray[m] = eqV v y := fun m hm => by
    obtain ⟨v, hv, rv⟩ := Vals.getD r (i := m) (by simpa using hm)
    exact ⟨v, hv, by rw [show its.toArray[m] = its[m]'(by simpa using hm) by simp]; exact eqU_of rv (flat m v hv)⟩
  refine call_meets F.slot_list_index ⟨_, e, rfl⟩ F.entry_list_index (F.args_list_index_2 _ _) (SeqAt.list_indexAt l its.toArray n none #[] u (eqU y) j hj' ?_ ?_ ?_) ⟨e, fun v hv => mem_eqAt ru fy r fx v (by simpa using hv), ?_⟩
  · have : sizeLine < 2 ^ 62 := by decide
    have h63 : ((2 : Int) ^ 63) = 9223372036854775808 := by decide
    have h62 : (2 : Nat) ^ 62 = 4611686018427387904 := by decide
    rw [h63]; omega
  · obtain ⟨v, hv, e1⟩ := key j hj'
    rw [e1]; rw [hj] at hv; cases hv; exact hit
  · intro m hm hlt
    obtain ⟨v, hv, e1⟩ := key m hm
    rw [e1]; exact hno m v hlt hv
  · exact ⟨.int _, H, I.tok _, ⟨_, rfl⟩, q⟩

end
end L2


namespace Qs
open PySem L2
theorem len_eq (z : Str) : z.length = z.cps.toList.length := by
  show z.cps.size = z.cps.toList.length
  rw [Array.length_toList]

def IsC (z : Str) : Prop := ∀ c ∈ z.cps.toList, 48 ≤ c ∧ c ≤ 51
def dig (z : Str) : List Nat := z.cps.toList.map (· - 48)
theorem dig_len (z : Str) : (dig z).length = z.length := by simp [dig, len_eq]
theorem sgn_in {z : Str} {i : Nat} (hz : IsC z) (h : i < z.length) : 48 ≤ z.cps.getD i 0 ∧ z.cps.getD i 0 ≤ 51 := by
  have h' : i < z.cps.size := h
  refine hz _ ?_
  have e : z.cps.getD i 0 = z.cps[i] := by simp [Array.getD_eq_getD_getElem?, h']
  rw [e]
  exact Array.getElem_mem_toList h'

def one (d : Nat) : Str := ⟨#[48 + d]⟩
theorem sgn_one {z : Str} {i : Nat} (hz : IsC z) (h : i < z.length) : ∃ d, d < 4 ∧ sgn z i = one d ∧ z.cps.getD i 0 - 48 = d := by
  obtain ⟨h1, h2⟩ := sgn_in hz h
  refine ⟨z.cps.getD i 0 - 48, by omega, ?_, rfl⟩
  unfold sgn one
  have e : 48 + (z.cps.getD i 0 - 48) = z.cps.getD i 0 := by omega
  rw [e]
theorem four {P : Nat → Prop} (h0 : P 0) (h1 : P 1) (h2 : P 2) (h3 : P 3) {d : Nat} (h : d < 4) : P d := by
  rcases d with _ | _ | _ | _ | d
  · exact h0
  · exact h1
  · exact h2
  · exact h3
  · omega
theorem int_one {d : Nat} (h : d < 4) : PySem.intText? (one d) = some (d : Int) :=
  four (P := fun d => PySem.intText? (one d) = some (d : Int)) (by decide +kernel) (by decide +kernel) (by decide +kernel) (by decide +kernel) h
theorem IsC.nil : IsC ⟨#[]⟩ := fun c h => by simp at h
theorem IsC.app {a b : Str} (ha : IsC a) (hb : IsC b) : IsC (a ++ b) := fun c h => by
  have e : (a ++ b).cps.toList = a.cps.toList ++ b.cps.toList := by
    show (a.cps ++ b.cps).toList = _
    simp
  rw [e] at h
  rcases List.mem_append.mp h with h | h
  · exact ha c h
  · exact hb c h
theorem IsC.one {d : Nat} (h : d < 4) : IsC (one d) := fun c hc => by
  have e : c = 48 + d := by simpa [Qs.one] using hc
  omega
end Qs

namespace L2
open PySem PySem.Spec PyProof.Rows
section
variable {X : Cx}
theorem pe_gint {x : Str} {i : Int} {pos : Pos} (h : ∃ t, X.mg x = some (.int i t)) (hg : Gl X x := by rfl) (hd : (x == ("__debug__" : Str)) = false := by decide) : PE X (.Name x pos) (tC (.int i)) := by
  obtain ⟨t, h⟩ := h
  exact pe_glob hg h ⟨t, rfl⟩ hd
theorem pe_gstr {x z : Str} {pos : Pos} (h : ∃ t, X.mg x = some (.str z t)) (hg : Gl X x := by rfl) (hd : (x == ("__debug__" : Str)) = false := by decide) : PE X (.Name x pos) (tC (.str z)) := by
  obtain ⟨t, h⟩ := h
  exact pe_glob hg h ⟨t, rfl⟩ hd
end
section
variable {X : Cx}
theorem pe_bty {x : Str} {n : String} {pos : Pos} (hm : X.mg x = none) (hv : bootBuiltins x = some (.type n)) (hg : Gl X x := by rfl) (hn : x ≠ "__name__" := by decide) (hd : (x == ("__debug__" : Str)) = false := by decide) : PE X (.Name x pos) (tC (.ty n)) :=
  pe_bltn hg hm hv rfl hn hd
end

theorem Same.new {H : Hp} {p : Addr} (h : H p = none) (o : HO) : Same H (upd H p o) := fun b u q => by rw [upd_ne (ne_of_none q h)]; exact q
theorem Same.set {H : Hp} {H' : Hp} {p : Addr} (h : Same H H') (hp : H p = none) (o : HO) : Same H (upd H' p o) := fun b u q => by rw [upd_ne (ne_of_none q hp)]; exact h b u q
theorem small {n : Nat} (h : n ≤ 1000) : n ≤ sizeLine := Nat.le_of_lt (small1000 h)
end L2

namespace L2
open PySem PySem.Spec PyProof.Rows
def notStar : PySem.Expr → Bool
  | .Starred _ _ => false
  | _ => true
theorem star_of {e : PySem.Expr} {es : List PySem.Expr} {env : Env} (h : notStar e = true) : starEach (e :: es) env = (false, eval e env) :: starEach es env := by
  cases e <;> first | rfl | (cases h)
theorem pa_c {X : Cx} {e : PySem.Expr} {es : List PySem.Expr} {te : TE} {t : TA} (ha : PE X e te) (hr : PA X es t) (h : notStar e = true := by rfl) : PA X (e :: es) (tCons te t) := pa_cons ha hr (star_of h)
end L2
namespace L2
open PySem PySem.Spec PyProof.Rows
end L2
namespace L2
open PySem PySem.Spec PyProof.Rows

structure PAx (X : Cx) (es : List PySem.Expr) (t : TA) : Prop where
  h : PA X es t
section
variable {X : Cx} {e : PySem.Expr} {es : List PySem.Expr} {te : TE} {t : TA} {pos : Pos}
theorem pax_nil : PAx X [] tNil := ⟨pa_nil⟩
theorem pax_c (ha : PE X e te) (hr : PAx X es t) (h : notStar e = true := by rfl) : PAx X (e :: es) (tCons te t) := ⟨pa_c ha hr.h h⟩
theorem pe_tupx {x1} (h : PAx X es t) : PE X (.Tuple es x1 pos) (tTup t) := pe_tup h.h
theorem pe_lstx (h : PAx X es t) : PE X (.List es pos) (tLst t) := pe_lst h.h
end
end L2

namespace L2
open PySem PySem.Spec PySem.Calls PyProof.Rows

def constV : PySem.Expr → Option V
  | .Constant (.int i) _ _ => some (.int i)
  | .Constant (.bool b) _ _ => some (.bl b)
  | .Constant .none _ _ => some .non
  | .Constant (.str x) _ _ => some (.str x)
  | _ => none
def constVs : List PySem.Expr → Option (List V)
  | [] => some []
  | e :: es => match constV e with
    | none => none
    | some v => match constVs es with
      | none => none
      | some vs => some (v :: vs)
section
variable {X : Cx}
theorem const_pe {e : PySem.Expr} {v : V} (h : constV e = some v) : PE X e (tC v) ∧ notStar e = true := by
  unfold constV at h
  split at h
  · cases h; exact ⟨pe_int, rfl⟩
  · cases h; exact ⟨pe_bl, rfl⟩
  · cases h; exact ⟨pe_non, rfl⟩
  · cases h; exact ⟨pe_str, rfl⟩
  · cases h
def tPre (vs : List V) (t : TA) : TA := fun σ H Q => t σ H fun xs H' => Q (vs ++ xs) H'
def tKs (vs : List V) : TA := fun _ H Q => Q vs H
theorem pa_pre : ∀ (es1 es2 : List PySem.Expr) (vs : List V) (t : TA), constVs es1 = some vs → PA X es2 t → PA X (es1 ++ es2) (tPre vs t)
  | [], es2, vs, t, h, k => by
    have e : vs = [] := (Option.some.inj h).symm
    subst e
    intro pos pins s σ H Q I q
    exact k pos pins s σ H _ I q
  | e :: es1, es2, vs, t, h, k => by
    unfold constVs at h
    split at h
    · cases h
    · rename_i v hv
      split at h
      · cases h
      · rename_i ws hw
        cases h
        obtain ⟨h1, h2⟩ := const_pe (X := X) hv
        intro pos pins s σ H Q I q
        exact pa_c h1 (pa_pre es1 es2 ws t hw k) h2 pos pins s σ H Q I q
theorem pax_all {es : List PySem.Expr} {vs : List V} (hk : constVs es = some vs) : PAx X es (tKs vs) := ⟨by
  have h := pa_pre (X := X) es [] vs tNil hk pa_nil
  rw [List.append_nil] at h
  intro pos pins s σ H Q I q
  refine h pos pins s σ H Q I ?_
  show Q (vs ++ []) H
  rw [List.append_nil]; exact q⟩
end
def notComp : PySem.Expr → Bool
  | .ListComp _ _ _ _ => false
  | .SetComp _ _ _ _ => false
  | .DictComp _ _ _ _ _ => false
  | _ => true
theorem swaps_of {e : PySem.Expr} {t : Option PySem.Expr} {l : Nat} {env : Env} (h : notComp e = true) : swapsWith e t l env = pure false := by
  cases e <;> first | rfl | (cases h)

structure PEx (X : Cx) (e : PySem.Expr) (t : TE) : Prop where
  h : PE X e t
structure PSx (X : Cx) (st : Stmt) (t : TS) : Prop where
  h : PS X st t
structure PSsx (X : Cx) (st : List Stmt) (t : TS) : Prop where
  h : PSs X st t
section
variable {X : Cx} {st : Stmt} {rest : List Stmt} {t u : TS}
theorem pssx_one (h : PSx X st t) : PSsx X [st] t := ⟨pss_one h.h⟩
theorem pssx_cons (h1 : PSx X st t) (h2 : PSsx X rest u) : PSsx X (st :: rest) (tSeq t u) := ⟨pss_cons h1.h h2.h⟩
theorem pex_lst {es : List PySem.Expr} {ta : TA} {pos : Pos} (h : PAx X es ta) : PEx X (.List es pos) (tLst ta) := ⟨pe_lst h.h⟩
theorem psx_set {i : Nat} {x : Str} {es : List PySem.Expr} {lp : Pos} {te : TE} {pos pos' : Pos} (hN : X.N.Nodup) (hi : X.N[i]? = some x) (hx : Loc X.env.scope x) (he : PEx X (.List es lp) te)
    (hf : X.fn x = true ∨ X.env.scope.names.lookup x = some .local := by first | exact .inl rfl | exact .inr rfl | assumption) : PSx X (.Assign [.Name x pos'] (.List es lp) pos) (tAsg te (gName i)) :=
  ⟨ps_set hN hi hx he.h (swaps_of rfl) hf⟩
end
section
variable {P : Program} {w : World} {K : PySem.W.Frag} {mg : Str → Option Value} {base : Heap}
theorem FunD.oks {x qual : Str} {st : Stmt} {f : Addr} {fd : FuncData} {dV : Value} {N ps : List Str} {k : Nat} {sp : Sp} {CX : CXT} (F : FunD K x qual st f fd dV) (S : FnScope N ps (defScope st)) (len : ∀ vs H Q E, sp vs H Q E → vs.length = ps.length)
    (hbody : ∀ (cdv : Value) (A : Around) (outer : List Env) (s : Shared) (H : Hp) (vs : List V) (Q : VK) (E : XK), Room k (A.deeper (envOfC qual (defScope st) s.heap.objs.size f cdv)) → sp vs H Q E →
      ∃ t, PSsx (cxOf CX P w K mg base N qual (defScope st) f cdv A outer s H E).nox (defBody st) t ∧ t { nx := fun _ H' => Q .non H', rt := Q } (start N vs) H) : FnOk P w K mg base CX (k + 1) f fd ps sp :=
  F.ok S len fun cdv A outer s H vs Q E hr h => by
    obtain ⟨t, h1, h2⟩ := hbody cdv A outer s H vs Q E hr h
    exact ⟨t, h1.h, h2⟩
theorem FunD.okHs {x qual : Str} {st : Stmt} {f : Addr} {fd : FuncData} {dV : Value} {N ps : List Str} {k : Nat} {sp : Sp} {CX : CXT} (F : FunD K x qual st f fd dV) (S : FnScope N ps (defScope st)) (len : ∀ vs H Q E, sp vs H Q E → vs.length = ps.length)
    (hbody : ∀ (cdv : Value) (A : Around) (outer : List Env) (s : Shared) (H : Hp) (vs : List V) (Q : VK) (E : XK), RoomH k (A.deeper (envOfC qual (defScope st) s.heap.objs.size f cdv)) → sp vs H Q E →
      ∃ t, PSsx (cxH CX P w K mg base N qual (defScope st) f cdv A outer s H E).nox (defBody st) t ∧ t { nx := fun _ H' => Q .non H', rt := Q } (start N vs) H) : FnOkH P w K mg base CX (k + 1) f fd ps sp :=
  F.okH S len fun cdv A outer s H vs Q E hr h => by
    obtain ⟨t, h1, h2⟩ := hbody cdv A outer s H vs Q E hr h
    exact ⟨t, h1.h, h2⟩
end
end L2

namespace L2
open PySem PySem.Spec PySem.Calls PyProof.Rows
section
variable {X : Cx}

end

namespace HT
section
variable {prog : Program} {w : World} {A : Around} {E : Value → Shared → Prop} {s : Shared}
end
end HT
section
variable {X : Cx}
end

section
variable {X : Cx}
theorem pax_cx {e : PySem.Expr} {es : List PySem.Expr} {te : TE} {t : TA} (ha : PEx X e te) (hr : PAx X es t) (h : notStar e = true := by rfl) : PAx X (e :: es) (tCons te t) := pax_c ha.h hr h
theorem pex_op {a b : PySem.Expr} {ta tb : TE} {pos : Pos} {op : Operator} {r : R2} (ho : OpR X (binaryOp op) r) (ha : PEx X a ta) (hb : PEx X b tb) : PEx X (.BinOp a op b pos) (tOp r ta tb) := ⟨pe_op ho ha.h hb.h⟩
theorem psx_setop {i : Nat} {x : Str} {a b : PySem.Expr} {op : Operator} {lp : Pos} {te : TE} {pos pos' : Pos} (hN : X.N.Nodup) (hi : X.N[i]? = some x) (hx : Loc X.env.scope x) (he : PEx X (.BinOp a op b lp) te)
    (hf : X.fn x = true ∨ X.env.scope.names.lookup x = some .local := by first | exact .inl rfl | exact .inr rfl | assumption) : PSx X (.Assign [.Name x pos'] (.BinOp a op b lp) pos) (tAsg te (gName i)) :=
  ⟨ps_set hN hi hx he.h (swaps_of rfl) hf⟩
end
end L2

namespace L2
open PySem PySem.Spec PySem.Calls PyProof.Rows
section
variable {K : PySem.W.Frag} {σ0 cs : St} {k : Nat} {g : TG} {te : TE} {H1 : Hp} {Q : VK}

end
section
variable {X : Cx}

end
end L2

namespace L2
open PySem PySem.Spec PySem.Calls PyProof.Rows

section
variable {prog : Program} {w : World} {A : Around} {E : Value → Shared → Prop} {s : Shared}
end


section
variable {X : Cx} {pins : List (Addr × Obj)} {σ : St}
end
end L2

namespace Qs
open PySem L2

def top (i : Nat) : Stmt := PySem.Challenge.pw_quartersheet_k72_no_text.main.body.getD i (.Pass ⟨0, 0, 0, 0⟩)

structure Tx (K : PySem.W.Frag) (mg : Str → Option Value) : Prop where
  b_isinstance : mg "isinstance" = none
  b_int : mg "int" = none
  b_bool : mg "bool" = none
  c_MOST : ∃ t, mg "MOST" = some (.int 40 t)
  b_tuple : mg "tuple" = none
  b_all : mg "all" = none
  b_len : mg "len" = none
  c_FIGURES : ∃ t, mg "FIGURES" = some (.str "0123456789" t)
  c_SIGNS : ∃ t, mg "SIGNS" = some (.str "0123456789abcdefghijklmnopqrstuvwxyz" t)
  b_range : mg "range" = none
  b_str : mg "str" = none
  b_list : mg "list" = none
  b_ValueError : mg "ValueError" = none
end Qs
namespace Qs
open PySem L2

theorem str_ext {a b : Str} (h : a.cps.toList = b.cps.toList) : a = b := by
  obtain ⟨a⟩ := a
  obtain ⟨b⟩ := b
  have h' : a.toList = b.toList := h
  have e : a = b := Array.toList_inj.mp h'
  rw [e]
theorem empty_eq : ("" : Str) = ⟨#[]⟩ := by decide +kernel
def pre (z : Str) (k : Nat) : Str := ⟨(z.cps.toList.take k).toArray⟩
theorem slice_pre (z : Str) (k : Nat) : Txt.slice z none (some (k : Int)) = pre z k := by
  by_cases h : k ≤ z.length
  · have e := PyProof.Rows.slice_closes_to (x := z) (j := (k : Int)) ⟨by omega, by rw [← len_eq]; omega⟩
    rw [beq_iff_eq] at e
    rw [e]
    unfold pre
    simp
  · have e : Builtin.Str.strSliceIndices none (some (k : Int)) 1 z.length = (List.range z.length).map fun j : Nat => (0 + 1 * (j : Int)).toNat := by
      unfold Builtin.Str.strSliceIndices
      dsimp only
      unfold sliceRange
      have h1 : ¬ (k : Int) < 0 := by omega
      have h2 : max (0 : Int) (min (k : Int) (z.length : Int)) = (z.length : Int) := by omega
      simp only [show (1 : Int) > 0 by decide, if_true, h1, if_false, h2]
      by_cases h0 : (0 : Int) < (z.length : Int)
      · rw [if_pos h0]
        have e3 : (((z.length : Int) - 0 + 1 - 1) / 1).toNat = z.length := by omega
        rw [e3]
      · rw [if_neg h0]
        have e3 : z.length = 0 := by omega
        rw [e3]; rfl
    unfold Txt.slice
    rw [e, List.length_map, List.length_range]
    rw [if_pos (by simp)]
    refine str_ext ?_
    unfold pre
    rw [List.take_of_length_le (by rw [← len_eq]; omega)]
theorem app_len (a b : Str) : (a ++ b).length = a.length + b.length := by
  show (a.cps ++ b.cps).size = _
  rw [Array.size_append]; rfl
end Qs
namespace Qs
open PySem L2

def oneB (a b c d : Tr) : Bool := a.isCol && (decide (a = a) && (decide (b = a) && (decide (c = a) && (decide (d = a) && true))))
def gath (a b c d : Tr) : Tr := if oneB a b c d then a else .four a b c d
def q0 : Tr → Tr | .col i => .col i | .four a _ _ _ => a
def q1 : Tr → Tr | .col i => .col i | .four _ b _ _ => b
def q2 : Tr → Tr | .col i => .col i | .four _ _ c _ => c
def q3 : Tr → Tr | .col i => .col i | .four _ _ _ d => d
theorem oneB_iff {a b c d : Tr} : oneB a b c d = true ↔ a.isCol = true ∧ b = a ∧ c = a ∧ d = a := by
  unfold oneB
  simp only [Bool.and_eq_true, decide_eq_true_eq, and_true, true_and]
theorem gath_deep {a b c d : Tr} {n : Nat} (ha : a.deep ≤ n) (hb : b.deep ≤ n) (hc : c.deep ≤ n) (hd : d.deep ≤ n) : (gath a b c d).deep ≤ n + 1 := by
  unfold gath
  split
  · omega
  · show max a.deep (max b.deep (max c.deep d.deep)) + 1 ≤ n + 1
    omega

def ShAt (H : Hp) (v : V) (n : Int) (t : Tr) : Prop := ∃ p x, v = .ref p ∧ H p = some (.tup [.int n, x]) ∧ TrAt H x t
theorem ShAt.up {H H' : Hp} {v : V} {n : Int} {t : Tr} (h : ShAt H v n t) (s : Tups H H') : ShAt H' v n t := by
  obtain ⟨p, x, e, hp, ht⟩ := h
  exact ⟨p, x, e, s _ _ hp, ht.up s⟩
theorem kit_it {K : PySem.W.Frag} : PySem.W.kitOne K (.type "int") (.type "tuple") = some false := by kernel_rfl

def qk (t : Tr) : Nat → Tr
  | 0 => q0 t
  | 1 => q1 t
  | 2 => q2 t
  | _ => q3 t
def put4 (t : Tr) (d : Nat) (x : Tr) : Tr := gath (if d = 0 then x else q0 t) (if d = 1 then x else q1 t) (if d = 2 then x else q2 t) (if d = 3 then x else q3 t)
def plant (t : Tr) : List Nat → Tr → Tr
  | [], o => o
  | d :: ds, o => put4 t d (plant (qk t d) ds o)
theorem qk_deep {t : Tr} {n d : Nat} (h : t.deep ≤ n + 1) : (qk t d).deep ≤ n := by
  cases t with
  | col i => rcases d with _ | _ | _ | d <;> exact Nat.zero_le _
  | four a b c e =>
    have h' : max a.deep (max b.deep (max c.deep e.deep)) + 1 ≤ n + 1 := h
    rcases d with _ | _ | _ | d
    · show a.deep ≤ n; omega
    · show b.deep ≤ n; omega
    · show c.deep ≤ n; omega
    · show e.deep ≤ n; omega
theorem qk_deep' {t : Tr} {n d : Nat} (h : t.deep ≤ n) : (qk t d).deep ≤ n := by
  rcases n with _ | n
  · cases t with
    | col i => rcases d with _ | _ | _ | d <;> exact Nat.zero_le _
    | four a b c e => exact absurd h (by show ¬ _ + 1 ≤ 0; omega)
  · exact Nat.le_succ_of_le (qk_deep h)
theorem put4_deep {t x : Tr} {n d : Nat} (h : t.deep ≤ n + 1) (hx : x.deep ≤ n) : (put4 t d x).deep ≤ n + 1 := by
  unfold put4
  have h0 := qk_deep (d := 0) h
  have h1 := qk_deep (d := 1) h
  have h2 := qk_deep (d := 2) h
  have h3 := qk_deep (d := 3) h
  refine gath_deep ?_ ?_ ?_ ?_ <;> split <;> assumption
def Good : Nat → Tr → Prop
  | _, .col i => 0 ≤ i ∧ i ≤ 35
  | 0, .four .. => False
  | n + 1, .four a b c d => Good n a ∧ Good n b ∧ Good n c ∧ Good n d ∧ oneB a b c d = false
theorem Good.deep : ∀ {n : Nat} {t : Tr}, Good n t → t.deep ≤ n
  | _, .col i, _ => Nat.zero_le _
  | 0, .four .., h => h.elim
  | n + 1, .four a b c d, ⟨ha, hb, hc, hd, _⟩ => by
    have := ha.deep
    have := hb.deep
    have := hc.deep
    have := hd.deep
    show max a.deep (max b.deep (max c.deep d.deep)) + 1 ≤ n + 1
    omega
theorem Good.col {n : Nat} {i : Int} (h : 0 ≤ i ∧ i ≤ 35) : Good n (.col i) := by cases n <;> exact h
theorem Good.q {n : Nat} {t : Tr} (h : Good (n + 1) t) (k : Nat) : Good n (qk t k) := by
  cases t with
  | col i =>
    have z : Good n (.col i) := Good.col h
    rcases k with _ | _ | _ | k <;> exact z
  | four a b c d =>
    obtain ⟨ha, hb, hc, hd, _⟩ := h
    rcases k with _ | _ | _ | k
    · exact ha
    · exact hb
    · exact hc
    · exact hd
theorem Good.up {n : Nat} {t : Tr} (h : Good n t) : Good (n + 1) t := by
  induction t generalizing n with
  | col i => exact Good.col (by cases n <;> exact h)
  | four a b c d ia ib ic id =>
    cases n with
    | zero => exact h.elim
    | succ n =>
      obtain ⟨ha, hb, hc, hd, ho⟩ := h
      exact ⟨ia ha, ib hb, ic hc, id hd, ho⟩
theorem good_gath {n : Nat} {a b c d : Tr} (ha : Good n a) (hb : Good n b) (hc : Good n c) (hd : Good n d) : Good (n + 1) (gath a b c d) := by
  unfold gath
  split
  · exact ha.up
  · rename_i h
    exact ⟨ha, hb, hc, hd, by simpa using h⟩
theorem good_put4 {n d : Nat} {t x : Tr} (h : Good (n + 1) t) (hx : Good n x) : Good (n + 1) (put4 t d x) := by
  unfold put4
  have h0 := h.q 0
  have h1 := h.q 1
  have h2 := h.q 2
  have h3 := h.q 3
  refine good_gath ?_ ?_ ?_ ?_ <;> split <;> assumption
theorem good_plant : ∀ {n : Nat} {ds : List Nat} {t o : Tr}, ds.length ≤ n → Good n t → Good (n - ds.length) o → Good n (plant t ds o)
  | n, [], t, o, _, _, h => h
  | 0, d :: ds, t, o, hl, _, _ => by simp at hl
  | n + 1, d :: ds, t, o, hl, ht, ho => by
    have hl' : ds.length ≤ n := by simpa using hl
    refine good_put4 ht (good_plant hl' (ht.q d) ?_)
    have e : n + 1 - (d :: ds).length = n - ds.length := by simp
    rw [e] at ho
    exact ho
theorem plant_deep : ∀ (ds : List Nat) (n : Nat) (t o : Tr), t.deep ≤ n → o.deep + ds.length ≤ n → (plant t ds o).deep ≤ n
  | [], n, t, o, _, h => by show o.deep ≤ n; simpa using h
  | d :: ds, 0, t, o, _, h => by simp at h
  | d :: ds, n + 1, t, o, ht, ho => by
    have ho' : o.deep + ds.length ≤ n := by simp at ho; omega
    exact put4_deep ht (plant_deep ds n (qk t d) o (qk_deep ht) ho')
section
variable {P : Program} {w : World} {K : PySem.W.Frag} {mg : Str → Option Value} {base : Heap} {CX : CXT} {f : Addr} {fd : FuncData}
theorem at4 {α : Type} {a b c d x : α} {i : Nat} (h : [a, b, c, d][i]? = some x) : (i = 0 ∧ x = a) ∨ (i = 1 ∧ x = b) ∨ (i = 2 ∧ x = c) ∨ (i = 3 ∧ x = d) := by
  rcases i with _ | _ | _ | _ | i
  · exact .inl ⟨rfl, (Option.some.inj h).symm⟩
  · exact .inr (.inl ⟨rfl, (Option.some.inj h).symm⟩)
  · exact .inr (.inr (.inl ⟨rfl, (Option.some.inj h).symm⟩))
  · exact .inr (.inr (.inr ⟨rfl, (Option.some.inj h).symm⟩))
  · simp at h
theorem str_eq_nil {z : Str} : (z = ("" : Str)) ↔ z.length = 0 := by
  constructor
  · rintro rfl; decide +kernel
  · intro h
    apply str_ext
    have e : z.cps.toList = [] := List.eq_nil_of_length_eq_zero (by rw [← len_eq]; exact h)
    rw [e]; decide +kernel

def rst (z : Str) : Str := ⟨(z.cps.toList.drop 1).toArray⟩
theorem slice_rst {z : Str} (h : 0 < z.length) : Txt.slice z (some 1) none = rst z := by
  have e := PyProof.Rows.slice_closes_from (x := z) (i := 1) ⟨by decide, by rw [← len_eq]; omega⟩
  rw [beq_iff_eq] at e
  rw [e]
  unfold rst
  congr 2
  show (z.cps.toList.drop 1).take ((z.cps.toList.length : Int) - 1).toNat = _
  rw [List.take_of_length_le]
  rw [List.length_drop, ← len_eq]; omega
theorem rst_len (z : Str) : (rst z).length = z.length - 1 := by rw [len_eq, len_eq]; simp [rst]
theorem rst_isC {z : Str} (h : IsC z) : IsC (rst z) := fun c hc => h c (by
  have hc' : c ∈ z.cps.toList.drop 1 := by simpa [rst] using hc
  exact List.mem_of_mem_drop hc')
theorem at_zero {z : Str} (h : 0 < z.length) : atI z.cps.toList 0 = some (z.cps.getD 0 0) := by
  have hs : 0 < z.cps.size := h
  refine atI_nat (j := 0) ?_
  simp [Array.getD_eq_getD_getElem?, hs]
theorem Same.none {H H' : Hp} {l : Addr} (s : Same H H') (h : H' l = none) : H l = none := by
  cases q : H l with
  | none => rfl
  | some o => rw [s _ _ q] at h; cases h
theorem dig_empty : dig ("" : Str) = [] := by decide +kernel
theorem dig_rst {z : Str} (h : 0 < z.length) : dig z = (z.cps.getD 0 0 - 48) :: dig (rst z) := by
  have hs : 0 < z.cps.size := h
  have hl : 0 < z.cps.toList.length := by simpa using hs
  have e : z.cps.toList = z.cps.getD 0 0 :: z.cps.toList.drop 1 := by
    have e1 := List.drop_eq_getElem_cons (l := z.cps.toList) (i := 0) hl
    rw [List.drop_zero] at e1
    have e2 : z.cps.getD 0 0 = z.cps.toList[0] := by simp [Array.getD_eq_getD_getElem?, hs]
    rw [e2]; exact e1
  unfold dig rst
  conv => lhs; rw [e]
  rfl
end
end Qs
namespace Qs
open PySem L2
def cnt : Tr → Nat
  | .col _ => 1
  | .four a b c d => cnt a + cnt b + cnt c + cnt d
theorem cnt_gath (a b c d : Tr) : cnt (gath a b c d) ≤ cnt a + cnt b + cnt c + cnt d := by
  unfold gath
  split
  · omega
  · exact Nat.le_refl _
theorem cnt_q {t : Tr} : cnt (q0 t) + cnt (q1 t) + cnt (q2 t) + cnt (q3 t) ≤ cnt t + 3 := by
  cases t with
  | col i => show 1 + 1 + 1 + 1 ≤ 1 + 3; decide
  | four a b c d => show cnt a + cnt b + cnt c + cnt d ≤ cnt a + cnt b + cnt c + cnt d + 3; omega
theorem cnt_put4 {t x : Tr} {d : Nat} (hd : d < 4) : cnt (put4 t d x) + cnt (qk t d) ≤ cnt t + 3 + cnt x := by
  unfold put4
  have h := cnt_gath (if d = 0 then x else q0 t) (if d = 1 then x else q1 t) (if d = 2 then x else q2 t) (if d = 3 then x else q3 t)
  have h2 := cnt_q (t := t)
  generalize gath (if d = 0 then x else q0 t) (if d = 1 then x else q1 t) (if d = 2 then x else q2 t) (if d = 3 then x else q3 t) = g at *
  rcases d with _ | _ | _ | _ | d
  · have h' : cnt g ≤ cnt x + cnt (q1 t) + cnt (q2 t) + cnt (q3 t) := h
    show cnt g + cnt (q0 t) ≤ _
    omega
  · have h' : cnt g ≤ cnt (q0 t) + cnt x + cnt (q2 t) + cnt (q3 t) := h
    show cnt g + cnt (q1 t) ≤ _
    omega
  · have h' : cnt g ≤ cnt (q0 t) + cnt (q1 t) + cnt x + cnt (q3 t) := h
    show cnt g + cnt (q2 t) ≤ _
    omega
  · have h' : cnt g ≤ cnt (q0 t) + cnt (q1 t) + cnt (q2 t) + cnt x := h
    show cnt g + cnt (q3 t) ≤ _
    omega
  · omega
theorem cnt_plant : ∀ (ds : List Nat) (t o : Tr), (∀ d ∈ ds, d < 4) → cnt (plant t ds o) ≤ cnt t + 3 * ds.length + cnt o
  | [], t, o, _ => by show cnt o ≤ _; omega
  | d :: ds, t, o, h => by
    have h1 := cnt_put4 (t := t) (x := plant (qk t d) ds o) (h d List.mem_cons_self)
    have h2 := cnt_plant ds (qk t d) o fun x hx => h x (List.mem_cons_of_mem _ hx)
    show cnt (put4 t d (plant (qk t d) ds o)) ≤ _
    rw [List.length_cons]
    omega
theorem four_of (m : Int) : ∃ d : Nat, d < 4 ∧ m % 4 = (d : Int) := ⟨(m % 4).toNat, by omega, by omega⟩
theorem dig_lt {z : Str} (hz : IsC z) : ∀ d ∈ dig z, d < 4 := fun d h => by
  obtain ⟨c, hc, rfl⟩ := List.mem_map.mp h
  have := hz c hc
  omega
def cp (c : Nat) : Nat := if c < 10 then 48 + c else 87 + c
def tx (l : List Nat) : Str := ⟨l.toArray⟩
theorem tx_list (z : Str) : tx z.cps.toList = z := by unfold tx; simp
theorem tx_cps (l : List Nat) : (tx l).cps.toList = l := by unfold tx; simp
theorem tx_len (l : List Nat) : (tx l).length = l.length := by rw [len_eq, tx_cps]
theorem tx_app (a b : List Nat) : tx a ++ tx b = tx (a ++ b) := by
  refine str_ext ?_
  show ((tx a).cps ++ (tx b).cps).toList = _
  rw [Array.toList_append, tx_cps, tx_cps, tx_cps]
theorem tx_join : ∀ ls : List (List Nat), Txt.join ("" : Str) (ls.map tx) = tx ls.flatten := by
  intro ls
  have key : ∀ ls : List (List Nat), Str.join ⟨#[]⟩ (ls.map tx) = tx ls.flatten := by
    intro ls
    induction ls with
    | nil => rfl
    | cons d r ih =>
      cases r with
      | nil =>
        show tx d = tx (d ++ [])
        rw [List.append_nil]
      | cons e r =>
        show (tx d ++ ⟨#[]⟩ ++ Str.join ⟨#[]⟩ ((e :: r).map tx)) = _
        rw [ih]
        have e0 : (⟨#[]⟩ : Str) = tx [] := rfl
        rw [e0, tx_app, tx_app, List.append_nil]
        rfl
  rw [empty_eq]
  show Builtin.Str.glued ⟨#[]⟩ (ls.map tx) = _
  rw [StrLaws.glued_eq_join]
  exact key ls

def wr : Tr → List Nat
  | .col i => [cp i.toNat]
  | .four a b c d => 43 :: (wr a ++ (wr b ++ (wr c ++ wr d)))

theorem gath_no {a b c d : Tr} (h : oneB a b c d = false) : gath a b c d = .four a b c d := by
  unfold gath; rw [if_neg (by rw [h]; decide)]
theorem wr_len : ∀ t : Tr, (wr t).length + 1 ≤ 2 * cnt t
  | .col i => by show 1 + 1 ≤ 2 * 1; decide
  | .four a b c d => by
    have ha := wr_len a
    have hb := wr_len b
    have hc := wr_len c
    have hd := wr_len d
    show (wr a ++ (wr b ++ (wr c ++ wr d))).length + 1 + 1 ≤ 2 * (cnt a + cnt b + cnt c + cnt d)
    rw [List.length_append, List.length_append, List.length_append]
    omega

theorem slice_one {z : Str} {k c : Nat} (h : z.cps.toList[k]? = some c) : Txt.slice z (some (k : Int)) (some ((k : Int) + 1)) = tx [c] := by
  have hk : k < z.cps.toList.length := (List.getElem?_eq_some_iff.mp h).1
  have e := PyProof.Rows.slice_closes (x := z) (i := (k : Int)) (j := (k : Int) + 1) ⟨by omega, by omega, by omega⟩
  rw [beq_iff_eq] at e
  rw [e]
  have e1 : ((k : Int) + 1 - (k : Int)).toNat = 1 := by omega
  rw [e1, Int.toNat_natCast]
  unfold tx
  congr 2
  obtain ⟨hi, e2⟩ := List.getElem?_eq_some_iff.mp h
  rw [List.drop_eq_getElem_cons hi, e2]
  rfl
theorem plus_eq : ("+" : Str) = tx [43] := by decide +kernel
theorem colon_eq : (":" : Str) = tx [58] := by decide +kernel
theorem signs_eq : ("0123456789abcdefghijklmnopqrstuvwxyz" : Str) = tx ((List.range 36).map cp) := by decide +kernel
theorem cp_ne {c : Nat} (h : c < 36) : cp c ≠ 43 := by unfold cp; split <;> omega
theorem tx_inj {a b : List Nat} (h : tx a = tx b) : a = b := by
  have := congrArg (fun s : Str => s.cps.toList) h
  simpa [tx] using this
theorem occ_sign : ∀ c, c < 36 → Builtin.Str.occurrences ("0123456789abcdefghijklmnopqrstuvwxyz" : Str) (tx [cp c]) 0 ("0123456789abcdefghijklmnopqrstuvwxyz" : Str).length 1 = [c] := by decide +kernel
theorem at_sign : ∀ c : Nat, c < 36 → atI ("0123456789abcdefghijklmnopqrstuvwxyz" : Str).cps.toList (c : Int) = some (cp c) := by decide +kernel

def lv (n : Nat) : List Nat := if n < 10 then [48 + n] else [48 + n / 10, 48 + n % 10]
theorem lv_str : ∀ n : Nat, n < 41 → (Str.ofString (toString (n : Int))) = tx (lv n) := by decide +kernel
theorem lv_dig : ∀ n : Nat, n < 41 → ∀ c ∈ lv n, 48 ≤ c ∧ c ≤ 57 := by decide +kernel
theorem lv_len : ∀ n : Nat, n < 41 → 1 ≤ (lv n).length ∧ (lv n).length ≤ 2 := by decide +kernel
theorem lv_free {n : Nat} (h : n < 41) : 58 ∉ lv n := fun z => by
  have := lv_dig n h 58 z
  omega
def sgI (c : Nat) : Option Nat := if 48 ≤ c ∧ c ≤ 57 then some (c - 48) else if 97 ≤ c ∧ c ≤ 122 then some (c - 87) else none
theorem sgI_some {c d : Nat} (h : sgI c = some d) : d < 36 ∧ c = cp d := by
  unfold sgI at h
  split at h
  · cases h
    refine ⟨by omega, ?_⟩
    unfold cp
    rw [if_pos (by omega)]
    omega
  · split at h
    · cases h
      refine ⟨by omega, ?_⟩
      unfold cp
      rw [if_neg (by omega)]
      omega
    · cases h
theorem sgI_cp : ∀ d : Nat, d < 36 → sgI (cp d) = some d := by decide +kernel
theorem sgI_none {c : Nat} (h : sgI c = none) : c ∉ ("0123456789abcdefghijklmnopqrstuvwxyz" : Str).cps.toList := by
  rw [signs_eq, tx_cps]
  intro hc
  obtain ⟨d, hd, rfl⟩ := List.mem_map.mp hc
  rw [sgI_cp d (List.mem_range.mp hd)] at h
  cases h
theorem sgI_occ {c : Nat} (h : sgI c = none) : Builtin.Str.occurrences ("0123456789abcdefghijklmnopqrstuvwxyz" : Str) (tx [c]) 0 ("0123456789abcdefghijklmnopqrstuvwxyz" : Str).length 1 = [] := by
  have f := PySem.StrLaws.found_one ("0123456789abcdefghijklmnopqrstuvwxyz" : Str) c
  rw [decide_eq_false (sgI_none h)] at f
  have f' : (!(Builtin.Str.occurrences ("0123456789abcdefghijklmnopqrstuvwxyz" : Str) (tx [c]) 0 ("0123456789abcdefghijklmnopqrstuvwxyz" : Str).length 1).isEmpty) = false := f
  cases e : Builtin.Str.occurrences ("0123456789abcdefghijklmnopqrstuvwxyz" : Str) (tx [c]) 0 ("0123456789abcdefghijklmnopqrstuvwxyz" : Str).length 1 with
  | nil => rfl
  | cons a r => rw [e] at f'; cases f'
def gath4 : List Tr → Tr
  | [a, b, c, d] => gath a b c d
  | _ => .col 0
def rdN (sub : List Nat → Option (Tr × List Nat)) : Nat → List Nat → Option (List Tr × List Nat)
  | 0, w => some ([], w)
  | k + 1, w => match rdN sub k w with
    | none => none
    | some (ts, r) => match sub r with
      | none => none
      | some (t, r') => some (ts ++ [t], r')
def rdH (sub : List Nat → Option (Tr × List Nat)) : List Nat → Option (Tr × List Nat)
  | [] => none
  | c :: r => match sgI c with
    | some d => some (.col (d : Int), r)
    | none => if c = 43 then (match rdN sub 4 r with | none => none | some (ts, r') => some (gath4 ts, r')) else none
theorem rdH_cons (sub : List Nat → Option (Tr × List Nat)) (c : Nat) (r : List Nat) : rdH sub (c :: r) = (match sgI c with | some d => some (.col (d : Int), r) | none => if c = 43 then (match rdN sub 4 r with | none => none | some (ts, r') => some (gath4 ts, r')) else none) := rfl

def rdT : Nat → List Nat → Option (Tr × List Nat)
  | 0 => rdH fun _ => none
  | l + 1 => rdH (rdT l)
theorem rdT_nil : ∀ l, rdT l [] = none
  | 0 => rfl
  | _ + 1 => rfl
theorem rdT_sign {c d : Nat} (h : sgI c = some d) (r : List Nat) : ∀ l, rdT l (c :: r) = some (.col (d : Int), r)
  | 0 => by show rdH _ (c :: r) = _; rw [rdH_cons, h]
  | _ + 1 => by show rdH _ (c :: r) = _; rw [rdH_cons, h]
theorem rdT_other {c : Nat} (h : sgI c = none) (h3 : c ≠ 43) (r : List Nat) : ∀ l, rdT l (c :: r) = none
  | 0 => by show rdH _ (c :: r) = _; rw [rdH_cons, h]; exact if_neg h3
  | _ + 1 => by show rdH _ (c :: r) = _; rw [rdH_cons, h]; exact if_neg h3
theorem sgI_plus : sgI 43 = none := by decide
theorem rdN_none (sub : List Nat → Option (Tr × List Nat)) {k : Nat} {w : List Nat} (h : rdN sub k w = none) : ∀ j, rdN sub (k + j) w = none
  | 0 => h
  | j + 1 => by
    show (match rdN sub (k + j) w with | none => none | some (ts, r) => _) = _
    rw [rdN_none sub h j]
theorem rdT_plus0 (r : List Nat) : rdT 0 (43 :: r) = none := by
  show rdH _ (43 :: r) = _
  rw [rdH_cons, sgI_plus]
  have h1 : rdN (fun _ => none) 1 r = none := rfl
  have h4 := rdN_none (fun _ => none) h1 3
  show (if 43 = 43 then _ else _) = _
  rw [if_pos rfl, h4]
theorem rdT_plus (l : Nat) (r : List Nat) : rdT (l + 1) (43 :: r) = (match rdN (rdT l) 4 r with | none => none | some (ts, r') => some (gath4 ts, r')) := by
  show rdH _ (43 :: r) = _
  rw [rdH_cons, sgI_plus]
  exact if_pos rfl
theorem rdN_step (sub : List Nat → Option (Tr × List Nat)) {k : Nat} {w r r' : List Nat} {ts : List Tr} {t : Tr} (h : rdN sub k w = some (ts, r)) (h2 : sub r = some (t, r')) : rdN sub (k + 1) w = some (ts ++ [t], r') := by
  show (match rdN sub k w with | none => none | some (ts, r) => _) = _
  rw [h]
  show (match sub r with | none => none | some (t, r') => _) = _
  rw [h2]
theorem rdN_stop (sub : List Nat → Option (Tr × List Nat)) {k : Nat} {w r : List Nat} {ts : List Tr} (h : rdN sub k w = some (ts, r)) (h2 : sub r = none) : rdN sub (k + 1) w = none := by
  show (match rdN sub k w with | none => none | some (ts, r) => _) = _
  rw [h]
  show (match sub r with | none => none | some (t, r') => _) = _
  rw [h2]
theorem rdN_ok {sub : List Nat → Option (Tr × List Nat)} {n : Nat} (hs : ∀ w t r, sub w = some (t, r) → Good n t ∧ r <:+ w) : ∀ (k : Nat) (w : List Nat) (ts : List Tr) (r : List Nat), rdN sub k w = some (ts, r) → (∀ t ∈ ts, Good n t) ∧ r <:+ w ∧ ts.length = k
  | 0, w, ts, r, h => by
    cases h
    exact ⟨(fun t ht => by cases ht), List.suffix_refl _, rfl⟩
  | k + 1, w, ts, r, h => by
    cases h1 : rdN sub k w with
    | none => rw [rdN_none sub h1 1] at h; cases h
    | some p =>
      obtain ⟨ts', r'⟩ := p
      obtain ⟨g, sf, ln⟩ := rdN_ok hs k w ts' r' h1
      cases h2 : sub r' with
      | none => rw [rdN_stop sub h1 h2] at h; cases h
      | some p =>
        obtain ⟨t, r''⟩ := p
        rw [rdN_step sub h1 h2] at h
        cases h
        obtain ⟨g2, sf2⟩ := hs _ _ _ h2
        refine ⟨fun x hx => ?_, sf2.trans sf, by rw [List.length_append, ln]; rfl⟩
        rcases List.mem_append.mp hx with hx | hx
        · exact g x hx
        · rw [List.mem_singleton.mp hx]; exact g2
theorem rdT_ok : ∀ (l : Nat) (w : List Nat) (t : Tr) (r : List Nat), rdT l w = some (t, r) → Good l t ∧ r <:+ w := by
  intro l
  induction l with
  | zero =>
    intro w t r h
    rcases w with _ | ⟨c, w⟩
    · rw [rdT_nil] at h; cases h
    cases hs : sgI c with
    | some d =>
      rw [rdT_sign hs] at h
      cases h
      have := (sgI_some hs).1
      exact ⟨Good.col ⟨by omega, by omega⟩, List.suffix_cons _ _⟩
    | none =>
      by_cases h3 : c = 43
      · subst h3
        rw [rdT_plus0] at h; cases h
      · rw [rdT_other hs h3] at h; cases h
  | succ l ih =>
    intro w t r h
    rcases w with _ | ⟨c, w⟩
    · rw [rdT_nil] at h; cases h
    cases hs : sgI c with
    | some d =>
      rw [rdT_sign hs] at h
      cases h
      have := (sgI_some hs).1
      exact ⟨Good.col ⟨by omega, by omega⟩, List.suffix_cons _ _⟩
    | none =>
      by_cases h3 : c = 43
      · subst h3
        rw [rdT_plus] at h
        cases h4 : rdN (rdT l) 4 w with
        | none => rw [h4] at h; cases h
        | some p =>
          obtain ⟨ts, r'⟩ := p
          rw [h4] at h
          cases h
          obtain ⟨g, sf, ln⟩ := rdN_ok ih 4 w ts r h4
          refine ⟨?_, sf.trans (List.suffix_cons _ _)⟩
          match ts, ln with
          | [a, b, c, d], _ => exact good_gath (g a (by simp)) (g b (by simp)) (g c (by simp)) (g d (by simp))
      · rw [rdT_other hs h3] at h; cases h
theorem suf_at {r w0 : List Nat} (h : r <:+ w0) : w0.drop (w0.length - r.length) = r := (List.suffix_iff_eq_drop.mp h).symm
theorem suf_get {c : Nat} {r w0 : List Nat} (h : c :: r <:+ w0) : w0[w0.length - (c :: r).length]? = some c := by
  have e := suf_at h
  have : (w0.drop (w0.length - (c :: r).length))[0]? = some c := by rw [e]; rfl
  simpa using this
theorem suf_next {c : Nat} {r w0 : List Nat} (h : c :: r <:+ w0) : w0.length - (c :: r).length + 1 = w0.length - r.length := by
  have := h.length_le
  rw [List.length_cons] at this ⊢
  omega

def cut58 (w : List Nat) : Option (List Nat × List Nat) := if 58 ∈ w then some (w.takeWhile (fun c => c != 58), (w.dropWhile (fun c => c != 58)).drop 1) else none
theorem cut58_some {w a b : List Nat} (h : cut58 w = some (a, b)) : w = a ++ 58 :: b ∧ 58 ∉ a := by
  unfold cut58 at h
  split at h
  · rename_i hm
    cases h
    refine ⟨?_, fun hx => ?_⟩
    · have e := List.takeWhile_append_dropWhile (p := fun c => c != 58) (l := w)
      cases hd : w.dropWhile (fun c => c != 58) with
      | nil =>
        rw [hd, List.append_nil] at e
        rw [← e] at hm
        have := List.all_eq_true.mp List.all_takeWhile _ hm
        simp at this
      | cons c r =>
        have hc : c = 58 := by
          have := List.head_dropWhile_not (p := fun c => c != 58) (l := w) (by rw [hd]; simp)
          simp only [hd, List.head_cons] at this
          simpa using this
        rw [hd, hc] at e
        rw [List.drop_one, List.tail_cons]
        exact e.symm
    · have := List.all_eq_true.mp List.all_takeWhile _ hx
      simp at this
  · cases h
theorem cut58_none {w : List Nat} (h : cut58 w = none) : 58 ∉ w := by
  unfold cut58 at h
  split at h
  · cases h
  · assumption

def lvI (w : List Nat) : Option Nat := (List.range 41).find? fun k => lv k == w
theorem lv_inj : ∀ a : Nat, a < 41 → ∀ b : Nat, b < 41 → lv a = lv b → a = b := by decide +kernel
theorem lvI_some {w : List Nat} {n : Nat} (h : lvI w = some n) : n ≤ 40 ∧ w = lv n := by
  unfold lvI at h
  have h1 := List.find?_some h
  have h2 := List.mem_range.mp (List.mem_of_find?_eq_some h)
  exact ⟨by omega, (beq_iff_eq.mp h1).symm⟩
theorem lvI_lv {n : Nat} (h : n ≤ 40) : lvI (lv n) = some n := by
  cases e : lvI (lv n) with
  | none =>
    unfold lvI at e
    have := List.find?_eq_none.mp e n (List.mem_range.mpr (by omega))
    simp at this
  | some k =>
    obtain ⟨h1, h2⟩ := lvI_some e
    rw [lv_inj n (by omega) k (by omega) h2]

def rdS (w : List Nat) : Option (Nat × Tr) := match cut58 w with
  | none => none
  | some (a, b) => match lvI a with
    | none => none
    | some n => match rdT n b with
      | some (t, []) => some (n, t)
      | _ => none
theorem at58 {w : List Nat} {i : Nat} : PySem.StrLaws.At (tx w) (tx [58]) (tx w).length i ↔ w[i]? = some 58 := by
  have l1 : (tx [58]).length = 1 := tx_len _
  unfold PySem.StrLaws.At
  rw [PySem.StrLaws.subAt_eq, tx_cps, tx_cps, l1, tx_len, beq_iff_eq]
  constructor
  · rintro ⟨h1, h2⟩
    cases hd : w.drop i with
    | nil => rw [hd] at h2; cases h2
    | cons e r =>
      rw [hd] at h2
      have e1 : e = 58 := by simpa using h2
      have e2 : w[i]? = (w.drop i)[0]? := by simp
      rw [e2, hd, e1]; rfl
  · intro h
    obtain ⟨hi, e⟩ := List.getElem?_eq_some_iff.mp h
    refine ⟨by omega, ?_⟩
    rw [List.drop_eq_getElem_cons hi, e]
    rfl
theorem occ_no {w : List Nat} (h : 58 ∉ w) : Builtin.Str.occurrences (tx w) (tx [58]) 0 (tx w).length 1 = [] := by
  rcases PySem.StrLaws.occ_head (tx w) (tx [58]) 1 (Nat.le_refl _) with ⟨e, _⟩ | ⟨i, r, _, ha, _⟩
  · exact e
  · exact absurd (List.mem_of_getElem? (at58.mp ha)) h
theorem occ_yes {a b : List Nat} (h : 58 ∉ a) : ∃ r, Builtin.Str.occurrences (tx (a ++ 58 :: b)) (tx [58]) 0 (tx (a ++ 58 :: b)).length 1 = a.length :: r := by
  have here : (a ++ 58 :: b)[a.length]? = some 58 := by simp
  rcases PySem.StrLaws.occ_head (tx (a ++ 58 :: b)) (tx [58]) 1 (Nat.le_refl _) with ⟨_, no⟩ | ⟨i, r, e, ha, hb⟩
  · exact absurd (at58.mpr here) (no a.length)
  · have gi := at58.mp ha
    have h1 : ¬ i < a.length := fun hi => by
      rw [List.getElem?_append_left hi] at gi
      exact h (List.mem_of_getElem? gi)
    have h2 : ¬ a.length < i := fun hi => hb a.length hi (at58.mpr here)
    have ei : i = a.length := by omega
    subst ei
    exact ⟨r, e⟩
theorem part_no {w : List Nat} (h : 58 ∉ w) : Txt.partition (tx w) (":" : Str) = (tx w, tx [], tx []) := by
  rw [colon_eq]
  unfold Txt.partition
  rw [occ_no h]
  rfl
theorem part_yes {a b : List Nat} (h : 58 ∉ a) : Txt.partition (tx (a ++ 58 :: b)) (":" : Str) = (tx a, tx [58], tx b) := by
  rw [colon_eq]
  obtain ⟨r, e⟩ := occ_yes (b := b) h
  have l1 : (tx [58]).length = 1 := tx_len _
  unfold Txt.partition
  rw [e]
  show (Builtin.Str.strSub _ 0 a.length, tx [58], Builtin.Str.strSub _ (a.length + (tx [58]).length) _) = _
  have e1 : Builtin.Str.strSub (tx (a ++ 58 :: b)) 0 a.length = tx a := by
    refine str_ext ?_
    rw [PySem.StrLaws.strSub_toList, tx_cps, tx_cps, List.drop_zero, Nat.sub_zero]
    simp
  have e2 : Builtin.Str.strSub (tx (a ++ 58 :: b)) (a.length + (tx [58]).length) (tx (a ++ 58 :: b)).length = tx b := by
    refine str_ext ?_
    rw [PySem.StrLaws.strSub_toList, tx_cps, tx_cps, tx_len, l1]
    have e3 : (a ++ 58 :: b).drop (a.length + 1) = b := by
      rw [show a ++ 58 :: b = (a ++ [58]) ++ b by simp]
      exact List.drop_left' (by simp)
    rw [e3]
    exact List.take_of_length_le (by simp; omega)
  rw [e1, e2]
theorem find_no {w : List Nat} (h : 58 ∉ w) : Txt.find (tx w) (":" : Str) = -1 := by
  rw [colon_eq]; unfold Txt.find; rw [occ_no h]
theorem find_yes {a b : List Nat} (h : 58 ∉ a) : Txt.find (tx (a ++ 58 :: b)) (":" : Str) = (a.length : Int) := by
  rw [colon_eq]
  obtain ⟨r, e⟩ := occ_yes (b := b) h
  unfold Txt.find
  rw [e]
theorem slice_end (w : List Nat) : Txt.slice (tx w) (some ((w.length : Nat) : Int)) (some (((w.length : Nat) : Int) + 1)) = tx [] := by
  have e : Builtin.Str.strSliceIndices (some ((w.length : Nat) : Int)) (some (((w.length : Nat) : Int) + 1)) 1 (tx w).length = [] := by
    rw [tx_len]
    unfold Builtin.Str.strSliceIndices
    dsimp only
    unfold sliceRange
    have h1 : ¬ ((w.length : Nat) : Int) < 0 := by omega
    have h3 : ¬ ((w.length : Nat) : Int) + 1 < 0 := by omega
    have h2 : max (0 : Int) (min ((w.length : Nat) : Int) ((w.length : Nat) : Int)) = ((w.length : Nat) : Int) := by omega
    have h4 : max (0 : Int) (min (((w.length : Nat) : Int) + 1) ((w.length : Nat) : Int)) = ((w.length : Nat) : Int) := by omega
    simp only [show (1 : Int) > 0 by decide, if_true, h1, h3, if_false, h2, h4]
    rw [if_neg (by omega)]
    first | rfl | simp
  unfold Txt.slice
  rw [e]
  refine str_ext ?_
  rw [tx_cps]
  by_cases h0 : w.length = 0
  · have : w = [] := List.length_eq_zero_iff.mp h0
    subst this
    decide +kernel
  · first | rw [if_neg (by simp [tx_len]; omega)] | skip
    first | rfl | simp
end Qs


namespace Qs
open PySem L2
set_option genInjectivity false in
structure Yx (K : PySem.W.Frag) (mg : Str → Option Value) where
  c_NoLevel : Addr
  c_NoCode : Addr
  c_NoColour : Addr
  c_NoPlace : Addr
  c_NoSide : Addr
  c_NoLeaf : Addr
  c_Twice : Addr
  c_Gap : Addr
  c_NoText : Addr
  c_NoName : Addr
  c_NoNumber : Addr
  c_NoRow : Addr
  c_SheetError : Addr
  m_NoLevel : mg "NoLevel" = some (.ref c_NoLevel)
  m_NoCode : mg "NoCode" = some (.ref c_NoCode)
  m_NoColour : mg "NoColour" = some (.ref c_NoColour)
  m_NoPlace : mg "NoPlace" = some (.ref c_NoPlace)
  m_NoSide : mg "NoSide" = some (.ref c_NoSide)
  m_NoLeaf : mg "NoLeaf" = some (.ref c_NoLeaf)
  m_Twice : mg "Twice" = some (.ref c_Twice)
  m_Gap : mg "Gap" = some (.ref c_Gap)
  m_NoText : mg "NoText" = some (.ref c_NoText)
  m_NoName : mg "NoName" = some (.ref c_NoName)
  m_NoNumber : mg "NoNumber" = some (.ref c_NoNumber)
  m_NoRow : mg "NoRow" = some (.ref c_NoRow)
  m_SheetError : mg "SheetError" = some (.ref c_SheetError)
  x_NoText : OwnX K mg "NoText" c_NoText
  k_NoText : ExcC K c_NoText
  s_NoText : PySem.W.exmOne K (.ref c_NoText) (.ref c_SheetError) = some true
  v_NoText : PySem.W.kitOne K (.ref c_NoText) (.type "ValueError") = some true
  b_NoText : PySem.W.kitOne K (.ref c_NoText) (.ref c_SheetError) = some true
  e_NoText : PySem.W.exmOne K (.ref c_NoText) (.ref c_NoText) = some true
  t_NoText_NoLevel : PySem.W.kitOne K (.ref c_NoText) (.ref c_NoLevel) = some false
  t_NoText_NoCode : PySem.W.kitOne K (.ref c_NoText) (.ref c_NoCode) = some false
  t_NoText_NoColour : PySem.W.kitOne K (.ref c_NoText) (.ref c_NoColour) = some false
  t_NoText_NoPlace : PySem.W.kitOne K (.ref c_NoText) (.ref c_NoPlace) = some false
  t_NoText_NoSide : PySem.W.kitOne K (.ref c_NoText) (.ref c_NoSide) = some false
  t_NoText_NoLeaf : PySem.W.kitOne K (.ref c_NoText) (.ref c_NoLeaf) = some false
  t_NoText_Twice : PySem.W.kitOne K (.ref c_NoText) (.ref c_Twice) = some false
  t_NoText_Gap : PySem.W.kitOne K (.ref c_NoText) (.ref c_Gap) = some false
  t_NoText_NoName : PySem.W.kitOne K (.ref c_NoText) (.ref c_NoName) = some false
  t_NoText_NoNumber : PySem.W.kitOne K (.ref c_NoText) (.ref c_NoNumber) = some false
  t_NoText_NoRow : PySem.W.kitOne K (.ref c_NoText) (.ref c_NoRow) = some false
section
variable {P : Program} {w : World} {K : PySem.W.Frag} {mg : Str → Option Value} {base : Heap} {CX : CXT} {f : Addr} {fd : FuncData}
abbrev s_is_whole : Stmt := top 16
theorem sc_is_whole : FnScope ["thing"] ["thing"] (defScope s_is_whole) := ⟨rfl, rfl, rfl, by decide +kernel, rfl, by decide +kernel, by decide +kernel⟩
def sp_is_whole (K : PySem.W.Frag) : Sp := fun vs H Q _ => ∃ x, vs = [x] ∧ ((∃ i, x = .int i ∧ Q (.bl true) H) ∨ (∃ b, x = .bl b ∧ Q (.bl false) H) ∨ ∃ t, TyOf K H x t ∧ PySem.W.kitOne K t (.type "int") = some false ∧ Q (.bl false) H)
theorem ok_is_whole (T : Tx K mg) (F : FunD K "is_whole" "is_whole" s_is_whole f fd .none) : FnOk P w K mg base CX 1 f fd ["thing"] (sp_is_whole K) := by
  refine F.ok sc_is_whole (fun vs H Q E h => ?_) (fun cdv A outer s H vs Q E hr h => ?_)
  · obtain ⟨x, rfl, _⟩ := h
    rfl
  obtain ⟨x, rfl, h⟩ := h
  refine ⟨_, (pss_one (ps_ret (pe_and (pe_callB (call_isiT "int") rfl T.b_isinstance bb_isinstance (pa_cons (pv 0) (pa_cons (pe_bty T.b_int bt_int) pa_nil))) (pe_one (pe_not (pe_callB (call_isiT "bool") rfl T.b_isinstance bb_isinstance (pa_cons (pv 0) (pa_cons (pe_bty T.b_bool bt_bool) pa_nil)))))))), ?_⟩
  rcases h with ⟨i, rfl, q⟩ | ⟨b, rfl, q⟩ | ⟨t, ty, hk, q⟩
  · refine ⟨_, rfl, _, _, _, rfl, .int i, kit_ii, _, rfl, iteT ?_⟩
    exact ⟨_, rfl, _, _, _, rfl, .int i, kit_ib, _, rfl, q⟩
  · refine ⟨_, rfl, _, _, _, rfl, .bl b, kit_bi, _, rfl, iteT ?_⟩
    exact ⟨_, rfl, _, _, _, rfl, .bl b, kit_bb, _, rfl, q⟩
  · exact ⟨_, rfl, _, _, _, rfl, ty, hk, _, rfl, iteF q⟩
abbrev s_is_level : Stmt := top 17
theorem sc_is_level : FnScope ["thing"] ["thing"] (defScope s_is_level) := ⟨rfl, rfl, rfl, by decide +kernel, rfl, by decide +kernel, by decide +kernel⟩
def sp_is_level (K : PySem.W.Frag) : Sp := fun vs H Q _ => ∃ i, vs = [.int i] ∧ (0 ≤ i ∧ i ≤ 40 → Q (.bl true) H) ∧ (¬ (0 ≤ i ∧ i ≤ 40) → Q (.bl false) H)
theorem ok_is_level (T : Tx K mg) (q : Quiet CX) (F : FunD K "is_level" "is_level" s_is_level f fd .none) (C_is_whole : Fok P w K mg base CX 1 "is_whole" ["thing"] [] (sp_is_whole K)) : FnOk P w K mg base CX 2 f fd ["thing"] (sp_is_level K) := by
  refine F.ok sc_is_level (fun vs H Q E h => ?_) (fun cdv A outer s H vs Q E hr h => ?_)
  · obtain ⟨x, rfl, _⟩ := h
    rfl
  obtain ⟨i, rfl, h1, h2⟩ := h
  refine ⟨_, (pss_one (ps_ret (pe_and (pe_callF C_is_whole q hr (pa_cons (pv 0) pa_nil)) (pe_one (pe_chain op_le op_le pe_int (pv 0) (pe_gint T.c_MOST)))))), ?_⟩
  refine ⟨_, rfl, _, rfl, .inl ⟨i, rfl, _, rfl, iteT ?_⟩⟩
  refine ⟨_, rfl, _, _, rfl, rfl, _, rfl, ite2 (fun c => ?_) (fun c => ?_)⟩
  · have c' : (0 : Int) ≤ i := of_decide_eq_true c
    refine ⟨_, _, rfl, rfl, ?_⟩
    show Q (.bl (decide (i ≤ 40))) H
    by_cases d : i ≤ 40
    · have e : decide (i ≤ 40) = true := decide_eq_true d
      rw [e]; exact h1 ⟨c', d⟩
    · have e : decide (i ≤ 40) = false := decide_eq_false d
      rw [e]; exact h2 fun z => d z.2
  · exact h2 fun z => c (decide_eq_true z.1)
abbrev s_is_of_one_colour : Stmt := top 19
theorem sc_is_of_one_colour : FnScope ["parts", "first"] ["parts"] (defScope s_is_of_one_colour) := ⟨rfl, rfl, rfl, by decide +kernel, rfl, by decide +kernel, by decide +kernel⟩
def sp_is_one : Sp := fun vs H Q _ => ∃ (l : Addr) (a b c d : V) (ta tb tc td : Tr), vs = [.ref l] ∧ H l = some (.lst [a, b, c, d]) ∧ TrAt H a ta ∧ TrAt H b tb ∧ TrAt H c tc ∧ TrAt H d td ∧
  (ta.deep ≤ 60 ∧ tb.deep ≤ 60 ∧ tc.deep ≤ 60 ∧ td.deep ≤ 60) ∧ ∀ H', Same H H' → Q (.bl (oneB ta tb tc td)) H'
theorem ok_is_of_one_colour (T : Tx K mg) (F : FunD K "is_of_one_colour" "is_of_one_colour" s_is_of_one_colour f fd .none) : FnOk P w K mg base CX 1 f fd ["parts"] sp_is_one := by
  refine F.ok sc_is_of_one_colour (fun vs H Q E h => ?_) (fun cdv A outer s H vs Q E hr h => ?_)
  · obtain ⟨_, _, _, _, _, _, _, _, _, rfl, _⟩ := h
    rfl
  obtain ⟨l, a, b, c, d, ta, tb, tc, td, rfl, hl, ha, hb, hc, hd, ⟨da, db, dc, dd⟩, q'⟩ := h
  refine ⟨_, (pss_cons (ps_set (i := 1) sc_is_of_one_colour.nd rfl (Or.inr rfl) (pe_ix ix_list (pv 0) pe_int (fun _ _ => rfl))) (pss_cons (ps_if (pt_val (pe_callB (call_isiT "tuple") rfl T.b_isinstance bb_isinstance (pa_cons (pv 1) (pa_cons (pe_bty T.b_tuple bt_tuple) pa_nil)))) (pss_one (ps_ret pe_bl)) pss_nil) (pss_one (ps_ret (pe_callB (call_all rfl) rfl T.b_all bb_all (pa_cons (pe_compC (N' := ["part", "first"]) ["first"] ["first"] [1] 1 (by with_unfolding_all rfl) rfl (capsOk_cons rfl rfl (by decide) capsOk_nil) rfl rfl (by decide) rfl (by decide +kernel) rfl (by decide +kernel) rfl (pi_list (pv 0)) (fun C s0 H0 fp pins => (pg_name (i := 0) (show (["part", "first"] : List Str).Nodup by decide +kernel) rfl (Or.inl rfl) (Or.inr rfl))) (fun C s0 H0 fp pins => (pe_cmpR (op_eqD hr) (pv 0) (pv 1) (nomark _)))) pa_nil)))))), ?_⟩
  refine ⟨_, rfl, l, _, _, a, rfl, rfl, SqL.of hl, rfl, ?_⟩
  cases ha with
  | four e =>
    refine ⟨_, rfl, _, _, _, rfl, .tup e, kit_tt, _, rfl, iteT ?_⟩
    exact q' H (Same.refl H)
  | col i =>
    refine ⟨_, rfl, _, _, _, rfl, .int i, kit_it, _, rfl, iteF ?_⟩
    have full : ∃ bs : List Bool, bs = [decide (Tr.col i = Tr.col i), decide (tb = .col i), decide (tc = .col i), decide (td = .col i)] := ⟨_, rfl⟩
    obtain ⟨bs, ebs⟩ := full
    have hi : TrAt H (.int i) (.col i) := .col i
    refine ⟨[.int i], rfl, _, rfl, l, rfl, ⟨_, SqL.of hl⟩, compC_list [.int i, b, c, d] (fun D j ys H' => Same H H' ∧ H' D = some (.lst ys) ∧ j ≤ 4 ∧ ys = (bs.take j).map V.bl) (by show 4 ≤ sizeLine; decide) (fun D j ys H' h => SqL.of (h.1 _ _ hl))
      (fun D j ys H' h => ⟨h.2.1, by rw [h.2.2.2]; simp; omega⟩) (fun D hD => ⟨Same.new hD _, upd_same, by decide, rfl⟩) ?_ ?_ (fun _ _ _ _ _ k h => k _ _ h) ?_⟩
    · rintro D j x ys H' hx hD ⟨s1, s2, s3, s4⟩
      have key : ∃ tx, TrAt H x tx ∧ tx.deep ≤ 60 ∧ bs[j]? = some (decide (tx = .col i)) := by
        rcases at4 hx with ⟨rfl, rfl⟩ | ⟨rfl, rfl⟩ | ⟨rfl, rfl⟩ | ⟨rfl, rfl⟩
        · exact ⟨_, hi, Nat.zero_le _, by rw [ebs]; rfl⟩
        · exact ⟨_, hb, db, by rw [ebs]; rfl⟩
        · exact ⟨_, hc, dc, by rw [ebs]; rfl⟩
        · exact ⟨_, hd, dd, by rw [ebs]; rfl⟩
      obtain ⟨tx, htx, dx, ex⟩ := key
      refine ⟨rfl, _, rfl, _, rfl, tx.data, (Tr.col i).data, (htx.up s1.tups).dat, .int i, Tr.shaped (by omega), Tr.shaped (Nat.zero_le _), s2, Same.set s1 hD _, upd_same, ?_, ?_⟩
      · have := (List.getElem?_eq_some_iff.mp hx).1
        exact this
      · rw [Tr.eqv, List.take_add_one, ex, s4, List.map_append]; rfl
    · rintro D ys H' hD ⟨s1, s2, s3, s4⟩
      refine ⟨D, bs, rfl, SqL.of (by rw [s2, s4]; congr 2; rw [ebs]; rfl), ?_⟩
      have e : bs.all id = oneB (.col i) tb tc td := by rw [ebs]; rfl
      rw [e]
      exact q' H' s1
    · intro σ H' R R' k h
      obtain ⟨x1, e1, x2, e2, d1, d2, p1, p2, p3, p4, h⟩ := h
      exact ⟨x1, e1, x2, e2, d1, d2, p1, p2, p3, p4, k _ _ h⟩
abbrev s_gathered : Stmt := top 20
theorem sc_gathered : FnScope ["parts"] ["parts"] (defScope s_gathered) := ⟨rfl, rfl, rfl, by decide +kernel, rfl, by decide +kernel, by decide +kernel⟩
def sp_gathered : Sp := fun vs H Q _ => ∃ (l : Addr) (a b c d : V) (ta tb tc td : Tr), vs = [.ref l] ∧ H l = some (.lst [a, b, c, d]) ∧ TrAt H a ta ∧ TrAt H b tb ∧ TrAt H c tc ∧ TrAt H d td ∧
  (ta.deep ≤ 60 ∧ tb.deep ≤ 60 ∧ tc.deep ≤ 60 ∧ td.deep ≤ 60) ∧ ∀ v H', Same H H' → TrAt H' v (gath ta tb tc td) → Q v H'
theorem ok_gathered (T : Tx K mg) (q : Quiet CX) (F : FunD K "gathered" "gathered" s_gathered f fd .none) (C_is_of_one_colour : Fok P w K mg base CX 1 "is_of_one_colour" ["parts"] [] sp_is_one) : FnOk P w K mg base CX 2 f fd ["parts"] sp_gathered := by
  refine F.ok sc_gathered (fun vs H Q E h => ?_) (fun cdv A outer s H vs Q E hr h => ?_)
  · obtain ⟨_, _, _, _, _, _, _, _, _, rfl, _⟩ := h
    rfl
  obtain ⟨l, a, b, c, d, ta, tb, tc, td, rfl, hl, ha, hb, hc, hd, dp, q'⟩ := h
  refine ⟨_, (pss_cons (ps_if (pt_val (pe_callF C_is_of_one_colour q hr (pa_cons (pv 0) pa_nil))) (pss_one (ps_ret (pe_ix ix_list (pv 0) pe_int (fun _ _ => rfl)))) pss_nil) (pss_one (ps_ret (pe_callTy call_tuple_of rfl T.b_tuple bt_tuple (pa_cons (pv 0) pa_nil))))), ?_⟩
  refine ⟨_, rfl, l, a, b, c, d, ta, tb, tc, td, rfl, hl, ha, hb, hc, hd, dp, fun H1 s1 => ⟨_, rfl, ite2 (fun e => ?_) (fun e => ?_)⟩⟩
  · refine ⟨_, rfl, l, _, _, a, rfl, rfl, SqL.of (s1 _ _ hl), rfl, q' a H1 s1 ?_⟩
    unfold gath
    rw [if_pos e]
    exact ha.up s1.tups
  · refine ⟨_, rfl, l, _, rfl, .inl ⟨SqL.of (s1 _ _ hl), fun p hp => q' _ _ (s1.trans (Same.new hp _)) ?_⟩⟩
    unfold gath
    rw [if_neg e]
    have s2 := (s1.trans (Same.new hp (.tup [a, b, c, d]))).tups
    exact .four upd_same (ha.up s2) (hb.up s2) (hc.up s2) (hd.up s2)
end
end Qs


namespace Qs
open PySem L2
theorem signs_len : ("0123456789abcdefghijklmnopqrstuvwxyz" : Str).length ≤ sizeLine := by decide +kernel
theorem log_small : ∀ n : Nat, n ≤ 40 → ((n : Int)).natAbs.log2 < 1920 := fun n h => by
  have e : ∀ n : Nat, n < 41 → ((n : Int)).natAbs.log2 < 1920 := by decide +kernel
  exact e n (by omega)

def numB (w : List Nat) : Bool := decide (w = [48]) || (decide (1 ≤ w.length) && (decide (w.length ≤ 2) && (decide (w[0]? ≠ some 48) && w.all fun c => decide (48 ≤ c ∧ c ≤ 57))))
theorem numB_lv : ∀ n : Nat, n < 41 → numB (lv n) = true := by decide +kernel
theorem lv_int99 : ∀ n : Nat, n < 100 → intText? (tx (lv n)) = some (n : Int) := by decide +kernel
theorem lv_inj99 : ∀ n : Nat, n < 100 → ∀ k : Nat, k < 41 → lv n = lv k → n = k := by decide +kernel
theorem num_lv {w : List Nat} (h : numB w = true) : ∃ n, n < 100 ∧ w = lv n := by
  unfold numB at h
  rw [Bool.or_eq_true] at h
  rcases h with h | h
  · exact ⟨0, by decide, of_decide_eq_true h⟩
  rw [Bool.and_eq_true, Bool.and_eq_true, Bool.and_eq_true, List.all_eq_true] at h
  obtain ⟨h1, h2, h3, h4⟩ := h
  have h1 := of_decide_eq_true h1
  have h2 := of_decide_eq_true h2
  have h3 := of_decide_eq_true h3
  rcases w with _ | ⟨a, _ | ⟨b, _ | ⟨c, r⟩⟩⟩
  · simp at h1
  · have ha := of_decide_eq_true (h4 a (by simp))
    refine ⟨a - 48, by omega, ?_⟩
    unfold lv
    rw [if_pos (by omega), show 48 + (a - 48) = a by omega]
  · have ha := of_decide_eq_true (h4 a (by simp))
    have hb := of_decide_eq_true (h4 b (by simp))
    have na : a ≠ 48 := fun e => h3 (by rw [e]; rfl)
    refine ⟨10 * (a - 48) + (b - 48), by omega, ?_⟩
    unfold lv
    rw [if_neg (by omega), show 48 + (10 * (a - 48) + (b - 48)) / 10 = a by omega, show 48 + (10 * (a - 48) + (b - 48)) % 10 = b by omega]
  · simp at h2
theorem lvI_no {w : List Nat} (h : numB w = false) : lvI w = none := by
  cases e : lvI w with
  | none => rfl
  | some n =>
    obtain ⟨h1, h2⟩ := lvI_some e
    rw [h2, numB_lv n (by omega)] at h
    cases h
theorem lvI_high {n : Nat} (h : n < 100) (h4 : 40 < n) : lvI (lv n) = none := by
  cases e : lvI (lv n) with
  | none => rfl
  | some k =>
    obtain ⟨h1, h2⟩ := lvI_some e
    have := lv_inj99 n h k (by omega) h2
    omega
theorem rdS_parts (w : List Nat) : ∃ (a b : List Nat) (sep : Str), Txt.partition (tx w) (":" : Str) = (tx a, sep, tx b) ∧ a.length ≤ w.length ∧ b.length ≤ w.length ∧ rdS w = (match lvI a with | none => none | some n => match rdT n b with | some (t, []) => some (n, t) | _ => none) := by
  cases e : cut58 w with
  | none =>
    refine ⟨w, [], tx [], part_no (cut58_none e), Nat.le_refl _, Nat.zero_le _, ?_⟩
    unfold rdS
    rw [e]
    cases lvI w with
    | none => rfl
    | some n => simp only [rdT_nil]
  | some p =>
    obtain ⟨a, b⟩ := p
    obtain ⟨ew, na⟩ := cut58_some e
    refine ⟨a, b, tx [58], by rw [ew]; exact part_yes na, ?_, ?_, ?_⟩
    · rw [ew, List.length_append]; omega
    · rw [ew, List.length_append, List.length_cons]; omega
    · unfold rdS
      rw [e]
      try rfl
theorem fig_in (c : Nat) : (!(Builtin.Str.occurrences ("0123456789" : Str) (tx [c]) 0 ("0123456789" : Str).length 1).isEmpty) = decide (48 ≤ c ∧ c ≤ 57) := by
  have f := PySem.StrLaws.found_one ("0123456789" : Str) c
  have e : ("0123456789" : Str).cps.toList = [48, 49, 50, 51, 52, 53, 54, 55, 56, 57] := by decide +kernel
  rw [e] at f
  refine f.trans ?_
  rw [Bool.eq_iff_iff, decide_eq_true_iff, decide_eq_true_iff]
  simp only [List.mem_cons, List.not_mem_nil, or_false]
  omega
section
variable {P : Program} {w : World} {K : PySem.W.Frag} {mg : Str → Option Value} {base : Heap} {CX : CXT} {f : Addr} {fd : FuncData}
abbrev s_is_number_word : Stmt := top 24
theorem sc_is_number_word : FnScope ["word", "most"] ["word", "most"] (defScope s_is_number_word) := ⟨rfl, rfl, rfl, by decide +kernel, rfl, by decide +kernel, by decide +kernel⟩
def sp_is_number_word : Sp := fun vs H Q _ => ∃ w : List Nat, vs = [.str (tx w), .int 2] ∧ w.length ≤ 40000 ∧ ∀ H', Same H H' → Q (.bl (numB w)) H'
theorem ok_is_number_word (T : Tx K mg) (F : FunD K "is_number_word" "is_number_word" s_is_number_word f fd .none) : FnOk P w K mg base CX 1 f fd ["word", "most"] sp_is_number_word := by
  refine F.ok sc_is_number_word (fun vs H Q E h => ?_) (fun cdv A outer s H vs Q E hr h => ?_)
  · obtain ⟨_, rfl, _⟩ := h
    rfl
  obtain ⟨w', rfl, hw, q'⟩ := h
  refine ⟨_, (pss_cons (ps_if (pt_cmpR op_eq (pv 0) pe_str (nomark _)) (pss_one (ps_ret pe_bl)) pss_nil) (pss_one (ps_ret (pe_and (pe_chain op_le op_le pe_int (pe_callB call_len rfl T.b_len bb_len (pa_cons (pv 0) pa_nil)) (pv 1)) (pe_and (pe_cmpR op_ne (pe_ix ix_str (pv 0) pe_int (fun _ _ => rfl)) pe_str (nomark _)) (pe_one (pe_callB (call_all rfl) rfl T.b_all bb_all (pa_cons (pe_compC (N' := ["sign"]) [] [] [] 1 (by with_unfolding_all rfl) rfl capsOk_nil rfl rfl (by decide) rfl (by decide +kernel) rfl (by decide +kernel) rfl (pi_str (pv 0)) (fun C s0 H0 fp pins => (pg_name (i := 0) (show (["sign"] : List Str).Nodup by decide +kernel) rfl (Or.inl rfl) (Or.inr rfl))) (fun C s0 H0 fp pins => (pe_cmpR op_in_str (pv 0) (pe_gstr T.c_FIGURES) (by with_unfolding_all rfl)))) pa_nil)))))))), ?_⟩
  have ll := tx_len w'
  have sm : (tx w').length ≤ sizeLine := Nat.le_trans (show _ ≤ 40000 by omega) (by decide)
  have e0 : ("0" : Str) = tx [48] := by decide +kernel
  refine ⟨_, rfl, rfl, _, rfl, ite2 (fun c => ?_) (fun c => ?_)⟩
  · have c' : V.str (tx w') = V.str ("0" : Str) := of_decide_eq_true c
    have c2 : tx w' = tx [48] := by rw [← e0]; injection c'
    have r := q' H (Same.refl H)
    rw [tx_inj c2] at r
    exact r
  have n0 : ¬ w' = [48] := fun e => c (decide_eq_true (by rw [e, e0]))
  have num : numB w' = (decide (1 ≤ w'.length) && (decide (w'.length ≤ 2) && (decide (w'[0]? ≠ some 48) && w'.all fun c => decide (48 ≤ c ∧ c ≤ 57)))) := by
    unfold numB
    rw [decide_eq_false n0, Bool.false_or]
  have fls : numB w' = false → Q (.bl false) H := fun e => by
    have r := q' H (Same.refl H)
    rw [e] at r
    exact r
  refine ⟨_, rfl, _, _, rfl, ⟨sm, rfl⟩, _, _, rfl, rfl, _, rfl, ite2 (fun c1 => ?_) (fun c1 => ⟨_, rfl, iteF (fls ?_)⟩)⟩
  rotate_left
  · have c1' : ¬ (1 : Int) ≤ ((tx w').length : Int) := fun h => c1 (decide_eq_true h)
    rw [num, decide_eq_false (by omega)]
    rfl
  have c1' : (1 : Int) ≤ ((tx w').length : Int) := of_decide_eq_true c1
  refine ⟨_, rfl, _, _, rfl, rfl, _, rfl, ite2 (fun c2 => ?_) (fun c2 => fls ?_)⟩
  rotate_left
  · have c2' : ¬ ((tx w').length : Int) ≤ 2 := fun h => c2 (decide_eq_true h)
    rw [num, decide_eq_true (by omega), decide_eq_false (by omega)]
    rfl
  have c2' : ((tx w').length : Int) ≤ 2 := of_decide_eq_true c2
  obtain ⟨c0, hc0⟩ : ∃ c0, w'[0]? = some c0 := ⟨_, List.getElem?_eq_getElem (by omega)⟩
  have a0 : atI (tx w').cps.toList 0 = some c0 := by rw [tx_cps]; exact atI_nat hc0
  refine ⟨_, rfl, _, 0, c0, rfl, rfl, sm, a0, rfl, _, rfl, ite2 (fun c3 => ?_) (fun c3 => fls ?_)⟩
  rotate_left
  · have c3' : V.str (⟨#[c0]⟩ : Str) = V.str ("0" : Str) := by simpa using c3
    have z1 : tx [c0] = tx [48] := by
      rw [← e0]
      injection c3'
    have z2 : c0 = 48 := by simpa using tx_inj z1
    rw [num, decide_eq_true (by omega), decide_eq_true (by omega), decide_eq_false (by rw [hc0, z2]; simp)]
    rfl
  have f0 : w'[0]? ≠ some 48 := fun e => by
    rw [hc0] at e
    have e' : c0 = 48 := by simpa using e
    have c3' : ¬ V.str (⟨#[c0]⟩ : Str) = V.str ("0" : Str) := by simpa using c3
    refine c3' ?_
    rw [e', e0]
    rfl
  refine ⟨[], rfl, _, rfl, tx w', rfl, compC_gen (fun D (j : Nat) ys H' => Same H H' ∧ H' D = some (.lst ys) ∧ j ≤ w'.length ∧ ys = ((w'.map fun c => decide (48 ≤ c ∧ c ≤ 57)).take j).map V.bl) sm (fun D j ys H' h => ⟨h.2.1, by rw [h.2.2.2]; simp; omega⟩) (fun D hD => ⟨Same.new hD _, upd_same, Nat.zero_le _, rfl⟩) ?_ ?_ (fun _ _ _ _ _ k h => k _ _ h) ?_⟩
  · rintro D j ys H' hj hD ⟨b1, b2, b3, b4⟩
    have hj' : j < w'.length := by omega
    obtain ⟨cj, hcj⟩ : ∃ cj, w'[j]? = some cj := ⟨_, List.getElem?_eq_getElem hj'⟩
    have ej : sgn (tx w') j = tx [cj] := by
      unfold sgn tx
      have : w'.toArray.getD j 0 = cj := by simp [Array.getD_eq_getD_getElem?, hcj]
      rw [this]
    refine ⟨rfl, _, rfl, _, _, rfl, rfl, b2, Same.set b1 hD _, upd_same, hj', ?_⟩
    rw [ej, fig_in cj, List.take_add_one, List.getElem?_map, hcj, b4, List.map_append]
    rfl
  · rintro D ys H' hD ⟨b1, b2, b3, b4⟩
    rw [List.take_of_length_le (by rw [List.length_map]; omega)] at b4
    refine ⟨D, w'.map fun c => decide (48 ≤ c ∧ c ≤ 57), rfl, SqL.of (by rw [b2, b4]), ?_⟩
    have r := q' H' b1
    rw [num, decide_eq_true (show 1 ≤ w'.length by omega), decide_eq_true (show w'.length ≤ 2 by omega), decide_eq_true f0, Bool.true_and, Bool.true_and, Bool.true_and] at r
    rw [List.all_map]
    exact r
  · rintro σ H' R R' k ⟨a1, e1, a2, a3, e2, e3, h⟩
    exact ⟨a1, e1, a2, a3, e2, e3, k _ _ h⟩
abbrev s_colour_of : Stmt := top 25
theorem sc_colour_of : FnScope ["word"] ["word"] (defScope s_colour_of) := ⟨rfl, rfl, rfl, by decide +kernel, rfl, by decide +kernel, by decide +kernel⟩
def sp_colour_of : Sp := fun vs H Q _ => ∃ w : List Nat, vs = [.str (tx w)] ∧ w.length ≤ 1 ∧ (∀ c d, w = [c] → sgI c = some d → Q (.int (d : Int)) H) ∧ ((w = [] ∨ ∃ c, w = [c] ∧ sgI c = none) → Q .non H)
theorem ok_colour_of (T : Tx K mg) (F : FunD K "colour_of" "colour_of" s_colour_of f fd .none) : FnOk P w K mg base CX 1 f fd ["word"] sp_colour_of := by
  refine F.ok sc_colour_of (fun vs H Q E h => ?_) (fun cdv A outer s H vs Q E hr h => ?_)
  · obtain ⟨_, rfl, _⟩ := h
    rfl
  obtain ⟨w', rfl, hw, q1, q2⟩ := h
  refine ⟨_, (pss_cons (ps_if (PW.pt (pw_or (pt_cmpR op_ne (pe_callB call_len rfl T.b_len bb_len (pa_cons (pv 0) pa_nil)) pe_int (nomark _)) (pw_or1 (pt_cmpR op_notin_str (pv 0) (pe_gstr T.c_SIGNS) (by with_unfolding_all rfl))))) (pss_one (ps_ret pe_non)) pss_nil) (pss_one (ps_ret (pe_bm PySem.F.plainAttrs_str PySem.F.slot_str_index PySem.F.type_str_index mt_index (pe_gstr T.c_SIGNS) (pa_cons (pv 0) pa_nil))))), ?_⟩
  have ll := tx_len w'
  rcases w' with _ | ⟨c, _ | ⟨d, r⟩⟩
  · refine ⟨_, rfl, _, _, rfl, ⟨small (by omega), rfl⟩, rfl, _, rfl, ite2 (fun _ => iteT (q2 (.inl rfl))) (fun h => absurd (by rw [show (tx []).length = 0 from tx_len []]; decide) h)⟩
  · have l1 : (tx [c]).length = 1 := tx_len _
    refine ⟨_, rfl, _, _, rfl, ⟨small (by omega), rfl⟩, rfl, _, rfl, iteNS (by rw [l1]; rfl) ?_⟩
    refine ⟨_, rfl, _, _, rfl, rfl, _, rfl, ?_⟩
    cases hs : sgI c with
    | none =>
      rw [sgI_occ hs]
      exact iteT (q2 (.inr ⟨c, rfl, hs⟩))
    | some d =>
      obtain ⟨hd, rfl⟩ := sgI_some hs
      rw [occ_sign d hd]
      refine iteF ?_
      exact ⟨rfl, _, rfl, _, _, d, [], rfl, rfl, occ_sign d hd, q1 _ _ rfl hs⟩
  · simp at hw
abbrev s_tree_read : Stmt := top 26
theorem sc_tree_read : FnScope ["signs", "at", "level", "sign", "parts", "quarter", "found", "colour"] ["signs", "at", "level"] (defScope s_tree_read) := ⟨rfl, rfl, rfl, by decide +kernel, rfl, by decide +kernel, by decide +kernel⟩
def sp_tree_read (Y : Yx K mg) (m : Nat) : Sp := fun vs H Q E => ∃ (w0 r : List Nat) (l : Nat), vs = [.str (tx w0), .int ((w0.length - r.length : Nat) : Int), .int (l : Int)] ∧ r <:+ w0 ∧ w0.length ≤ 40000 ∧ l < m ∧ m ≤ 41 ∧
  (∀ t r', rdT l r = some (t, r') → ∀ p v H', Same H H' → H' p = some (.tup [v, .int ((w0.length - r'.length : Nat) : Int)]) → TrAt H' v t → Q (.ref p) H') ∧ (rdT l r = none → ∀ H', Same H H' → E (.ref Y.c_NoText) none H')
theorem ok_tree_read (T : Tx K mg) (Y : Yx K mg) (q : Quiet (CXe P w)) (F : FunD K "tree_read" "tree_read" s_tree_read f fd .none) (C_gathered : Fok P w K mg base (CXe P w) 2 "gathered" ["parts"] [] sp_gathered) (C_colour_of : Fok P w K mg base (CXe P w) 1 "colour_of" ["word"] [] sp_colour_of) (b : Binds K fd ["signs", "at", "level"] []) (m : mg "tree_read" = some (.ref f)) :
    ∀ n, FnOk P w K mg base (CXe P w) (3 + n) f fd ["signs", "at", "level"] (sp_tree_read Y n)
  | 0 => by
    refine F.okX sc_tree_read (fun vs H Q E h => ?_) (fun cdv A outer s H vs Q E hr h => ?_)
    · obtain ⟨_, _, _, rfl, _⟩ := h
      rfl
    obtain ⟨_, _, _, _, _, _, h, _⟩ := h
    exact absurd h (Nat.not_lt_zero _)
  | m' + 1 => by
    have C_tree_read : Fok P w K mg base (CXe P w) (3 + m') "tree_read" ["signs", "at", "level"] [] (sp_tree_read Y m') := fok F (ok_tree_read T Y q F C_gathered C_colour_of b m m') b m
    refine F.okX sc_tree_read (fun vs H Q E h => ?_) (fun cdv A outer s H vs Q E hr h => ?_)
    · obtain ⟨_, _, _, rfl, _⟩ := h
      rfl
    obtain ⟨w0, r, l, rfl, sf, lw, hl, hm, q1, q2⟩ := h
    refine ⟨_, (pss_cons (ps_set (i := 3) sc_tree_read.nd rfl (Or.inl rfl) (pe_slice sl_str (pv 0) (po_some (pv 1)) (po_some (pe_op op_add (pv 1) pe_int)))) (pss_cons (ps_set (i := 1) sc_tree_read.nd rfl (Or.inl rfl) (pe_op op_add (pv 1) pe_int)) (pss_cons (ps_if (PW.pt (pw_and (pt_cmpR op_eq (pv 3) pe_str (nomark _)) (pw_and1 (pt_cmpR op_gt (pv 2) pe_int (nomark _))))) (pss_cons (ps_set (i := 4) sc_tree_read.nd rfl (Or.inl rfl) (pe_lstx pax_nil)) (pss_cons (ps_for PassesOwn.leaving rfl (pi_range1 rfl T.b_range (pa_cons pe_int pa_nil)) (pg_name (i := 5) sc_tree_read.nd rfl (Or.inl rfl)) (pss_cons (ps_set (i := 6) sc_tree_read.nd rfl (Or.inl rfl) (pe_callX C_tree_read hr passE (pa_cons (pv 0) (pa_cons (pv 1) (pa_cons (pe_op op_sub (pv 2) pe_int) pa_nil))) (hj := by first | decide | omega | (simp only [Nat.add_eq]; omega)))) (pss_cons (ps_expr (pe_bm PySem.F.plainAttrs_list PySem.F.slot_list_append PySem.F.type_list_append mt_append (pv 4) (pa_cons (pe_ix ix_tup (pv 6) pe_int (fun _ _ => rfl)) pa_nil))) (pss_one (ps_set (i := 1) sc_tree_read.nd rfl (Or.inl rfl) (pe_ix ix_tup (pv 6) pe_int (fun _ _ => rfl))))))) (pss_one (ps_ret (pe_tupx (pax_c (pe_callF C_gathered q hr (pa_cons (pv 4) pa_nil) (hj := by first | decide | omega | (simp only [Nat.add_eq]; omega))) (pax_c (pv 1) pax_nil))))))) pss_nil) (pss_cons (ps_set (i := 7) sc_tree_read.nd rfl (Or.inl rfl) (pe_callF C_colour_of q hr (pa_cons (pv 3) pa_nil) (hj := by first | decide | omega | (simp only [Nat.add_eq]; omega)))) (pss_cons (ps_if (pt_cmpR op_isN (pv 7) pe_non (nomark _)) (pss_one (ps_raise Y.x_NoText raisesE pe_str)) pss_nil) (pss_one (ps_ret (pe_tupx (pax_c (pv 7) (pax_c (pv 1) pax_nil)))))))))), ?_⟩
    have zl := tx_len w0
    have zs : (tx w0).length ≤ sizeLine := Nat.le_trans (show _ ≤ 40000 by omega) (by decide)
    refine ⟨_, rfl, _, rfl, _, rfl, _, rfl, _, _, rfl, rfl, _, rfl, tx w0, rfl, zs, ?_⟩
    have noplus : ∀ (u : List Nat), u ≠ [43] → (¬ decide (V.str (tx u) = V.str ("+" : Str)) = true) := fun u hu h => by
      have h' : V.str (tx u) = V.str ("+" : Str) := of_decide_eq_true h
      have h2 : tx u = tx [43] := by rw [← plus_eq]; injection h'
      exact hu (tx_inj h2)
    rcases r with _ | ⟨c, r⟩
    · dsimp only [List.length_nil, Nat.sub_zero]
      rw [slice_end]
      refine ⟨_, rfl, _, _, rfl, rfl, ?_⟩
      refine ⟨_, rfl, rfl, _, rfl, ite2 (fun h => absurd h (noplus [] (by simp))) (fun _ => iteF ?_)⟩
      refine ⟨_, rfl, [], rfl, by simp, (fun c d e => by cases e), fun _ => ?_⟩
      exact ⟨_, rfl, rfl, _, rfl, ite2 (fun _ => q2 (rdT_nil l) H (Same.refl H)) (fun h => absurd (decide_eq_true rfl) h)⟩
    have gc := suf_get sf
    have nx := suf_next sf
    have sl : Txt.slice (tx w0) (some ((w0.length - (c :: r).length : Nat) : Int)) (some (((w0.length - (c :: r).length : Nat) : Int) + 1)) = tx [c] := slice_one (by rw [tx_cps]; exact gc)
    rw [sl]
    refine ⟨_, rfl, _, _, rfl, rfl, ?_⟩
    have en : ((w0.length - (c :: r).length : Nat) : Int) + 1 = ((w0.length - r.length : Nat) : Int) := by omega
    dsimp only
    rw [en]
    have sfr : r <:+ w0 := (List.suffix_cons c r).trans sf
    have colr : ∀ D : Prop, D → D := fun _ h => h
    cases hs : sgI c with
    | some d =>
      obtain ⟨hd, rfl⟩ := sgI_some hs
      refine ⟨_, rfl, rfl, _, rfl, ite2 (fun h => absurd h (noplus _ (by intro e; exact cp_ne hd (by simpa using e)))) (fun _ => iteF ?_)⟩
      refine ⟨_, rfl, [cp d], rfl, by simp, (fun c' d' e1 e2 => ?_), fun h => ?_⟩
      · cases e1
        rw [hs] at e2
        cases e2
        refine ⟨_, rfl, rfl, _, rfl, ite2 (fun h => absurd (of_decide_eq_true h) (by simp)) (fun _ => ?_)⟩
        exact ⟨_, rfl, _, rfl, (by show 2 ≤ sizeLine; decide), fun p hp => q1 _ _ (rdT_sign hs r l) p (.int d) _ (Same.new hp _) upd_same (.col _)⟩
      · rcases h with h | ⟨c', e1, e2⟩
        · cases h
        · cases e1
          rw [hs] at e2
          cases e2
    | none =>
      by_cases h3 : c = 43
      rotate_left
      · refine ⟨_, rfl, rfl, _, rfl, ite2 (fun h => absurd h (noplus _ (by intro e; exact h3 (by simpa using e)))) (fun _ => iteF ?_)⟩
        refine ⟨_, rfl, [c], rfl, by simp, (fun c' d' e1 e2 => by cases e1; rw [hs] at e2; cases e2), fun _ => ?_⟩
        exact ⟨_, rfl, rfl, _, rfl, ite2 (fun _ => q2 (rdT_other hs h3 r l) H (Same.refl H)) (fun h => absurd (decide_eq_true rfl) h)⟩
      subst h3
      refine ⟨_, rfl, rfl, _, rfl, ite2 (fun _ => ?_) (fun h => absurd (decide_eq_true (by rw [plus_eq])) h)⟩
      rcases l with _ | l
      · refine ⟨_, rfl, _, _, rfl, rfl, _, rfl, ite2 (fun h => absurd (of_decide_eq_true h) (by decide)) (fun _ => ?_)⟩
        refine ⟨_, rfl, [43], rfl, by simp, (fun c' d' e1 e2 => by cases e1; rw [hs] at e2; cases e2), fun _ => ?_⟩
        exact ⟨_, rfl, rfl, _, rfl, ite2 (fun _ => q2 (rdT_plus0 r) H (Same.refl H)) (fun h => absurd (decide_eq_true rfl) h)⟩
      refine ⟨_, rfl, _, _, rfl, rfl, _, rfl, ite2 (fun _ => ?_) (fun h => absurd (decide_eq_true (by show (0 : Int) < ((l + 1 : Nat) : Int); omega)) h)⟩
      refine ⟨(by show 0 ≤ sizeLine; decide), fun lp hlp => ?_⟩
      have s1 := Same.new hlp (.lst [])
      have u1 : upd H lp (.lst []) lp = some (.lst []) := upd_same
      generalize upd H lp (.lst []) = H1 at *
      refine ⟨4, rfl, by decide, by decide, for_range (fun (j : Nat) σ H2 => Same H H2 ∧ ∃ (ys : List V) (ts : List Tr) (rj : List Nat) (o5 o6 : Option V), H2 lp = some (.lst ys) ∧ ys.length = j ∧ rdN (rdT l) j r = some (ts, rj) ∧ (∀ i v, ys[i]? = some v → ∃ t, ts[i]? = some t ∧ TrAt H2 v t) ∧ rj <:+ w0 ∧ σ = [some (.str (tx w0)), some (.int ((w0.length - rj.length : Nat) : Int)), some (.int ((l + 1 : Nat) : Int)), some (.str (tx [43])), some (.ref lp), o5, o6, none]) ⟨s1, [], [], r, none, none, u1, rfl, rfl, (fun (i : Nat) (v : V) (h : ([] : List V)[i]? = some v) => absurd h (by simp)), sfr, rfl⟩ ?_ ?_⟩
      · rintro j σ H2 hj ⟨s2, ys, ts, rj, o5, o6, u2, ly, hrd, hys, sfj, rfl⟩
        have hj' : j < 4 := hj
        have el : ((l + 1 : Nat) : Int) - 1 = (l : Int) := by omega
        refine ⟨_, rfl, _, rfl, _, rfl, _, _, rfl, rfl, w0, rj, l, (by show [V.str (tx w0), V.int _, V.int (((l + 1 : Nat) : Int) - 1)] = _; rw [el]), sfj, lw, by omega, by omega, fun t r' ht p v H3 s3 hp hv => ?_, fun hno H3 s3 => ?_⟩
        · have u3 := s3 _ _ u2
          have tl := Tups.lst (ys := ys ++ [v]) u3
          have lts := (rdN_ok (rdT_ok l) j r ts rj hrd).2.2
          refine ⟨_, rfl, .inl ⟨rfl, _, SqL.of u3⟩, _, rfl, p, _, _, _, rfl, rfl, SqT.of hp, rfl, lp, ys, _, rfl, rfl, u3, small1000 (by omega), ?_⟩
          refine ⟨_, rfl, p, _, _, _, rfl, rfl, SqT.of (tl _ _ hp), rfl, Same.set (s2.trans s3) hlp _, ys ++ [v], ts ++ [t], r', _, _, upd_same, by rw [List.length_append, ly]; rfl, rdN_step (rdT l) hrd ht, fun i g hg => ?_, (rdT_ok l _ _ _ ht).2.trans sfj, rfl⟩
          rcases Nat.lt_or_ge i ys.length with hi | hi
          · rw [List.getElem?_append_left hi] at hg
            obtain ⟨t', e1, e2⟩ := hys i g hg
            exact ⟨t', by rw [List.getElem?_append_left (by omega)]; exact e1, e2.up (s3.tups.trans tl)⟩
          · rw [List.getElem?_append_right hi] at hg
            have hk0 : i - ys.length = 0 := by
              rcases h : i - ys.length with _ | k
              · rfl
              · rw [h] at hg; simp at hg
            rw [hk0] at hg
            rw [← Option.some.inj hg]
            refine ⟨t, ?_, hv.up tl⟩
            rw [List.getElem?_append_right (by omega), show i - ts.length = 0 by omega]
            rfl
        · have h1 := rdN_stop (rdT l) hrd hno
          have h4 := rdN_none (rdT l) h1 (3 - j)
          rw [show j + 1 + (3 - j) = 4 by omega] at h4
          refine q2 ?_ H3 (s2.trans s3)
          rw [rdT_plus, h4]
      · rintro σ H2 ⟨s2, ys, ts, rj, o5, o6, u2, ly, hrd, hys, sfj, rfl⟩
        have ly' : ys.length = 4 := ly
        obtain ⟨gs, _, lts⟩ := rdN_ok (rdT_ok l) 4 r ts rj hrd
        obtain ⟨va, vb, vc, vd, rfl⟩ : ∃ a b c d, ys = [a, b, c, d] := by
          match ys, ly' with
          | [a, b, c, d], _ => exact ⟨a, b, c, d, rfl⟩
        obtain ⟨t0, t1, t2, t3, rfl⟩ : ∃ a b c d, ts = [a, b, c, d] := by
          match ts, lts with
          | [a, b, c, d], _ => exact ⟨a, b, c, d, rfl⟩
        obtain ⟨ta', ea, ka⟩ := hys 0 va rfl
        obtain ⟨tb', eb, kb⟩ := hys 1 vb rfl
        obtain ⟨tc', ec, kc⟩ := hys 2 vc rfl
        obtain ⟨td', ed, kd⟩ := hys 3 vd rfl
        cases ea
        cases eb
        cases ec
        cases ed
        have g0 := (gs t0 (by simp)).deep
        have g1 := (gs t1 (by simp)).deep
        have g2 := (gs t2 (by simp)).deep
        have g3 := (gs t3 (by simp)).deep
        refine ⟨_, rfl, lp, va, vb, vc, vd, t0, t1, t2, t3, rfl, u2, ka, kb, kc, kd, ⟨by omega, by omega, by omega, by omega⟩, fun v H3 s3 hv => ?_⟩
        refine ⟨_, rfl, (by show 2 ≤ sizeLine; decide), fun p hp => q1 _ _ ?_ p v _ (s2.trans (s3.trans (Same.new hp _))) upd_same (hv.up (Same.new hp _).tups)⟩
        have hrd4 : rdN (rdT l) 4 r = some ([t0, t1, t2, t3], rj) := hrd
        rw [rdT_plus, hrd4]
        rfl
abbrev s_read : Stmt := top 27
theorem sc_read : FnScope ["text", "parts", "level", "found"] ["text"] (defScope s_read) := ⟨rfl, rfl, rfl, by decide +kernel, rfl, by decide +kernel, by decide +kernel⟩
def sp_read (Y : Yx K mg) : Sp := fun vs H Q E => ∃ x : V, vs = [x] ∧
  ((∃ w : List Nat, x = .str (tx w) ∧ w.length ≤ 40000 ∧ (∀ n t, rdS w = some (n, t) → n ≤ 40 → Good n t → ∀ v H', Same H H' → ShAt H' v n t → Q v H') ∧ (rdS w = none → ∀ H', Same H H' → E (.ref Y.c_NoText) none H'))
  ∨ ((∃ ty, TyOf K H x ty ∧ PySem.W.kitOne K ty (.type "str") = some false) ∧ ∀ H', Same H H' → E (.ref Y.c_NoText) none H'))
theorem ok_read (T : Tx K mg) (Y : Yx K mg) (q : Quiet (CXe P w)) (F : FunD K "read" "read" s_read f fd .none) (C_is_number_word : Fok P w K mg base (CXe P w) 1 "is_number_word" ["word", "most"] [] sp_is_number_word) (C_is_level : Fok P w K mg base (CXe P w) 2 "is_level" ["thing"] [] (sp_is_level K)) (C_tree_read : Fok P w K mg base (CXe P w) 44 "tree_read" ["signs", "at", "level"] [] (sp_tree_read Y 41)) : FnOk P w K mg base (CXe P w) 45 f fd ["text"] (sp_read Y) := by
  refine F.okX sc_read (fun vs H Q E h => ?_) (fun cdv A outer s H vs Q E hr h => ?_)
  · obtain ⟨_, rfl, _⟩ := h
    rfl
  obtain ⟨x, rfl, h⟩ := h
  refine ⟨_, (pss_cons (ps_if (pt_not (pt_val (pe_callB (call_isiT "str") rfl T.b_isinstance bb_isinstance (pa_cons (pv 0) (pa_cons (pe_bty T.b_str bt_str) pa_nil))))) (pss_one (ps_raise Y.x_NoText raisesE pe_str)) pss_nil) (pss_cons (ps_set (i := 1) sc_read.nd rfl (Or.inl rfl) (pe_bm PySem.F.plainAttrs_str PySem.F.slot_str_partition PySem.F.type_str_partition mt_partition (pv 0) (pa_cons pe_str pa_nil))) (pss_cons (ps_if (PW.pt (pw_or (pt_not (pt_val (pe_callF C_is_number_word q hr (pa_cons (pe_ix ix_tup (pv 1) pe_int (fun _ _ => rfl)) (pa_cons pe_int pa_nil))))) (pw_or1 (pt_not (pt_val (pe_callF C_is_level q hr (pa_cons (pe_callTy call_int_str rfl T.b_int bt_int (pa_cons (pe_ix ix_tup (pv 1) pe_int (fun _ _ => rfl)) pa_nil)) pa_nil))))))) (pss_one (ps_raise Y.x_NoText raisesE pe_str)) pss_nil) (pss_cons (ps_set (i := 2) sc_read.nd rfl (Or.inl rfl) (pe_callTy call_int_str rfl T.b_int bt_int (pa_cons (pe_ix ix_tup (pv 1) pe_int (fun _ _ => rfl)) pa_nil))) (pss_cons (ps_set (i := 3) sc_read.nd rfl (Or.inl rfl) (pe_callX C_tree_read hr passE (pa_cons (pe_ix ix_tup (pv 1) pe_int (fun _ _ => rfl)) (pa_cons pe_int (pa_cons (pv 2) pa_nil))))) (pss_cons (ps_if (pt_cmpR op_ne (pe_ix ix_tup (pv 3) pe_int (fun _ _ => rfl)) (pe_callB call_len rfl T.b_len bb_len (pa_cons (pe_ix ix_tup (pv 1) pe_int (fun _ _ => rfl)) pa_nil)) (nomark _)) (pss_one (ps_raise Y.x_NoText raisesE pe_str)) pss_nil) (pss_one (ps_ret (pe_tupx (pax_c (pv 2) (pax_c (pe_ix ix_tup (pv 3) pe_int (fun _ _ => rfl)) pax_nil))))))))))), ?_⟩
  rcases h with ⟨w', rfl, lw, q1, q2⟩ | ⟨⟨ty, hty, hk⟩, q'⟩
  rotate_left
  · exact ⟨_, rfl, _, _, _, rfl, hty, hk, _, rfl, iteT (q' H (Same.refl H))⟩
  have sz : (tx w').length ≤ sizeLine := Nat.le_trans (show _ ≤ 40000 by rw [tx_len]; exact lw) (by decide)
  refine ⟨_, rfl, _, _, _, rfl, .str _, kit_ss, _, rfl, iteF ?_⟩
  refine ⟨_, rfl, rfl, _, _, rfl, rfl, by decide +kernel, sz, fun pp hpp => ?_⟩
  obtain ⟨a, b, sep, ep, la, lb, er⟩ := rdS_parts w'
  rw [ep]
  have s1 := Same.new hpp (.tup [.str (tx a), .str sep, .str (tx b)])
  have u1 : upd H pp (.tup [.str (tx a), .str sep, .str (tx b)]) pp = some (.tup [.str (tx a), .str sep, .str (tx b)]) := upd_same
  generalize upd H pp (.tup [.str (tx a), .str sep, .str (tx b)]) = H1 at *
  refine ⟨_, rfl, pp, _, _, _, rfl, rfl, SqT.of u1, rfl, a, rfl, by omega, fun H2 s2 => ?_⟩
  have u2 := s2 _ _ u1
  have s12 := s1.trans s2
  cases hnum : numB a with
  | false =>
    refine ⟨_, rfl, iteT (iteT (q2 ?_ H2 s12))⟩
    rw [er, lvI_no hnum]
  | true =>
    refine ⟨_, rfl, iteF ?_⟩
    obtain ⟨n, hn, rfl⟩ := num_lv hnum
    have hi : (tx (lv n)).length ≤ 640 := by
      rw [tx_len]
      unfold lv
      split <;> simp
    refine ⟨_, rfl, pp, _, _, _, rfl, rfl, SqT.of u2, rfl, _, (n : Int), rfl, lv_int99 n hn, hi, (n : Int), rfl, fun h40 => ⟨_, rfl, iteF ?_⟩, fun h40 => ⟨_, rfl, iteT (q2 ?_ H2 s12)⟩⟩
    rotate_left
    · rw [er, lvI_high hn (by omega)]
    have hn40 : n ≤ 40 := by omega
    rw [lvI_lv hn40] at er
    refine ⟨_, rfl, pp, _, _, _, rfl, rfl, SqT.of u2, rfl, _, (n : Int), rfl, lv_int99 n hn, hi, ?_⟩
    refine ⟨_, rfl, pp, _, _, _, rfl, rfl, SqT.of u2, rfl, _, rfl, b, b, n, (by rw [Nat.sub_self]; rfl), List.suffix_refl _, by omega, by omega, by decide, fun t r ht p v H3 s3 hp hv => ?_, fun hno H3 s3 => q2 ?_ H3 (s12.trans s3)⟩
    rotate_left
    · rw [er]
      simp only [hno]
    have er' : rdS w' = (match some (t, r) with | some (t, []) => some (n, t) | _ => none) := by rw [← ht]; exact er
    have u3 := s3 _ _ u2
    have lbb : (tx b).length = b.length := tx_len _
    have sfx := (rdT_ok n b t r ht).2.length_le
    have gt := (rdT_ok n b t r ht).1
    refine ⟨_, rfl, p, _, _, _, rfl, rfl, SqT.of hp, rfl, _, rfl, pp, _, _, _, rfl, rfl, SqT.of u3, rfl, _, _, rfl, ⟨Nat.le_trans (show _ ≤ 40000 by omega) (by decide), rfl⟩, rfl, _, rfl, ?_⟩
    rcases r with _ | ⟨c, r⟩
    · refine iteNS (by rw [lbb]; simp) ?_
      exact ⟨_, rfl, _, rfl, p, _, _, _, rfl, rfl, SqT.of hp, rfl, (by show 2 ≤ sizeLine; decide), fun p2 hp2 => q1 n t er' hn40 gt _ _ (s12.trans (s3.trans (Same.new hp2 _))) ⟨p2, v, rfl, upd_same, hv.up (Same.new hp2 _).tups⟩⟩
    · refine ite2 (fun _ => q2 er' H3 (s12.trans s3)) (fun h => absurd ?_ h)
      have ne : ¬ V.int ((b.length - (c :: r).length : Nat) : Int) = V.int (((tx b).length : Nat) : Int) := fun e => by
        injection e with e
        rw [List.length_cons] at e sfx
        omega
      simpa using ne
end
end Qs


namespace Qs
open PySem L2
theorem shaped4 {a b c d : Tr} (ha : a.deep ≤ 60) (hb : b.deep ≤ 60) (hc : c.deep ≤ 60) (hd : d.deep ≤ 60) : SeqAt.shaped (.list [a.data, b.data, c.data, d.data]) = true := by
  have e1 : (PyData.list [a.data, b.data, c.data, d.data]).canLay0 = true := by
    show (a.data.canLay0 && (b.data.canLay0 && (c.data.canLay0 && (d.data.canLay0 && true)))) = true
    rw [Tr.lay a, Tr.lay b, Tr.lay c, Tr.lay d]; rfl
  have e2 : (PyData.list [a.data, b.data, c.data, d.data]).depth ≤ 64 := by
    show max a.data.depth (max b.data.depth (max c.data.depth (max d.data.depth 0))) + 1 ≤ 64
    rw [Tr.depth a, Tr.depth b, Tr.depth c, Tr.depth d]; omega
  unfold SeqAt.shaped
  rw [e1, decide_eq_true e2]; rfl
theorem eqv4 (a b c d a' b' c' d' : Tr) : PyData.eqv (.list [a.data, b.data, c.data, d.data]) (.list [a'.data, b'.data, c'.data, d'.data]) = decide (a = a' ∧ b = b' ∧ c = c' ∧ d = d') := by
  show (PyData.eqv a.data a'.data && (PyData.eqv b.data b'.data && (PyData.eqv c.data c'.data && (PyData.eqv d.data d'.data && true)))) = _
  rw [Tr.eqv a a', Tr.eqv b b', Tr.eqv c c', Tr.eqv d d']
  by_cases h1 : a = a' <;> by_cases h2 : b = b' <;> by_cases h3 : c = c' <;> by_cases h4 : d = d' <;> simp [h1, h2, h3, h4]
theorem or2 {c A R : Prop} [Decidable c] (h : A) (g : A → R) : if c then A else R := by
  by_cases hc : c
  · rw [if_pos hc]; exact h
  · rw [if_neg hc]; exact g h
theorem str_one {d : Nat} (h : d < 4) : Str.ofString (toString ((d : Nat) : Int)) = one d :=
  four (P := fun d => Str.ofString (toString ((d : Nat) : Int)) = one d) (by decide +kernel) (by decide +kernel) (by decide +kernel) (by decide +kernel) h
def cell (ns : List Int) (k : Nat) : Int := (ns[k]?).getD 0
section
variable {P : Program} {w : World} {K : PySem.W.Frag} {mg : Str → Option Value} {base : Heap} {CX : CXT} {f : Addr} {fd : FuncData}
abbrev s_law_at : Stmt := top 29
theorem sc_law_at : FnScope ["_law_script", "_law_k"] ["_law_script", "_law_k"] (defScope s_law_at) := ⟨rfl, rfl, rfl, by decide +kernel, rfl, by decide +kernel, by decide +kernel⟩
def sp_law_at (K : PySem.W.Frag) : Sp := fun vs H Q _ => ∃ (a : Addr) (ns : List Int) (k : Nat), vs = [.ref a, .int k] ∧ SqL K H a (ns.map V.int) ∧ ns.length ≤ 63 ∧ Q (.int (cell ns k)) H
theorem ok_law_at (T : Tx K mg) (F : FunD K "_law_at" "_law_at" s_law_at f fd .none) : FnOk P w K mg base CX 1 f fd ["_law_script", "_law_k"] (sp_law_at K) := by
  refine F.ok sc_law_at (fun vs H Q E h => ?_) (fun cdv A outer s H vs Q E hr h => ?_)
  · obtain ⟨_, _, _, rfl, _⟩ := h
    rfl
  obtain ⟨a, ns, k, rfl, hS, hl, q'⟩ := h
  refine ⟨_, (pss_cons (ps_if (pt_cmpR op_lt (pv 1) (pe_callB call_len rfl T.b_len bb_len (pa_cons (pv 0) pa_nil)) (nomark _)) (pss_one (ps_ret (pe_ix ix_list (pv 0) (pv 1) (fun _ _ => rfl)))) pss_nil) (pss_one (ps_ret pe_int))), ?_⟩
  refine ⟨_, rfl, _, rfl, _, _, rfl, .inl ⟨_, hS, rfl⟩, _, _, rfl, rfl, _, rfl, ite2 (fun c => ?_) (fun c => ?_)⟩
  · have c' : (k : Int) < (((ns.map V.int).length : Nat) : Int) := of_decide_eq_true c
    rw [List.length_map] at c'
    have hk : k < ns.length := by omega
    have e : (ns.map V.int)[k]? = some (.int (cell ns k)) := by simp [cell, hk]
    exact ⟨_, rfl, _, rfl, a, _, _, _, rfl, rfl, hS, atI_nat e, q'⟩
  · have c' : ¬ (k : Int) < (((ns.map V.int).length : Nat) : Int) := fun z => c (decide_eq_true z)
    rw [List.length_map] at c'
    have e : cell ns k = 0 := by
      have : ns[k]? = none := List.getElem?_eq_none (by omega)
      simp [cell, this]
    rw [e] at q'
    exact q'
end
end Qs
namespace Qs
open PySem L2
theorem cutV_len2 (xs : List V) (a m : Nat) : (cutV xs (some (a : Int)) (some ((a : Int) + (m : Int)))).length ≤ m := by
  unfold cutV
  rw [List.length_take]
  have e0 : HT.sIx xs.length 0 (some (a : Int)) = min a xs.length := by
    unfold HT.sIx
    first | (simp; omega) | (dsimp only; split <;> omega)
  have e1 : HT.sIx xs.length xs.length (some ((a : Int) + (m : Int))) = min (a + m) xs.length := by
    unfold HT.sIx
    first | (simp; omega) | (dsimp only; split <;> omega)
  rw [e0, e1]
  omega
theorem cutV_mem {xs : List V} {lo hi : Option Int} {u : V} (h : u ∈ cutV xs lo hi) : u ∈ xs := by
  unfold cutV at h
  exact List.mem_of_mem_drop (List.mem_of_mem_take h)
theorem log_small4 : ∀ n : Nat, n < 4 → ((n : Int)).natAbs.log2 < 1920 := by decide +kernel
section
variable {P : Program} {w : World} {K : PySem.W.Frag} {mg : Str → Option Value} {base : Heap} {CX : CXT} {f : Addr} {fd : FuncData}
abbrev s_law_mix : Stmt := top 30
theorem sc_law_mix : FnScope ["_law_cell", "_law_k", "_law_value"] ["_law_cell", "_law_k"] (defScope s_law_mix) := ⟨rfl, rfl, rfl, by decide +kernel, rfl, by decide +kernel, by decide +kernel⟩
def sp_law_mix : Sp := fun vs H Q _ => ∃ (c : Int) (k : Nat), vs = [.int c, .int k] ∧ k ≤ 100000 ∧ ∀ m : Int, 0 ≤ m → Q (.int m) H
theorem ok_law_mix (T : Tx K mg) (F : FunD K "_law_mix" "_law_mix" s_law_mix f fd .none) : FnOk P w K mg base CX 1 f fd ["_law_cell", "_law_k"] sp_law_mix := by
  refine F.ok sc_law_mix (fun vs H Q E h => ?_) (fun cdv A outer s H vs Q E hr h => ?_)
  · obtain ⟨_, _, rfl, _⟩ := h
    rfl
  obtain ⟨c, k, rfl, hk, q'⟩ := h
  refine ⟨_, (pss_cons (ps_set (i := 2) sc_law_mix.nd rfl (Or.inl rfl) (pe_op op_mod (pe_op op_mul (pe_op op_add (pe_op op_add (pe_op op_mod (pv 0) pe_int) (pe_op op_mul pe_int (pv 1))) pe_int) (pe_op op_add pe_int (pe_op op_mul pe_int (pv 1)))) pe_int)) (pss_one (ps_ret (pe_op op_fdivW (pe_op op_mod (pe_op op_mul (pe_op op_add (pe_op op_fdivW (pv 2) pe_int) (pv 1)) pe_int) pe_int) pe_int)))), ?_⟩
  refine ⟨_, rfl, _, _, rfl, rfl, (by show (0 : Int) < 998244353; decide), _, rfl, _, _, rfl, rfl, .inl ⟨by decide, by decide⟩, _, _, rfl, rfl, _, _, rfl, rfl, ?_⟩
  refine ⟨_, rfl, _, _, rfl, rfl, .inl ⟨by decide, by decide⟩, _, _, rfl, rfl, _, _, rfl, rfl, .inr ⟨by omega, by omega⟩, _, _, rfl, rfl, (by show (0 : Int) < 2147483647; decide), ?_⟩
  refine ⟨_, rfl, _, _, rfl, rfl, cdivW (by decide) (by decide), _, rfl, _, _, rfl, rfl, _, _, rfl, rfl, .inr ⟨by decide, by decide⟩, _, _, rfl, rfl, (by show (0 : Int) < 2147483629; decide), _, _, rfl, rfl, cdivW (by decide) (by decide), ?_⟩
  refine q' _ ?_
  exact Int.ediv_nonneg (Int.emod_nonneg _ (by decide)) (by decide)
abbrev s_law_code : Stmt := top 31
theorem sc_law_code : FnScope ["_law_cell", "_law_size", "_law_code_here", "_law_k"] ["_law_cell", "_law_size"] (defScope s_law_code) := ⟨rfl, rfl, rfl, by decide +kernel, rfl, by decide +kernel, by decide +kernel⟩
def sp_law_code : Sp := fun vs H Q _ => ∃ (c : Int) (n : Nat), vs = [.int c, .int n] ∧ n ≤ 64 ∧ ∀ z : Str, IsC z → z.length = n → Q (.str z) H
theorem ok_law_code (T : Tx K mg) (q : Quiet CX) (F : FunD K "_law_code" "_law_code" s_law_code f fd .none) (C__law_mix : Fok P w K mg base CX 1 "_law_mix" ["_law_cell", "_law_k"] [] sp_law_mix) : FnOk P w K mg base CX 2 f fd ["_law_cell", "_law_size"] sp_law_code := by
  refine F.ok sc_law_code (fun vs H Q E h => ?_) (fun cdv A outer s H vs Q E hr h => ?_)
  · obtain ⟨_, _, rfl, _⟩ := h
    rfl
  obtain ⟨c, n, rfl, hn, q'⟩ := h
  refine ⟨_, (pss_cons (ps_set (i := 2) sc_law_code.nd rfl (Or.inl rfl) pe_str) (pss_cons (ps_for PassesOwn.never rfl (pi_range1 rfl T.b_range (pa_cons (pv 1) pa_nil)) (pg_name (i := 3) sc_law_code.nd rfl (Or.inl rfl)) (pss_cons (ps_set (i := 2) sc_law_code.nd rfl (Or.inl rfl) (pe_op op_add_str (pv 2) (pe_callTy call_str_int rfl T.b_str bt_str (pa_cons (pe_op op_mod (pv 0) pe_int) pa_nil)))) (pss_cons (ps_set (i := 0) sc_law_code.nd rfl (Or.inl rfl) (pe_op op_fdivW (pv 0) pe_int)) (pss_one (ps_if (PW.pt (pw_or (pt_cmpR op_eq (pv 0) pe_int (nomark _)) (pw_or1 (pt_cmpR op_eq (pv 0) (pe_un un_neg pe_int) (nomark _))))) (pss_one (ps_set (i := 0) sc_law_code.nd rfl (Or.inl rfl) (pe_callF C__law_mix q hr (pa_cons (pv 3) (pa_cons (pv 1) pa_nil))))) pss_nil))))) (pss_one (ps_ret (pv 2))))), ?_⟩
  refine ⟨_, rfl, _, rfl, by omega, by omega, for_range (fun j σ H2 => H2 = H ∧ ∃ (z : Str) (c : Int) (o3 : Option V), IsC z ∧ z.length = j ∧ σ = [some (.int c), some (.int n), some (.str z), o3]) ⟨rfl, _, c, none, empty_eq ▸ IsC.nil, by decide +kernel, rfl⟩ ?_ ?_⟩
  · rintro j σ H2 hj ⟨rfl, z, c, o3, hz, lz, rfl⟩
    have hj' : j < n := by omega
    rw [show (0 : Int) + (j : Int) = (j : Int) from Int.zero_add _]
    obtain ⟨d, hd, ed⟩ := four_of c
    refine ⟨_, rfl, _, rfl, _, _, rfl, rfl, (by show (0 : Int) < 4; decide), (d : Int), (by show [V.int (c % 4)] = _; rw [ed]), log_small4 d hd, ?_⟩
    rw [str_one hd]
    refine ⟨_, _, rfl, rfl, (by rw [lz]; show j + 1 ≤ sizeLine; exact small (by omega)), ?_⟩
    refine ⟨_, rfl, _, _, rfl, rfl, cdivW (by decide) (by decide), ?_⟩
    have nx : ∀ c : Int, H2 = H2 ∧ ∃ (z' : Str) (c' : Int) (o3 : Option V), IsC z' ∧ z'.length = j + 1 ∧ [some (V.int c), some (V.int n), some (V.str (z ++ one d)), some (V.int (j : Int))] = [some (.int c'), some (.int n), some (.str z'), o3] := fun c => ⟨rfl, _, c, _, IsC.app hz (IsC.one hd), by rw [app_len, lz]; rfl, rfl⟩
    refine ⟨_, rfl, rfl, _, rfl, or2 ?_ (fun body => ⟨_, rfl, _, rfl, rfl, _, rfl, ite2 (fun _ => body) (fun _ => nx _)⟩)⟩
    refine iteT ?_
    exact ⟨_, rfl, _, rfl, (j : Int), n, rfl, by omega, fun m hm => nx m⟩
  · rintro σ H2 ⟨rfl, z, c, o3, hz, lz, rfl⟩
    exact ⟨_, rfl, q' z hz (by omega)⟩
abbrev s_law_knit : Stmt := top 32
theorem sc_law_knit : FnScope ["_law_four"] ["_law_four"] (defScope s_law_knit) := ⟨rfl, rfl, rfl, by decide +kernel, rfl, by decide +kernel, by decide +kernel⟩
def sp_law_knit : Sp := fun vs H Q _ => ∃ (l : Addr) (xa xb xc xd : V) (ta tb tc td : Tr), vs = [.ref l] ∧ H l = some (.lst [xa, xb, xc, xd]) ∧ TrAt H xa ta ∧ TrAt H xb tb ∧ TrAt H xc tc ∧ TrAt H xd td ∧ (ta.deep ≤ 60 ∧ tb.deep ≤ 60 ∧ tc.deep ≤ 60 ∧ td.deep ≤ 60) ∧ ∀ v H', Same H H' → TrAt H' v (gath ta tb tc td) → Q v H'
theorem ok_law_knit (T : Tx K mg) (F : FunD K "_law_knit" "_law_knit" s_law_knit f fd .none) : FnOk P w K mg base CX 1 f fd ["_law_four"] sp_law_knit := by
  refine F.ok sc_law_knit (fun vs H Q E h => ?_) (fun cdv A outer s H vs Q E hr h => ?_)
  · obtain ⟨_, _, _, _, _, _, _, _, _, rfl, _⟩ := h
    rfl
  obtain ⟨l, xa, xb, xc, xd, ta, tb, tc, td, rfl, u4, ja, jb, jc, jd, ⟨da, db, dc, dd⟩, q'⟩ := h
  refine ⟨_, (pss_cons (ps_if (PW.pt (pw_or (pt_val (pe_callB (call_isiT "tuple") rfl T.b_isinstance bb_isinstance (pa_cons (pe_ix ix_list (pv 0) pe_int (fun _ _ => rfl)) (pa_cons (pe_bty T.b_tuple bt_tuple) pa_nil)))) (pw_or1 (pt_cmpR (op_neD hr) (pv 0) (pe_lstx (pax_c (pe_ix ix_list (pv 0) pe_int (fun _ _ => rfl)) (pax_c (pe_ix ix_list (pv 0) pe_int (fun _ _ => rfl)) (pax_c (pe_ix ix_list (pv 0) pe_int (fun _ _ => rfl)) (pax_c (pe_ix ix_list (pv 0) pe_int (fun _ _ => rfl)) pax_nil))))) (nomark _))))) (pss_one (ps_ret (pe_tupx (pax_c (pe_ix ix_list (pv 0) pe_int (fun _ _ => rfl)) (pax_c (pe_ix ix_list (pv 0) pe_int (fun _ _ => rfl)) (pax_c (pe_ix ix_list (pv 0) pe_int (fun _ _ => rfl)) (pax_c (pe_ix ix_list (pv 0) pe_int (fun _ _ => rfl)) pax_nil))))))) pss_nil) (pss_one (ps_ret (pe_ix ix_list (pv 0) pe_int (fun _ _ => rfl))))), ?_⟩
  have ty := ja.ty (K := K)
  have fin : ∀ H1, Same H H1 → gath ta tb tc td = .four ta tb tc td → ∀ p, H1 p = none → Q (.ref p) (upd H1 p (.tup [xa, xb, xc, xd])) := fun H1 s1 hg p hp => by
    refine q' _ _ (s1.trans (Same.new hp _)) ?_
    rw [hg]
    have sn := (s1.trans (Same.new hp (.tup [xa, xb, xc, xd]))).tups
    exact .four upd_same (ja.up sn) (jb.up sn) (jc.up sn) (jd.up sn)
  have f4 : 4 ≤ sizeLine := by decide
  have no : ¬ (ta.isCol = true ∧ tb = ta ∧ tc = ta ∧ td = ta) → gath ta tb tc td = .four ta tb tc td := fun h => by
    unfold gath; rw [if_neg (fun z => h (oneB_iff.mp z))]
  cases hta : ta.isCol with
  | false =>
    rw [hta] at ty
    refine ⟨_, rfl, l, _, _, xa, rfl, rfl, SqL.of u4, rfl, _, _, _, rfl, ty, kit_tt, _, rfl, iteT (iteT ?_)⟩
    exact ⟨_, rfl, l, _, _, _, rfl, rfl, SqL.of u4, rfl, _, rfl, l, _, _, _, rfl, rfl, SqL.of u4, rfl, _, rfl, l, _, _, _, rfl, rfl, SqL.of u4, rfl, _, rfl, l, _, _, _, rfl, rfl, SqL.of u4, rfl, f4, fin H (Same.refl H) (no fun z => by rw [hta] at z; cases z.1)⟩
  | true =>
    rw [hta] at ty
    refine ⟨_, rfl, l, _, _, xa, rfl, rfl, SqL.of u4, rfl, _, _, _, rfl, ty, kit_it, _, rfl, iteF ?_⟩
    refine ⟨_, rfl, _, rfl, l, _, _, xa, rfl, rfl, SqL.of u4, rfl, _, rfl, l, _, _, xa, rfl, rfl, SqL.of u4, rfl, _, rfl, l, _, _, xa, rfl, rfl, SqL.of u4, rfl, _, rfl, l, _, _, xa, rfl, rfl, SqL.of u4, rfl, f4, fun m hm => ?_⟩
    have sy := Same.new hm (.lst [xa, xa, xa, xa])
    have um : upd H m (.lst [xa, xa, xa, xa]) m = some (.lst [xa, xa, xa, xa]) := upd_same
    generalize upd H m (.lst [xa, xa, xa, xa]) = H5 at *
    have u5 := sy _ _ u4
    have la := ja.up sy.tups
    refine ⟨_, _, .lst u5 (.cons la.dat (.cons (jb.up sy.tups).dat (.cons (jc.up sy.tups).dat (.cons (jd.up sy.tups).dat .nil)))), .lst um (.cons la.dat (.cons la.dat (.cons la.dat (.cons la.dat .nil)))), shaped4 da db dc dd, shaped4 da da da da, ?_⟩
    rw [eqv4]
    refine ⟨_, rfl, ite2 (fun z => ?_) (fun z => ?_)⟩
    · have z' : ¬ (ta = ta ∧ tb = ta ∧ tc = ta ∧ td = ta) := fun h => by
        have h' := decide_eq_true h
        rw [h'] at z
        exact absurd z (by decide)
      exact ⟨_, rfl, l, _, _, _, rfl, rfl, SqL.of u5, rfl, _, rfl, l, _, _, _, rfl, rfl, SqL.of u5, rfl, _, rfl, l, _, _, _, rfl, rfl, SqL.of u5, rfl, _, rfl, l, _, _, _, rfl, rfl, SqL.of u5, rfl, f4, fin H5 sy (no fun z => z' ⟨rfl, z.2⟩)⟩
    · have z' : ta = ta ∧ tb = ta ∧ tc = ta ∧ td = ta := by simpa using z
      refine ⟨_, rfl, l, _, _, _, rfl, rfl, SqL.of u5, rfl, q' _ _ sy ?_⟩
      unfold gath
      rw [if_pos (oneB_iff.mpr ⟨hta, z'.2⟩)]
      exact la
abbrev s_law_painted : Stmt := top 33
theorem sc_law_painted : FnScope ["_law_tree_here", "_law_code_here", "_law_colour_here", "_law_four"] ["_law_tree_here", "_law_code_here", "_law_colour_here"] (defScope s_law_painted) := ⟨rfl, rfl, rfl, by decide +kernel, rfl, by decide +kernel, by decide +kernel⟩
def sp_law_painted (m : Nat) : Sp := fun vs H Q _ => ∃ (v : V) (i : Int) (t : Tr) (z : Str), vs = [v, .str z, .int i] ∧ TrAt H v t ∧ IsC z ∧ z.length < m ∧ m ≤ 41 ∧ t.deep ≤ 60 ∧ ∀ v' H', Same H H' → TrAt H' v' (plant t (dig z) (.col i)) → Q v' H'
theorem ok_law_painted (T : Tx K mg) (q : Quiet CX) (F : FunD K "_law_painted" "_law_painted" s_law_painted f fd .none) (C__law_knit : Fok P w K mg base CX 1 "_law_knit" ["_law_four"] [] sp_law_knit) (b : Binds K fd ["_law_tree_here", "_law_code_here", "_law_colour_here"] []) (m : mg "_law_painted" = some (.ref f)) :
    ∀ n, FnOk P w K mg base CX (2 + n) f fd ["_law_tree_here", "_law_code_here", "_law_colour_here"] (sp_law_painted n)
  | 0 => by
    refine F.ok sc_law_painted (fun vs H Q E h => ?_) (fun cdv A outer s H vs Q E hr h => ?_)
    · obtain ⟨_, _, _, _, rfl, _⟩ := h
      rfl
    obtain ⟨_, _, _, _, _, _, _, h, _⟩ := h
    exact absurd h (Nat.not_lt_zero _)
  | n + 1 => by
    have C__law_painted : Fok P w K mg base CX (2 + n) "_law_painted" ["_law_tree_here", "_law_code_here", "_law_colour_here"] [] (sp_law_painted n) := fok F (ok_law_painted T q F C__law_knit b m n) b m
    refine F.ok sc_law_painted (fun vs H Q E h => ?_) (fun cdv A outer s H vs Q E hr h => ?_)
    · obtain ⟨_, _, _, _, rfl, _⟩ := h
      rfl
    obtain ⟨v, i, t, z, rfl, ht, hz, hl, hm, dt, q'⟩ := h
    refine ⟨_, (pss_cons (ps_if (pt_cmpR op_eq (pv 1) pe_str (nomark _)) (pss_one (ps_ret (pv 2))) pss_nil) (pss_cons (ps_set (i := 3) sc_law_painted.nd rfl (Or.inl rfl) (pe_lstx (pax_c (pv 0) (pax_c (pv 0) (pax_c (pv 0) (pax_c (pv 0) pax_nil)))))) (pss_cons (ps_cut (ps_if (pt_val (pe_callB (call_isiT "tuple") rfl T.b_isinstance bb_isinstance (pa_cons (pv 0) (pa_cons (pe_bty T.b_tuple bt_tuple) pa_nil)))) (pss_one (ps_set (i := 3) sc_law_painted.nd rfl (Or.inl rfl) (pe_callTy call_list_of rfl T.b_list bt_list (pa_cons (pv 0) pa_nil)))) pss_nil)) (pss_cons (ps_asg (pe_callF C__law_painted q hr (pa_cons (pe_ix ix_list (pv 3) (pe_callTy call_int_str rfl T.b_int bt_int (pa_cons (pe_ix ix_str (pv 1) pe_int (fun _ _ => rfl)) pa_nil)) (fun _ _ => rfl)) (pa_cons (pe_slice sl_str (pv 1) (po_some pe_int) po_none) (pa_cons (pv 2) pa_nil))) (hj := by first | decide | omega | (simp only [Nat.add_eq]; omega))) (pg_sub (pv 3) (pe_callTy call_int_str rfl T.b_int bt_int (pa_cons (pe_ix ix_str (pv 1) pe_int (fun _ _ => rfl)) pa_nil)) set_list)) (pss_one (ps_ret (pe_callF C__law_knit q hr (pa_cons (pv 3) pa_nil) (hj := by first | decide | omega | (simp only [Nat.add_eq]; omega))))))))), ?_⟩
    refine ⟨_, rfl, rfl, _, rfl, ite2 (fun c => ?_) (fun c => ?_)⟩
    · have e : z = ("" : Str) := by simpa using c
      subst e
      rw [dig_empty] at q'
      exact ⟨_, rfl, q' (.int i) H (Same.refl H) (.col i)⟩
    have pz : 0 < z.length := by
      rcases Nat.eq_zero_or_pos z.length with h0 | h0
      · exact absurd (by simp [str_eq_nil.mpr h0]) c
      · exact h0
    have hs : z.length ≤ sizeLine := small (by omega)
    refine ⟨_, rfl, _, rfl, _, rfl, _, rfl, (by show 4 ≤ sizeLine; decide), fun l0 hl0 => ?_⟩
    have s1 := Same.new hl0 (.lst [v, v, v, v])
    have u1 : upd H l0 (.lst [v, v, v, v]) l0 = some (.lst [v, v, v, v]) := upd_same
    generalize upd H l0 (.lst [v, v, v, v]) = H1 at *
    have ht1 := ht.up s1.tups
    refine ⟨fun σ H2 => Same H H2 ∧ ∃ (l : Addr) (a b c d : V), H l = none ∧ H2 l = some (.lst [a, b, c, d]) ∧ TrAt H2 a (q0 t) ∧ TrAt H2 b (q1 t) ∧ TrAt H2 c (q2 t) ∧ TrAt H2 d (q3 t) ∧ σ = [some v, some (.str z), some (.int i), some (.ref l)], ?_, ?_⟩
    · cases ht1 with
      | col j => exact ⟨_, rfl, _, _, _, rfl, .int j, kit_it, _, rfl, iteF ⟨s1, l0, _, _, _, _, hl0, u1, .col j, .col j, .col j, .col j, rfl⟩⟩
      | @four p xa xb xc xd ta tb tc td e ja jb jc jd =>
        refine ⟨_, rfl, _, _, _, rfl, .tup e, kit_tt, _, rfl, iteT ?_⟩
        refine ⟨_, rfl, p, _, rfl, .inr (SqT.of e), fun l1 hl1 => ?_⟩
        have s2 := Same.new hl1 (.lst [xa, xb, xc, xd])
        exact ⟨s1.trans s2, l1, xa, xb, xc, xd, Same.none s1 hl1, upd_same, ja.up s2.tups, jb.up s2.tups, jc.up s2.tups, jd.up s2.tups, rfl⟩
    rintro σ H2 ⟨s2, l, a, b, c, d, hl0', u2, ka, kb, kc, kd, rfl⟩
    obtain ⟨e, he, e1, e2⟩ := sgn_one hz pz
    have key : ∃ x, atI [a, b, c, d] (e : Int) = some x ∧ TrAt H2 x (qk t e) := by
      rcases e with _ | _ | _ | _ | e
      · exact ⟨a, rfl, ka⟩
      · exact ⟨b, rfl, kb⟩
      · exact ⟨c, rfl, kc⟩
      · exact ⟨d, rfl, kd⟩
      · omega
    obtain ⟨x, ex, kx⟩ := key
    have it : intText? (sgn z 0) = some (e : Int) := by rw [e1]; exact int_one he
    refine ⟨_, rfl, _, rfl, z, 0, z.cps.getD 0 0, rfl, rfl, hs, at_zero pz, _, (e : Int), rfl, it, (by show (1 : Nat) ≤ 640; decide), l, _, _, x, rfl, rfl, SqL.of u2, ex, _, rfl, _, rfl, z, rfl, hs, _, rfl, ?_⟩
    have rl := rst_len z
    refine ⟨x, i, qk t e, rst z, (by show [x, V.str _, V.int i] = [x, V.str _, V.int i]; rw [slice_rst pz]), kx, rst_isC hz, by omega, by omega, qk_deep' dt, fun v' H3 s3 hv' => ?_⟩
    have u3 := s3 _ _ u2
    have hix : ixN [a, b, c, d].length (e : Int) = some e := by
      unfold ixN
      rw [if_pos (by omega), if_pos (by simp; omega), Int.toNat_natCast]
    refine ⟨_, rfl, _, rfl, z, 0, z.cps.getD 0 0, rfl, rfl, hs, at_zero pz, _, (e : Int), rfl, it, (by show (1 : Nat) ≤ 640; decide), l, [a, b, c, d], (e : Int), e, rfl, rfl, u3, hix, ?_⟩
    have t3 := Tups.lst (ys := [a, b, c, d].set e v') u3
    have sf : Same H (upd H3 l (.lst ([a, b, c, d].set e v'))) := Same.set (s2.trans s3) hl0' _
    have t23 := s3.tups.trans t3
    have dq := plant_deep (dig (rst z)) 60 (qk t e) (.col i) (qk_deep' dt) (by rw [dig_len]; show (Tr.col i).deep + _ ≤ 60; show 0 + _ ≤ 60; omega)
    have ep : plant t (dig z) (.col i) = put4 t e (plant (qk t e) (dig (rst z)) (.col i)) := by rw [dig_rst pz, e2]; rfl
    rw [ep] at q'
    have d0 := qk_deep' (d := 0) dt
    have d1 := qk_deep' (d := 1) dt
    have d2 := qk_deep' (d := 2) dt
    have d3 := qk_deep' (d := 3) dt
    have kv := hv'.up t3
    rcases e with _ | _ | _ | _ | e
    · exact ⟨_, rfl, l, _, _, _, _, _, _, _, _, rfl, upd_same, kv, kb.up t23, kc.up t23, kd.up t23, ⟨dq, d1, d2, d3⟩, fun v2 H4 s4 h4 => q' v2 H4 (sf.trans s4) h4⟩
    · exact ⟨_, rfl, l, _, _, _, _, _, _, _, _, rfl, upd_same, ka.up t23, kv, kc.up t23, kd.up t23, ⟨d0, dq, d2, d3⟩, fun v2 H4 s4 h4 => q' v2 H4 (sf.trans s4) h4⟩
    · exact ⟨_, rfl, l, _, _, _, _, _, _, _, _, rfl, upd_same, ka.up t23, kb.up t23, kv, kd.up t23, ⟨d0, d1, dq, d3⟩, fun v2 H4 s4 h4 => q' v2 H4 (sf.trans s4) h4⟩
    · exact ⟨_, rfl, l, _, _, _, _, _, _, _, _, rfl, upd_same, ka.up t23, kb.up t23, kc.up t23, kv, ⟨d0, d1, d2, dq⟩, fun v2 H4 s4 h4 => q' v2 H4 (sf.trans s4) h4⟩
    · omega
abbrev s_law_colour : Stmt := top 34
theorem sc_law_colour : FnScope ["_law_cell", "_law_few"] ["_law_cell", "_law_few"] (defScope s_law_colour) := ⟨rfl, rfl, rfl, by decide +kernel, rfl, by decide +kernel, by decide +kernel⟩
def sp_law_colour : Sp := fun vs H Q _ => ∃ (c : Int) (p : Addr) (a b : Int), vs = [.int c, .ref p] ∧ H p = some (.tup [.int a, .int b]) ∧ (0 ≤ a ∧ a ≤ 35) ∧ (0 ≤ b ∧ b ≤ 35) ∧ ∀ i : Int, 0 ≤ i → i ≤ 35 → Q (.int i) H
theorem ok_law_colour (T : Tx K mg) (F : FunD K "_law_colour" "_law_colour" s_law_colour f fd .none) : FnOk P w K mg base CX 1 f fd ["_law_cell", "_law_few"] sp_law_colour := by
  refine F.ok sc_law_colour (fun vs H Q E h => ?_) (fun cdv A outer s H vs Q E hr h => ?_)
  · obtain ⟨_, _, _, _, rfl, _⟩ := h
    rfl
  obtain ⟨c, p, a, b, rfl, hp, ha, hb, q'⟩ := h
  refine ⟨_, (pss_cons (ps_if (pt_cmpR op_lt (pe_op op_mod (pv 0) pe_int) pe_int (nomark _)) (pss_one (ps_ret (pe_ix ix_tup (pv 1) (pe_op op_mod (pv 0) pe_int) (fun _ _ => rfl)))) pss_nil) (pss_one (ps_ret (pe_op op_mod (pe_op op_fdivW (pv 0) pe_int) pe_int)))), ?_⟩
  refine ⟨_, rfl, _, _, rfl, rfl, (by show (0 : Int) < 3; decide), _, _, rfl, rfl, _, rfl, ite2 (fun h => ?_) (fun _ => ?_)⟩
  · have h' : c % 3 < 2 := of_decide_eq_true h
    have h2 : c % 3 = 0 ∨ c % 3 = 1 := by omega
    refine ⟨_, rfl, _, rfl, _, _, rfl, rfl, (by show (0 : Int) < 3; decide), ?_⟩
    rcases h2 with h2 | h2
    · exact ⟨p, _, _, .int a, rfl, rfl, SqT.of hp, by rw [h2]; rfl, q' a ha.1 ha.2⟩
    · exact ⟨p, _, _, .int b, rfl, rfl, SqT.of hp, by rw [h2]; rfl, q' b hb.1 hb.2⟩
  · exact ⟨_, rfl, _, _, rfl, rfl, cdivW (by decide) (by decide), _, _, rfl, rfl, (by show (0 : Int) < 36; decide), q' _ (by show 0 ≤ c / 3 % 36; omega) (by show c / 3 % 36 ≤ 35; omega)⟩
abbrev s_law_tree : Stmt := top 35
theorem sc_law_tree : FnScope ["_law_script", "_law_first", "_law_level", "_law_most", "_law_few", "_law_tree_here", "_law_cell", "_law_size"] ["_law_script", "_law_first", "_law_level", "_law_most"] (defScope s_law_tree) := ⟨rfl, rfl, rfl, by decide +kernel, rfl, by decide +kernel, by decide +kernel⟩
def sp_law_tree (K : PySem.W.Frag) : Sp := fun vs H Q _ => ∃ (a : Addr) (ns : List Int) (k n most : Nat), vs = [.ref a, .int k, .int n, .int most] ∧ SqL K H a (ns.map V.int) ∧ ns.length ≤ 63 ∧ n ≤ 40 ∧ most ≤ 20 ∧ k ≤ 60 ∧
  ∀ v t H', Same H H' → TrAt H' v t → Good n t → cnt t ≤ 1 + (3 * n + 1) * (most + 1) → Q v H'
theorem ok_law_tree (T : Tx K mg) (q : Quiet CX) (F : FunD K "_law_tree" "_law_tree" s_law_tree f fd .none) (C__law_at : Fok P w K mg base CX 1 "_law_at" ["_law_script", "_law_k"] [] (sp_law_at K)) (C__law_mix : Fok P w K mg base CX 1 "_law_mix" ["_law_cell", "_law_k"] [] sp_law_mix) (C__law_painted : Fok P w K mg base CX 43 "_law_painted" ["_law_tree_here", "_law_code_here", "_law_colour_here"] [] (sp_law_painted 41))
    (C__law_code : Fok P w K mg base CX 2 "_law_code" ["_law_cell", "_law_size"] [] sp_law_code) (C__law_colour : Fok P w K mg base CX 1 "_law_colour" ["_law_cell", "_law_few"] [] sp_law_colour) : FnOk P w K mg base CX 44 f fd ["_law_script", "_law_first", "_law_level", "_law_most"] (sp_law_tree K) := by
  refine F.ok sc_law_tree (fun vs H Q E h => ?_) (fun cdv A outer s H vs Q E hr h => ?_)
  · obtain ⟨_, _, _, _, _, rfl, _⟩ := h
    rfl
  obtain ⟨a, ns, k, n, most, rfl, hS, h63, hn, hmost, hk, q'⟩ := h
  refine ⟨_, (pss_cons (ps_set (i := 4) sc_law_tree.nd rfl (Or.inl rfl) (pe_tupx (pax_c (pe_op op_mod (pe_callF C__law_at q hr (pa_cons (pv 0) (pa_cons (pv 1) pa_nil))) pe_int) (pax_c (pe_op op_mod (pe_op op_fdivW (pe_callF C__law_at q hr (pa_cons (pv 0) (pa_cons (pe_op op_add (pv 1) pe_int) pa_nil))) pe_int) pe_int) pax_nil)))) (pss_cons (ps_set (i := 5) sc_law_tree.nd rfl (Or.inl rfl) (pe_ix ix_tup (pv 4) pe_int (fun _ _ => rfl))) (pss_cons (ps_for PassesOwn.never rfl (pi_list (pe_op op_cat (pe_slice sl_list (pv 0) (po_some (pe_op op_add (pv 1) pe_int)) (po_some (pe_op op_add (pe_op op_add (pv 1) pe_int) (pv 3)))) (pe_lstx (pax_c (pe_callF C__law_at q hr (pa_cons (pv 0) (pa_cons (pe_op op_add (pv 1) pe_int) pa_nil))) pax_nil)))) (pg_name (i := 6) sc_law_tree.nd rfl (Or.inl rfl)) (pss_cons (ps_set (i := 7) sc_law_tree.nd rfl (Or.inl rfl) (pe_op op_sub (pv 2) (pe_op op_mul (pe_op op_mod (pe_callF C__law_mix q hr (pa_cons (pv 6) (pa_cons pe_int pa_nil))) (pe_op op_add (pv 2) pe_int)) (pe_op op_mod (pe_callF C__law_mix q hr (pa_cons (pv 6) (pa_cons pe_int pa_nil))) pe_int)))) (pss_one (ps_set (i := 5) sc_law_tree.nd rfl (Or.inl rfl) (pe_callF C__law_painted q hr (pa_cons (pv 5) (pa_cons (pe_callF C__law_code q hr (pa_cons (pv 6) (pa_cons (pv 7) pa_nil))) (pa_cons (pe_callF C__law_colour q hr (pa_cons (pe_callF C__law_mix q hr (pa_cons (pv 6) (pa_cons pe_int pa_nil))) (pa_cons (pv 4) pa_nil))) pa_nil)))))))) (pss_one (ps_ret (pv 5)))))), ?_⟩
  refine ⟨_, rfl, _, rfl, a, ns, k, rfl, hS, h63, _, _, rfl, rfl, (by show (0 : Int) < 36; decide), ?_⟩
  refine ⟨_, rfl, _, rfl, _, _, rfl, rfl, a, ns, k + 1, rfl, hS, h63, _, _, rfl, rfl, cdivW (by decide) (by decide), _, _, rfl, rfl, (by show (0 : Int) < 36; decide), (by show 2 ≤ sizeLine; decide), fun pf hpf => ?_⟩
  obtain ⟨c1, ec1, hc1⟩ : ∃ c1 : Int, cell ns k % 36 = c1 ∧ (0 ≤ c1 ∧ c1 ≤ 35) := ⟨_, rfl, by omega⟩
  obtain ⟨c2, ec2, hc2⟩ : ∃ c2 : Int, cell ns (k + 1) / 2 % 36 = c2 ∧ (0 ≤ c2 ∧ c2 ≤ 35) := ⟨_, rfl, by omega⟩
  rw [show (fun i j : Int => V.int (i % j)) (cell ns k) 36 = V.int c1 from congrArg V.int ec1, show (fun i j : Int => V.int (i % j)) (cell ns (k + 1) / 2) 36 = V.int c2 from congrArg V.int ec2]
  have s1 := Same.new hpf (.tup [.int c1, .int c2])
  have u1 : upd H pf (.tup [.int c1, .int c2]) pf = some (.tup [.int c1, .int c2]) := upd_same
  generalize upd H pf (.tup [.int c1, .int c2]) = H1 at *
  refine ⟨_, rfl, pf, _, _, _, rfl, rfl, SqT.of u1, rfl, ?_⟩
  have hS1 := s1.seq hS
  refine ⟨_, rfl, _, rfl, _, _, rfl, rfl, (k : Int) + 2, rfl, _, rfl, _, _, rfl, rfl, _, rfl, _, _, rfl, rfl, (k : Int) + 2 + (most : Int), rfl, a, ns.map V.int, rfl, hS1, fun ls hls => ?_⟩
  have lc : (cutV (ns.map V.int) (some ((k : Int) + 2)) (some ((k : Int) + 2 + (most : Int)))).length ≤ most := by
    have := cutV_len2 (ns.map V.int) (k + 2) most
    rw [show ((k + 2 : Nat) : Int) = (k : Int) + 2 by omega] at this
    exact this
  have mc : ∀ u ∈ cutV (ns.map V.int) (some ((k : Int) + 2)) (some ((k : Int) + 2 + (most : Int))), ∃ i : Int, u = .int i := fun u hu => by
    obtain ⟨i, _, e⟩ := List.mem_map.mp (cutV_mem hu)
    exact ⟨i, e.symm⟩
  generalize cutV (ns.map V.int) (some ((k : Int) + 2)) (some ((k : Int) + 2 + (most : Int))) = cs at *
  have s2 := s1.trans (Same.new hls (.lst cs))
  have u2 := (Same.new hls (.lst cs)) _ _ u1
  have v2 : upd H1 ls (.lst cs) ls = some (.lst cs) := upd_same
  generalize upd H1 ls (.lst cs) = H2 at *
  refine ⟨_, rfl, _, rfl, _, _, rfl, rfl, a, ns, k + 1, rfl, s2.seq hS, h63, (by show 1 ≤ sizeLine; decide), fun l1 hl1 => ?_⟩
  have s3 := Same.new hl1 (.lst [.int (cell ns (k + 1))])
  have v3 := s3 _ _ v2
  have u3 := s3 _ _ u2
  have w3 : upd H2 l1 (.lst [.int (cell ns (k + 1))]) l1 = some (.lst [.int (cell ns (k + 1))]) := upd_same
  generalize upd H2 l1 (.lst [.int (cell ns (k + 1))]) = H3 at *
  refine ⟨ls, l1, _, _, rfl, rfl, v3, w3, small (by show cs.length + 1 ≤ _; omega), fun l2 hl2 => ?_⟩
  have s4 := Same.new hl2 (.lst (cs ++ [.int (cell ns (k + 1))]))
  have u4 := s4 _ _ u3
  have w4 : upd H3 l2 (.lst (cs ++ [.int (cell ns (k + 1))])) l2 = some (.lst (cs ++ [.int (cell ns (k + 1))])) := upd_same
  generalize upd H3 l2 (.lst (cs ++ [.int (cell ns (k + 1))])) = H4 at *
  have s04 := s2.trans (s3.trans s4)
  have mc' : ∀ u ∈ cs ++ [V.int (cell ns (k + 1))], ∃ i : Int, u = .int i := fun u hu => by
    rcases List.mem_append.mp hu with hu | hu
    · exact mc u hu
    · exact ⟨_, List.mem_singleton.mp hu⟩
  have lx : (cs ++ [V.int (cell ns (k + 1))]).length ≤ most + 1 := by rw [List.length_append]; show cs.length + 1 ≤ most + 1; omega
  generalize cs ++ [V.int (cell ns (k + 1))] = xs at *
  refine ⟨l2, rfl, ⟨_, SqL.of w4⟩, for_list (xs := xs) (fun j σ Hx => Same H4 Hx ∧ ∃ (v : V) (t : Tr) (o6 o7 : Option V), TrAt Hx v t ∧ Good n t ∧ cnt t ≤ 1 + (3 * n + 1) * j ∧ j ≤ xs.length ∧ σ = [some (.ref a), some (.int k), some (.int n), some (.int most), some (.ref pf), some v, o6, o7]) ⟨Same.refl _, .int c1, .col c1, none, none, .col c1, Good.col hc1, Nat.le_refl _, Nat.zero_le _, rfl⟩ (fun j σ Hx _ h => SqL.of (h.1 _ _ w4)) ?_ ?_⟩
  · rintro j u σ Hx hu ⟨sx, v, t, o6, o7, hv, gt, ct, hj, rfl⟩
    obtain ⟨i, rfl⟩ := mc' u (List.mem_of_getElem? hu)
    have hj' : j < xs.length := (List.getElem?_eq_some_iff.mp hu).1
    have pn : (0 : Int) < (n : Int) + 1 := by omega
    refine ⟨_, rfl, _, rfl, i, 7, rfl, by decide, fun m1 hm1 => ?_⟩
    refine ⟨_, rfl, _, _, rfl, rfl, _, _, rfl, rfl, pn, ?_⟩
    refine ⟨_, rfl, i, 8, rfl, by decide, fun m2 hm2 => ⟨_, _, rfl, rfl, (by show (0 : Int) < 2; decide), _, _, rfl, rfl, ?_, _, _, rfl, rfl, ?_⟩⟩
    · refine .inr ⟨?_, ?_⟩
      · show -(2 ^ 64) < m2 % 2
        omega
      · show m2 % 2 < 2 ^ 64
        omega
    obtain ⟨sg, hsg, esg⟩ : ∃ sg : Nat, sg ≤ n ∧ (n : Int) - m1 % ((n : Int) + 1) * (m2 % 2) = (sg : Int) := by
      have h1 := Int.emod_nonneg m1 (show (n : Int) + 1 ≠ 0 by omega)
      have h2 := Int.emod_lt_of_pos m1 pn
      have h3 : m2 % 2 = 0 ∨ m2 % 2 = 1 := by omega
      rcases h3 with h3 | h3
      · exact ⟨n, Nat.le_refl _, by rw [h3]; omega⟩
      · exact ⟨((n : Int) - m1 % ((n : Int) + 1)).toNat, by omega, by rw [h3]; omega⟩
    rw [show (fun i j : Int => V.int (i - j)) (n : Int) (m1 % ((n : Int) + 1) * (m2 % 2)) = V.int (sg : Int) from congrArg V.int esg]
    refine ⟨_, rfl, _, rfl, _, rfl, i, sg, rfl, by omega, fun z hz lz => ?_⟩
    refine ⟨_, rfl, i, 9, rfl, by decide, fun m3 hm3 => ⟨_, rfl, m3, pf, c1, c2, rfl, sx _ _ u4, hc1, hc2, fun c hc0 hc1' => ?_⟩⟩
    have dt := gt.deep
    refine ⟨v, c, t, z, rfl, hv, hz, by omega, by decide, by omega, fun v' Hy sy hv' => ⟨sx.trans sy, v', _, _, _, hv', good_plant (by rw [dig_len]; omega) gt (Good.col ⟨hc0, hc1'⟩), ?_, hj', rfl⟩⟩
    have cp := cnt_plant (dig z) t (.col c) (dig_lt hz)
    rw [dig_len] at cp
    have c1' : cnt (Tr.col c) = 1 := rfl
    have e3 : 3 * z.length ≤ 3 * n := by omega
    rw [Nat.mul_succ]
    omega
  · rintro σ Hx ⟨sx, v, t, o6, o7, hv, gt, ct, hj, rfl⟩
    refine ⟨_, rfl, q' v t Hx (s04.trans sx) hv gt (Nat.le_trans ct ?_)⟩
    exact Nat.add_le_add_left (Nat.mul_le_mul_left _ lx) 1
end
end Qs


namespace Qs
open PySem L2
theorem at_some {xs : List Nat} {k : Nat} (h : k < xs.length) : ∃ c, atI xs (k : Int) = some c := ⟨_, atI_nat (List.getElem?_eq_getElem h)⟩
section
variable {P : Program} {w : World} {K : PySem.W.Frag} {mg : Str → Option Value} {base : Heap} {CX : CXT} {f : Addr} {fd : FuncData}
abbrev s_law_signs : Stmt := top 36
theorem sc_law_signs : FnScope ["_law_tree_here"] ["_law_tree_here"] (defScope s_law_signs) := ⟨rfl, rfl, rfl, by decide +kernel, rfl, by decide +kernel, by decide +kernel⟩
def sp_law_signs (m : Nat) : Sp := fun vs H Q _ => ∃ (v : V) (t : Tr) (n : Nat), vs = [v] ∧ TrAt H v t ∧ Good n t ∧ n < m ∧ m ≤ 41 ∧ cnt t ≤ 1500 ∧ ∀ H', Same H H' → Q (.str (tx (wr t))) H'
theorem ok_law_signs (T : Tx K mg) (q : Quiet CX) (F : FunD K "_law_signs" "_law_signs" s_law_signs f fd .none) (b : Binds K fd ["_law_tree_here"] []) (m : mg "_law_signs" = some (.ref f)) :
    ∀ n, FnOk P w K mg base CX (1 + n) f fd ["_law_tree_here"] (sp_law_signs n)
  | 0 => by
    refine F.ok sc_law_signs (fun vs H Q E h => ?_) (fun cdv A outer s H vs Q E hr h => ?_)
    · obtain ⟨_, _, _, rfl, _⟩ := h
      rfl
    obtain ⟨_, _, _, _, _, _, h, _⟩ := h
    exact absurd h (Nat.not_lt_zero _)
  | m' + 1 => by
    have C__law_signs : Fok P w K mg base CX (1 + m') "_law_signs" ["_law_tree_here"] [] (sp_law_signs m') := fok F (ok_law_signs T q F b m m') b m
    refine F.ok sc_law_signs (fun vs H Q E h => ?_) (fun cdv A outer s H vs Q E hr h => ?_)
    · obtain ⟨_, _, _, rfl, _⟩ := h
      rfl
    obtain ⟨v, t, n, rfl, ht, gt, hn, hm, hc, q'⟩ := h
    refine ⟨_, (pss_cons (ps_if (pt_val (pe_callB (call_isiT "tuple") rfl T.b_isinstance bb_isinstance (pa_cons (pv 0) (pa_cons (pe_bty T.b_tuple bt_tuple) pa_nil)))) (pss_one (ps_ret (pe_op op_add_str pe_str (pe_bm PySem.F.plainAttrs_str PySem.F.slot_str_join PySem.F.type_str_join mt_join pe_str (pa_cons (pe_compC (N' := ["_law_part"]) [] [] [] 1 (by with_unfolding_all rfl) rfl capsOk_nil rfl rfl (by decide) rfl (by decide +kernel) rfl (by decide +kernel) rfl (pi_tup (pv 0)) (fun C s0 H0 fp pins => (pg_name (i := 0) (show (["_law_part"] : List Str).Nodup by decide +kernel) rfl (Or.inl rfl) (Or.inr rfl))) (fun C s0 H0 fp pins => (pe_callF C__law_signs q hr (pa_cons (pv 0) pa_nil) (hj := by first | decide | omega | (simp only [Nat.add_eq]; omega))))) pa_nil))))) pss_nil) (pss_one (ps_ret (pe_ix ix_str pe_str (pv 0) (fun _ _ => rfl))))), ?_⟩
    cases ht with
    | col i =>
      have g' : 0 ≤ i ∧ i ≤ 35 := by cases n <;> exact gt
      obtain ⟨c, rfl⟩ : ∃ c : Nat, i = (c : Int) := ⟨i.toNat, by omega⟩
      refine ⟨_, rfl, _, _, _, rfl, .int _, kit_it, _, rfl, iteF ?_⟩
      refine ⟨_, rfl, _, _, cp c, rfl, rfl, signs_len, at_sign c (by omega), ?_⟩
      exact q' H (Same.refl H)
    | @four p xa xb xc xd ta tb tc td e ja jb jc jd =>
      rcases n with _ | n
      · exact gt.elim
      obtain ⟨ga, gb, gc, gd, ho⟩ := gt
      refine ⟨_, rfl, _, _, _, rfl, .tup e, kit_tt, _, rfl, iteT ?_⟩
      have hc' : cnt ta + cnt tb + cnt tc + cnt td ≤ 1500 := hc
      refine ⟨rfl, [], rfl, _, rfl, p, rfl, ⟨_, SqT.of e⟩, compC_tup [xa, xb, xc, xd] (fun D j ys H' => Same H H' ∧ H' D = some (.lst ys) ∧ j ≤ 4 ∧ ys = ([wr ta, wr tb, wr tc, wr td].take j).map fun l => V.str (tx l)) (by show 4 ≤ sizeLine; decide) (fun D j ys H' h => SqT.of (h.1 _ _ e)) (fun D j ys H' h => ⟨h.2.1, by rw [h.2.2.2]; simp; omega⟩) (fun D hD => ⟨Same.new hD _, upd_same, by decide, rfl⟩) ?_ ?_ (fun _ _ _ _ _ k h => k _ _ h) ?_⟩
      · rintro D j x ys H' hx hD ⟨c1, c2, c3, c4⟩
        have key : ∃ tx', TrAt H x tx' ∧ Good n tx' ∧ cnt tx' ≤ 1500 ∧ [wr ta, wr tb, wr tc, wr td][j]? = some (wr tx') := by
          rcases at4 hx with ⟨rfl, rfl⟩ | ⟨rfl, rfl⟩ | ⟨rfl, rfl⟩ | ⟨rfl, rfl⟩
          · exact ⟨ta, ja, ga, by omega, rfl⟩
          · exact ⟨tb, jb, gb, by omega, rfl⟩
          · exact ⟨tc, jc, gc, by omega, rfl⟩
          · exact ⟨td, jd, gd, by omega, rfl⟩
        obtain ⟨t', k1, k2, k3, k4⟩ := key
        have hj : j < 4 := (List.getElem?_eq_some_iff.mp hx).1
        refine ⟨rfl, _, rfl, x, t', n, rfl, k1.up c1.tups, k2, by omega, by omega, k3, fun H4 s4 => ⟨s4 _ _ c2, Same.set (c1.trans s4) hD _, upd_same, hj, ?_⟩⟩
        rw [List.take_add_one, k4, c4, List.map_append]; rfl
      · rintro D ys H' hD ⟨c1, c2, c3, c4⟩
        have l4 := wr_len (.four ta tb tc td)
        have lw : (wr (.four ta tb tc td)).length = (wr ta ++ (wr tb ++ (wr tc ++ wr td))).length + 1 := rfl
        rw [List.length_append, List.length_append, List.length_append] at lw
        have cc : cnt (.four ta tb tc td) ≤ 1500 := hc
        refine ⟨_, D, [tx (wr ta), tx (wr tb), tx (wr tc), tx (wr td)], rfl, rfl, SqL.of (by rw [c2, c4]; rfl), ?_, ?_⟩
        · show (tx (wr ta)).length + ((tx (wr tb)).length + ((tx (wr tc)).length + ((tx (wr td)).length + 0))) + 4 * ("" : Str).length ≤ 16777216
          rw [tx_len, tx_len, tx_len, tx_len, show ("" : Str).length = 0 by decide +kernel]
          omega
        · have ej : Txt.join ("" : Str) [tx (wr ta), tx (wr tb), tx (wr tc), tx (wr td)] = tx (wr ta ++ (wr tb ++ (wr tc ++ wr td))) := by
            have := tx_join [wr ta, wr tb, wr tc, wr td]
            simpa using this
          rw [ej]
          refine ⟨_, _, rfl, rfl, ?_, ?_⟩
          · rw [plus_eq, tx_len, tx_len, List.length_append, List.length_append, List.length_append]
            show 1 + _ ≤ sizeLine
            exact Nat.le_trans (show _ ≤ 3001 by omega) (by decide)
          · have eq : ("+" : Str) ++ tx (wr ta ++ (wr tb ++ (wr tc ++ wr td))) = tx (wr (.four ta tb tc td)) := by rw [plus_eq, tx_app]; rfl
            dsimp only
            rw [eq]
            exact q' H' c1
      · rintro σ H' R R' k ⟨a1, e1, v, t, n, h1, h2, h3, h4, h5, h6, h⟩
        exact ⟨a1, e1, v, t, n, h1, h2, h3, h4, h5, h6, fun H4 s4 => k _ _ (h H4 s4)⟩

abbrev s_law_any_sign : Stmt := top 37
theorem sc_law_any_sign : FnScope ["_law_cell", "_law_some"] ["_law_cell"] (defScope s_law_any_sign) := ⟨rfl, rfl, rfl, by decide +kernel, rfl, by decide +kernel, by decide +kernel⟩
def sp_law_any_sign : Sp := fun vs H Q _ => ∃ c : Int, vs = [.int c] ∧ ∀ k : Nat, Q (.str (tx [k])) H
theorem ok_law_any_sign (T : Tx K mg) (F : FunD K "_law_any_sign" "_law_any_sign" s_law_any_sign f fd .none) : FnOk P w K mg base CX 1 f fd ["_law_cell"] sp_law_any_sign := by
  refine F.ok sc_law_any_sign (fun vs H Q E h => ?_) (fun cdv A outer s H vs Q E hr h => ?_)
  · obtain ⟨_, rfl, _⟩ := h
    rfl
  obtain ⟨c, rfl, q'⟩ := h
  refine ⟨_, (pss_cons (ps_if (pt_cmpR op_eq (pe_op op_mod (pv 0) pe_int) pe_int (nomark _)) (pss_one (ps_ret (pe_ix ix_str pe_str (pe_op op_mod (pe_op op_fdivW (pv 0) pe_int) pe_int) (fun _ _ => rfl)))) pss_nil) (pss_cons (ps_set (i := 1) sc_law_any_sign.nd rfl (Or.inl rfl) pe_str) (pss_cons (ps_set (i := 1) sc_law_any_sign.nd rfl (Or.inl rfl) (pe_op op_add_str (pv 1) pe_str)) (pss_one (ps_ret (pe_ix ix_str (pv 1) (pe_op op_mod (pe_op op_fdivW (pv 0) pe_int) (pe_callB call_len rfl T.b_len bb_len (pa_cons (pv 1) pa_nil))) (fun _ _ => rfl))))))), ?_⟩
  refine ⟨_, rfl, _, _, rfl, rfl, (by show (0 : Int) < 2; decide), rfl, _, rfl, ite2 (fun _ => ?_) (fun _ => ?_)⟩
  · obtain ⟨k, hk, ek⟩ : ∃ k : Nat, k < 19 ∧ c / 2 % 19 = (k : Int) := ⟨(c / 2 % 19).toNat, by omega, by omega⟩
    obtain ⟨d, ed⟩ := at_some (xs := ("0123456789abcxyz+:-" : Str).cps.toList) (k := k) (by rw [show ("0123456789abcxyz+:-" : Str).cps.toList.length = 19 by decide +kernel]; exact hk)
    exact ⟨_, rfl, _, _, rfl, rfl, cdivW (by decide) (by decide), _, _, rfl, rfl, (by show (0 : Int) < 19; decide), _, _, d, rfl, rfl, (by decide +kernel), (by show atI _ (c / 2 % 19) = _; rw [ek]; exact ed), q' d⟩
  · have hlen : (("ABCDEFGHIJKLMNOPQRSTUVWXYZ defghijklmnopqrstuvw" : Str) ++ ("!\"#$&'()*,./;<=>?\x40[\\]^_`{|}~\n\t" : Str)).length = 77 := by decide +kernel
    refine ⟨_, rfl, _, _, rfl, rfl, (by show _ ≤ sizeLine; decide +kernel), ?_⟩
    generalize (("ABCDEFGHIJKLMNOPQRSTUVWXYZ defghijklmnopqrstuvw" : Str) ++ ("!\"#$&'()*,./;<=>?\x40[\\]^_`{|}~\n\t" : Str)) = z at *
    obtain ⟨k, hk, ek⟩ : ∃ k : Nat, k < 77 ∧ c / 2 % ((z.length : Nat) : Int) = (k : Int) := by
      rw [hlen]
      exact ⟨(c / 2 % 77).toNat, by omega, by omega⟩
    obtain ⟨d, ed⟩ := at_some (xs := z.cps.toList) (k := k) (by rw [← len_eq, hlen]; exact hk)
    exact ⟨_, rfl, _, rfl, _, _, rfl, rfl, cdivW (by decide) (by decide), _, rfl, _, _, rfl, ⟨small (by omega), rfl⟩, _, _, rfl, rfl, (by show (0 : Int) < ((z.length : Nat) : Int); rw [hlen]; decide), _, _, d, rfl, rfl, small (by omega), (by show atI _ (c / 2 % ((z.length : Nat) : Int)) = _; rw [ek]; exact ed), q' d⟩
abbrev s_law_odd : Stmt := top 38
theorem sc_law_odd : FnScope ["_law_cell", "_law_some"] ["_law_cell"] (defScope s_law_odd) := ⟨rfl, rfl, rfl, by decide +kernel, rfl, by decide +kernel, by decide +kernel⟩
def sp_law_odd : Sp := fun vs H Q _ => ∃ c : Int, vs = [.int c] ∧ ∀ (z : Str) (H' : Hp), Same H H' → z.length ≤ 20 → Q (.str z) H'
theorem ok_law_odd (T : Tx K mg) (F : FunD K "_law_odd" "_law_odd" s_law_odd f fd .none) : FnOk P w K mg base CX 1 f fd ["_law_cell"] sp_law_odd := by
  refine F.oks sc_law_odd (fun vs H Q E h => ?_) (fun cdv A outer s H vs Q E hr h => ?_)
  · obtain ⟨_, rfl, _⟩ := h
    rfl
  obtain ⟨c, rfl, q'⟩ := h
  refine ⟨_, (pssx_cons (psx_set (i := 1) sc_law_odd.nd rfl (Or.inl rfl) (pex_lst (pax_all rfl))) (pssx_cons (psx_setop (i := 1) sc_law_odd.nd rfl (Or.inl rfl) (pex_op op_cat (PEx.mk (pv 1)) (pex_lst (pax_all rfl)))) (pssx_one (PSx.mk (ps_ret (pe_ix ix_list (pv 1) (pe_op op_mod (pv 0) pe_int) (fun _ _ => rfl))))))), ?_⟩
  refine ⟨(by show 10 ≤ sizeLine; decide), fun p1 g1 => ?_⟩
  generalize e1 : upd H p1 _ = A1
  have t1 : Same H A1 := e1 ▸ Same.new g1 _
  have u1 : A1 p1 = some (.lst [V.str "", .str ":", .str "0", .str "0:", .str "0:a:", .str "0::a", .str "41:0", .str "00:1", .str "01:2", .str "-1:0"]) := by rw [← e1]; exact upd_same
  refine ⟨_, rfl, (by show 10 ≤ sizeLine; decide), fun p2 g2 => ?_⟩
  generalize e2 : upd A1 p2 _ = A2
  have t2 : Same A1 A2 := e2 ▸ Same.new g2 _
  have u2 : A2 p2 = some (.lst [V.str "1:+0123", .str "1:+01234", .str "1:+012", .str " 1:0", .str "1:0 ", .str "0:+0123", .str "1:+0+12345", .str "2:+0+1234", .str "1:A", .str "+1:0"]) := by rw [← e2]; exact upd_same
  refine ⟨p1, p2, _, _, rfl, rfl, t2 _ _ u1, u2, (by show 20 ≤ sizeLine; decide), fun p3 g3 => ?_⟩
  generalize e3 : upd A2 p3 _ = A3
  have t3 : Same A2 A3 := e3 ▸ Same.new g3 _
  have u3 : A3 p3 = some (.lst [V.str "", .str ":", .str "0", .str "0:", .str "0:a:", .str "0::a", .str "41:0", .str "00:1", .str "01:2", .str "-1:0", .str "1:+0123", .str "1:+01234", .str "1:+012", .str " 1:0", .str "1:0 ", .str "0:+0123", .str "1:+0+12345", .str "2:+0+1234", .str "1:A", .str "+1:0"]) := by rw [← e3]; exact upd_same
  have pick : ∃ z, atI [V.str "", .str ":", .str "0", .str "0:", .str "0:a:", .str "0::a", .str "41:0", .str "00:1", .str "01:2", .str "-1:0", .str "1:+0123", .str "1:+01234", .str "1:+012", .str " 1:0", .str "1:0 ", .str "0:+0123", .str "1:+0+12345", .str "2:+0+1234", .str "1:A", .str "+1:0"] (c % 20) = some (.str z) ∧ z.length ≤ 20 := by
    obtain ⟨k, hk, ek⟩ : ∃ k : Nat, k < 20 ∧ c % 20 = (k : Int) := ⟨(c % 20).toNat, by omega, by omega⟩
    rw [ek]
    rcases k with _ | _ | _ | _ | _ | _ | _ | _ | _ | _ | _ | _ | _ | _ | _ | _ | _ | _ | _ | _ | k
    iterate 20 (exact ⟨_, rfl, by decide +kernel⟩)
    omega
  obtain ⟨z, hat, lz⟩ := pick
  exact ⟨_, rfl, _, rfl, _, _, rfl, rfl, (by show (0 : Int) < 20; decide), p3, _, _, _, rfl, rfl, SqL.of u3, hat, q' z A3 (t1.trans (t2.trans t3)) lz⟩
abbrev s_law_level_ahead : Stmt := top 39
theorem sc_law_level_ahead : FnScope ["_law_cell"] ["_law_cell"] (defScope s_law_level_ahead) := ⟨rfl, rfl, rfl, by decide +kernel, rfl, by decide +kernel, by decide +kernel⟩
theorem ok_law_level_ahead (T : Tx K mg) (F : FunD K "_law_level_ahead" "_law_level_ahead" s_law_level_ahead f fd .none) : FnOk P w K mg base CX 1 f fd ["_law_cell"] sp_law_odd := by
  refine F.oks sc_law_level_ahead (fun vs H Q E h => ?_) (fun cdv A outer s H vs Q E hr h => ?_)
  · obtain ⟨_, rfl, _⟩ := h
    rfl
  obtain ⟨c, rfl, q'⟩ := h
  refine ⟨_, (pssx_cons (PSx.mk (ps_if (pt_cmpR op_eq (pe_op op_mod (pv 0) pe_int) pe_int (nomark _)) (pss_one (ps_ret (pe_callTy call_str_int rfl T.b_str bt_str (pa_cons (pe_op op_mod (pe_op op_fdivW (pv 0) pe_int) pe_int) pa_nil)))) pss_nil)) (pssx_one (PSx.mk (ps_ret (pe_ix ix_list (pe_lstx (pax_c pe_str (pax_c pe_str (pax_c pe_str (pax_c pe_str (pax_c pe_str (pax_c pe_str (pax_c pe_str (pax_c pe_str (pax_c pe_str (pax_c pe_str pax_nil))))))))))) (pe_op op_mod (pe_op op_fdivW (pv 0) pe_int) pe_int) (fun _ _ => rfl)))))), ?_⟩
  refine ⟨_, rfl, _, _, rfl, rfl, (by show (0 : Int) < 2; decide), rfl, _, rfl, ite2 (fun _ => ?_) (fun _ => ?_)⟩
  · obtain ⟨k, hk, ek⟩ : ∃ k : Nat, k < 121 ∧ c / 2 % 121 = (k : Int) := ⟨(c / 2 % 121).toNat, by omega, by omega⟩
    have ls : ∀ k : Nat, k < 121 → ((k : Int)).natAbs.log2 < 1920 ∧ (Str.ofString (toString (k : Int))).length ≤ 20 := by decide +kernel
    obtain ⟨l1, l2⟩ := ls k hk
    exact ⟨_, rfl, _, _, rfl, rfl, cdivW (by decide) (by decide), _, _, rfl, rfl, (by show (0 : Int) < 121; decide), (k : Int), (by show [V.int (c / 2 % 121)] = _; rw [ek]), l1, q' _ H (Same.refl H) l2⟩
  · refine ⟨(by show 10 ≤ sizeLine; decide), fun p1 g1 => ?_⟩
    generalize e1 : upd H p1 _ = A1
    have t1 : Same H A1 := e1 ▸ Same.new g1 _
    have u1 : A1 p1 = some (.lst [V.str "", .str "0", .str "00", .str "05", .str "040", .str "+4", .str "-0", .str "1a", .str " 3", .str "4 "]) := by rw [← e1]; exact upd_same
    have pick : ∃ z, atI [V.str "", .str "0", .str "00", .str "05", .str "040", .str "+4", .str "-0", .str "1a", .str " 3", .str "4 "] (c / 2 % 10) = some (.str z) ∧ z.length ≤ 20 := by
      obtain ⟨k, hk, ek⟩ : ∃ k : Nat, k < 10 ∧ c / 2 % 10 = (k : Int) := ⟨(c / 2 % 10).toNat, by omega, by omega⟩
      rw [ek]
      rcases k with _ | _ | _ | _ | _ | _ | _ | _ | _ | _ | k
      iterate 10 (exact ⟨_, rfl, by decide +kernel⟩)
      omega
    obtain ⟨z, hat, lz⟩ := pick
    exact ⟨_, rfl, _, _, rfl, rfl, cdivW (by decide) (by decide), _, _, rfl, rfl, (by show (0 : Int) < 10; decide), p1, _, _, _, rfl, rfl, SqL.of u1, hat, q' z A1 t1 lz⟩
abbrev s_law_spoiled : Stmt := top 40
theorem sc_law_spoiled : FnScope ["_law_line", "_law_way", "_law_spot", "_law_cell", "_law_at_here"] ["_law_line", "_law_way", "_law_spot", "_law_cell"] (defScope s_law_spoiled) := ⟨rfl, rfl, rfl, by decide +kernel, rfl, by decide +kernel, by decide +kernel⟩
def sp_law_spoiled : Sp := fun vs H Q _ => ∃ (z : Str) (way spot cell : Int), vs = [.str z, .int way, .int spot, .int cell] ∧ z.length ≤ 5000 ∧ ∀ (z' : Str) (H' : Hp), Same H H' → z'.length ≤ 20000 → Q (.str z') H'
theorem ok_law_spoiled (T : Tx K mg) (q : Quiet CX) (F : FunD K "_law_spoiled" "_law_spoiled" s_law_spoiled f fd .none) (C__law_any_sign : Fok P w K mg base CX 1 "_law_any_sign" ["_law_cell"] [] sp_law_any_sign) (C__law_level_ahead : Fok P w K mg base CX 1 "_law_level_ahead" ["_law_cell"] [] sp_law_odd) (C__law_odd : Fok P w K mg base CX 1 "_law_odd" ["_law_cell"] [] sp_law_odd) : FnOk P w K mg base CX 2 f fd ["_law_line", "_law_way", "_law_spot", "_law_cell"] sp_law_spoiled := by
  refine F.ok sc_law_spoiled (fun vs H Q E h => ?_) (fun cdv A outer s H vs Q E hr h => ?_)
  · obtain ⟨_, _, _, _, rfl, _⟩ := h
    rfl
  obtain ⟨z, way, spot, cl, rfl, lz, q'⟩ := h
  refine ⟨_, (pss_cons (ps_set (i := 4) sc_law_spoiled.nd rfl (Or.inl rfl) (pe_op op_mod (pv 2) (pe_op op_add (pe_callB call_len rfl T.b_len bb_len (pa_cons (pv 0) pa_nil)) pe_int))) (pss_cons (ps_if (PW.pt (pw_or (pt_cmpR op_eq (pv 1) pe_int (nomark _)) (pw_or1 (pt_cmpR op_eq (pv 1) pe_int (nomark _))))) (pss_one (ps_ret (pe_op op_add_str (pe_op op_add_str (pe_slice sl_str (pv 0) po_none (po_some (pv 4))) (pe_callF C__law_any_sign q hr (pa_cons (pv 3) pa_nil))) (pe_slice sl_str (pv 0) (po_some (pv 4)) po_none)))) pss_nil) (pss_cons (ps_if (pt_cmpR op_eq (pv 1) pe_int (nomark _)) (pss_one (ps_ret (pe_op op_add_str (pe_op op_add_str (pe_slice sl_str (pv 0) po_none (po_some (pv 4))) (pe_callF C__law_any_sign q hr (pa_cons (pv 3) pa_nil))) (pe_slice sl_str (pv 0) (po_some (pe_op op_add (pv 4) pe_int)) po_none)))) pss_nil) (pss_cons (ps_if (pt_cmpR op_eq (pv 1) pe_int (nomark _)) (pss_one (ps_ret (pe_op op_add_str (pe_slice sl_str (pv 0) po_none (po_some (pv 4))) (pe_slice sl_str (pv 0) (po_some (pe_op op_add (pv 4) pe_int)) po_none)))) pss_nil) (pss_cons (ps_if (pt_cmpR op_eq (pv 1) pe_int (nomark _)) (pss_one (ps_ret (pe_op op_add_str (pe_callF C__law_level_ahead q hr (pa_cons (pv 3) pa_nil)) (pe_slice sl_str (pv 0) (po_some (pe_bm PySem.F.plainAttrs_str PySem.F.slot_str_find PySem.F.type_str_find mt_find (pv 0) (pa_cons pe_str pa_nil))) po_none)))) pss_nil) (pss_cons (ps_if (pt_cmpR op_eq (pv 1) pe_int (nomark _)) (pss_one (ps_ret (pe_callF C__law_odd q hr (pa_cons (pv 3) pa_nil)))) pss_nil) (pss_one (ps_ret (pv 0))))))))), ?_⟩
  have zs : z.length ≤ sizeLine := Nat.le_trans lz (by decide)
  have sl := Txt.slice_le z
  have big : ∀ k : Nat, k ≤ 20000 → k ≤ sizeLine := fun k h => Nat.le_trans h (by decide)
  refine ⟨_, rfl, _, rfl, _, _, rfl, ⟨zs, rfl⟩, _, _, rfl, rfl, _, _, rfl, rfl, (by show (0 : Int) < (z.length : Int) + 1; omega), ?_⟩
  dsimp only
  generalize spot % ((z.length : Int) + 1) = pl
  have l1 := sl none (some pl)
  have l2 := sl (some pl) none
  have l3 := sl (some (pl + 1)) none
  have w12 : ∀ d : Nat, Q (.str (Txt.slice z none (some pl) ++ tx [d] ++ Txt.slice z (some pl) none)) H := fun d => q' _ H (Same.refl H) (by rw [app_len, app_len, tx_len]; show _ + 1 + _ ≤ 20000; omega)
  refine ⟨_, rfl, rfl, _, rfl, or2 ?_ (fun body => ⟨_, rfl, rfl, _, rfl, ite2 (fun _ => body) (fun _ => ?_)⟩)⟩
  · refine iteT ?_
    exact ⟨_, rfl, _, rfl, _, rfl, z, rfl, zs, _, rfl, cl, rfl, fun d => ⟨_, _, rfl, rfl, big _ (by rw [tx_len]; show _ + 1 ≤ 20000; omega), _, rfl, _, rfl, _, rfl, z, rfl, zs, _, _, rfl, rfl, big _ (by rw [app_len, tx_len]; show _ + 1 + _ ≤ 20000; omega), w12 d⟩⟩
  refine ⟨_, rfl, rfl, _, rfl, ite2 (fun _ => ?_) (fun _ => ?_)⟩
  · exact ⟨_, rfl, _, rfl, _, rfl, z, rfl, zs, _, rfl, cl, rfl, fun d => ⟨_, _, rfl, rfl, big _ (by rw [tx_len]; show _ + 1 ≤ 20000; omega), _, rfl, _, rfl, _, _, rfl, rfl, _, rfl, z, rfl, zs, _, _, rfl, rfl, big _ (by rw [app_len, tx_len]; show _ + 1 + _ ≤ 20000; omega), q' _ H (Same.refl H) (by rw [app_len, app_len, tx_len]; show _ + 1 + _ ≤ 20000; omega)⟩⟩
  refine ⟨_, rfl, rfl, _, rfl, ite2 (fun _ => ?_) (fun _ => ?_)⟩
  · exact ⟨_, rfl, _, rfl, _, rfl, z, rfl, zs, _, rfl, _, rfl, _, _, rfl, rfl, _, rfl, z, rfl, zs, _, _, rfl, rfl, big _ (by omega), q' _ H (Same.refl H) (by rw [app_len]; omega)⟩
  refine ⟨_, rfl, rfl, _, rfl, ite2 (fun _ => ?_) (fun _ => ?_)⟩
  · have l4 := sl (some (Txt.find z (":" : Str))) none
    refine ⟨_, rfl, cl, rfl, fun z2 H2 s2 l2 => ?_⟩
    exact ⟨_, rfl, _, rfl, rfl, z, _, rfl, rfl, _, rfl, z, rfl, zs, _, _, rfl, rfl, big _ (by omega), q' _ H2 s2 (by rw [app_len]; omega)⟩
  refine ⟨_, rfl, rfl, _, rfl, ite2 (fun _ => ?_) (fun _ => ?_)⟩
  · exact ⟨_, rfl, cl, rfl, fun z2 H2 s2 l2 => q' z2 H2 s2 (by omega)⟩
  · exact ⟨_, rfl, q' z H (Same.refl H) (by omega)⟩
end
end Qs


namespace Qs
open PySem L2

def suf (z : Str) (k : Nat) : Str := ⟨(z.cps.toList.drop k).toArray⟩
theorem slice_suf {z : Str} {k : Nat} (h : k ≤ z.length) : Txt.slice z (some (k : Int)) none = suf z k := by
  have e := PyProof.Rows.slice_closes_from (x := z) (i := (k : Int)) ⟨by omega, by rw [← len_eq]; omega⟩
  rw [beq_iff_eq] at e
  rw [e]
  unfold suf
  congr 2
  rw [Int.toNat_natCast, List.take_of_length_le]
  rw [List.length_drop, ← len_eq]; omega
end Qs
namespace Qs
open PySem L2
theorem find_sign : ∀ d : Nat, d < 36 → Txt.find ("0123456789abcdefghijklmnopqrstuvwxyz" : Str) (tx [cp d]) = (d : Int) := by decide +kernel
theorem find_none {c : Nat} (h : sgI c = none) : Txt.find ("0123456789abcdefghijklmnopqrstuvwxyz" : Str) (tx [c]) = -1 := by
  unfold Txt.find
  rw [sgI_occ h]

def lvs : List V := (List.range 41).map fun k => .str (tx (lv k))
theorem lvs_get {k : Nat} (h : k < 41) : lvs[k]? = some (.str (tx (lv k))) := by unfold lvs; rw [List.getElem?_map, List.getElem?_range h]; rfl
theorem lvs_flat : lvs.all flatV = true := by decide +kernel
theorem lvs_in (a : List Nat) : inV (.str (tx a)) lvs = (lvI a).isSome := by
  cases e : lvI a with
  | some n =>
    obtain ⟨h1, h2⟩ := lvI_some e
    unfold inV
    rw [h2, List.any_eq_true.mpr ⟨_, List.mem_of_getElem? (lvs_get (k := n) (by omega)), by show (tx (lv n) == tx (lv n)) = true; simp⟩]
    rfl
  | none =>
    unfold inV
    rw [show (none : Option Nat).isSome = false from rfl, List.any_eq_false]
    intro y hy
    unfold lvs at hy
    obtain ⟨k, hk, rfl⟩ := List.mem_map.mp hy
    show ¬ (tx (lv k) == tx a) = true
    intro h
    have h' := tx_inj (beq_iff_eq.mp h)
    rw [← h', lvI_lv (by have := List.mem_range.mp hk; omega)] at e
    cases e
theorem lvs_first {n i : Nat} {v : V} (hn : n < 41) (hi : i < n) (hv : lvs[i]? = some v) : eqV v (.str (tx (lv n))) = false := by
  rw [lvs_get (by omega)] at hv
  cases hv
  show (tx (lv i) == tx (lv n)) = false
  rw [beq_eq_false_iff_ne]
  intro h
  have := lv_inj i (by omega) n hn (tx_inj h)
  omega
theorem pre_app (a b : List Nat) : Txt.slice (tx (a ++ b)) none (some ((a.length : Nat) : Int)) = tx a := by
  rw [slice_pre]
  refine str_ext ?_
  unfold pre
  simp [tx]
theorem slice_suf' (z : Str) (k : Nat) : Txt.slice z (some (k : Int)) none = suf z k := by
  by_cases h : k ≤ z.length
  · exact slice_suf h
  · have e : Builtin.Str.strSliceIndices (some (k : Int)) none 1 z.length = [] := by
      unfold Builtin.Str.strSliceIndices
      dsimp only
      unfold sliceRange
      have h1 : ¬ (k : Int) < 0 := by omega
      have h2 : max (0 : Int) (min (k : Int) (z.length : Int)) = (z.length : Int) := by omega
      simp only [show (1 : Int) > 0 by decide, if_true, h1, if_false, h2]
      rw [if_neg (by omega)]
      first | rfl | simp
    unfold Txt.slice
    rw [e]
    refine str_ext ?_
    unfold suf
    rw [List.drop_of_length_le (by rw [← len_eq]; omega)]
    by_cases h0 : z.length = 0
    · rw [str_eq_nil.mpr h0]; decide +kernel
    · first | rw [if_neg (by simp; omega)] | skip
      first | rfl | simp
theorem suf_app (a b : List Nat) (c : Nat) : Txt.slice (tx (a ++ c :: b)) (some (((a.length : Nat) : Int) + 1)) none = tx b := by
  rw [show ((a.length : Nat) : Int) + 1 = ((a.length + 1 : Nat) : Int) by omega, slice_suf']
  refine str_ext ?_
  unfold suf
  rw [tx_cps, tx_cps, show a ++ c :: b = (a ++ [c]) ++ b by simp, List.drop_left' (by simp)]

def ResAt (H : Hp) (x : V) (o : Option (Nat × Tr)) : Prop := match o with
  | none => x = .non
  | some (n, t) => n ≤ 40 ∧ Good n t ∧ ShAt H x n t
section
variable {P : Program} {w : World} {K : PySem.W.Frag} {mg : Str → Option Value} {base : Heap} {CX : CXT} {f : Addr} {fd : FuncData}
abbrev s_law_read_tree : Stmt := top 41
theorem sc_law_read_tree : FnScope ["_law_line", "_law_at_here", "_law_level", "_law_colour_here", "_law_four", "_law_k", "_law_found"] ["_law_line", "_law_at_here", "_law_level"] (defScope s_law_read_tree) := ⟨rfl, rfl, rfl, by decide +kernel, rfl, by decide +kernel, by decide +kernel⟩
def sp_law_read_tree (m : Nat) : Sp := fun vs H Q _ => ∃ (w0 r : List Nat) (l : Nat), vs = [.str (tx w0), .int ((w0.length - r.length : Nat) : Int), .int (l : Int)] ∧ r <:+ w0 ∧ w0.length ≤ 40000 ∧ l < m ∧ m ≤ 41 ∧
  (∀ t r', rdT l r = some (t, r') → ∀ p v H', Same H H' → H' p = some (.tup [v, .int ((w0.length - r'.length : Nat) : Int)]) → TrAt H' v t → Q (.ref p) H') ∧ (rdT l r = none → ∀ H', Same H H' → Q .non H')
theorem ok_law_read_tree (T : Tx K mg) (q : Quiet CX) (F : FunD K "_law_read_tree" "_law_read_tree" s_law_read_tree f fd .none) (C__law_knit : Fok P w K mg base CX 1 "_law_knit" ["_law_four"] [] sp_law_knit) (b : Binds K fd ["_law_line", "_law_at_here", "_law_level"] []) (m : mg "_law_read_tree" = some (.ref f)) :
    ∀ n, FnOk P w K mg base CX (2 + n) f fd ["_law_line", "_law_at_here", "_law_level"] (sp_law_read_tree n)
  | 0 => by
    refine F.ok sc_law_read_tree (fun vs H Q E h => ?_) (fun cdv A outer s H vs Q E hr h => ?_)
    · obtain ⟨_, _, _, rfl, _⟩ := h
      rfl
    obtain ⟨_, _, _, _, _, _, h, _⟩ := h
    exact absurd h (Nat.not_lt_zero _)
  | m' + 1 => by
    have C__law_read_tree : Fok P w K mg base CX (2 + m') "_law_read_tree" ["_law_line", "_law_at_here", "_law_level"] [] (sp_law_read_tree m') := fok F (ok_law_read_tree T q F C__law_knit b m m') b m
    refine F.ok sc_law_read_tree (fun vs H Q E h => ?_) (fun cdv A outer s H vs Q E hr h => ?_)
    · obtain ⟨_, _, _, rfl, _⟩ := h
      rfl
    obtain ⟨w0, r, l, rfl, sf, lw, hl, hm, q1, q2⟩ := h
    refine ⟨_, (pss_cons (ps_if (pt_cmpR op_ge (pv 1) (pe_callB call_len rfl T.b_len bb_len (pa_cons (pv 0) pa_nil)) (nomark _)) (pss_one (ps_ret pe_non)) pss_nil) (pss_cons (ps_set (i := 3) sc_law_read_tree.nd rfl (Or.inl rfl) (pe_bm PySem.F.plainAttrs_str PySem.F.slot_str_find PySem.F.type_str_find mt_find pe_str (pa_cons (pe_ix ix_str (pv 0) (pv 1) (fun _ _ => rfl)) pa_nil))) (pss_cons (ps_if (pt_cmpR op_ge (pv 3) pe_int (nomark _)) (pss_one (ps_ret (pe_tupx (pax_c (pv 3) (pax_c (pe_op op_add (pv 1) pe_int) pax_nil))))) pss_nil) (pss_cons (ps_if (PW.pt (pw_or (pt_cmpR op_ne (pe_ix ix_str (pv 0) (pv 1) (fun _ _ => rfl)) pe_str (nomark _)) (pw_or1 (pt_cmpR op_eq (pv 2) pe_int (nomark _))))) (pss_one (ps_ret pe_non)) pss_nil) (pss_cons (ps_set (i := 4) sc_law_read_tree.nd rfl (Or.inl rfl) (pe_lstx pax_nil)) (pss_cons (ps_set (i := 1) sc_law_read_tree.nd rfl (Or.inl rfl) (pe_op op_add (pv 1) pe_int)) (pss_cons (ps_for PassesOwn.never rfl (pi_range1 rfl T.b_range (pa_cons pe_int pa_nil)) (pg_name (i := 5) sc_law_read_tree.nd rfl (Or.inl rfl)) (pss_cons (ps_set (i := 6) sc_law_read_tree.nd rfl (Or.inl rfl) (pe_callF C__law_read_tree q hr (pa_cons (pv 0) (pa_cons (pv 1) (pa_cons (pe_op op_sub (pv 2) pe_int) pa_nil))) (hj := by first | decide | omega | (simp only [Nat.add_eq]; omega)))) (pss_cons (ps_if (pt_cmpR op_isN (pv 6) pe_non (nomark _)) (pss_one (ps_ret pe_non)) pss_nil) (pss_cons (ps_expr (pe_bm PySem.F.plainAttrs_list PySem.F.slot_list_append PySem.F.type_list_append mt_append (pv 4) (pa_cons (pe_ix ix_tup (pv 6) pe_int (fun _ _ => rfl)) pa_nil))) (pss_one (ps_set (i := 1) sc_law_read_tree.nd rfl (Or.inl rfl) (pe_ix ix_tup (pv 6) pe_int (fun _ _ => rfl)))))))) (pss_one (ps_ret (pe_tupx (pax_c (pe_callF C__law_knit q hr (pa_cons (pv 4) pa_nil) (hj := by first | decide | omega | (simp only [Nat.add_eq]; omega))) (pax_c (pv 1) pax_nil)))))))))))), ?_⟩
    have zl := tx_len w0
    have zs : (tx w0).length ≤ sizeLine := Nat.le_trans (show _ ≤ 40000 by omega) (by decide)
    have sle := sf.length_le
    rcases r with _ | ⟨c, r⟩
    · refine ⟨_, rfl, _, rfl, _, _, rfl, ⟨zs, rfl⟩, _, _, rfl, rfl, _, rfl, ite2 (fun _ => q2 (rdT_nil l) H (Same.refl H)) (fun h => absurd (decide_eq_true (by rw [zl]; simp)) h)⟩
    rw [List.length_cons] at sle
    refine ⟨_, rfl, _, rfl, _, _, rfl, ⟨zs, rfl⟩, _, _, rfl, rfl, _, rfl, ite2 (fun h => absurd (of_decide_eq_true h) (by rw [zl, List.length_cons]; omega)) (fun _ => ?_)⟩
    have gc := suf_get sf
    have nx := suf_next sf
    have ac : atI (tx w0).cps.toList ((w0.length - (c :: r).length : Nat) : Int) = some c := by rw [tx_cps]; exact atI_nat gc
    have en : ((w0.length - (c :: r).length : Nat) : Int) + 1 = ((w0.length - r.length : Nat) : Int) := by omega
    have sfr : r <:+ w0 := (List.suffix_cons c r).trans sf
    refine ⟨rfl, _, rfl, _, rfl, _, _, c, rfl, rfl, zs, ac, _, _, rfl, rfl, ?_⟩
    cases hs : sgI c with
    | some d =>
      obtain ⟨hd, rfl⟩ := sgI_some hs
      rw [show (⟨#[cp d]⟩ : Str) = tx [cp d] from rfl, find_sign d hd]
      refine ⟨_, rfl, _, _, rfl, rfl, _, rfl, ite2 (fun _ => ?_) (fun h => absurd (decide_eq_true (by omega)) h)⟩
      refine ⟨_, rfl, _, rfl, _, _, rfl, rfl, (by show 2 ≤ sizeLine; decide), fun p hp => ?_⟩
      dsimp only
      rw [en]
      exact q1 _ _ (rdT_sign hs r l) p (.int d) _ (Same.new hp _) upd_same (.col _)
    | none =>
      rw [show (⟨#[c]⟩ : Str) = tx [c] from rfl, find_none hs]
      refine ⟨_, rfl, _, _, rfl, rfl, _, rfl, ite2 (fun h => absurd (of_decide_eq_true h) (by decide)) (fun _ => ?_)⟩
      by_cases h3 : c = 43
      rotate_left
      · have ne : ¬ V.str (⟨#[c]⟩ : Str) = V.str ("+" : Str) := fun e => by
          have z1 : tx [c] = tx [43] := by
            rw [← plus_eq]
            injection e
          exact h3 (by simpa using tx_inj z1)
        refine ⟨_, rfl, _, rfl, _, _, c, rfl, rfl, zs, ac, rfl, _, rfl, ite2 (fun _ => iteT (q2 (rdT_other hs h3 r l) H (Same.refl H))) (fun h => absurd (by simpa using ne) h)⟩
      subst h3
      have eq : V.str (⟨#[43]⟩ : Str) = V.str ("+" : Str) := by rw [plus_eq]; rfl
      refine ⟨_, rfl, _, rfl, _, _, 43, rfl, rfl, zs, ac, rfl, _, rfl, iteNS eq ?_⟩
      rcases l with _ | l
      · refine ⟨_, rfl, rfl, _, rfl, ite2 (fun _ => q2 (rdT_plus0 r) H (Same.refl H)) (fun h => absurd (decide_eq_true rfl) h)⟩
      refine ⟨_, rfl, rfl, _, rfl, ite2 (fun h => ?_) (fun _ => ?_)⟩
      · have h' : V.int ((l + 1 : Nat) : Int) = V.int 0 := of_decide_eq_true h
        injection h' with h'
        omega
      refine ⟨(by show 0 ≤ sizeLine; decide), fun lp hlp => ?_⟩
      have s1 := Same.new hlp (.lst [])
      have u1 : upd H lp (.lst []) lp = some (.lst []) := upd_same
      generalize upd H lp (.lst []) = H1 at *
      refine ⟨_, rfl, _, _, rfl, rfl, ?_⟩
      dsimp only
      rw [en]
      refine ⟨4, rfl, by decide, by decide, for_range (fun (j : Nat) σ H2 => Same H H2 ∧ ∃ (ys : List V) (ts : List Tr) (rj : List Nat) (o5 o6 : Option V), H2 lp = some (.lst ys) ∧ ys.length = j ∧ rdN (rdT l) j r = some (ts, rj) ∧ (∀ i v, ys[i]? = some v → ∃ t, ts[i]? = some t ∧ TrAt H2 v t) ∧ rj <:+ w0 ∧ σ = [some (.str (tx w0)), some (.int ((w0.length - rj.length : Nat) : Int)), some (.int ((l + 1 : Nat) : Int)), some (.int (-1)), some (.ref lp), o5, o6]) ⟨s1, [], [], r, none, none, u1, rfl, rfl, (fun (i : Nat) (v : V) (h : ([] : List V)[i]? = some v) => absurd h (by simp)), sfr, rfl⟩ ?_ ?_⟩
      · rintro j σ H2 hj ⟨s2, ys, ts, rj, o5, o6, u2, ly, hrd, hys, sfj, rfl⟩
        have hj' : j < 4 := hj
        have el : ((l + 1 : Nat) : Int) - 1 = (l : Int) := by omega
        refine ⟨_, rfl, _, rfl, _, rfl, _, _, rfl, rfl, w0, rj, l, (by show [V.str (tx w0), V.int _, V.int (((l + 1 : Nat) : Int) - 1)] = _; rw [el]), sfj, lw, by omega, by omega, fun t r' ht p v H3 s3 hp hv => ?_, fun hno H3 s3 => ?_⟩
        · have u3 := s3 _ _ u2
          have tl := Tups.lst (ys := ys ++ [v]) u3
          have lts := (rdN_ok (rdT_ok l) j r ts rj hrd).2.2
          refine ⟨_, rfl, rfl, _, rfl, ite2 (fun h => absurd (of_decide_eq_true h) (by simp)) (fun _ => ?_)⟩
          refine ⟨_, rfl, .inl ⟨rfl, _, SqL.of u3⟩, _, rfl, p, _, _, _, rfl, rfl, SqT.of hp, rfl, lp, ys, _, rfl, rfl, u3, small1000 (by omega), ?_⟩
          refine ⟨_, rfl, p, _, _, _, rfl, rfl, SqT.of (tl _ _ hp), rfl, Same.set (s2.trans s3) hlp _, ys ++ [v], ts ++ [t], r', _, _, upd_same, by rw [List.length_append, ly]; rfl, rdN_step (rdT l) hrd ht, fun i g hg => ?_, (rdT_ok l _ _ _ ht).2.trans sfj, rfl⟩
          rcases Nat.lt_or_ge i ys.length with hi | hi
          · rw [List.getElem?_append_left hi] at hg
            obtain ⟨t', e1, e2⟩ := hys i g hg
            exact ⟨t', by rw [List.getElem?_append_left (by omega)]; exact e1, e2.up (s3.tups.trans tl)⟩
          · rw [List.getElem?_append_right hi] at hg
            have hk0 : i - ys.length = 0 := by
              rcases h : i - ys.length with _ | k
              · rfl
              · rw [h] at hg; simp at hg
            rw [hk0] at hg
            rw [← Option.some.inj hg]
            refine ⟨t, ?_, hv.up tl⟩
            rw [List.getElem?_append_right (by omega), show i - ts.length = 0 by omega]
            rfl
        · have h1 := rdN_stop (rdT l) hrd hno
          have h4 := rdN_none (rdT l) h1 (3 - j)
          rw [show j + 1 + (3 - j) = 4 by omega] at h4
          refine ⟨_, rfl, rfl, _, rfl, ite2 (fun _ => q2 ?_ H3 (s2.trans s3)) (fun h => absurd (decide_eq_true rfl) h)⟩
          rw [rdT_plus, h4]
      · rintro σ H2 ⟨s2, ys, ts, rj, o5, o6, u2, ly, hrd, hys, sfj, rfl⟩
        have ly' : ys.length = 4 := ly
        obtain ⟨gs, _, lts⟩ := rdN_ok (rdT_ok l) 4 r ts rj hrd
        obtain ⟨va, vb, vc, vd, rfl⟩ : ∃ a b c d, ys = [a, b, c, d] := by
          match ys, ly' with
          | [a, b, c, d], _ => exact ⟨a, b, c, d, rfl⟩
        obtain ⟨t0, t1, t2, t3, rfl⟩ : ∃ a b c d, ts = [a, b, c, d] := by
          match ts, lts with
          | [a, b, c, d], _ => exact ⟨a, b, c, d, rfl⟩
        obtain ⟨ta', ea, ka⟩ := hys 0 va rfl
        obtain ⟨tb', eb, kb⟩ := hys 1 vb rfl
        obtain ⟨tc', ec, kc⟩ := hys 2 vc rfl
        obtain ⟨td', ed, kd⟩ := hys 3 vd rfl
        cases ea
        cases eb
        cases ec
        cases ed
        have g0 := (gs t0 (by simp)).deep
        have g1 := (gs t1 (by simp)).deep
        have g2 := (gs t2 (by simp)).deep
        have g3 := (gs t3 (by simp)).deep
        refine ⟨_, rfl, lp, va, vb, vc, vd, t0, t1, t2, t3, rfl, u2, ka, kb, kc, kd, ⟨by omega, by omega, by omega, by omega⟩, fun v H3 s3 hv => ?_⟩
        refine ⟨_, rfl, (by show 2 ≤ sizeLine; decide), fun p hp => q1 _ _ ?_ p v _ (s2.trans (s3.trans (Same.new hp _))) upd_same (hv.up (Same.new hp _).tups)⟩
        have hrd4 : rdN (rdT l) 4 r = some ([t0, t1, t2, t3], rj) := hrd
        rw [rdT_plus, hrd4]
        rfl
abbrev s_law_read : Stmt := top 42
theorem sc_law_read : FnScope ["_law_line", "_law_spot", "_law_levels", "_law_level", "_law_found"] ["_law_line"] (defScope s_law_read) := ⟨rfl, rfl, rfl, by decide +kernel, rfl, by decide +kernel, by decide +kernel⟩
def sp_law_read : Sp := fun vs H Q _ => ∃ w : List Nat, vs = [.str (tx w)] ∧ w.length ≤ 40000 ∧ ∀ x H', Same H H' → ResAt H' x (rdS w) → Q x H'
theorem ok_law_read (T : Tx K mg) (q : Quiet CX) (F : FunD K "_law_read" "_law_read" s_law_read f fd .none) (C__law_read_tree : Fok P w K mg base CX 43 "_law_read_tree" ["_law_line", "_law_at_here", "_law_level"] [] (sp_law_read_tree 41)) : FnOk P w K mg base CX 44 f fd ["_law_line"] sp_law_read := by
  refine F.ok sc_law_read (fun vs H Q E h => ?_) (fun cdv A outer s H vs Q E hr h => ?_)
  · obtain ⟨_, rfl, _⟩ := h
    rfl
  obtain ⟨w', rfl, lw, q'⟩ := h
  refine ⟨_, (pss_cons (ps_set (i := 1) sc_law_read.nd rfl (Or.inl rfl) (pe_bm PySem.F.plainAttrs_str PySem.F.slot_str_find PySem.F.type_str_find mt_find (pv 0) (pa_cons pe_str pa_nil))) (pss_cons (ps_setC (i0 := 2) (N' := ["_law_k"]) [] [] [] 1 (by with_unfolding_all rfl) rfl capsOk_nil rfl rfl (by decide) rfl (by decide +kernel) rfl (by decide +kernel) rfl (pi_range1 rfl T.b_range (pa_cons pe_int pa_nil)) (fun C s0 H0 fp pins => (pg_name (i := 0) (show (["_law_k"] : List Str).Nodup by decide +kernel) rfl (Or.inl rfl) (Or.inr rfl))) (fun C s0 H0 fp pins => (pe_callTy call_str_int rfl T.b_str bt_str (pa_cons (pv 0) pa_nil))) sc_law_read.nd rfl (Or.inl rfl)) (pss_cons (ps_if (PW.pt (pw_or (pt_cmpR op_lt (pv 1) pe_int (nomark _)) (pw_or1 (pt_cmpR op_notIn_seq (pe_slice sl_str (pv 0) po_none (po_some (pv 1))) (pv 2) (by with_unfolding_all rfl))))) (pss_one (ps_ret pe_non)) pss_nil) (pss_cons (ps_set (i := 3) sc_law_read.nd rfl (Or.inl rfl) (pe_bm PySem.F.plainAttrs_list PySem.F.slot_list_index PySem.F.type_list_index mt_indexL (pv 2) (pa_cons (pe_slice sl_str (pv 0) po_none (po_some (pv 1))) pa_nil))) (pss_cons (ps_set (i := 4) sc_law_read.nd rfl (Or.inl rfl) (pe_callF C__law_read_tree q hr (pa_cons (pe_slice sl_str (pv 0) (po_some (pe_op op_add (pv 1) pe_int)) po_none) (pa_cons pe_int (pa_cons (pv 3) pa_nil))))) (pss_cons (ps_if (PW.pt (pw_or (pt_cmpR op_isN (pv 4) pe_non (nomark _)) (pw_or1 (pt_cmpR op_ne (pe_ix ix_tup (pv 4) pe_int (fun _ _ => rfl)) (pe_op op_sub (pe_op op_sub (pe_callB call_len rfl T.b_len bb_len (pa_cons (pv 0) pa_nil)) (pv 1)) pe_int) (nomark _))))) (pss_one (ps_ret pe_non)) pss_nil) (pss_one (ps_ret (pe_tupx (pax_c (pv 3) (pax_c (pe_ix ix_tup (pv 4) pe_int (fun _ _ => rfl)) pax_nil))))))))))), ?_⟩
  have zl := tx_len w'
  have zs : (tx w').length ≤ sizeLine := Nat.le_trans (show _ ≤ 40000 by omega) (by decide)
  refine ⟨_, rfl, rfl, _, _, rfl, rfl, ?_⟩
  refine ⟨[], rfl, _, rfl, by decide, by decide, compC_range (n := 41) (fun D (j : Nat) ys H' => Same H H' ∧ H' D = some (.lst ys) ∧ j ≤ 41 ∧ ys = lvs.take j) (by decide) (fun D j ys H' h => ⟨h.2.1, by rw [h.2.2.2]; simp; omega⟩) (fun D hD => ⟨Same.new hD _, upd_same, Nat.zero_le _, rfl⟩) ?_ ?_ (fun _ _ _ _ _ k h => k _ _ h) ?_⟩
  · rintro D j ys H' hj hD ⟨c1, c2, c3, c4⟩
    rw [show (0 : Int) + (j : Int) = (j : Int) by omega]
    refine ⟨rfl, _, rfl, (j : Int), rfl, log_small j (by omega), c2, Same.set c1 hD _, upd_same, hj, ?_⟩
    rw [c4, List.take_add_one, lvs_get hj, ← lv_str j hj]
    rfl
  rotate_left
  · rintro σ H' R R' k ⟨a1, f1, n, g1, g2, h⟩
    exact ⟨a1, f1, n, g1, g2, k _ _ h⟩
  rintro D ys H1 hD ⟨s1, u1, _, e1⟩
  have e1' : ys = lvs := e1
  subst e1'
  cases ec : cut58 w' with
  | none =>
    have er : rdS w' = none := by unfold rdS; rw [ec]
    rw [find_no (cut58_none ec)]
    refine ⟨_, rfl, _, _, rfl, rfl, _, rfl, ite2 (fun _ => iteT (q' .non H1 s1 (by rw [er]; rfl))) (fun h => absurd (decide_eq_true (by decide)) h)⟩
  | some pr =>
    obtain ⟨a, b⟩ := pr
    obtain ⟨ew, na⟩ := cut58_some ec
    subst ew
    have er : rdS (a ++ 58 :: b) = (match lvI a with | none => none | some n => match rdT n b with | some (t, []) => some (n, t) | _ => none) := by
      unfold rdS
      rw [ec]
      try rfl
    have lab : (a ++ 58 :: b).length = a.length + 1 + b.length := by rw [List.length_append, List.length_cons]; omega
    rw [find_yes na]
    refine ⟨_, rfl, _, _, rfl, rfl, _, rfl, ite2 (fun h => absurd (of_decide_eq_true h) (by omega)) (fun _ => ?_)⟩
    refine ⟨_, rfl, _, rfl, _, rfl, _, rfl, zs, ?_⟩
    rw [pre_app]
    refine ⟨_, rfl, D, _, rfl, .inl (SqL.of u1), rfl, lvs_flat, _, rfl, ?_⟩
    rw [lvs_in]
    cases e2 : lvI a with
    | none =>
      rw [e2] at er
      exact iteT (q' .non H1 s1 (by rw [er]; rfl))
    | some n =>
      rw [e2] at er
      obtain ⟨hn, rfl⟩ := lvI_some e2
      refine iteF ?_
      refine ⟨_, rfl, .inl ⟨rfl, _, SqL.of u1⟩, _, rfl, _, rfl, _, rfl, _, rfl, zs, ?_⟩
      rw [pre_app]
      refine ⟨D, _, lvs, n, .str (tx (lv n)), rfl, rfl, u1, rfl, lvs_flat, lvs_get (by omega), (by show (tx (lv n) == tx (lv n)) = true; simp), (fun i v hi hv => lvs_first (by omega) hi hv), ?_⟩
      refine ⟨_, rfl, _, rfl, _, _, rfl, rfl, _, rfl, _, rfl, zs, ?_⟩
      dsimp only
      rw [suf_app]
      refine ⟨_, rfl, b, b, n, (by rw [Nat.sub_self]; rfl), List.suffix_refl _, by omega, by omega, by decide, fun t r ht p v H3 s3 hp hv => ?_, fun hno H3 s3 => ?_⟩
      rotate_left
      · refine ⟨_, rfl, rfl, _, rfl, ite2 (fun _ => iteT (q' .non H3 (s1.trans s3) ?_)) (fun h => absurd (decide_eq_true rfl) h)⟩
        rw [er]
        simp only [hno]
        rfl
      have er' : rdS (lv n ++ 58 :: b) = (match some (t, r) with | some (t, []) => some (n, t) | _ => none) := by rw [← ht]; exact er
      have gt := (rdT_ok n b t r ht).1
      have sfx := (rdT_ok n b t r ht).2.length_le
      refine ⟨_, rfl, rfl, _, rfl, ite2 (fun h => absurd (of_decide_eq_true h) (by simp)) (fun _ => ?_)⟩
      refine ⟨_, rfl, p, _, _, _, rfl, rfl, SqT.of hp, rfl, _, rfl, _, _, rfl, ⟨zs, rfl⟩, _, rfl, _, _, rfl, rfl, _, _, rfl, rfl, rfl, _, rfl, ?_⟩
      have eb : (((tx (lv n ++ 58 :: b)).length : Nat) : Int) - (((lv n).length : Nat) : Int) - 1 = ((b.length : Nat) : Int) := by rw [zl, lab]; omega
      rcases r with _ | ⟨c, r⟩
      · refine iteNS (by show V.int ((b.length - ([] : List Nat).length : Nat) : Int) = V.int ((((tx (lv n ++ 58 :: b)).length : Nat) : Int) - (((lv n).length : Nat) : Int) - 1); rw [eb]; simp) ?_
        exact ⟨_, rfl, _, rfl, p, _, _, _, rfl, rfl, SqT.of hp, rfl, (by show 2 ≤ sizeLine; decide), fun p2 hp2 => q' _ _ (s1.trans (s3.trans (Same.new hp2 _))) (by rw [er']; exact ⟨hn, gt, p2, v, rfl, upd_same, hv.up (Same.new hp2 _).tups⟩)⟩
      · refine ite2 (fun _ => q' .non H3 (s1.trans s3) (by rw [er']; rfl)) (fun h => absurd ?_ h)
        have ne : ¬ V.int ((b.length - (c :: r).length : Nat) : Int) = V.int ((((tx (lv n ++ 58 :: b)).length : Nat) : Int) - (((lv n).length : Nat) : Int) - 1) := fun e => by
          injection e with e
          rw [eb] at e
          rw [List.length_cons] at e sfx
          omega
        simpa using ne
end
end Qs


namespace Qs
open PySem L2
theorem bt_ValueError : bootBuiltins "ValueError" = some (.type "ValueError") := by decide +kernel
theorem rdT_wr : ∀ (n : Nat) (t : Tr) (r : List Nat), Good n t → rdT n (wr t ++ r) = some (t, r)
  | n, .col i, r, g => by
    have g' : 0 ≤ i ∧ i ≤ 35 := by cases n <;> exact g
    obtain ⟨c, rfl⟩ : ∃ c : Nat, i = (c : Int) := ⟨i.toNat, by omega⟩
    show rdT n (cp ((c : Int)).toNat :: r) = _
    rw [Int.toNat_natCast]
    exact rdT_sign (sgI_cp c (by omega)) r n
  | 0, .four .., _, g => g.elim
  | n + 1, .four a b c d, r, ⟨ha, hb, hc, hd, ho⟩ => by
    show rdT (n + 1) (43 :: ((wr a ++ (wr b ++ (wr c ++ wr d))) ++ r)) = _
    rw [rdT_plus]
    have e : (wr a ++ (wr b ++ (wr c ++ wr d))) ++ r = wr a ++ (wr b ++ (wr c ++ (wr d ++ r))) := by simp
    rw [e]
    have h0 : rdN (rdT n) 0 (wr a ++ (wr b ++ (wr c ++ (wr d ++ r)))) = some ([], wr a ++ (wr b ++ (wr c ++ (wr d ++ r)))) := rfl
    have h1 := rdN_step (rdT n) h0 (rdT_wr n a _ ha)
    have h2 := rdN_step (rdT n) h1 (rdT_wr n b _ hb)
    have h3 := rdN_step (rdT n) h2 (rdT_wr n c _ hc)
    have h4 := rdN_step (rdT n) h3 (rdT_wr n d _ hd)
    have h4' : rdN (rdT n) 4 (wr a ++ (wr b ++ (wr c ++ (wr d ++ r)))) = some ([a, b, c, d], r) := h4
    rw [h4']
    show some (gath a b c d, r) = _
    rw [gath_no ho]
theorem rdS_wr {n : Nat} {t : Tr} (hn : n ≤ 40) (g : Good n t) : rdS (lv n ++ 58 :: wr t) = some (n, t) := by
  have fr := lv_free (n := n) (by omega)
  cases ec : cut58 (lv n ++ 58 :: wr t) with
  | none => exact absurd (by simp) (cut58_none ec)
  | some p =>
    obtain ⟨a, b⟩ := p
    obtain ⟨ew, na⟩ := cut58_some ec
    have key : lv n = a ∧ wr t = b := by
      rcases List.append_eq_append_iff.mp ew with ⟨u, e1, e2⟩ | ⟨u, e1, e2⟩
      · rcases u with _ | ⟨c, u⟩
        · rw [List.append_nil] at e1
          rw [List.nil_append] at e2
          injection e2 with _ e2
          exact ⟨e1.symm, e2⟩
        · rw [List.cons_append] at e2
          injection e2 with e2 _
          exact absurd (by rw [e1, ← e2]; simp) na
      · rcases u with _ | ⟨c, u⟩
        · rw [List.append_nil] at e1
          rw [List.nil_append] at e2
          injection e2 with _ e2
          exact ⟨e1, e2.symm⟩
        · rw [List.cons_append] at e2
          injection e2 with e2 _
          exact absurd (by rw [e1, ← e2]; simp) fr
    obtain ⟨rfl, rfl⟩ := key
    have h := rdT_wr n t [] g
    rw [List.append_nil] at h
    unfold rdS
    rw [ec]
    show (match lvI (lv n) with | none => none | some n => match rdT n (wr t) with | some (t, []) => some (n, t) | _ => none) = _
    rw [lvI_lv hn]
    show (match rdT n (wr t) with | some (t, []) => some (n, t) | _ => none) = _
    rw [h]
mutual
theorem Dat.up {H H' : Hp} (s : Same H H') : ∀ {x : V} {d : PyData}, Dat H x d → Dat H' x d
  | _, _, .non => .non
  | _, _, .bl b => .bl b
  | _, _, .int i => .int i
  | _, _, .str x => .str x
  | _, _, .lst e q => .lst (s _ _ e) (Dats.up s q)
  | _, _, .tup e q => .tup (s _ _ e) (Dats.up s q)
theorem Dats.up {H H' : Hp} (s : Same H H') : ∀ {xs : List V} {ds : List PyData}, Dats H xs ds → Dats H' xs ds
  | _, _, .nil => .nil
  | _, _, .cons a b => .cons (Dat.up s a) (Dats.up s b)
end
theorem iteNT {A B : Prop} : B → if (!decide (V.non = V.non)) = true then A else B := fun h => by
  rw [if_neg (by simp)]; exact h
def shData (n : Int) (t : Tr) : PyData := .tuple [.int n, t.data]
theorem ShAt.dat {H : Hp} {v : V} {n : Int} {t : Tr} (h : ShAt H v n t) : Dat H v (shData n t) := by
  obtain ⟨p, x, rfl, hp, hx⟩ := h
  exact .tup hp (.cons (.int _) (.cons hx.dat .nil))
theorem sh_lay (n : Int) (t : Tr) : (shData n t).canLay0 = true := by
  show (true && (t.data.canLay0 && true)) = true
  rw [Tr.lay t]; rfl
theorem sh_shaped {n : Int} {t : Tr} (h : t.deep ≤ 60) : SeqAt.shaped (shData n t) = true := by
  have e2 : (shData n t).depth ≤ 64 := by
    show max 0 (max t.data.depth 0) + 1 ≤ 64
    rw [Tr.depth t]; omega
  unfold SeqAt.shaped
  rw [sh_lay, decide_eq_true e2]; rfl
def resD : Option (Nat × Tr) → PyData
  | none => .none
  | some (n, t) => shData (n : Int) t
theorem ResAt.dat {H : Hp} {x : V} {o : Option (Nat × Tr)} (h : ResAt H x o) : Dat H x (resD o) ∧ SeqAt.shaped (resD o) = true := by
  cases o with
  | none =>
    have h' : x = .non := h
    subst h'
    exact ⟨.non, by decide +kernel⟩
  | some p =>
    obtain ⟨n, t⟩ := p
    obtain ⟨hn, g, hs⟩ := h
    have := g.deep
    exact ⟨hs.dat, sh_shaped (by omega)⟩
theorem ResAt.up {H H' : Hp} {x : V} {o : Option (Nat × Tr)} (h : ResAt H x o) (s : Same H H') : ResAt H' x o := by
  cases o with
  | none => exact h
  | some p =>
    obtain ⟨n, t⟩ := p
    obtain ⟨hn, g, hs⟩ := h
    exact ⟨hn, g, hs.up s.tups⟩
section
variable {P : Program} {w : World} {K : PySem.W.Frag} {mg : Str → Option Value} {base : Heap} {CX : CXT} {f : Addr} {fd : FuncData}
abbrev s_law_others : Stmt := top 43
theorem sc_law_others : FnScope ["_law_e", "_law_some"] ["_law_e"] (defScope s_law_others) := ⟨rfl, rfl, rfl, by decide +kernel, rfl, by decide +kernel, by decide +kernel⟩
def sp_law_others (Y : Yx K mg) : Sp := fun vs H Q _ => ∃ e, vs = [.ref e] ∧ H e = some (.ext (ExcIs e (.ref Y.c_NoText))) ∧ ∀ l H', Same H H' → H' l = some (.lst [V.bl false, .bl false, .bl false, .bl false, .bl false, .bl false, .bl false, .bl false, .bl false, .bl false, .bl false]) → Q (.ref l) H'
theorem ok_law_others (T : Tx K mg) (Y : Yx K mg) (F : FunD K "_law_others" "_law_others" s_law_others f fd .none) : FnOkH P w K mg base CX 1 f fd ["_law_e"] (sp_law_others Y) := by
  refine F.okHs sc_law_others (fun vs H Q E h => ?_) (fun cdv A outer s H vs Q E hr h => ?_)
  · obtain ⟨_, rfl, _⟩ := h
    rfl
  obtain ⟨e, rfl, he, q'⟩ := h
  refine ⟨_, (pssx_cons (psx_set (i := 1) sc_law_others.nd rfl (Or.inl rfl) (pex_lst (pax_cx (PEx.mk (pe_callB (call_isxC (K := K)) rfl T.b_isinstance bb_isinstance (pa_cons (pv 0) (pa_cons (pe_glob (v := .ref _) rfl Y.m_NoCode rfl) pa_nil)))) (pax_cx (PEx.mk (pe_callB (call_isxC (K := K)) rfl T.b_isinstance bb_isinstance (pa_cons (pv 0) (pa_cons (pe_glob (v := .ref _) rfl Y.m_NoColour rfl) pa_nil)))) (pax_cx (PEx.mk (pe_callB (call_isxC (K := K)) rfl T.b_isinstance bb_isinstance (pa_cons (pv 0) (pa_cons (pe_glob (v := .ref _) rfl Y.m_NoLeaf rfl) pa_nil)))) (pax_cx (PEx.mk (pe_callB (call_isxC (K := K)) rfl T.b_isinstance bb_isinstance (pa_cons (pv 0) (pa_cons (pe_glob (v := .ref _) rfl Y.m_NoLevel rfl) pa_nil)))) pax_nil)))))) (pssx_cons (psx_setop (i := 1) sc_law_others.nd rfl (Or.inl rfl) (pex_op op_cat (PEx.mk (pv 1)) (pex_lst (pax_cx (PEx.mk (pe_callB (call_isxC (K := K)) rfl T.b_isinstance bb_isinstance (pa_cons (pv 0) (pa_cons (pe_glob (v := .ref _) rfl Y.m_NoName rfl) pa_nil)))) (pax_cx (PEx.mk (pe_callB (call_isxC (K := K)) rfl T.b_isinstance bb_isinstance (pa_cons (pv 0) (pa_cons (pe_glob (v := .ref _) rfl Y.m_NoNumber rfl) pa_nil)))) (pax_cx (PEx.mk (pe_callB (call_isxC (K := K)) rfl T.b_isinstance bb_isinstance (pa_cons (pv 0) (pa_cons (pe_glob (v := .ref _) rfl Y.m_NoPlace rfl) pa_nil)))) (pax_cx (PEx.mk (pe_callB (call_isxC (K := K)) rfl T.b_isinstance bb_isinstance (pa_cons (pv 0) (pa_cons (pe_glob (v := .ref _) rfl Y.m_NoRow rfl) pa_nil)))) pax_nil))))))) (pssx_one (PSx.mk (ps_ret (pe_op op_cat (pv 1) (pe_lstx (pax_c (pe_callB (call_isxC (K := K)) rfl T.b_isinstance bb_isinstance (pa_cons (pv 0) (pa_cons (pe_glob (v := .ref _) rfl Y.m_NoSide rfl) pa_nil))) (pax_c (pe_callB (call_isxC (K := K)) rfl T.b_isinstance bb_isinstance (pa_cons (pv 0) (pa_cons (pe_glob (v := .ref _) rfl Y.m_Twice rfl) pa_nil))) (pax_c (pe_callB (call_isxC (K := K)) rfl T.b_isinstance bb_isinstance (pa_cons (pv 0) (pa_cons (pe_glob (v := .ref _) rfl Y.m_Gap rfl) pa_nil))) pax_nil)))))))))), ?_⟩
  refine ⟨_, rfl, e, Y.c_NoText, Y.c_NoCode, false, rfl, he, Y.k_NoText, Y.t_NoText_NoCode, _, rfl, e, Y.c_NoText, Y.c_NoColour, false, rfl, he, Y.k_NoText, Y.t_NoText_NoColour, _, rfl, e, Y.c_NoText, Y.c_NoLeaf, false, rfl, he, Y.k_NoText, Y.t_NoText_NoLeaf, _, rfl, e, Y.c_NoText, Y.c_NoLevel, false, rfl, he, Y.k_NoText, Y.t_NoText_NoLevel, (by show 4 ≤ sizeLine; decide), fun p1 g1 => ?_⟩
  generalize e1 : upd H p1 _ = A1
  have t1 : Same H A1 := e1 ▸ Same.new g1 _
  have u1 : A1 p1 = some (.lst [V.bl false, .bl false, .bl false, .bl false]) := by rw [← e1]; exact upd_same
  refine ⟨_, rfl, _, rfl, e, Y.c_NoText, Y.c_NoName, false, rfl, t1 _ _ he, Y.k_NoText, Y.t_NoText_NoName, _, rfl, e, Y.c_NoText, Y.c_NoNumber, false, rfl, t1 _ _ he, Y.k_NoText, Y.t_NoText_NoNumber, _, rfl, e, Y.c_NoText, Y.c_NoPlace, false, rfl, t1 _ _ he, Y.k_NoText, Y.t_NoText_NoPlace, _, rfl, e, Y.c_NoText, Y.c_NoRow, false, rfl, t1 _ _ he, Y.k_NoText, Y.t_NoText_NoRow, (by show 4 ≤ sizeLine; decide), fun p2 g2 => ?_⟩
  generalize e2 : upd A1 p2 _ = A2
  have t2 : Same A1 A2 := e2 ▸ Same.new g2 _
  have u2 : A2 p2 = some (.lst [V.bl false, .bl false, .bl false, .bl false]) := by rw [← e2]; exact upd_same
  refine ⟨p1, p2, _, _, rfl, rfl, t2 _ _ u1, u2, (by show 8 ≤ sizeLine; decide), fun p3 g3 => ?_⟩
  generalize e3 : upd A2 p3 _ = A3
  have t3 : Same A2 A3 := e3 ▸ Same.new g3 _
  have u3 : A3 p3 = some (.lst [V.bl false, .bl false, .bl false, .bl false, .bl false, .bl false, .bl false, .bl false]) := by rw [← e3]; exact upd_same
  have w3 := t1.trans (t2.trans t3)
  refine ⟨_, rfl, _, rfl, e, Y.c_NoText, Y.c_NoSide, false, rfl, w3 _ _ he, Y.k_NoText, Y.t_NoText_NoSide, _, rfl, e, Y.c_NoText, Y.c_Twice, false, rfl, w3 _ _ he, Y.k_NoText, Y.t_NoText_Twice, _, rfl, e, Y.c_NoText, Y.c_Gap, false, rfl, w3 _ _ he, Y.k_NoText, Y.t_NoText_Gap, (by show 3 ≤ sizeLine; decide), fun p4 g4 => ?_⟩
  generalize e4 : upd A3 p4 _ = A4
  have t4 : Same A3 A4 := e4 ▸ Same.new g4 _
  have u4 : A4 p4 = some (.lst [V.bl false, .bl false, .bl false]) := by rw [← e4]; exact upd_same
  refine ⟨p3, p4, _, _, rfl, rfl, t4 _ _ u3, u4, (by show 11 ≤ sizeLine; decide), fun p5 g5 => ?_⟩
  exact q' p5 _ (w3.trans (t4.trans (Same.new g5 _))) upd_same
abbrev s_law_said : Stmt := top 44
theorem sc_law_said : FnScope ["_law_thing", "_law_found", "_law_e"] ["_law_thing"] (defScope s_law_said) := ⟨rfl, rfl, rfl, by decide +kernel, rfl, by decide +kernel, by decide +kernel⟩
def sp_law_said (K : PySem.W.Frag) : Sp := fun vs H Q _ => ∃ (x : V) (o : Option (Nat × Tr)), vs = [x] ∧ ((∃ w : List Nat, x = .str (tx w) ∧ w.length ≤ 40000 ∧ o = rdS w) ∨ ((∃ ty, TyOf K H x ty ∧ PySem.W.kitOne K ty (.type "str") = some false) ∧ o = none)) ∧ ∀ y H', Same H H' → ResAt H' y o → Q y H'
theorem ok_law_said (T : Tx K mg) (Y : Yx K mg) (q : Quiet (CXe P w)) (F : FunD K "_law_said" "_law_said" s_law_said f fd .none) (C_read : Fok P w K mg base (CXe P w) 45 "read" ["text"] [] (sp_read Y)) (C__law_others : FokH P w K mg base (CXe P w) 1 "_law_others" ["_law_e"] (sp_law_others Y)) : FnOk P w K mg base (CXe P w) 46 f fd ["_law_thing"] (sp_law_said K) := by
  refine F.ok sc_law_said (fun vs H Q E h => ?_) (fun cdv A outer s H vs Q E hr h => ?_)
  · obtain ⟨_, _, rfl, _⟩ := h
    rfl
  obtain ⟨x, o, rfl, hx, q'⟩ := h
  refine ⟨_, (pss_cons (ps_set (i := 1) sc_law_said.nd rfl (Or.inl rfl) pe_non) (pss_cons (ps_try sc_law_said.nd (i := 2) rfl rfl rfl rfl rfl Y.m_NoText rfl (by decide) (fun W pn R pt => (pss_one (ps_set (i := 1) sc_law_said.nd rfl (Or.inl rfl) (pe_callS C_read hr pt (pa_cons (pv 0) pa_nil))))) (fun e => (pss_cons (ps_if (PW.pt (pw_or (pt_not (pt_val (pe_callB (call_isxC (K := K)) rfl T.b_isinstance bb_isinstance (pa_cons (pv 2) (pa_cons (pe_glob (v := .ref _) rfl Y.m_SheetError rfl) pa_nil))))) (pw_or (pt_not (pt_val (pe_callB (call_isxT (K := K) "ValueError") rfl T.b_isinstance bb_isinstance (pa_cons (pv 2) (pa_cons (pe_bty T.b_ValueError bt_ValueError) pa_nil))))) (pw_or1 (pt_cmpR (op_in_seqK (K := K)) pe_bl (pe_callH C__law_others q hr.inX (pa_cons (pv 2) pa_nil)) (by with_unfolding_all rfl)))))) (pss_one (ps_ret pe_str)) pss_nil) (pss_one (ps_ret pe_non))))) (pss_one (ps_ret (pv 1))))), ?_⟩
  refine ⟨_, rfl, x, rfl, ?_⟩
  have bl11 : inV (.bl true) [V.bl false, .bl false, .bl false, .bl false, .bl false, .bl false, .bl false, .bl false, .bl false, .bl false, .bl false] = false := by decide +kernel
  rcases hx with ⟨w', rfl, lw, rfl⟩ | ⟨ty, rfl⟩
  · refine .inl ⟨w', rfl, lw, fun n t hr' hn g v H1 s1 hv => ⟨_, rfl, q' v H1 s1 (by rw [hr']; exact ⟨hn, g, hv⟩)⟩, fun hr' H1 s1 => ⟨Y.e_NoText, fun e he => ?_⟩⟩
    refine ⟨_, rfl, e, Y.c_NoText, Y.c_SheetError, true, rfl, upd_same, Y.k_NoText, Y.b_NoText, _, rfl, iteF ?_⟩
    refine ⟨_, rfl, e, Y.c_NoText, true, rfl, upd_same, Y.k_NoText, Y.v_NoText, _, rfl, iteF ?_⟩
    exact ⟨_, rfl, e, rfl, upd_same, fun l H2 s2 hl => ⟨l, _, rfl, .inl (SqL.of hl), rfl, rfl, _, rfl, iteF (q' .non H2 (s1.trans ((Same.new he _).trans s2)) (by rw [hr']; rfl))⟩⟩
  · refine .inr ⟨ty, fun H1 s1 => ⟨Y.e_NoText, fun e he => ?_⟩⟩
    refine ⟨_, rfl, e, Y.c_NoText, Y.c_SheetError, true, rfl, upd_same, Y.k_NoText, Y.b_NoText, _, rfl, iteF ?_⟩
    refine ⟨_, rfl, e, Y.c_NoText, true, rfl, upd_same, Y.k_NoText, Y.v_NoText, _, rfl, iteF ?_⟩
    exact ⟨_, rfl, e, rfl, upd_same, fun l H2 s2 hl => ⟨l, _, rfl, .inl (SqL.of hl), rfl, rfl, _, rfl, iteF (q' .non H2 (s1.trans ((Same.new he _).trans s2)) rfl)⟩⟩
abbrev s_law : Stmt := top 45
theorem sc_law : FnScope ["_law_script", "_law_level", "_law_tree_here", "_law_good", "_law_way", "_law_line", "_law_due", "_law_k", "_law_thing"] ["_law_script"] (defScope s_law) := ⟨rfl, rfl, rfl, by decide +kernel, rfl, by decide +kernel, by decide +kernel⟩
def sp_law (K : PySem.W.Frag) : Sp := fun vs H Q _ => ∃ (a : Addr) (ns : List Int), vs = [.ref a] ∧ SqL K H a (ns.map V.int) ∧ ns.length ≤ 63 ∧ ∀ H', Q (.bl true) H'
theorem ok_law (T : Tx K mg) (q : Quiet CX) (F : FunD K "law" "law" s_law f fd .none) (C__law_at : Fok P w K mg base CX 1 "_law_at" ["_law_script", "_law_k"] [] (sp_law_at K)) (C__law_tree : Fok P w K mg base CX 44 "_law_tree" ["_law_script", "_law_first", "_law_level", "_law_most"] [] (sp_law_tree K)) (C__law_signs : Fok P w K mg base CX 42 "_law_signs" ["_law_tree_here"] [] (sp_law_signs 41)) (C__law_spoiled : Fok P w K mg base CX 2 "_law_spoiled" ["_law_line", "_law_way", "_law_spot", "_law_cell"] [] sp_law_spoiled)
    (C__law_read : Fok P w K mg base CX 44 "_law_read" ["_law_line"] [] sp_law_read) (C__law_said : Fok P w K mg base CX 46 "_law_said" ["_law_thing"] [] (sp_law_said K)) : FnOk P w K mg base CX 47 f fd ["_law_script"] (sp_law K) := by
  refine F.ok sc_law (fun vs H Q E h => ?_) (fun cdv A outer s H vs Q E hr h => ?_)
  · obtain ⟨_, _, rfl, _⟩ := h
    rfl
  obtain ⟨a, ns, rfl, hS, h63, q'⟩ := h
  refine ⟨_, (pss_cons (ps_set (i := 1) sc_law.nd rfl (Or.inl rfl) (pe_op op_mod (pe_op op_fdivW (pe_callF C__law_at q hr (pa_cons (pv 0) (pa_cons pe_int pa_nil))) pe_int) pe_int)) (pss_cons (ps_cut (ps_if (pt_cmpR op_eq (pe_op op_mod (pe_callF C__law_at q hr (pa_cons (pv 0) (pa_cons pe_int pa_nil))) pe_int) pe_int (nomark _)) (pss_one (ps_set (i := 1) sc_law.nd rfl (Or.inl rfl) (pe_op op_mod (pe_op op_fdivW (pe_callF C__law_at q hr (pa_cons (pv 0) (pa_cons pe_int pa_nil))) pe_int) pe_int))) pss_nil)) (pss_cons (ps_set (i := 2) sc_law.nd rfl (Or.inl rfl) (pe_callF C__law_tree q hr (pa_cons (pv 0) (pa_cons pe_int (pa_cons (pv 1) (pa_cons pe_int pa_nil)))))) (pss_cons (ps_set (i := 3) sc_law.nd rfl (Or.inl rfl) (pe_op op_add_str (pe_op op_add_str (pe_callTy call_str_int rfl T.b_str bt_str (pa_cons (pv 1) pa_nil)) pe_str) (pe_callF C__law_signs q hr (pa_cons (pv 2) pa_nil)))) (pss_cons (ps_set (i := 4) sc_law.nd rfl (Or.inl rfl) (pe_op op_mod (pe_callF C__law_at q hr (pa_cons (pv 0) (pa_cons pe_int pa_nil))) pe_int)) (pss_cons (ps_set (i := 5) sc_law.nd rfl (Or.inl rfl) (pe_callF C__law_spoiled q hr (pa_cons (pv 3) (pa_cons (pv 4) (pa_cons (pe_callF C__law_at q hr (pa_cons (pv 0) (pa_cons pe_int pa_nil))) (pa_cons (pe_callF C__law_at q hr (pa_cons (pv 0) (pa_cons pe_int pa_nil))) pa_nil)))))) (pss_cons (ps_set (i := 6) sc_law.nd rfl (Or.inl rfl) (pe_callF C__law_read q hr (pa_cons (pv 5) pa_nil))) (pss_cons (ps_for PassesOwn.never rfl (pi_range1 rfl T.b_range (pa_cons pe_int pa_nil)) (pg_name (i := 7) sc_law.nd rfl (Or.inl rfl)) (pss_one (ps_if (PW.pt (pw_or (pt_cmpR (op_neD hr) (pe_callF C__law_said q hr (pa_cons (pv 3) pa_nil)) (pe_tupx (pax_c (pv 1) (pax_c (pv 2) pax_nil))) (nomark _)) (pw_or1 (pt_cmpR (op_neD hr) (pe_callF C__law_said q hr (pa_cons (pv 5) pa_nil)) (pv 6) (nomark _))))) (pss_one (ps_ret pe_bl)) pss_nil))) (pss_cons (ps_cut (ps_if (pt_cmpR op_eq (pv 4) pe_int (nomark _)) (pss_cons (ps_set (i := 8) sc_law.nd rfl (Or.inl rfl) (pe_ix ix_list (pe_lstx (pax_c pe_non (pax_c pe_int (pax_c pe_bl (pax_c (pe_lstx (pax_c (pv 3) pax_nil)) (pax_c (pe_tupx (pax_c (pv 1) (pax_c (pv 2) pax_nil))) (pax_c pe_dnewK pax_nil))))))) (pe_op op_mod (pe_callF C__law_at q hr (pa_cons (pv 0) (pa_cons pe_int pa_nil))) pe_int) (fun _ _ => rfl))) (pss_one (ps_if (pt_cmpR op_notN (pe_callF C__law_said q hr (pa_cons (pv 8) pa_nil)) pe_non (nomark _)) (pss_one (ps_ret pe_bl)) pss_nil))) pss_nil)) (pss_one (ps_ret (pe_cmpR (op_eqD hr) (pe_callF C__law_said q hr (pa_cons (pv 3) pa_nil)) (pe_tupx (pax_c (pv 1) (pax_c (pv 2) pax_nil))) (nomark _))))))))))))), ?_⟩
  refine ⟨_, rfl, a, ns, 0, rfl, hS, h63, _, _, rfl, rfl, cdivW (by decide) (by decide), _, _, rfl, rfl, (by show (0 : Int) < 41; decide), ?_⟩
  refine ⟨fun σ H2 => H2 = H ∧ ∃ n : Nat, n ≤ 40 ∧ σ = [some (.ref a), some (.int (n : Int)), none, none, none, none, none, none, none], ?_, ?_⟩
  · refine ⟨_, rfl, a, ns, 0, rfl, hS, h63, _, _, rfl, rfl, (by show (0 : Int) < 2; decide), rfl, _, rfl, ite2 (fun _ => ?_) (fun _ => ⟨rfl, (cell ns 0 / 2 % 41).toNat, by omega, ?_⟩)⟩
    · refine ⟨_, rfl, a, ns, 0, rfl, hS, h63, _, _, rfl, rfl, cdivW (by decide) (by decide), _, _, rfl, rfl, (by show (0 : Int) < 6; decide), rfl, (cell ns 0 / 2 % 6).toNat, by omega, ?_⟩
      have e : ((cell ns 0 / 2 % 6).toNat : Int) = cell ns 0 / 2 % 6 := by omega
      rw [e]; rfl
    · have e : ((cell ns 0 / 2 % 41).toNat : Int) = cell ns 0 / 2 % 41 := by omega
      rw [e]; rfl
  rintro σ H2 ⟨rfl, n, hn, rfl⟩
  refine ⟨_, rfl, _, rfl, a, ns, 4, n, 4, rfl, hS, h63, hn, by decide, by decide, fun vt t H4 s4 ht gt ct => ?_⟩
  have ct' : cnt t ≤ 700 := Nat.le_trans ct (by omega)
  have es : ((toString (n : Int) : String) : Str) = tx (lv n) := lv_str n (by omega)
  have ll := lv_len n (by omega)
  have wl := wr_len t
  have dt := gt.deep
  refine ⟨_, rfl, (n : Int), rfl, log_small n hn, ?_⟩
  rw [es]
  refine ⟨_, _, rfl, rfl, (by rw [colon_eq, tx_len, tx_len]; exact small (by show (lv n).length + 1 ≤ 1000; omega)), ?_⟩
  rw [show tx (lv n) ++ (":" : Str) = tx (lv n ++ [58]) by rw [colon_eq, tx_app]]
  refine ⟨_, rfl, vt, t, n, rfl, ht, gt, by omega, by decide, by omega, fun H5 s5 => ⟨_, _, rfl, rfl, (by rw [tx_len, tx_len, List.length_append]; exact Nat.le_trans (show _ ≤ 3100 by show (lv n).length + 1 + (wr t).length ≤ 3100; omega) (by decide)), ?_⟩⟩
  have ht5 := ht.up s5.tups
  rw [show tx (lv n ++ [58]) ++ tx (wr t) = tx (lv n ++ 58 :: wr t) by rw [tx_app, List.append_assoc]; rfl]
  have s25 := s4.trans s5
  have lg : (lv n ++ 58 :: wr t).length ≤ 3100 := by rw [List.length_append, List.length_cons]; omega
  have er := rdS_wr hn gt
  refine ⟨_, rfl, a, ns, 1, rfl, s25.seq hS, h63, _, _, rfl, rfl, (by show (0 : Int) < 8; decide), ?_⟩
  obtain ⟨way, ew⟩ : ∃ way : Int, cell ns 1 % 8 = way := ⟨_, rfl⟩
  rw [show (fun i j : Int => V.int (i % j)) (cell ns 1) 8 = V.int way from congrArg V.int ew]
  refine ⟨_, rfl, _, rfl, _, rfl, a, ns, 2, rfl, s25.seq hS, h63, _, rfl, a, ns, 3, rfl, s25.seq hS, h63, _, way, _, _, rfl, (by rw [tx_len]; omega), fun z' H6 s6 lz' => ?_⟩
  obtain ⟨w', rfl⟩ : ∃ w', z' = tx w' := ⟨z'.cps.toList, (tx_list z').symm⟩
  rw [tx_len] at lz'
  refine ⟨_, rfl, w', rfl, by omega, fun d H7 s7 rd => ?_⟩
  have s57 := s6.trans s7
  have two : 2 ≤ sizeLine := by decide
  have tup : ∀ Hx : Hp, Same H7 Hx → ∀ p, Hx p = none → Dat (upd Hx p (.tup [.int (n : Int), vt])) (.ref p) (shData n t) := fun Hx sx p hp => .tup upd_same (.cons (.int _) (.cons (((ht5.up s57.tups).up sx.tups).up (Same.new hp _).tups).dat .nil))
  refine ⟨2, rfl, by decide, by decide, for_range (fun (j : Nat) σ Hx => Same H7 Hx ∧ ∃ o : Option V, σ = [some (.ref a), some (.int (n : Int)), some vt, some (.str (tx (lv n ++ 58 :: wr t))), some (.int way), some (.str (tx w')), some d, o, none]) ⟨Same.refl _, none, rfl⟩ ?_ ?_⟩
  · rintro j σ Hx hj ⟨sx, o, rfl⟩
    refine ⟨_, rfl, _, some (n, t), rfl, .inl ⟨lv n ++ 58 :: wr t, rfl, by omega, er.symm⟩, fun y Hy sy ry => ?_⟩
    obtain ⟨dy, sh⟩ := ry.dat
    refine ⟨_, rfl, _, rfl, two, fun p hp => ?_⟩
    have sp := Same.new hp (.tup [.int (n : Int), vt])
    refine ⟨_, _, Dat.up sp dy, tup Hy (sx.trans sy) p hp, sh, sh, ?_⟩
    rw [show resD (some (n, t)) = shData n t from rfl, SeqAt.eqv_refl _ (sh_lay n t)]
    refine ⟨_, rfl, iteF ?_⟩
    refine ⟨_, rfl, _, _, rfl, .inl ⟨w', rfl, by omega, rfl⟩, fun y2 Hz sz rz => ?_⟩
    obtain ⟨d2, sh2⟩ := rz.dat
    have sxz := sx.trans (sy.trans (sp.trans sz))
    refine ⟨_, rfl, _, _, d2, (rd.up sxz).dat.1, sh2, sh2, ?_⟩
    rw [SeqAt.eqv_refl _ (SeqAt.canLay_of_shaped sh2)]
    exact ⟨_, rfl, iteF ⟨sxz, _, rfl⟩⟩
  rintro σ Hx ⟨sx, o, rfl⟩
  refine ⟨fun σ Hy => Same H7 Hy ∧ ∃ o7 o8 : Option V, σ = [some (.ref a), some (.int (n : Int)), some vt, some (.str (tx (lv n ++ 58 :: wr t))), some (.int way), some (.str (tx w')), some d, o7, o8], ?_, ?_⟩
  · refine ⟨_, rfl, rfl, _, rfl, ite2 (fun _ => ?_) (fun _ => ⟨sx, _, _, rfl⟩)⟩
    refine ⟨_, rfl, (by show 1 ≤ sizeLine; decide), fun pg hpg => ⟨_, rfl, _, rfl, two, fun pt hpt => fun pd hpd => ⟨(by show 6 ≤ sizeLine; decide), fun pl hpl => ?_⟩⟩⟩
    have sg1 := Same.new hpg (.lst [.str (tx (lv n ++ 58 :: wr t))])
    have ug : upd Hx pg (.lst [.str (tx (lv n ++ 58 :: wr t))]) pg = some (.lst [.str (tx (lv n ++ 58 :: wr t))]) := upd_same
    generalize upd Hx pg (.lst [.str (tx (lv n ++ 58 :: wr t))]) = Hg at *
    have st1 := Same.new hpt (.tup [.int (n : Int), vt])
    have ut : upd Hg pt (.tup [.int (n : Int), vt]) pt = some (.tup [.int (n : Int), vt]) := upd_same
    generalize upd Hg pt (.tup [.int (n : Int), vt]) = Ht at *
    have sd1 := Same.new hpd (.dK [])
    have ud : upd Ht pd (.dK []) pd = some (.dK []) := upd_same
    generalize upd Ht pd (.dK []) = Hu at *
    have sl1 := Same.new hpl (.lst [.non, .int 0, .bl true, .ref pg, .ref pt, .ref pd])
    have ul : upd Hu pl (.lst [.non, .int 0, .bl true, .ref pg, .ref pt, .ref pd]) pl = some (.lst [.non, .int 0, .bl true, .ref pg, .ref pt, .ref pd]) := upd_same
    generalize upd Hu pl (.lst [.non, .int 0, .bl true, .ref pg, .ref pt, .ref pd]) = Hv at *
    have sxv := sx.trans (sg1.trans (st1.trans (sd1.trans sl1)))
    obtain ⟨k, hk, ek⟩ : ∃ k : Nat, k < 6 ∧ cell ns 2 % 6 = (k : Int) := ⟨(cell ns 2 % 6).toNat, by omega, by omega⟩
    have key : ∃ v, atI [V.non, .int 0, .bl true, .ref pg, .ref pt, .ref pd] (cell ns 2 % 6) = some v ∧ ∃ ty, TyOf K Hv v ty ∧ PySem.W.kitOne K ty (.type "str") = some false := by
      rw [ek]
      rcases k with _ | _ | _ | _ | _ | _ | k
      · exact ⟨_, rfl, _, .non, kit_ns⟩
      · exact ⟨_, rfl, _, .int _, kit_is⟩
      · exact ⟨_, rfl, _, .bl _, kit_bs⟩
      · exact ⟨_, rfl, _, .lst (sl1 _ _ (sd1 _ _ (st1 _ _ ug))), kit_ls⟩
      · exact ⟨_, rfl, _, .tup (sl1 _ _ (sd1 _ _ ut)), kit_ts⟩
      · exact ⟨_, rfl, _, .dK (sl1 _ _ ud), kit_ds⟩
      · omega
    obtain ⟨v, ev, ty⟩ := key
    refine ⟨_, rfl, a, ns, 2, rfl, (s25.trans (s57.trans sxv)).seq hS, h63, _, _, rfl, rfl, (by show (0 : Int) < 6; decide), pl, _, _, v, rfl, rfl, SqL.of ul, ev, ?_⟩
    refine ⟨_, rfl, v, none, rfl, .inr ⟨ty, rfl⟩, fun y Hy sy ry => ?_⟩
    have ey : y = .non := ry
    subst ey
    exact ⟨rfl, _, rfl, iteNT ⟨sxv.trans sy, _, _, rfl⟩⟩
  rintro σ Hy ⟨sy, o7, o8, rfl⟩
  refine ⟨_, rfl, _, some (n, t), rfl, .inl ⟨lv n ++ 58 :: wr t, rfl, by omega, er.symm⟩, fun y Hz sz ry => ?_⟩
  obtain ⟨dy, sh⟩ := ry.dat
  refine ⟨_, rfl, _, rfl, two, fun p hp => ?_⟩
  have sp := Same.new hp (.tup [.int (n : Int), vt])
  refine ⟨_, _, Dat.up sp dy, tup Hz (sy.trans sz) p hp, sh, sh, ?_⟩
  rw [show resD (some (n, t)) = shData n t from rfl, SeqAt.eqv_refl _ (sh_lay n t)]
  exact q' _
end
end Qs


namespace Qs
open PySem L2
theorem all_mk {l : PySem.W.OpenLaw} {w : World} {K : PySem.W.Frag} {h : Heap} {mg : Str → Option Value} {fa f0 f1 f2 f3 f4 f5 f6 f7 f8 f9 f10 f11 f12 f13 f14 f15 f16 f17 f18 f19 f20 f21 f22 f23 f24 : Addr} (X : K.In h) (G : h.Ns mainGlobals mg) (hfa : mg "law" = some (.ref fa))
    {od0 an0 od1 an1 od2 an2 od3 an3 od4 an4 od5 an5 od6 an6 od7 an7 od8 an8 od9 an9 od10 an10 od11 an11 od12 an12 od13 an13 od14 an14 od15 an15 od16 an16 od17 an17 od18 an18 od19 an19 od20 an20 od21 an21 od22 an22 od23 an23 od24 an24 : Option Addr} {sl0 sl1 sl2 sl3 sl4 sl5 sl6 sl7 sl8 sl9 sl10 sl11 sl12 sl13 sl14 sl15 sl16 sl17 sl18 sl19 sl20 sl21 sl22 sl23 sl24 : Array (Option Value)} {oc0 kV0 dc0 pm0 cd0 ct0 oc1 kV1 dc1 pm1 cd1 ct1 oc2 kV2 dc2 pm2 cd2 ct2 oc3 kV3 dc3 pm3 cd3 ct3 oc4 kV4 dc4 pm4 cd4 ct4 oc5 kV5 dc5 pm5 cd5 ct5 oc6 kV6 dc6 pm6 cd6 ct6 oc7 kV7 dc7 pm7 cd7 ct7 oc8 kV8 dc8 pm8 cd8 ct8 oc9 kV9 dc9 pm9 cd9 ct9 oc10 kV10 dc10 pm10 cd10 ct10 oc11 kV11 dc11 pm11 cd11 ct11 oc12 kV12 dc12 pm12 cd12 ct12 oc13 kV13 dc13 pm13 cd13 ct13 oc14 kV14 dc14 pm14 cd14 ct14 oc15 kV15 dc15 pm15 cd15 ct15 oc16 kV16 dc16 pm16 cd16 ct16 oc17 kV17 dc17 pm17 cd17 ct17 oc18 kV18 dc18 pm18 cd18 ct18 oc19 kV19 dc19 pm19 cd19 ct19 oc20 kV20 dc20 pm20 cd20 ct20 oc21 kV21 dc21 pm21 cd21 ct21 oc22 kV22 dc22 pm22 cd22 ct22 oc23 kV23 dc23 pm23 cd23 ct23 oc24 kV24 dc24 pm24 cd24 ct24 : Value}
    (a0 : PySem.W.nsIn K mainGlobals "is_whole" = some (some (.ref f0))) (l0 : K.lookup f0 = some ⟨oc0, od0, .func (PySem.W.fnOf "is_whole" "is_whole" (defArgs s_is_whole) (defBody s_is_whole) (defScope s_is_whole) .none kV0 dc0 pm0 an0 cd0 ct0), sl0⟩) (c0 : PySem.W.codeIn K cd0 "is_whole" = true) (k0 : PySem.W.keepIn K (.ref f0) = true)
    (a1 : PySem.W.nsIn K mainGlobals "is_level" = some (some (.ref f1))) (l1 : K.lookup f1 = some ⟨oc1, od1, .func (PySem.W.fnOf "is_level" "is_level" (defArgs s_is_level) (defBody s_is_level) (defScope s_is_level) .none kV1 dc1 pm1 an1 cd1 ct1), sl1⟩) (c1 : PySem.W.codeIn K cd1 "is_level" = true) (k1 : PySem.W.keepIn K (.ref f1) = true)
    (a2 : PySem.W.nsIn K mainGlobals "is_of_one_colour" = some (some (.ref f2))) (l2 : K.lookup f2 = some ⟨oc2, od2, .func (PySem.W.fnOf "is_of_one_colour" "is_of_one_colour" (defArgs s_is_of_one_colour) (defBody s_is_of_one_colour) (defScope s_is_of_one_colour) .none kV2 dc2 pm2 an2 cd2 ct2), sl2⟩) (c2 : PySem.W.codeIn K cd2 "is_of_one_colour" = true) (k2 : PySem.W.keepIn K (.ref f2) = true)
    (a3 : PySem.W.nsIn K mainGlobals "gathered" = some (some (.ref f3))) (l3 : K.lookup f3 = some ⟨oc3, od3, .func (PySem.W.fnOf "gathered" "gathered" (defArgs s_gathered) (defBody s_gathered) (defScope s_gathered) .none kV3 dc3 pm3 an3 cd3 ct3), sl3⟩) (c3 : PySem.W.codeIn K cd3 "gathered" = true) (k3 : PySem.W.keepIn K (.ref f3) = true)
    (a4 : PySem.W.nsIn K mainGlobals "is_number_word" = some (some (.ref f4))) (l4 : K.lookup f4 = some ⟨oc4, od4, .func (PySem.W.fnOf "is_number_word" "is_number_word" (defArgs s_is_number_word) (defBody s_is_number_word) (defScope s_is_number_word) .none kV4 dc4 pm4 an4 cd4 ct4), sl4⟩) (c4 : PySem.W.codeIn K cd4 "is_number_word" = true) (k4 : PySem.W.keepIn K (.ref f4) = true)
    (a5 : PySem.W.nsIn K mainGlobals "colour_of" = some (some (.ref f5))) (l5 : K.lookup f5 = some ⟨oc5, od5, .func (PySem.W.fnOf "colour_of" "colour_of" (defArgs s_colour_of) (defBody s_colour_of) (defScope s_colour_of) .none kV5 dc5 pm5 an5 cd5 ct5), sl5⟩) (c5 : PySem.W.codeIn K cd5 "colour_of" = true) (k5 : PySem.W.keepIn K (.ref f5) = true)
    (a6 : PySem.W.nsIn K mainGlobals "tree_read" = some (some (.ref f6))) (l6 : K.lookup f6 = some ⟨oc6, od6, .func (PySem.W.fnOf "tree_read" "tree_read" (defArgs s_tree_read) (defBody s_tree_read) (defScope s_tree_read) .none kV6 dc6 pm6 an6 cd6 ct6), sl6⟩) (c6 : PySem.W.codeIn K cd6 "tree_read" = true) (k6 : PySem.W.keepIn K (.ref f6) = true)
    (a7 : PySem.W.nsIn K mainGlobals "read" = some (some (.ref f7))) (l7 : K.lookup f7 = some ⟨oc7, od7, .func (PySem.W.fnOf "read" "read" (defArgs s_read) (defBody s_read) (defScope s_read) .none kV7 dc7 pm7 an7 cd7 ct7), sl7⟩) (c7 : PySem.W.codeIn K cd7 "read" = true) (k7 : PySem.W.keepIn K (.ref f7) = true)
    (a8 : PySem.W.nsIn K mainGlobals "_law_at" = some (some (.ref f8))) (l8 : K.lookup f8 = some ⟨oc8, od8, .func (PySem.W.fnOf "_law_at" "_law_at" (defArgs s_law_at) (defBody s_law_at) (defScope s_law_at) .none kV8 dc8 pm8 an8 cd8 ct8), sl8⟩) (c8 : PySem.W.codeIn K cd8 "_law_at" = true) (k8 : PySem.W.keepIn K (.ref f8) = true)
    (a9 : PySem.W.nsIn K mainGlobals "_law_mix" = some (some (.ref f9))) (l9 : K.lookup f9 = some ⟨oc9, od9, .func (PySem.W.fnOf "_law_mix" "_law_mix" (defArgs s_law_mix) (defBody s_law_mix) (defScope s_law_mix) .none kV9 dc9 pm9 an9 cd9 ct9), sl9⟩) (c9 : PySem.W.codeIn K cd9 "_law_mix" = true) (k9 : PySem.W.keepIn K (.ref f9) = true)
    (a10 : PySem.W.nsIn K mainGlobals "_law_code" = some (some (.ref f10))) (l10 : K.lookup f10 = some ⟨oc10, od10, .func (PySem.W.fnOf "_law_code" "_law_code" (defArgs s_law_code) (defBody s_law_code) (defScope s_law_code) .none kV10 dc10 pm10 an10 cd10 ct10), sl10⟩) (c10 : PySem.W.codeIn K cd10 "_law_code" = true) (k10 : PySem.W.keepIn K (.ref f10) = true)
    (a11 : PySem.W.nsIn K mainGlobals "_law_knit" = some (some (.ref f11))) (l11 : K.lookup f11 = some ⟨oc11, od11, .func (PySem.W.fnOf "_law_knit" "_law_knit" (defArgs s_law_knit) (defBody s_law_knit) (defScope s_law_knit) .none kV11 dc11 pm11 an11 cd11 ct11), sl11⟩) (c11 : PySem.W.codeIn K cd11 "_law_knit" = true) (k11 : PySem.W.keepIn K (.ref f11) = true)
    (a12 : PySem.W.nsIn K mainGlobals "_law_painted" = some (some (.ref f12))) (l12 : K.lookup f12 = some ⟨oc12, od12, .func (PySem.W.fnOf "_law_painted" "_law_painted" (defArgs s_law_painted) (defBody s_law_painted) (defScope s_law_painted) .none kV12 dc12 pm12 an12 cd12 ct12), sl12⟩) (c12 : PySem.W.codeIn K cd12 "_law_painted" = true) (k12 : PySem.W.keepIn K (.ref f12) = true)
    (a13 : PySem.W.nsIn K mainGlobals "_law_colour" = some (some (.ref f13))) (l13 : K.lookup f13 = some ⟨oc13, od13, .func (PySem.W.fnOf "_law_colour" "_law_colour" (defArgs s_law_colour) (defBody s_law_colour) (defScope s_law_colour) .none kV13 dc13 pm13 an13 cd13 ct13), sl13⟩) (c13 : PySem.W.codeIn K cd13 "_law_colour" = true) (k13 : PySem.W.keepIn K (.ref f13) = true)
    (a14 : PySem.W.nsIn K mainGlobals "_law_tree" = some (some (.ref f14))) (l14 : K.lookup f14 = some ⟨oc14, od14, .func (PySem.W.fnOf "_law_tree" "_law_tree" (defArgs s_law_tree) (defBody s_law_tree) (defScope s_law_tree) .none kV14 dc14 pm14 an14 cd14 ct14), sl14⟩) (c14 : PySem.W.codeIn K cd14 "_law_tree" = true) (k14 : PySem.W.keepIn K (.ref f14) = true)
    (a15 : PySem.W.nsIn K mainGlobals "_law_signs" = some (some (.ref f15))) (l15 : K.lookup f15 = some ⟨oc15, od15, .func (PySem.W.fnOf "_law_signs" "_law_signs" (defArgs s_law_signs) (defBody s_law_signs) (defScope s_law_signs) .none kV15 dc15 pm15 an15 cd15 ct15), sl15⟩) (c15 : PySem.W.codeIn K cd15 "_law_signs" = true) (k15 : PySem.W.keepIn K (.ref f15) = true)
    (a16 : PySem.W.nsIn K mainGlobals "_law_any_sign" = some (some (.ref f16))) (l16 : K.lookup f16 = some ⟨oc16, od16, .func (PySem.W.fnOf "_law_any_sign" "_law_any_sign" (defArgs s_law_any_sign) (defBody s_law_any_sign) (defScope s_law_any_sign) .none kV16 dc16 pm16 an16 cd16 ct16), sl16⟩) (c16 : PySem.W.codeIn K cd16 "_law_any_sign" = true) (k16 : PySem.W.keepIn K (.ref f16) = true)
    (a17 : PySem.W.nsIn K mainGlobals "_law_odd" = some (some (.ref f17))) (l17 : K.lookup f17 = some ⟨oc17, od17, .func (PySem.W.fnOf "_law_odd" "_law_odd" (defArgs s_law_odd) (defBody s_law_odd) (defScope s_law_odd) .none kV17 dc17 pm17 an17 cd17 ct17), sl17⟩) (c17 : PySem.W.codeIn K cd17 "_law_odd" = true) (k17 : PySem.W.keepIn K (.ref f17) = true)
    (a18 : PySem.W.nsIn K mainGlobals "_law_level_ahead" = some (some (.ref f18))) (l18 : K.lookup f18 = some ⟨oc18, od18, .func (PySem.W.fnOf "_law_level_ahead" "_law_level_ahead" (defArgs s_law_level_ahead) (defBody s_law_level_ahead) (defScope s_law_level_ahead) .none kV18 dc18 pm18 an18 cd18 ct18), sl18⟩) (c18 : PySem.W.codeIn K cd18 "_law_level_ahead" = true) (k18 : PySem.W.keepIn K (.ref f18) = true)
    (a19 : PySem.W.nsIn K mainGlobals "_law_spoiled" = some (some (.ref f19))) (l19 : K.lookup f19 = some ⟨oc19, od19, .func (PySem.W.fnOf "_law_spoiled" "_law_spoiled" (defArgs s_law_spoiled) (defBody s_law_spoiled) (defScope s_law_spoiled) .none kV19 dc19 pm19 an19 cd19 ct19), sl19⟩) (c19 : PySem.W.codeIn K cd19 "_law_spoiled" = true) (k19 : PySem.W.keepIn K (.ref f19) = true)
    (a20 : PySem.W.nsIn K mainGlobals "_law_read_tree" = some (some (.ref f20))) (l20 : K.lookup f20 = some ⟨oc20, od20, .func (PySem.W.fnOf "_law_read_tree" "_law_read_tree" (defArgs s_law_read_tree) (defBody s_law_read_tree) (defScope s_law_read_tree) .none kV20 dc20 pm20 an20 cd20 ct20), sl20⟩) (c20 : PySem.W.codeIn K cd20 "_law_read_tree" = true) (k20 : PySem.W.keepIn K (.ref f20) = true)
    (a21 : PySem.W.nsIn K mainGlobals "_law_read" = some (some (.ref f21))) (l21 : K.lookup f21 = some ⟨oc21, od21, .func (PySem.W.fnOf "_law_read" "_law_read" (defArgs s_law_read) (defBody s_law_read) (defScope s_law_read) .none kV21 dc21 pm21 an21 cd21 ct21), sl21⟩) (c21 : PySem.W.codeIn K cd21 "_law_read" = true) (k21 : PySem.W.keepIn K (.ref f21) = true)
    (a22 : PySem.W.nsIn K mainGlobals "_law_others" = some (some (.ref f22))) (l22 : K.lookup f22 = some ⟨oc22, od22, .func (PySem.W.fnOf "_law_others" "_law_others" (defArgs s_law_others) (defBody s_law_others) (defScope s_law_others) .none kV22 dc22 pm22 an22 cd22 ct22), sl22⟩) (c22 : PySem.W.codeIn K cd22 "_law_others" = true) (k22 : PySem.W.keepIn K (.ref f22) = true)
    (a23 : PySem.W.nsIn K mainGlobals "_law_said" = some (some (.ref f23))) (l23 : K.lookup f23 = some ⟨oc23, od23, .func (PySem.W.fnOf "_law_said" "_law_said" (defArgs s_law_said) (defBody s_law_said) (defScope s_law_said) .none kV23 dc23 pm23 an23 cd23 ct23), sl23⟩) (c23 : PySem.W.codeIn K cd23 "_law_said" = true) (k23 : PySem.W.keepIn K (.ref f23) = true)
    (a24 : PySem.W.nsIn K mainGlobals "law" = some (some (.ref f24))) (l24 : K.lookup f24 = some ⟨oc24, od24, .func (PySem.W.fnOf "law" "law" (defArgs s_law) (defBody s_law) (defScope s_law) .none kV24 dc24 pm24 an24 cd24 ct24), sl24⟩) (c24 : PySem.W.codeIn K cd24 "law" = true) (k24 : PySem.W.keepIn K (.ref f24) = true)
    (z0 : PySem.W.nsIn K mainGlobals "isinstance" = some none)
    (z1 : PySem.W.nsIn K mainGlobals "int" = some none)
    (z2 : PySem.W.nsIn K mainGlobals "bool" = some none)
    {zt3 : Tok} (z3 : PySem.W.nsIn K mainGlobals "MOST" = some (some (.int 40 zt3)))
    (z4 : PySem.W.nsIn K mainGlobals "tuple" = some none)
    (z5 : PySem.W.nsIn K mainGlobals "all" = some none)
    (z6 : PySem.W.nsIn K mainGlobals "len" = some none)
    {zt7 : Tok} (z7 : PySem.W.nsIn K mainGlobals "FIGURES" = some (some (.str "0123456789" zt7)))
    {zt8 : Tok} (z8 : PySem.W.nsIn K mainGlobals "SIGNS" = some (some (.str "0123456789abcdefghijklmnopqrstuvwxyz" zt8)))
    (z9 : PySem.W.nsIn K mainGlobals "range" = some none)
    (z10 : PySem.W.nsIn K mainGlobals "str" = some none)
    (z11 : PySem.W.nsIn K mainGlobals "list" = some none)
    (z12 : PySem.W.nsIn K mainGlobals "ValueError" = some none)
    {cNoLevel cNoCode cNoColour cNoPlace cNoSide cNoLeaf cTwice cGap cNoText cNoName cNoNumber cNoRow cSheetError : Addr}
    (y0 : PySem.W.nsIn K mainGlobals "NoLevel" = some (some (.ref cNoLevel)))
    (y1 : PySem.W.nsIn K mainGlobals "NoCode" = some (some (.ref cNoCode)))
    (y2 : PySem.W.nsIn K mainGlobals "NoColour" = some (some (.ref cNoColour)))
    (y3 : PySem.W.nsIn K mainGlobals "NoPlace" = some (some (.ref cNoPlace)))
    (y4 : PySem.W.nsIn K mainGlobals "NoSide" = some (some (.ref cNoSide)))
    (y5 : PySem.W.nsIn K mainGlobals "NoLeaf" = some (some (.ref cNoLeaf)))
    (y6 : PySem.W.nsIn K mainGlobals "Twice" = some (some (.ref cTwice)))
    (y7 : PySem.W.nsIn K mainGlobals "Gap" = some (some (.ref cGap)))
    (y8 : PySem.W.nsIn K mainGlobals "NoText" = some (some (.ref cNoText)))
    (y9 : PySem.W.nsIn K mainGlobals "NoName" = some (some (.ref cNoName)))
    (y10 : PySem.W.nsIn K mainGlobals "NoNumber" = some (some (.ref cNoNumber)))
    (y11 : PySem.W.nsIn K mainGlobals "NoRow" = some (some (.ref cNoRow)))
    (y12 : PySem.W.nsIn K mainGlobals "SheetError" = some (some (.ref cSheetError)))
    (y13 : PySem.W.excIn K cNoText bmV "ValueError.__new__" = true)
    (y14 : PySem.W.findIn K (.ref cNoText) "__getattribute__" = some (some (.builtin "BaseException.__getattribute__")))
    (y15 : PySem.W.findIn K (.ref cNoText) "__getattr__" = some none)
    (y16 : PySem.W.findIn K (.ref cNoText) "__class__" = some (some (.builtin "object.__class__")))
    (y17 : PySem.W.subIn K (.ref cNoText) (.type "object") = some true)
    (y18 : PySem.W.subIn K (.ref cNoText) (.type "BaseException") = some true)
    {cdNoText : ClassData}
    (y19 : PySem.W.clsIn K cNoText = some cdNoText)
    (y20 : PySem.W.exmOne K (.ref cNoText) (.ref cSheetError) = some true)
    (y21 : PySem.W.kitOne K (.ref cNoText) (.type "ValueError") = some true)
    (y22 : PySem.W.kitOne K (.ref cNoText) (.ref cSheetError) = some true)
    (y23 : PySem.W.exmOne K (.ref cNoText) (.ref cNoText) = some true)
    (y24 : PySem.W.kitOne K (.ref cNoText) (.ref cNoLevel) = some false)
    (y25 : PySem.W.kitOne K (.ref cNoText) (.ref cNoCode) = some false)
    (y26 : PySem.W.kitOne K (.ref cNoText) (.ref cNoColour) = some false)
    (y27 : PySem.W.kitOne K (.ref cNoText) (.ref cNoPlace) = some false)
    (y28 : PySem.W.kitOne K (.ref cNoText) (.ref cNoSide) = some false)
    (y29 : PySem.W.kitOne K (.ref cNoText) (.ref cNoLeaf) = some false)
    (y30 : PySem.W.kitOne K (.ref cNoText) (.ref cTwice) = some false)
    (y31 : PySem.W.kitOne K (.ref cNoText) (.ref cGap) = some false)
    (y32 : PySem.W.kitOne K (.ref cNoText) (.ref cNoName) = some false)
    (y33 : PySem.W.kitOne K (.ref cNoText) (.ref cNoNumber) = some false)
    (y34 : PySem.W.kitOne K (.ref cNoText) (.ref cNoRow) = some false)
    : ∃ fd : FuncData, (∀ (s : Shared) (v : Value), BindsTo s fd ⟨[v], []⟩ [("_law_script", v)]) ∧ ∀ base : Heap, K.In base → base.Ns mainGlobals mg → FnOk l.prog w K mg base (CXe l.prog w) 47 fa fd ["_law_script"] (sp_law K) := by
  have e := hfa.symm.trans (PySem.W.mg_of X G a24)
  cases e
  have T : Tx K mg := ⟨PySem.W.mg_none_of X G z0, PySem.W.mg_none_of X G z1, PySem.W.mg_none_of X G z2, ⟨_, PySem.W.mg_of X G z3⟩, PySem.W.mg_none_of X G z4, PySem.W.mg_none_of X G z5, PySem.W.mg_none_of X G z6, ⟨_, PySem.W.mg_of X G z7⟩, ⟨_, PySem.W.mg_of X G z8⟩, PySem.W.mg_none_of X G z9, PySem.W.mg_none_of X G z10, PySem.W.mg_none_of X G z11, PySem.W.mg_none_of X G z12⟩
  have Y : Yx K mg := ⟨cNoLevel, cNoCode, cNoColour, cNoPlace, cNoSide, cNoLeaf, cTwice, cGap, cNoText, cNoName, cNoNumber, cNoRow, cSheetError, PySem.W.mg_of X G y0, PySem.W.mg_of X G y1, PySem.W.mg_of X G y2, PySem.W.mg_of X G y3, PySem.W.mg_of X G y4, PySem.W.mg_of X G y5, PySem.W.mg_of X G y6, PySem.W.mg_of X G y7, PySem.W.mg_of X G y8, PySem.W.mg_of X G y9, PySem.W.mg_of X G y10, PySem.W.mg_of X G y11, PySem.W.mg_of X G y12, ⟨PySem.W.mg_of X G y8, y13⟩, ⟨y14, y15, y16, y17, y18, by rw [y19]; rfl⟩, y20, y21, y22, y23, y24, y25, y26, y27, y28, y29, y30, y31, y32, y33, y34⟩
  have F0 := funD_mk (st := s_is_whole) l0 c0 k0
  have F1 := funD_mk (st := s_is_level) l1 c1 k1
  have F2 := funD_mk (st := s_is_of_one_colour) l2 c2 k2
  have F3 := funD_mk (st := s_gathered) l3 c3 k3
  have F4 := funD_mk (st := s_is_number_word) l4 c4 k4
  have F5 := funD_mk (st := s_colour_of) l5 c5 k5
  have F6 := funD_mk (st := s_tree_read) l6 c6 k6
  have F7 := funD_mk (st := s_read) l7 c7 k7
  have F8 := funD_mk (st := s_law_at) l8 c8 k8
  have F9 := funD_mk (st := s_law_mix) l9 c9 k9
  have F10 := funD_mk (st := s_law_code) l10 c10 k10
  have F11 := funD_mk (st := s_law_knit) l11 c11 k11
  have F12 := funD_mk (st := s_law_painted) l12 c12 k12
  have F13 := funD_mk (st := s_law_colour) l13 c13 k13
  have F14 := funD_mk (st := s_law_tree) l14 c14 k14
  have F15 := funD_mk (st := s_law_signs) l15 c15 k15
  have F16 := funD_mk (st := s_law_any_sign) l16 c16 k16
  have F17 := funD_mk (st := s_law_odd) l17 c17 k17
  have F18 := funD_mk (st := s_law_level_ahead) l18 c18 k18
  have F19 := funD_mk (st := s_law_spoiled) l19 c19 k19
  have F20 := funD_mk (st := s_law_read_tree) l20 c20 k20
  have F21 := funD_mk (st := s_law_read) l21 c21 k21
  have F22 := funD_mk (st := s_law_others) l22 c22 k22
  have F23 := funD_mk (st := s_law_said) l23 c23 k23
  have F24 := funD_mk (st := s_law) l24 c24 k24
  have b0 := F0.binds (ps := ["thing"]) fun _ _ _ _ _ _ us hl => match us, hl with | [_], _ => rfl
  have b1 := F1.binds (ps := ["thing"]) fun _ _ _ _ _ _ us hl => match us, hl with | [_], _ => rfl
  have b2 := F2.binds (ps := ["parts"]) fun _ _ _ _ _ _ us hl => match us, hl with | [_], _ => rfl
  have b3 := F3.binds (ps := ["parts"]) fun _ _ _ _ _ _ us hl => match us, hl with | [_], _ => rfl
  have b4 := F4.binds (ps := ["word", "most"]) fun _ _ _ _ _ _ us hl => match us, hl with | [_, _], _ => rfl
  have b5 := F5.binds (ps := ["word"]) fun _ _ _ _ _ _ us hl => match us, hl with | [_], _ => rfl
  have b6 := F6.binds (ps := ["signs", "at", "level"]) fun _ _ _ _ _ _ us hl => match us, hl with | [_, _, _], _ => rfl
  have b7 := F7.binds (ps := ["text"]) fun _ _ _ _ _ _ us hl => match us, hl with | [_], _ => rfl
  have b8 := F8.binds (ps := ["_law_script", "_law_k"]) fun _ _ _ _ _ _ us hl => match us, hl with | [_, _], _ => rfl
  have b9 := F9.binds (ps := ["_law_cell", "_law_k"]) fun _ _ _ _ _ _ us hl => match us, hl with | [_, _], _ => rfl
  have b10 := F10.binds (ps := ["_law_cell", "_law_size"]) fun _ _ _ _ _ _ us hl => match us, hl with | [_, _], _ => rfl
  have b11 := F11.binds (ps := ["_law_four"]) fun _ _ _ _ _ _ us hl => match us, hl with | [_], _ => rfl
  have b12 := F12.binds (ps := ["_law_tree_here", "_law_code_here", "_law_colour_here"]) fun _ _ _ _ _ _ us hl => match us, hl with | [_, _, _], _ => rfl
  have b13 := F13.binds (ps := ["_law_cell", "_law_few"]) fun _ _ _ _ _ _ us hl => match us, hl with | [_, _], _ => rfl
  have b14 := F14.binds (ps := ["_law_script", "_law_first", "_law_level", "_law_most"]) fun _ _ _ _ _ _ us hl => match us, hl with | [_, _, _, _], _ => rfl
  have b15 := F15.binds (ps := ["_law_tree_here"]) fun _ _ _ _ _ _ us hl => match us, hl with | [_], _ => rfl
  have b16 := F16.binds (ps := ["_law_cell"]) fun _ _ _ _ _ _ us hl => match us, hl with | [_], _ => rfl
  have b17 := F17.binds (ps := ["_law_cell"]) fun _ _ _ _ _ _ us hl => match us, hl with | [_], _ => rfl
  have b18 := F18.binds (ps := ["_law_cell"]) fun _ _ _ _ _ _ us hl => match us, hl with | [_], _ => rfl
  have b19 := F19.binds (ps := ["_law_line", "_law_way", "_law_spot", "_law_cell"]) fun _ _ _ _ _ _ us hl => match us, hl with | [_, _, _, _], _ => rfl
  have b20 := F20.binds (ps := ["_law_line", "_law_at_here", "_law_level"]) fun _ _ _ _ _ _ us hl => match us, hl with | [_, _, _], _ => rfl
  have b21 := F21.binds (ps := ["_law_line"]) fun _ _ _ _ _ _ us hl => match us, hl with | [_], _ => rfl
  have b22 := F22.binds (ps := ["_law_e"]) fun _ _ _ _ _ _ us hl => match us, hl with | [_], _ => rfl
  have b23 := F23.binds (ps := ["_law_thing"]) fun _ _ _ _ _ _ us hl => match us, hl with | [_], _ => rfl
  refine ⟨PySem.W.fnOf "law" "law" (defArgs s_law) (defBody s_law) (defScope s_law) .none kV24 dc24 pm24 an24 cd24 ct24, fun s v => .of_eq rfl, fun base _ _ => ?_⟩
  have C_is_whole : Fok l.prog w K mg base (CXe l.prog w) 1 "is_whole" ["thing"] [] (sp_is_whole K) := fok F0 (ok_is_whole T F0) b0 (PySem.W.mg_of X G a0)
  have C_is_level : Fok l.prog w K mg base (CXe l.prog w) 2 "is_level" ["thing"] [] (sp_is_level K) := fok F1 (ok_is_level T quietE F1 C_is_whole) b1 (PySem.W.mg_of X G a1)
  have C_is_of_one_colour : Fok l.prog w K mg base (CXe l.prog w) 1 "is_of_one_colour" ["parts"] [] (sp_is_one) := fok F2 (ok_is_of_one_colour T F2) b2 (PySem.W.mg_of X G a2)
  have C_gathered : Fok l.prog w K mg base (CXe l.prog w) 2 "gathered" ["parts"] [] (sp_gathered) := fok F3 (ok_gathered T quietE F3 C_is_of_one_colour) b3 (PySem.W.mg_of X G a3)
  have C_is_number_word : Fok l.prog w K mg base (CXe l.prog w) 1 "is_number_word" ["word", "most"] [] (sp_is_number_word) := fok F4 (ok_is_number_word T F4) b4 (PySem.W.mg_of X G a4)
  have C_colour_of : Fok l.prog w K mg base (CXe l.prog w) 1 "colour_of" ["word"] [] (sp_colour_of) := fok F5 (ok_colour_of T F5) b5 (PySem.W.mg_of X G a5)
  have C_tree_read : Fok l.prog w K mg base (CXe l.prog w) 44 "tree_read" ["signs", "at", "level"] [] (sp_tree_read Y 41) := fok F6 (ok_tree_read T Y quietE F6 C_gathered C_colour_of b6 (PySem.W.mg_of X G a6) 41) b6 (PySem.W.mg_of X G a6)
  have C_read : Fok l.prog w K mg base (CXe l.prog w) 45 "read" ["text"] [] (sp_read Y) := fok F7 (ok_read T Y quietE F7 C_is_number_word C_is_level C_tree_read) b7 (PySem.W.mg_of X G a7)
  have C__law_at : Fok l.prog w K mg base (CXe l.prog w) 1 "_law_at" ["_law_script", "_law_k"] [] (sp_law_at K) := fok F8 (ok_law_at T F8) b8 (PySem.W.mg_of X G a8)
  have C__law_mix : Fok l.prog w K mg base (CXe l.prog w) 1 "_law_mix" ["_law_cell", "_law_k"] [] (sp_law_mix) := fok F9 (ok_law_mix T F9) b9 (PySem.W.mg_of X G a9)
  have C__law_code : Fok l.prog w K mg base (CXe l.prog w) 2 "_law_code" ["_law_cell", "_law_size"] [] (sp_law_code) := fok F10 (ok_law_code T quietE F10 C__law_mix) b10 (PySem.W.mg_of X G a10)
  have C__law_knit : Fok l.prog w K mg base (CXe l.prog w) 1 "_law_knit" ["_law_four"] [] (sp_law_knit) := fok F11 (ok_law_knit T F11) b11 (PySem.W.mg_of X G a11)
  have C__law_painted : Fok l.prog w K mg base (CXe l.prog w) 43 "_law_painted" ["_law_tree_here", "_law_code_here", "_law_colour_here"] [] (sp_law_painted 41) := fok F12 (ok_law_painted T quietE F12 C__law_knit b12 (PySem.W.mg_of X G a12) 41) b12 (PySem.W.mg_of X G a12)
  have C__law_colour : Fok l.prog w K mg base (CXe l.prog w) 1 "_law_colour" ["_law_cell", "_law_few"] [] (sp_law_colour) := fok F13 (ok_law_colour T F13) b13 (PySem.W.mg_of X G a13)
  have C__law_tree : Fok l.prog w K mg base (CXe l.prog w) 44 "_law_tree" ["_law_script", "_law_first", "_law_level", "_law_most"] [] (sp_law_tree K) := fok F14 (ok_law_tree T quietE F14 C__law_at C__law_mix C__law_painted C__law_code C__law_colour) b14 (PySem.W.mg_of X G a14)
  have C__law_signs : Fok l.prog w K mg base (CXe l.prog w) 42 "_law_signs" ["_law_tree_here"] [] (sp_law_signs 41) := fok F15 (ok_law_signs T quietE F15 b15 (PySem.W.mg_of X G a15) 41) b15 (PySem.W.mg_of X G a15)
  have C__law_any_sign : Fok l.prog w K mg base (CXe l.prog w) 1 "_law_any_sign" ["_law_cell"] [] (sp_law_any_sign) := fok F16 (ok_law_any_sign T F16) b16 (PySem.W.mg_of X G a16)
  have C__law_odd : Fok l.prog w K mg base (CXe l.prog w) 1 "_law_odd" ["_law_cell"] [] (sp_law_odd) := fok F17 (ok_law_odd T F17) b17 (PySem.W.mg_of X G a17)
  have C__law_level_ahead : Fok l.prog w K mg base (CXe l.prog w) 1 "_law_level_ahead" ["_law_cell"] [] (sp_law_odd) := fok F18 (ok_law_level_ahead T F18) b18 (PySem.W.mg_of X G a18)
  have C__law_spoiled : Fok l.prog w K mg base (CXe l.prog w) 2 "_law_spoiled" ["_law_line", "_law_way", "_law_spot", "_law_cell"] [] (sp_law_spoiled) := fok F19 (ok_law_spoiled T quietE F19 C__law_any_sign C__law_level_ahead C__law_odd) b19 (PySem.W.mg_of X G a19)
  have C__law_read_tree : Fok l.prog w K mg base (CXe l.prog w) 43 "_law_read_tree" ["_law_line", "_law_at_here", "_law_level"] [] (sp_law_read_tree 41) := fok F20 (ok_law_read_tree T quietE F20 C__law_knit b20 (PySem.W.mg_of X G a20) 41) b20 (PySem.W.mg_of X G a20)
  have C__law_read : Fok l.prog w K mg base (CXe l.prog w) 44 "_law_read" ["_law_line"] [] (sp_law_read) := fok F21 (ok_law_read T quietE F21 C__law_read_tree) b21 (PySem.W.mg_of X G a21)
  have C__law_others : FokH l.prog w K mg base (CXe l.prog w) 1 "_law_others" ["_law_e"] (sp_law_others Y) := fokH F22 (ok_law_others T Y F22) b22 (PySem.W.mg_of X G a22)
  have C__law_said : Fok l.prog w K mg base (CXe l.prog w) 46 "_law_said" ["_law_thing"] [] (sp_law_said K) := fok F23 (ok_law_said T Y quietE F23 C_read C__law_others) b23 (PySem.W.mg_of X G a23)
  exact ok_law T quietE F24 C__law_at C__law_tree C__law_signs C__law_spoiled C__law_read C__law_said
theorem walk {l : PySem.W.OpenLaw} {q : Program} {loose : List Str} {XP : (Str → Option Value) → Heap → Prop} {YP : World → Heap → Prop} {d : DefRec} {K : Params → PySem.W.Frag} (hn : l.most = some 63) (hdf : d.params.defaults = [])
    (hY : ∀ (w : World) (h : Heap), YP w h → (K w.params).In h)
    (F : ∀ (w : World) (mg : Str → Option Value) (fa : Addr) (h : Heap), (K w.params).In h → h.Ns mainGlobals mg → mg d.name = some (.ref fa) →
      ∃ fd : FuncData, (∀ (s : Shared) (u : Value), BindsTo s fd ⟨[u], []⟩ [("_law_script", u)]) ∧ ∀ base : Heap, (K w.params).In base → base.Ns mainGlobals mg → FnOk l.prog w (K w.params) mg base (CXe l.prog w) 47 fa fd ["_law_script"] (sp_law (K w.params))) :
    PySem.W.WalkO q loose XP YP l.row.toRowW d [] (fun f vs => PySem.call f vs) :=
  L2.walk_of (n := 63) (k := 47) (x := "_law_script") (CX := fun w => (CXe l.prog w)) (sp := fun w => sp_law (K w.params)) hn (by decide) hdf ⟨rfl, by decide, by decide⟩ hY F (fun _ _ a ns hl _ hS => ⟨a, ns, rfl, hS, hl, fun _ => rfl⟩) fun _ _ _ _ _ z => quietE _ _ _ _ _ z
end Qs
open PySem PySem.W PyProof.Rows
set_option maxRecDepth 100000 in
set_option maxHeartbeats 0 in
theorem PySem.Challenge.cw_quartersheet_k72_no_text_holds : PySem.Challenge.rw_quartersheet_k72_no_text.Holds := by
  w_on; o_law; k_head; (case hw => w_witness2)
  k_fill
  refine Qs.walk (l := PySem.Challenge.rw_quartersheet_k72_no_text) rfl rfl (fun w h Y => PySem.W.kIn_of Y) ?F
  case F =>
    intro w mg fa h KX G hmg
    refine' Qs.all_mk KX G hmg ?a0 ?l0 ?c0 ?k0 ?a1 ?l1 ?c1 ?k1 ?a2 ?l2 ?c2 ?k2 ?a3 ?l3 ?c3 ?k3 ?a4 ?l4 ?c4 ?k4 ?a5 ?l5 ?c5 ?k5 ?a6 ?l6 ?c6 ?k6 ?a7 ?l7 ?c7 ?k7 ?a8 ?l8 ?c8 ?k8 ?a9 ?l9 ?c9 ?k9 ?a10 ?l10 ?c10 ?k10 ?a11 ?l11 ?c11 ?k11 ?a12 ?l12 ?c12 ?k12 ?a13 ?l13 ?c13 ?k13 ?a14 ?l14 ?c14 ?k14 ?a15 ?l15 ?c15 ?k15 ?a16 ?l16 ?c16 ?k16 ?a17 ?l17 ?c17 ?k17 ?a18 ?l18 ?c18 ?k18 ?a19 ?l19 ?c19 ?k19 ?a20 ?l20 ?c20 ?k20 ?a21 ?l21 ?c21 ?k21 ?a22 ?l22 ?c22 ?k22 ?a23 ?l23 ?c23 ?k23 ?a24 ?l24 ?c24 ?k24 ?z0 ?z1 ?z2 ?z3 ?z4 ?z5 ?z6 ?z7 ?z8 ?z9 ?z10 ?z11 ?z12 ?y0 ?y1 ?y2 ?y3 ?y4 ?y5 ?y6 ?y7 ?y8 ?y9 ?y10 ?y11 ?y12 ?y13 ?y14 ?y15 ?y16 ?y17 ?y18 ?y19 ?y20 ?y21 ?y22 ?y23 ?y24 ?y25 ?y26 ?y27 ?y28 ?y29 ?y30 ?y31 ?y32 ?y33 ?y34
    (case a0 => k_is)
    (case l0 => k_is)
    (case c0 => k_is)
    (case k0 => k_is)
    (case a1 => k_is)
    (case l1 => k_is)
    (case c1 => k_is)
    (case k1 => k_is)
    (case a2 => k_is)
    (case l2 => k_is)
    (case c2 => k_is)
    (case k2 => k_is)
    (case a3 => k_is)
    (case l3 => k_is)
    (case c3 => k_is)
    (case k3 => k_is)
    (case a4 => k_is)
    (case l4 => k_is)
    (case c4 => k_is)
    (case k4 => k_is)
    (case a5 => k_is)
    (case l5 => k_is)
    (case c5 => k_is)
    (case k5 => k_is)
    (case a6 => k_is)
    (case l6 => k_is)
    (case c6 => k_is)
    (case k6 => k_is)
    (case a7 => k_is)
    (case l7 => k_is)
    (case c7 => k_is)
    (case k7 => k_is)
    (case a8 => k_is)
    (case l8 => k_is)
    (case c8 => k_is)
    (case k8 => k_is)
    (case a9 => k_is)
    (case l9 => k_is)
    (case c9 => k_is)
    (case k9 => k_is)
    (case a10 => k_is)
    (case l10 => k_is)
    (case c10 => k_is)
    (case k10 => k_is)
    (case a11 => k_is)
    (case l11 => k_is)
    (case c11 => k_is)
    (case k11 => k_is)
    (case a12 => k_is)
    (case l12 => k_is)
    (case c12 => k_is)
    (case k12 => k_is)
    (case a13 => k_is)
    (case l13 => k_is)
    (case c13 => k_is)
    (case k13 => k_is)
    (case a14 => k_is)
    (case l14 => k_is)
    (case c14 => k_is)
    (case k14 => k_is)
    (case a15 => k_is)
    (case l15 => k_is)
    (case c15 => k_is)
    (case k15 => k_is)
    (case a16 => k_is)
    (case l16 => k_is)
    (case c16 => k_is)
    (case k16 => k_is)
    (case a17 => k_is)
    (case l17 => k_is)
    (case c17 => k_is)
    (case k17 => k_is)
    (case a18 => k_is)
    (case l18 => k_is)
    (case c18 => k_is)
    (case k18 => k_is)
    (case a19 => k_is)
    (case l19 => k_is)
    (case c19 => k_is)
    (case k19 => k_is)
    (case a20 => k_is)
    (case l20 => k_is)
    (case c20 => k_is)
    (case k20 => k_is)
    (case a21 => k_is)
    (case l21 => k_is)
    (case c21 => k_is)
    (case k21 => k_is)
    (case a22 => k_is)
    (case l22 => k_is)
    (case c22 => k_is)
    (case k22 => k_is)
    (case a23 => k_is)
    (case l23 => k_is)
    (case c23 => k_is)
    (case k23 => k_is)
    (case a24 => k_is)
    (case l24 => k_is)
    (case c24 => k_is)
    (case k24 => k_is)
    (case z0 => k_is)
    (case z1 => k_is)
    (case z2 => k_is)
    (case z3 => k_is)
    (case z4 => k_is)
    (case z5 => k_is)
    (case z6 => k_is)
    (case z7 => k_is)
    (case z8 => k_is)
    (case z9 => k_is)
    (case z10 => k_is)
    (case z11 => k_is)
    (case z12 => k_is)
    (case y0 => k_is)
    (case y1 => k_is)
    (case y2 => k_is)
    (case y3 => k_is)
    (case y4 => k_is)
    (case y5 => k_is)
    (case y6 => k_is)
    (case y7 => k_is)
    (case y8 => k_is)
    (case y9 => k_is)
    (case y10 => k_is)
    (case y11 => k_is)
    (case y12 => k_is)
    (case y13 => k_exc)
    (case y14 => k_is)
    (case y15 => k_is)
    (case y16 => k_is)
    (case y17 => k_is)
    (case y18 => k_is)
    (case y19 => k_is)
    (case y20 => kts_exm)
    (case y21 => kit_is)
    (case y22 => kit_is)
    (case y23 => kts_exm)
    (case y24 => kit_is)
    (case y25 => kit_is)
    (case y26 => kit_is)
    (case y27 => kit_is)
    (case y28 => kit_is)
    (case y29 => kit_is)
    (case y30 => kit_is)
    (case y31 => kit_is)
    (case y32 => kit_is)
    (case y33 => kit_is)
    (case y34 => kit_is)


